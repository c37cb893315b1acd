import PyProof.Rows.All
import Wide.All
import OpenK.AllK
import Wide.FinOn
import Open.SpecLaws
import KE.OsGo
import HandS.ForSpec
import HandS.Comp
import HandS.Dict
import HandS.Iter
import HandS.Text
import HandS.Walk
import HandS.WordsDict
import HandS.SortKw
import HandS.TupAny
import HandS.Deep
import HandS.Rev
import HandS.SuiteRaise
import HandS.RaiseFrom
import HandS.TryMany
import HandS.CallLocal
import HandS.CallSlots
import KE.DatumOrd
import HandS.SortOrd
import HandS.SortRule
import HandS.Conv
import HandS.More
import KE.KDictSum
import KE.GoesMore
import KE.GoesEnum
import KE.KRevIter
import HandS.TupSets
import PySem.Challenge.RW_valuetwigs_s03_differ
set_option Elab.async false
set_option linter.all false
set_option maxRecDepth 100000
set_option maxHeartbeats 4000000
namespace Vt
open Kcs7 (Bytes V Tok blank digit letter word textAt value tokens tokensOf readV readL readR insertNew bytesOrder)

/-! ### the program's own reading, over what is left of the row -/
def skipB : Bytes → Bytes
  | [] => []
  | c :: r => if blank c = true then skipB r else c :: r
def skipW : Bytes → Bytes → Option Bytes
  | [], r => some r
  | _ :: _, [] => none
  | x :: w, c :: r => if c = x then skipW w r else none
def amountR (r : Bytes) : Option (Nat × Bytes) :=
  let d := r.takeWhile digit
  if d.length = 0 ∨ 16 < d.length then none else
  if d.head? = some 48 ∧ 1 < d.length then none else
  if 9007199254740992 ≤ value d then none else some (value d, r.drop d.length)
def numberR (r : Bytes) : Option (Int × Bytes) :=
  if r.head? = some 45 then
    match amountR (skipB r.tail) with
    | none => none
    | some (n, q) => if n = 0 then none else some (-(n : Int), q)
  else (amountR r).map fun x => ((x.1 : Int), x.2)
def textR (r : Bytes) : Option (Bytes × Bytes) := if r.head? = some 34 then textAt r.tail else none
def wNull : Bytes := [110, 117, 108, 108]
def wFalse : Bytes := [102, 97, 108, 115, 101]
def wTrue : Bytes := [116, 114, 117, 101]
def singleR (r : Bytes) : Option (V × Bytes) :=
  if r.head? = some 34 then (textR r).map fun x => (V.text x.1, x.2)
  else if r.head? = some 110 then (skipW wNull r).map fun q => (V.null, q)
  else if r.head? = some 102 then (skipW wFalse r).map fun q => (V.bool false, q)
  else if r.head? = some 116 then (skipW wTrue r).map fun q => (V.bool true, q)
  else (numberR r).map fun x => (V.num x.1, x.2)

/-! ### lists and records that are open -/
inductive Opn where
  | lst (l : List V)
  | rcd (fs : List (Bytes × V)) (name : Option Bytes)
structure Rd where
  st : List Opn
  whole : Option V
  wanted : Nat
  may : Bool
def Rd.fresh : Rd := ⟨[], none, 0, false⟩
def Opn.fresh (isL : Bool) : Opn := if isL = true then .lst [] else .rcd [] none
def Opn.endS : Opn → Nat
  | .lst _ => 93
  | .rcd _ _ => 125
def Opn.first : Opn → Nat
  | .lst _ => 0
  | .rcd _ _ => 1
/-- in its place, or at the end -/
def putB (fs : List (Bytes × V)) (n : Bytes) (v : V) : List (Bytes × V) := if n ∈ fs.map Prod.fst then fs.map (fun f => if f.1 = n then (f.1, v) else f) else fs ++ [(n, v)]
def Opn.putV (v : V) : Opn → Opn
  | .lst l => .lst (l ++ [v])
  | .rcd fs n => .rcd (putB fs (n.getD []) v) n
def insAll (fs : List (Bytes × V)) : Option (List (Bytes × V)) := fs.foldlM (fun l f => insertNew f.1 f.2 l) []
def sortF (fs : List (Bytes × V)) : List (Bytes × V) := (insAll fs).getD []
def Opn.val : Opn → V
  | .lst l => .list l
  | .rcd fs _ => .record (sortF fs)
def Rd.takeV (s : Rd) (v : V) : Rd := match s.st with
  | [] => ⟨[], some v, 4, false⟩
  | o :: S => ⟨o.putV v :: S, s.whole, 3, true⟩
def Rd.close (s : Rd) : Rd := match s.st with
  | [] => s
  | o :: S => Rd.takeV ⟨S, s.whole, s.wanted, s.may⟩ o.val
def Rd.begin (s : Rd) (isL : Bool) : Option Rd :=
  if s.st.length = 40 then none else some ⟨Opn.fresh isL :: s.st, s.whole, (Opn.fresh isL).first, true⟩
def Rd.putN (s : Rd) (n : Bytes) : Option Rd := match s.st with
  | .rcd fs _ :: S => if n ∈ fs.map Prod.fst then none else some ⟨.rcd fs (some n) :: S, s.whole, 2, false⟩
  | _ => none
def Rd.firstW (s : Rd) : Nat := match s.st with
  | o :: _ => o.first
  | [] => 0
def Rd.ends (s : Rd) : Option Nat := match s.st with
  | o :: _ => some o.endS
  | [] => none
/-- one turn of the loop; r is not empty -/
def stepR (s : Rd) (r : Bytes) : Option (Rd × Bytes) :=
  if s.may = true ∧ s.ends.isSome = true ∧ r.head? = s.ends then some (s.close, r.tail)
  else if s.wanted = 0 then
    if r.head? = some 91 then (s.begin true).map fun s => (s, r.tail)
    else if r.head? = some 123 then (s.begin false).map fun s => (s, r.tail)
    else (singleR r).map fun x => (s.takeV x.1, x.2)
  else if s.wanted = 1 then (textR r).bind fun x => (s.putN x.1).map fun s => (s, x.2)
  else if s.wanted = 2 then if r.head? = some 58 then some (⟨s.st, s.whole, 0, false⟩, r.tail) else none
  else if s.wanted = 3 then if r.head? = some 44 then some (⟨s.st, s.whole, s.firstW, false⟩, r.tail) else none
  else none
def endR (s : Rd) : Option V := if s.wanted = 4 then s.whole else none
def runR : Nat → Rd → Bytes → Option V
  | _, s, [] => endR s
  | 0, _, _ :: _ => none
  | f + 1, s, c :: r => (stepR s (c :: r)).bind fun x => runR f x.1 (skipB x.2)
def readM (b : Bytes) : Option V := if 4096 < b.length then none else runR b.length Rd.fresh (skipB b)

/-! ### the same over tokens -/
def tokR (s : Rd) (t : Tok) : Option Rd :=
  match t with
  | .sign [c] =>
    if s.may = true ∧ s.ends = some c then some s.close
    else if s.wanted = 0 ∧ c = 91 then s.begin true
    else if s.wanted = 0 ∧ c = 123 then s.begin false
    else if s.wanted = 2 ∧ c = 58 then some ⟨s.st, s.whole, 0, false⟩
    else if s.wanted = 3 ∧ c = 44 then some ⟨s.st, s.whole, s.firstW, false⟩
    else none
  | .num n => if s.wanted = 0 then some (s.takeV (.num n)) else none
  | .text b => if s.wanted = 0 then some (s.takeV (.text b)) else if s.wanted = 1 then s.putN b else none
  | .name b => if s.wanted = 0 then (if b = wNull then some (s.takeV .null) else if b = wTrue then some (s.takeV (.bool true)) else if b = wFalse then some (s.takeV (.bool false)) else none) else none
  | _ => none
def negR (s : Rd) (n : Nat) : Option Rd := if s.wanted = 0 then (if n = 0 then none else some (s.takeV (.num (-(n : Int))))) else none
def runT : Rd → List Tok → Option V
  | s, [] => endR s
  | s, .sign [45] :: .num n :: r => (negR s n).bind fun s => runT s r
  | s, t :: r => (tokR s t).bind fun s => runT s r
end Vt

namespace Vt
open Kcs7 (Bytes V Tok blank digit letter word textAt value tokens tokensOf readV readL readR insertNew bytesOrder)

theorem takeWhile_le {α : Type} (p : α → Bool) : ∀ l : List α, (l.takeWhile p).length ≤ l.length
  | [] => Nat.le_refl _
  | a :: l => by
    by_cases h : p a = true
    · rw [List.takeWhile_cons_of_pos h, List.length_cons, List.length_cons]
      exact Nat.succ_le_succ (takeWhile_le p l)
    · rw [List.takeWhile_cons_of_neg h]
      exact Nat.zero_le _
theorem takeWhile_pos {α : Type} {p : α → Bool} {c : α} {r : List α} (h : p c = true) : 0 < ((c :: r).takeWhile p).length := by
  rw [List.takeWhile_cons_of_pos h]
  exact Nat.succ_pos _
theorem textAt_len : ∀ (n : Nat) (r : Bytes) (x : Bytes × Bytes), r.length ≤ n → textAt r = some x → x.1.length + x.2.length < r.length := by
  intro n
  induction n with
  | zero =>
    intro r x hl h
    cases r with
    | nil => simp [textAt] at h
    | cons c r => simp at hl
  | succ n ih =>
    intro r x hl h
    match r, h with
    | [], h => simp [textAt] at h
    | c :: r, h =>
      unfold textAt at h
      split at h
      · next q =>
        cases q
        cases h
        simp
      · next c' r' q =>
        cases q
        split at h
        · simp only [Option.map_eq_some_iff] at h
          obtain ⟨y, hy, rfl⟩ := h
          have := ih _ _ (by simp at hl; omega) hy
          simp
          omega
        · cases h
      · next c' r' q1 q2 q3 =>
        cases q3
        split at h
        · simp only [Option.map_eq_some_iff] at h
          obtain ⟨y, hy, rfl⟩ := h
          have := ih _ _ (by simpa using hl) hy
          simp
          omega
        · cases h
      · next q => cases q

theorem tokens_fuel : ∀ (f g : Nat) (r : Bytes), r.length ≤ f → r.length ≤ g → tokens f r = tokens g r := by
  intro f
  induction f with
  | zero =>
    intro g r h1 h2
    have : r = [] := List.eq_nil_of_length_eq_zero (by omega)
    subst this
    cases g <;> rfl
  | succ f ih =>
    intro g r h1 h2
    match r, g with
    | [], g => cases g <;> rfl
    | c :: r, 0 => simp at h2
    | c :: r, g + 1 =>
      have h1' : r.length ≤ f := by simpa using h1
      have h2' : r.length ≤ g := by simpa using h2
      have hd : ∀ k, 0 < k → tokens f ((c :: r).drop k) = tokens g ((c :: r).drop k) := fun k hk => by
        have hl : ((c :: r).drop k).length ≤ r.length := by rw [List.length_drop, List.length_cons]; omega
        exact ih g _ (by omega) (by omega)
      have hd' : ∀ k, tokens f (r.drop k) = tokens g (r.drop k) := fun k => by
        have hl : (r.drop k).length ≤ r.length := by rw [List.length_drop]; omega
        exact ih g _ (by omega) (by omega)
      have hr : tokens f r = tokens g r := ih g _ h1' h2'
      unfold tokens
      by_cases c1 : blank c = true
      · rw [if_pos c1, if_pos c1, hr]
      rw [if_neg c1, if_neg c1]
      by_cases c2 : digit c = true
      · rw [if_pos c2, if_pos c2]
        dsimp only
        rw [hd _ (takeWhile_pos c2)]
      rw [if_neg c2, if_neg c2]
      by_cases c3 : c = 34
      · rw [if_pos c3, if_pos c3]
        cases hx : textAt r with
        | none => rfl
        | some x =>
          have := textAt_len _ r x (Nat.le_refl _) hx
          show (tokens f x.2).map _ = (tokens g x.2).map _
          rw [ih g x.2 (by omega) (by omega)]
      rw [if_neg c3, if_neg c3]
      by_cases c4 : letter c = true
      · rw [if_pos c4, if_pos c4]
        have hw : word c = true := by unfold word; rw [c4]; rfl
        dsimp only
        rw [hd _ (takeWhile_pos hw)]
      rw [if_neg c4, if_neg c4]
      dsimp only
      rw [hd', hd', hr]
end Vt

namespace Vt
open Kcs7 (Bytes V Tok blank digit letter word textAt value tokens tokensOf readV readL readR insertNew bytesOrder)

theorem tokensOf_nil : tokensOf [] = some [] := rfl
theorem tokens_len {f : Nat} {r : Bytes} (h : r.length ≤ f) : tokens f r = tokensOf r := tokens_fuel f _ r h (Nat.le_refl _)
/-- one token, its rest -/
theorem tokensOf_cons (c : Nat) (r : Bytes) : tokensOf (c :: r) =
    if blank c then tokensOf r
    else if digit c then
      let d := (c :: r).takeWhile digit
      if (c = 48 ∧ d.length ≠ 1) ∨ 16 < d.length ∨ Kcs7.FAR ≤ (value d : Int) ∨ ((c :: r).drop d.length).head?.any letter = true then none else (tokensOf ((c :: r).drop d.length)).map (.num (value d) :: ·)
    else if c = 34 then (textAt r).bind fun x => (tokensOf x.2).map (.text x.1 :: ·)
    else if letter c then
      let d := (c :: r).takeWhile word
      if Kcs7.NAME < d.length then none else (tokensOf ((c :: r).drop d.length)).map (.name d :: ·)
    else if c = 46 ∧ r.head?.any letter = true then
      let d := r.takeWhile word
      if Kcs7.NAME < d.length then none else (tokensOf (r.drop d.length)).map (.field d :: ·)
    else if c = 36 ∧ r.head?.any letter = true then
      let d := r.takeWhile word
      if Kcs7.NAME < d.length then none else (tokensOf (r.drop d.length)).map (.var d :: ·)
    else if Kcs7.signs2.contains ((c :: r).take 2) then (tokensOf (r.drop 1)).map (.sign ((c :: r).take 2) :: ·)
    else if Kcs7.signs1.contains c then (tokensOf r).map (.sign [c] :: ·)
    else none := by
  show tokens (r.length + 1) (c :: r) = _
  have hd : ∀ k, 0 < k → tokens r.length ((c :: r).drop k) = tokensOf ((c :: r).drop k) := fun k hk => tokens_len (by rw [List.length_drop, List.length_cons]; omega)
  have hd' : ∀ k, tokens r.length (r.drop k) = tokensOf (r.drop k) := fun k => tokens_len (by rw [List.length_drop]; omega)
  have hr : tokens r.length r = tokensOf r := rfl
  unfold tokens
  by_cases c1 : blank c = true
  · rw [if_pos c1, if_pos c1, hr]
  rw [if_neg c1, if_neg c1]
  by_cases c2 : digit c = true
  · rw [if_pos c2, if_pos c2]
    dsimp only
    rw [hd _ (takeWhile_pos c2)]
  rw [if_neg c2, if_neg c2]
  by_cases c3 : c = 34
  · rw [if_pos c3, if_pos c3]
    cases hx : textAt r with
    | none => rfl
    | some x =>
      have := textAt_len _ r x (Nat.le_refl _) hx
      show (tokens r.length x.2).map _ = (tokensOf x.2).map _
      rw [tokens_len (by omega)]
  rw [if_neg c3, if_neg c3]
  by_cases c4 : letter c = true
  · rw [if_pos c4, if_pos c4]
    have hw : word c = true := by unfold word; rw [c4]; rfl
    dsimp only
    rw [hd _ (takeWhile_pos hw)]
  rw [if_neg c4, if_neg c4]
  dsimp only
  rw [hd', hd', hr]
theorem tokensOf_skip : ∀ r : Bytes, tokensOf (skipB r) = tokensOf r
  | [] => rfl
  | c :: r => by
    unfold skipB
    by_cases h : blank c = true
    · rw [if_pos h, tokensOf_skip r, tokensOf_cons, if_pos h]
    · rw [if_neg h]
theorem skipB_len : ∀ r : Bytes, (skipB r).length ≤ r.length
  | [] => Nat.le_refl _
  | c :: r => by
    unfold skipB
    by_cases h : blank c = true
    · rw [if_pos h, List.length_cons]
      exact Nat.le_succ_of_le (skipB_len r)
    · rw [if_neg h]
      exact Nat.le_refl _
theorem skipB_head : ∀ (r : Bytes) {c : Nat} {q : Bytes}, skipB r = c :: q → blank c = false
  | [], _, _, h => by cases h
  | c :: r, c', q, h => by
    unfold skipB at h
    by_cases e : blank c = true
    · rw [if_pos e] at h
      exact skipB_head r h
    · rw [if_neg e] at h
      cases h
      simpa using e
theorem skipB_of {c : Nat} {r : Bytes} (h : blank c = false) : skipB (c :: r) = c :: r := by
  unfold skipB
  rw [h]
  rfl
theorem ends_cases (s : Rd) : s.ends = none ∨ s.ends = some 93 ∨ s.ends = some 125 := by
  unfold Rd.ends
  cases s.st with
  | nil => exact .inl rfl
  | cons o S => cases o <;> simp [Opn.endS]
/-- neither of the two ends -/
theorem no_end {s : Rd} {c : Nat} {r : Bytes} (h1 : c ≠ 93) (h2 : c ≠ 125) : ¬ (s.may = true ∧ s.ends.isSome = true ∧ (c :: r).head? = s.ends) := by
  rintro ⟨_, h, e⟩
  rcases ends_cases s with q | q | q
  · rw [q] at h; cases h
  · rw [q] at e; cases e; exact h1 rfl
  · rw [q] at e; cases e; exact h2 rfl
theorem takeV_wanted (s : Rd) (v : V) : (s.takeV v).wanted = 3 ∨ (s.takeV v).wanted = 4 := by
  unfold Rd.takeV
  cases s.st with
  | nil => exact .inr rfl
  | cons o S => exact .inl rfl
/-- behind a value no sign of a word goes on -/
theorem reject {s : Rd} {f c : Nat} {r : Bytes} (h : s.wanted = 3 ∨ s.wanted = 4) (hw : word c = true) : runR f s (c :: r) = none := by
  have h1 : c ≠ 93 := by intro e; rw [e] at hw; revert hw; decide
  have h2 : c ≠ 125 := by intro e; rw [e] at hw; revert hw; decide
  have h3 : c ≠ 44 := by intro e; rw [e] at hw; revert hw; decide
  cases f with
  | zero => rfl
  | succ f =>
    show (stepR s (c :: r)).bind _ = none
    have e : stepR s (c :: r) = none := by
      unfold stepR
      rw [if_neg (no_end h1 h2)]
      rcases h with h | h
      · rw [h]
        simp [h3]
      · rw [h]
        simp
    rw [e]
    rfl
theorem skipW_iff : ∀ {w r q : Bytes}, skipW w r = some q ↔ r = w ++ q
  | [], r, q => by simp [skipW]
  | x :: w, [], q => by simp [skipW]
  | x :: w, c :: r, q => by
    unfold skipW
    by_cases e : c = x
    · rw [if_pos e, skipW_iff, e]
      simp
    · rw [if_neg e]
      constructor
      · intro h; cases h
      · intro h
        exact absurd (List.cons.inj h).1 e
theorem takeWhile_drop {α : Type} (p : α → Bool) : ∀ l : List α, l = l.takeWhile p ++ l.drop (l.takeWhile p).length
  | [] => rfl
  | a :: l => by
    by_cases h : p a = true
    · rw [List.takeWhile_cons_of_pos h]
      show a :: l = a :: (l.takeWhile p ++ l.drop (l.takeWhile p).length)
      rw [← takeWhile_drop p l]
    · rw [List.takeWhile_cons_of_neg h]
      rfl
theorem drop_takeWhile_head {α : Type} (p : α → Bool) : ∀ (l : List α) {c : α} {q : List α}, l.drop (l.takeWhile p).length = c :: q → p c = false
  | [], c, q, h => by simp at h
  | a :: l, c, q, h => by
    by_cases e : p a = true
    · rw [List.takeWhile_cons_of_pos e] at h
      exact drop_takeWhile_head p l h
    · rw [List.takeWhile_cons_of_neg e] at h
      cases h
      simpa using e
theorem takeWhile_all {α : Type} {p : α → Bool} : ∀ {w q : List α}, (∀ x ∈ w, p x = true) → (w ++ q).takeWhile p = w ++ q.takeWhile p
  | [], q, _ => rfl
  | x :: w, q, h => by
    rw [List.cons_append, List.takeWhile_cons_of_pos (h x List.mem_cons_self), takeWhile_all fun y hy => h y (List.mem_cons_of_mem _ hy)]
    rfl
end Vt

namespace Vt
open Kcs7 (Bytes V Tok blank digit letter word textAt value tokens tokensOf readV readL readR insertNew bytesOrder)

/-- what the rest of the row gives, by its tokens -/
def goesT (s : Rd) (r : Bytes) : Option V := (tokensOf r).bind (runT s)

theorem digit_facts {c : Nat} (h : digit c = true) : 48 ≤ c ∧ c ≤ 57 := by
  unfold digit at h
  simpa using h
theorem letter_facts {c : Nat} (h : letter c = true) : (65 ≤ c ∧ c ≤ 90) ∨ (97 ≤ c ∧ c ≤ 122) ∨ c = 95 := by
  unfold letter at h
  simp only [Bool.or_eq_true, Bool.and_eq_true, decide_eq_true_eq, beq_iff_eq] at h
  omega
theorem digit_no {c : Nat} (h : ¬ (48 ≤ c ∧ c ≤ 57)) : digit c = false := by
  unfold digit
  simp only [Bool.and_eq_false_iff, decide_eq_false_iff_not]
  omega
theorem amountR_nodigit {r : Bytes} (h : ∀ c q, r = c :: q → digit c = false) : amountR r = none := by
  have e : r.takeWhile digit = [] := by
    cases r with
    | nil => rfl
    | cons c q => exact List.takeWhile_cons_of_neg (by rw [h c q rfl]; decide)
  unfold amountR
  rw [e]
  rfl
theorem singleR_none {c : Nat} {r : Bytes} (h1 : c ≠ 34) (h2 : c ≠ 110) (h3 : c ≠ 102) (h4 : c ≠ 116) (h5 : c ≠ 45) (h6 : digit c = false) : singleR (c :: r) = none := by
  unfold singleR numberR
  rw [List.head?_cons, if_neg (by simpa using h1), if_neg (by simpa using h2), if_neg (by simpa using h3), if_neg (by simpa using h4), if_neg (by simpa using h5), amountR_nodigit fun c' q e => by cases e; exact h6]
  rfl
/-- a value read by itself, or none; then its rest -/
theorem step_value {s : Rd} {f c : Nat} {r : Bytes} (h1 : c ≠ 93) (h2 : c ≠ 125) (h3 : c ≠ 91) (h4 : c ≠ 123) (hw : s.wanted = 0) : runR (f + 1) s (c :: r) = (singleR (c :: r)).bind fun x => runR f (s.takeV x.1) (skipB x.2) := by
  show (stepR s (c :: r)).bind _ = _
  have e : stepR s (c :: r) = (singleR (c :: r)).map fun x => (s.takeV x.1, x.2) := by
    unfold stepR
    rw [if_neg (no_end h1 h2), if_pos hw, List.head?_cons, if_neg (by simpa using h3), if_neg (by simpa using h4)]
  rw [e]
  cases singleR (c :: r) <;> rfl
/-- no value is wanted: only a name's text, a colon, a comma, an end go on -/
theorem step_other {s : Rd} {f c : Nat} {r : Bytes} (h1 : c ≠ 93) (h2 : c ≠ 125) (h3 : c ≠ 34) (h4 : c ≠ 58) (h5 : c ≠ 44) (hw : s.wanted ≠ 0) : runR f s (c :: r) = none := by
  cases f with
  | zero => rfl
  | succ f =>
    show (stepR s (c :: r)).bind _ = _
    have e : stepR s (c :: r) = none := by
      unfold stepR textR
      rw [if_neg (no_end h1 h2), if_neg hw, List.head?_cons, if_neg (show ¬ some c = some 34 by simpa using h3), if_neg (show ¬ some c = some 58 by simpa using h4), if_neg (show ¬ some c = some 44 by simpa using h5)]
      simp
    rw [e]
    rfl
theorem value_far (d : Bytes) : (Kcs7.FAR ≤ (value d : Int)) ↔ 9007199254740992 ≤ value d := by
  unfold Kcs7.FAR
  omega
/-- digits: read alike; a letter behind is refused by the tokens at once, by the program at its next turn -/
theorem amount_goes {s : Rd} {f c : Nat} {r : Bytes} (hc : digit c = true) (k : Nat → Rd) (hk : ∀ n, (k n).wanted = 3 ∨ (k n).wanted = 4)
    (ih : ∀ (s : Rd) (q : Bytes), q.length < (c :: r).length → runR f s (skipB q) = goesT s q) (K : Nat → Option Rd) (hK : ∀ n, K n = some (k n)) :
    ((amountR (c :: r)).bind fun x => runR f (k x.1) (skipB x.2)) = (tokensOf (c :: r)).bind fun t => match t with
      | .num n :: t => (K n).bind fun s => runT s t
      | _ => none := by
  have hb : blank c = false := by
    have := digit_facts hc
    unfold blank
    simp only [Bool.or_eq_false_iff, beq_eq_false_iff_ne]
    omega
  rw [tokensOf_cons, hb, if_neg (by decide), if_pos hc]
  dsimp only
  generalize hd : (c :: r).takeWhile digit = d
  have hpos : 0 < d.length := by rw [← hd]; exact takeWhile_pos hc
  have hh : d.head? = some c := by
    rw [← hd, List.takeWhile_cons_of_pos hc]
    rfl
  unfold amountR
  rw [hd]
  dsimp only
  by_cases c1 : 16 < d.length
  · rw [if_pos (.inr c1), if_pos (.inr (.inl c1))]
    rfl
  rw [if_neg (show ¬ (d.length = 0 ∨ 16 < d.length) by omega)]
  by_cases c2 : c = 48 ∧ d.length ≠ 1
  · rw [if_pos (show d.head? = some 48 ∧ 1 < d.length from ⟨by rw [hh, c2.1], by omega⟩), if_pos (.inl c2)]
    rfl
  rw [if_neg (show ¬ (d.head? = some 48 ∧ 1 < d.length) from fun z => c2 ⟨by rw [hh] at z; exact Option.some.inj z.1, by omega⟩)]
  by_cases c3 : 9007199254740992 ≤ value d
  · rw [if_pos c3, if_pos (.inr (.inr (.inl ((value_far d).mpr c3))))]
    rfl
  rw [if_neg c3]
  show runR f (k (value d)) (skipB ((c :: r).drop d.length)) = _
  by_cases c4 : ((c :: r).drop d.length).head?.any letter = true
  · rw [if_pos (.inr (.inr (.inr c4)))]
    cases hq : (c :: r).drop d.length with
    | nil => rw [hq] at c4; cases c4
    | cons z q =>
      rw [hq] at c4
      have hz : letter z = true := c4
      have hzb : blank z = false := by
        have := letter_facts hz
        unfold blank
        simp only [Bool.or_eq_false_iff, beq_eq_false_iff_ne]
        omega
      rw [skipB_of hzb, reject (hk _) (by unfold word; rw [hz]; rfl)]
      rfl
  · rw [if_neg (fun z => by
      rcases z with z | z | z | z
      · exact c2 z
      · exact c1 z
      · exact c3 ((value_far d).mp z)
      · exact c4 z)]
    rw [ih _ _ (by rw [List.length_drop, List.length_cons]; omega)]
    unfold goesT
    cases hq : tokensOf ((c :: r).drop d.length) with
    | none => rfl
    | some t =>
      show runT (k (value d)) t = (K (value d)).bind fun s => runT s t
      rw [hK]
      rfl
/-- a word: read alike -/
theorem word_goes {s : Rd} {f c : Nat} {r w : Bytes} {v : V} (hl : letter c = true) (hw : s.wanted = 0) (hww : ∀ x ∈ c :: w, word x = true) (hn : (c :: w).length ≤ 32)
    (ih : ∀ (s : Rd) (q : Bytes), q.length < (c :: r).length → runR f s (skipB q) = goesT s q)
    (hT : ∀ d : Bytes, d.head? = some c → tokR s (.name d) = if d = c :: w then some (s.takeV v) else none) :
    ((skipW (c :: w) (c :: r)).bind fun q => runR f (s.takeV v) (skipB q)) = goesT s (c :: r) := by
  have lf := letter_facts hl
  have hb : blank c = false := by
    unfold blank
    simp only [Bool.or_eq_false_iff, beq_eq_false_iff_ne]
    omega
  have hdg : digit c = false := digit_no (by omega)
  have hwc : word c = true := by unfold word; rw [hl]; rfl
  unfold goesT
  rw [tokensOf_cons, hb, if_neg (by decide), hdg, if_neg (by decide), if_neg (by omega), if_pos hl]
  dsimp only
  generalize hd : (c :: r).takeWhile word = d
  have hh : d.head? = some c := by
    rw [← hd, List.takeWhile_cons_of_pos hwc]
    rfl
  have hsp : c :: r = d ++ (c :: r).drop d.length := by
    have := takeWhile_drop word (c :: r)
    rw [hd] at this
    exact this
  have hpos : 0 < d.length := by rw [← hd]; exact takeWhile_pos hwc
  by_cases e : d = c :: w
  · have e1 : skipW (c :: w) (c :: r) = some ((c :: r).drop d.length) := skipW_iff.mpr (by rw [← e]; exact hsp)
    rw [e1, if_neg (by rw [e]; show ¬ 32 < _; omega)]
    show runR f (s.takeV v) (skipB ((c :: r).drop d.length)) = _
    rw [ih _ _ (by rw [List.length_drop, List.length_cons]; omega)]
    unfold goesT
    cases hq : tokensOf ((c :: r).drop d.length) with
    | none => rfl
    | some t =>
      show runT (s.takeV v) t = (tokR s (.name d)).bind fun s => runT s t
      rw [hT d hh, if_pos e]
      rfl
  · have rhs : ((if Kcs7.NAME < d.length then none else (tokensOf ((c :: r).drop d.length)).map (Tok.name d :: ·)).bind (runT s)) = none := by
      by_cases c1 : Kcs7.NAME < d.length
      · rw [if_pos c1]; rfl
      · rw [if_neg c1]
        cases hq : tokensOf ((c :: r).drop d.length) with
        | none => rfl
        | some t =>
          show (tokR s (.name d)).bind (fun s => runT s t) = none
          rw [hT d hh, if_neg e]
          rfl
    rw [rhs]
    cases hs : skipW (c :: w) (c :: r) with
    | none => rfl
    | some q =>
      have hr := skipW_iff.mp hs
      cases q with
      | nil =>
        exfalso
        refine e ?_
        rw [← hd, hr, takeWhile_all hww]
        simp
      | cons z q =>
        by_cases hz : word z = true
        · have hzb : blank z = false := by
            unfold word at hz
            have : (letter z = true) ∨ digit z = true := by simpa using hz
            unfold blank
            simp only [Bool.or_eq_false_iff, beq_eq_false_iff_ne]
            rcases this with h | h
            · have := letter_facts h
              omega
            · have := digit_facts h
              omega
          show runR f (s.takeV v) (skipB (z :: q)) = none
          rw [skipB_of hzb]
          exact reject (takeV_wanted s v) hz
        · exfalso
          refine e ?_
          rw [← hd, hr, takeWhile_all hww, List.takeWhile_cons_of_neg hz]
          simp
end Vt

namespace Vt
open Kcs7 (Bytes V Tok blank digit letter word textAt value tokens tokensOf readV readL readR insertNew bytesOrder)

theorem ends_ne {s : Rd} {c : Nat} (h1 : c ≠ 93) (h2 : c ≠ 125) : s.ends ≠ some c := by
  intro e
  rcases ends_cases s with q | q | q
  · rw [q] at e; cases e
  · rw [q] at e; cases e; exact h1 rfl
  · rw [q] at e; cases e; exact h2 rfl
theorem tokR_sign_none {s : Rd} {c : Nat} (h1 : c ≠ 93) (h2 : c ≠ 125) (h3 : c ≠ 91) (h4 : c ≠ 123) (h5 : c ≠ 58) (h6 : c ≠ 44) : tokR s (.sign [c]) = none := by
  show (if s.may = true ∧ s.ends = some c then some s.close else _) = none
  rw [if_neg fun z => ends_ne h1 h2 z.2, if_neg fun z => h3 z.2, if_neg fun z => h4 z.2, if_neg fun z => h5 z.2, if_neg fun z => h6 z.2]
theorem runT_cons_none {s : Rd} {t : Tok} {ts : List Tok} (h : tokR s t = none) (h' : t ≠ .sign [45]) : runT s (t :: ts) = none := by
  unfold runT
  split
  · next q => cases q
  · next q => cases q; exact absurd rfl h'
  · next q => cases q; rw [h]; rfl
theorem runT_minus_none {s : Rd} {ts : List Tok} (h : ∀ n q, ts ≠ .num n :: q) : runT s (.sign [45] :: ts) = none := by
  unfold runT
  split
  · next q => cases q
  · next q => cases q; exact absurd rfl (h _ _)
  · next q =>
    cases q
    rw [tokR_sign_none (by decide) (by decide) (by decide) (by decide) (by decide) (by decide)]
    rfl
theorem runT_cons {s : Rd} {t : Tok} {ts : List Tok} (h' : t ≠ .sign [45]) : runT s (t :: ts) = (tokR s t).bind fun s => runT s ts := by
  conv => lhs; unfold runT
  split
  · next q => cases q
  · next q => cases q; exact absurd rfl h'
  · next q => cases q; rfl
theorem signs2_no {c : Nat} {r : Bytes} (h1 : c ≠ 124) (h2 : c ≠ 47) (h3 : c ≠ 61) (h4 : c ≠ 33) (h5 : c ≠ 60) (h6 : c ≠ 62) : Kcs7.signs2.contains ((c :: r).take 2) = false := by
  have e : (c :: r).take 2 = c :: r.take 1 := rfl
  rw [e]
  unfold Kcs7.signs2
  simp only [List.contains_cons, List.contains_nil, Bool.or_false, Bool.or_eq_false_iff, beq_eq_false_iff_ne]
  refine ⟨?_, ?_, ?_, ?_, ?_, ?_⟩ <;> intro e <;> have := (List.cons.inj e).1 <;> omega
/-- one of the six signs of lists and records, or - -/
theorem tokens_sign {c : Nat} {r : Bytes} (h : c = 91 ∨ c = 93 ∨ c = 123 ∨ c = 125 ∨ c = 58 ∨ c = 44 ∨ c = 45) : tokensOf (c :: r) = (tokensOf r).map (.sign [c] :: ·) := by
  rw [tokensOf_cons]
  have e1 : blank c = false := by unfold blank; simp only [Bool.or_eq_false_iff, beq_eq_false_iff_ne]; omega
  have e2 : digit c = false := digit_no (by omega)
  have e3 : letter c = false := by
    cases q : letter c with
    | false => rfl
    | true => have := letter_facts q; omega
  have e4 : Kcs7.signs1.contains c = true := by
    rcases h with h | h | h | h | h | h | h <;> subst h <;> decide
  rw [e1, if_neg (by decide), e2, if_neg (by decide), if_neg (by omega), e3, if_neg (by decide), if_neg (by omega), if_neg (by omega), signs2_no (by omega) (by omega) (by omega) (by omega) (by omega) (by omega), if_neg (by decide), e4, if_pos rfl]
/-- what else may begin a token is none that a value has -/
theorem tokens_rest {c : Nat} {r : Bytes} {s : Rd} (hb : blank c = false) (hd : digit c = false) (hl : letter c = false) (h : ¬ (c = 91 ∨ c = 93 ∨ c = 123 ∨ c = 125 ∨ c = 58 ∨ c = 44 ∨ c = 45 ∨ c = 34)) :
    goesT s (c :: r) = none := by
  have key : ∀ (o : Option (List Tok)) (t : Tok), tokR s t = none → t ≠ .sign [45] → (o.map (t :: ·)).bind (runT s) = none := by
    intro o t h1 h2
    cases o with
    | none => rfl
    | some ts => exact runT_cons_none h1 h2
  unfold goesT
  rw [tokensOf_cons, hb, if_neg (by decide), hd, if_neg (by decide), if_neg (by omega), hl, if_neg (by decide)]
  dsimp only
  by_cases c1 : c = 46 ∧ r.head?.any letter = true
  · rw [if_pos c1]
    by_cases c2 : Kcs7.NAME < (r.takeWhile word).length
    · rw [if_pos c2]; rfl
    · rw [if_neg c2]; exact key _ _ rfl (by intro z; cases z)
  rw [if_neg c1]
  by_cases c2 : c = 36 ∧ r.head?.any letter = true
  · rw [if_pos c2]
    by_cases c3 : Kcs7.NAME < (r.takeWhile word).length
    · rw [if_pos c3]; rfl
    · rw [if_neg c3]; exact key _ _ rfl (by intro z; cases z)
  rw [if_neg c2]
  by_cases c3 : Kcs7.signs2.contains ((c :: r).take 2) = true
  · rw [if_pos c3]
    have h2 : ∃ a b, (c :: r).take 2 = [a, b] := by
      unfold Kcs7.signs2 at c3
      simp only [List.contains_cons, List.contains_nil, Bool.or_false, Bool.or_eq_true, beq_iff_eq] at c3
      rcases c3 with e | e | e | e | e | e <;> exact ⟨_, _, e⟩
    obtain ⟨a, b, e⟩ := h2
    rw [e]
    exact key _ _ rfl (by intro z; cases z)
  rw [if_neg c3]
  by_cases c4 : Kcs7.signs1.contains c = true
  · rw [if_pos c4]
    exact key _ _ (tokR_sign_none (by omega) (by omega) (by omega) (by omega) (by omega) (by omega)) (by intro z; cases z; omega)
  · rw [if_neg c4]; rfl
theorem notnum {c : Nat} {r : Bytes} {n : Nat} {q : List Tok} (hd : digit c = false) (hb : blank c = false) : tokensOf (c :: r) ≠ some (.num n :: q) := by
  have key : ∀ (o : Option (List Tok)) (t : Tok), (∀ n, t ≠ .num n) → o.map (t :: ·) ≠ some (.num n :: q) := by
    intro o t ht e
    cases o with
    | none => cases e
    | some ts => exact ht n (List.cons.inj (Option.some.inj e)).1
  rw [tokensOf_cons, hb, if_neg (by decide), hd, if_neg (by decide)]
  dsimp only
  by_cases c3 : c = 34
  · rw [if_pos c3]
    cases textAt r with
    | none => intro z; cases z
    | some x => exact key _ _ (fun _ z => nomatch z)
  rw [if_neg c3]
  repeat' split
  all_goals first
    | exact key _ _ (fun _ z => nomatch z)
    | (intro z; cases z)
theorem run_goes : ∀ (f : Nat) (s : Rd) (r : Bytes), r.length ≤ f → runR f s (skipB r) = goesT s r := by
  intro f
  induction f with
  | zero =>
    intro s r h
    have : r = [] := List.eq_nil_of_length_eq_zero (by omega)
    subst this
    rfl
  | succ f ih =>
    intro s r h
    have hs := skipB_len r
    have e0 : goesT s r = goesT s (skipB r) := by unfold goesT; rw [tokensOf_skip]
    rw [e0]
    generalize hq : skipB r = q at hs
    cases q with
    | nil => rfl
    | cons c q =>
      have hb := skipB_head r hq
      have hlen : q.length ≤ f := by simp at hs; omega
      have ih' : ∀ (s : Rd) (x : Bytes), x.length < (c :: q).length → runR f s (skipB x) = goesT s x := fun s x hx => ih s x (by simp at hx; omega)
      have one : ∀ (s : Rd) (x : Rd), tokR s (.sign [c]) = some x → c ≠ 45 → stepR s (c :: q) = some (x, q) → (c = 91 ∨ c = 93 ∨ c = 123 ∨ c = 125 ∨ c = 58 ∨ c = 44 ∨ c = 45) → runR (f + 1) s (c :: q) = goesT s (c :: q) := by
        intro s x h1 h2 h3 h4
        show (stepR s (c :: q)).bind _ = _
        rw [h3]
        unfold goesT
        rw [tokens_sign h4]
        show runR f x (skipB q) = _
        rw [ih x q hlen]
        unfold goesT
        cases ht : tokensOf q with
        | none => rfl
        | some t =>
          show runT x t = runT s (.sign [c] :: t)
          rw [runT_cons (by intro z; cases z; exact h2 rfl), h1]
          rfl
      have nol : ∀ (s : Rd), tokR s (.sign [c]) = none → c ≠ 45 → stepR s (c :: q) = none → (c = 91 ∨ c = 93 ∨ c = 123 ∨ c = 125 ∨ c = 58 ∨ c = 44 ∨ c = 45) → runR (f + 1) s (c :: q) = goesT s (c :: q) := by
        intro s h1 h2 h3 h4
        show (stepR s (c :: q)).bind _ = _
        rw [h3]
        unfold goesT
        rw [tokens_sign h4]
        cases ht : tokensOf q with
        | none => rfl
        | some t =>
          show none = runT s (.sign [c] :: t)
          rw [runT_cons (by intro z; cases z; exact h2 rfl), h1]
          rfl
      by_cases six : c = 91 ∨ c = 93 ∨ c = 123 ∨ c = 125 ∨ c = 58 ∨ c = 44
      · have seven : c = 91 ∨ c = 93 ∨ c = 123 ∨ c = 125 ∨ c = 58 ∨ c = 44 ∨ c = 45 := by omega
        have h45 : c ≠ 45 := by omega
        have hd : digit c = false := digit_no (by omega)
        have hst : stepR s (c :: q) = (tokR s (.sign [c])).map fun x => (x, q) := by
          unfold stepR
          show _ = (if s.may = true ∧ s.ends = some c then some s.close else _).map _
          rw [List.head?_cons]
          by_cases m : s.may = true ∧ s.ends = some c
          · rw [if_pos ⟨m.1, by rw [m.2]; rfl, m.2.symm⟩, if_pos m]
            rfl
          · rw [if_neg fun z => m ⟨z.1, z.2.2.symm⟩, if_neg m]
            have hsn : c ≠ 91 → c ≠ 123 → singleR (c :: q) = none := fun _ _ => singleR_none (by omega) (by omega) (by omega) (by omega) (by omega) hd
            have htx : textR (c :: q) = none := by
              unfold textR
              rw [List.head?_cons, if_neg (by simp; omega)]
            by_cases w0 : s.wanted = 0
            · rcases six with e | e | e | e | e | e <;> subst e <;> simp [w0] <;> simp [hsn]
            · by_cases w1 : s.wanted = 1
              · simp [w1, htx]
              · by_cases w2 : s.wanted = 2
                · rcases six with e | e | e | e | e | e <;> subst e <;> simp [w2]
                · by_cases w3 : s.wanted = 3
                  · rcases six with e | e | e | e | e | e <;> subst e <;> simp [w3]
                  · simp [w0, w1, w2, w3]
        cases ht : tokR s (.sign [c]) with
        | none => exact nol s ht h45 (by rw [hst, ht]; rfl) seven
        | some x => exact one s x ht h45 (by rw [hst, ht]; rfl) seven
      have n93 : c ≠ 93 := by omega
      have n125 : c ≠ 125 := by omega
      have n91 : c ≠ 91 := by omega
      have n123 : c ≠ 123 := by omega
      by_cases h34 : c = 34
      · -- a text
        subst h34
        have et : tokensOf (34 :: q) = (textAt q).bind fun x => (tokensOf x.2).map (.text x.1 :: ·) := by
          rw [tokensOf_cons]
          rfl
        unfold goesT
        rw [et]
        cases hx : textAt q with
        | none =>
          show (stepR s (34 :: q)).bind _ = none
          have : stepR s (34 :: q) = none := by
            unfold stepR
            rw [if_neg (no_end n93 n125), List.head?_cons]
            simp [singleR, textR, hx]
          rw [this]
          rfl
        | some x =>
          have hl := textAt_len _ q x (Nat.le_refl _) hx
          show (stepR s (34 :: q)).bind _ = ((tokensOf x.2).map (.text x.1 :: ·)).bind (runT s)
          have hst : stepR s (34 :: q) = (tokR s (.text x.1)).map fun y => (y, x.2) := by
            unfold stepR
            rw [if_neg (no_end n93 n125), List.head?_cons]
            show _ = (if s.wanted = 0 then some (s.takeV (.text x.1)) else if s.wanted = 1 then s.putN x.1 else none).map _
            by_cases w0 : s.wanted = 0
            · rw [if_pos w0, if_pos w0]
              simp [singleR, textR, hx]
            · rw [if_neg w0, if_neg w0]
              by_cases w1 : s.wanted = 1
              · rw [if_pos w1, if_pos w1]
                simp [textR, hx]
              · rw [if_neg w1, if_neg w1]
                simp
          rw [hst]
          have e2 : ((tokensOf x.2).map (.text x.1 :: ·)).bind (runT s) = (tokR s (.text x.1)).bind fun y => goesT y x.2 := by
            unfold goesT
            cases tokensOf x.2 with
            | none => cases tokR s (.text x.1) <;> rfl
            | some t =>
              show runT s (.text x.1 :: t) = _
              rw [runT_cons (by intro z; cases z)]
              rfl
          rw [e2]
          cases tokR s (.text x.1) with
          | none => rfl
          | some y =>
            show runR f y (skipB x.2) = goesT y x.2
            exact ih y x.2 (by omega)
      by_cases w0 : s.wanted = 0
      · rw [step_value n93 n125 n91 n123 w0]
        by_cases h45 : c = 45
        · subst h45
          have es : singleR (45 :: q) = (numberR (45 :: q)).map fun x => (V.num x.1, x.2) := by
            unfold singleR
            rw [List.head?_cons]
            rfl
          have en : numberR (45 :: q) = (match amountR (skipB q) with
            | none => none
            | some (n, q) => if n = 0 then none else some (-(n : Int), q)) := by
            unfold numberR
            rw [List.head?_cons, if_pos rfl]
            rfl
          rw [es, en]
          unfold goesT
          rw [tokens_sign (by omega), ← tokensOf_skip q]
          have hsq := skipB_len q
          have hbq : ∀ z y, skipB q = z :: y → blank z = false := fun z y e => skipB_head q e
          generalize hy : skipB q = y at hsq hbq
          cases y with
          | nil =>
            rw [amountR_nodigit (by intro c q e; cases e)]
            show none = runT s [.sign [45]]
            rw [runT_minus_none (by intro n q e; cases e)]
          | cons z y =>
            by_cases dz : digit z = true
            · have ag := amount_goes (s := s) (f := f) (r := y) dz (fun n => if n = 0 then s.takeV .null else s.takeV (.num (-(n : Int)))) (fun n => by
                  by_cases n0 : n = 0
                  · rw [if_pos n0]; exact takeV_wanted _ _
                  · rw [if_neg n0]; exact takeV_wanted _ _) (fun s x hx => ih s x (by simp at hx hsq; omega)) (fun n => some (if n = 0 then s.takeV .null else s.takeV (.num (-(n : Int))))) (fun n => rfl)
              -- the tokens' side
              have rhs : ((tokensOf (z :: y)).map (Tok.sign [45] :: ·)).bind (runT s) = (tokensOf (z :: y)).bind fun t => match t with
                  | .num n :: t => if n = 0 then none else runT (s.takeV (.num (-(n : Int)))) t
                  | _ => none := by
                cases ht : tokensOf (z :: y) with
                | none => rfl
                | some t =>
                  show runT s (.sign [45] :: t) = _
                  match t with
                  | .num n :: t =>
                    show (negR s n).bind (fun s => runT s t) = if n = 0 then none else runT (s.takeV (.num (-(n : Int)))) t
                    unfold negR
                    rw [if_pos w0]
                    by_cases n0 : n = 0
                    · rw [if_pos n0, if_pos n0]; rfl
                    · rw [if_neg n0, if_neg n0]; rfl
                  | [] => exact runT_minus_none (by intro n q e; cases e)
                  | .text _ :: _ => exact runT_minus_none (by intro n q e; cases e)
                  | .name _ :: _ => exact runT_minus_none (by intro n q e; cases e)
                  | .field _ :: _ => exact runT_minus_none (by intro n q e; cases e)
                  | .var _ :: _ => exact runT_minus_none (by intro n q e; cases e)
                  | .sign _ :: _ => exact runT_minus_none (by intro n q e; cases e)
              rw [rhs]
              cases ha : amountR (z :: y) with
              | none =>
                rw [ha] at ag
                show none = _
                have ag' : none = (tokensOf (z :: y)).bind _ := ag
                cases ht : tokensOf (z :: y) with
                | none => rfl
                | some t =>
                  rw [ht] at ag'
                  match t, ag' with
                  | .num n :: t, ag' =>
                    have ag2 : none = runT (if n = 0 then s.takeV .null else s.takeV (.num (-(n : Int)))) t := ag'
                    show none = if n = 0 then none else runT (s.takeV (.num (-(n : Int)))) t
                    by_cases n0 : n = 0
                    · rw [if_pos n0]
                    · rw [if_neg n0] at ag2 ⊢; exact ag2
                  | [], _ => rfl
                  | .text _ :: _, _ => rfl
                  | .name _ :: _, _ => rfl
                  | .field _ :: _, _ => rfl
                  | .var _ :: _, _ => rfl
                  | .sign _ :: _, _ => rfl
              | some x =>
                obtain ⟨n, x⟩ := x
                rw [ha] at ag
                have ag' : runR f (if n = 0 then s.takeV .null else s.takeV (.num (-(n : Int)))) (skipB x) = (tokensOf (z :: y)).bind _ := ag
                -- the number that the tokens tell is the same
                have htn : ∀ m t, tokensOf (z :: y) = some (.num m :: t) → m = n := by
                  intro m t e
                  rw [tokensOf_cons, skipB_head q hy, if_neg (by decide), if_pos dz] at e
                  dsimp only at e
                  split at e
                  · cases e
                  · have e1 : value ((z :: y).takeWhile digit) = m := by
                      cases h2 : tokensOf ((z :: y).drop ((z :: y).takeWhile digit).length) with
                      | none => rw [h2] at e; cases e
                      | some t' =>
                        rw [h2] at e
                        have := (List.cons.inj (Option.some.inj e)).1
                        cases this
                        rfl
                    unfold amountR at ha
                    dsimp only at ha
                    split at ha
                    · cases ha
                    · split at ha
                      · cases ha
                      · split at ha
                        · cases ha
                        · have := Option.some.inj ha
                          rw [← e1]
                          exact (Prod.mk.inj this).1
                show ((if n = 0 then none else some (-(n : Int), x)).map fun x => (V.num x.1, x.2)).bind _ = _
                by_cases n0 : n = 0
                · rw [if_pos n0]
                  show none = _
                  cases ht : tokensOf (z :: y) with
                  | none => rfl
                  | some t =>
                    match t, ht with
                    | .num m :: t, ht =>
                      show none = if m = 0 then none else _
                      rw [if_pos ((htn m t ht).trans n0)]
                    | [], _ => rfl
                    | .text _ :: _, _ => rfl
                    | .name _ :: _, _ => rfl
                    | .field _ :: _, _ => rfl
                    | .var _ :: _, _ => rfl
                    | .sign _ :: _, _ => rfl
                · rw [if_neg n0] at ag' ⊢
                  show runR f (s.takeV (.num (-(n : Int)))) (skipB x) = _
                  rw [ag']
                  cases ht : tokensOf (z :: y) with
                  | none => rfl
                  | some t =>
                    match t, ht with
                    | .num m :: t, ht =>
                      have em := htn m t ht
                      show runT (if m = 0 then s.takeV .null else s.takeV (.num (-(m : Int)))) t = if m = 0 then none else runT (s.takeV (.num (-(m : Int)))) t
                      rw [em, if_neg n0, if_neg n0]
                    | [], _ => rfl
                    | .text _ :: _, _ => rfl
                    | .name _ :: _, _ => rfl
                    | .field _ :: _, _ => rfl
                    | .var _ :: _, _ => rfl
                    | .sign _ :: _, _ => rfl
            · have dz' : digit z = false := by simpa using dz
              rw [amountR_nodigit (fun c q e => by cases e; exact dz')]
              show none = ((tokensOf (z :: y)).map (Tok.sign [45] :: ·)).bind (runT s)
              cases ht : tokensOf (z :: y) with
              | none => rfl
              | some t =>
                show none = runT s (.sign [45] :: t)
                rw [runT_minus_none]
                intro n q' e
                rw [e] at ht
                exact notnum dz' (hbq z y rfl) ht
        by_cases hd : digit c = true
        · have df := digit_facts hd
          have es : singleR (c :: q) = (amountR (c :: q)).map fun x => (V.num (x.1 : Int), x.2) := by
            unfold singleR numberR
            rw [List.head?_cons, if_neg (by simp; omega), if_neg (by simp; omega), if_neg (by simp; omega), if_neg (by simp; omega), if_neg (by simp; omega)]
            cases amountR (c :: q) <;> rfl
          have ag := amount_goes (s := s) (f := f) (r := q) hd (fun n => s.takeV (.num (n : Int))) (fun n => takeV_wanted _ _) ih' (fun n => tokR s (.num n)) (fun n => by show (if s.wanted = 0 then _ else _) = _; rw [if_pos w0])
          rw [es]
          have e1 : (((amountR (c :: q)).map fun x => (V.num (x.1 : Int), x.2)).bind fun x => runR f (s.takeV x.1) (skipB x.2)) = (amountR (c :: q)).bind fun x => runR f (s.takeV (.num (x.1 : Int))) (skipB x.2) := by
            cases amountR (c :: q) <;> rfl
          rw [e1]
          refine ag.trans ?_
          unfold goesT
          cases ht : tokensOf (c :: q) with
          | none => rfl
          | some t =>
            rw [tokensOf_cons, hb, if_neg (by decide), if_pos hd] at ht
            dsimp only at ht
            split at ht
            · cases ht
            · cases h2 : tokensOf ((c :: q).drop ((c :: q).takeWhile digit).length) with
              | none => rw [h2] at ht; cases ht
              | some t' =>
                rw [h2] at ht
                have ht' := Option.some.inj ht
                subst ht'
                show (tokR s (.num _)).bind (fun s => runT s t') = runT s (.num _ :: t')
                rw [runT_cons (by intro z; cases z)]
        have hd' : digit c = false := by simpa using hd
        by_cases hl : letter c = true
        · have tk : ∀ d : Bytes, tokR s (.name d) = if d = wNull then some (s.takeV .null) else if d = wTrue then some (s.takeV (.bool true)) else if d = wFalse then some (s.takeV (.bool false)) else none := by
            intro d
            show (if s.wanted = 0 then _ else _) = _
            rw [if_pos w0]
          by_cases c1 : c = 110
          · subst c1
            have es : (singleR (110 :: q)) = (skipW wNull (110 :: q)).map fun q => (V.null, q) := by
              unfold singleR
              rw [List.head?_cons, if_neg (by decide), if_pos rfl]
            rw [es]
            refine Eq.trans ?_ (word_goes (w := [117, 108, 108]) (v := .null) hl w0 (by decide) (by decide) ih' (fun d hd => ?_))
            · show _ = (skipW wNull (110 :: q)).bind _
              cases skipW wNull (110 :: q) <;> rfl
            · rw [tk]
              by_cases e : d = wNull
              · rw [if_pos e, if_pos (show d = [110, 117, 108, 108] from e)]
              · rw [if_neg e, if_neg (show ¬ d = [110, 117, 108, 108] from e), if_neg (by rintro rfl; cases hd), if_neg (by rintro rfl; cases hd)]
          by_cases c2 : c = 102
          · subst c2
            have es : (singleR (102 :: q)) = (skipW wFalse (102 :: q)).map fun q => (V.bool false, q) := by
              unfold singleR
              rw [List.head?_cons, if_neg (by decide), if_neg (by decide), if_pos rfl]
            rw [es]
            refine Eq.trans ?_ (word_goes (w := [97, 108, 115, 101]) (v := .bool false) hl w0 (by decide) (by decide) ih' (fun d hd => ?_))
            · show _ = (skipW wFalse (102 :: q)).bind _
              cases skipW wFalse (102 :: q) <;> rfl
            · rw [tk]
              by_cases e : d = wFalse
              · rw [if_neg (by rintro rfl; cases hd), if_neg (by rintro rfl; cases hd), if_pos e, if_pos (show d = [102, 97, 108, 115, 101] from e)]
              · rw [if_neg (by rintro rfl; cases hd), if_neg (by rintro rfl; cases hd), if_neg e, if_neg (show ¬ d = [102, 97, 108, 115, 101] from e)]
          by_cases c3 : c = 116
          · subst c3
            have es : (singleR (116 :: q)) = (skipW wTrue (116 :: q)).map fun q => (V.bool true, q) := by
              unfold singleR
              rw [List.head?_cons, if_neg (by decide), if_neg (by decide), if_neg (by decide), if_pos rfl]
            rw [es]
            refine Eq.trans ?_ (word_goes (w := [114, 117, 101]) (v := .bool true) hl w0 (by decide) (by decide) ih' (fun d hd => ?_))
            · show _ = (skipW wTrue (116 :: q)).bind _
              cases skipW wTrue (116 :: q) <;> rfl
            · rw [tk]
              by_cases e : d = wTrue
              · rw [if_neg (by rintro rfl; cases hd), if_pos e, if_pos (show d = [116, 114, 117, 101] from e)]
              · rw [if_neg (by rintro rfl; cases hd), if_neg e, if_neg (by rintro rfl; cases hd), if_neg (show ¬ d = [116, 114, 117, 101] from e)]
          · rw [singleR_none h34 c1 c2 c3 h45 hd']
            show none = goesT s (c :: q)
            have lf := letter_facts hl
            unfold goesT
            rw [tokensOf_cons, hb, if_neg (by decide), hd', if_neg (by decide), if_neg h34, if_pos hl]
            dsimp only
            by_cases c5 : Kcs7.NAME < ((c :: q).takeWhile word).length
            · rw [if_pos c5]; rfl
            · rw [if_neg c5]
              cases ht : tokensOf ((c :: q).drop ((c :: q).takeWhile word).length) with
              | none => rfl
              | some t =>
                show none = runT s (.name _ :: t)
                have hwc : word c = true := by unfold word; rw [hl]; rfl
                rw [runT_cons (by intro z; cases z), tk, List.takeWhile_cons_of_pos hwc]
                rw [if_neg (show ¬ _ = wNull from fun e => c1 (List.cons.inj e).1), if_neg (show ¬ _ = wTrue from fun e => c3 (List.cons.inj e).1), if_neg (show ¬ _ = wFalse from fun e => c2 (List.cons.inj e).1)]
                rfl
        · have hl' : letter c = false := by simpa using hl
          rw [tokens_rest hb hd' hl' (by omega), singleR_none h34 (fun e => by subst e; cases hl') (fun e => by subst e; cases hl') (fun e => by subst e; cases hl') h45 hd']
          rfl
      · rw [step_other n93 n125 h34 (by omega) (by omega) w0]
        -- the tokens' side: no token that is no sign, no text goes on
        by_cases h45 : c = 45
        · subst h45
          unfold goesT
          rw [tokens_sign (by omega)]
          cases ht : tokensOf q with
          | none => rfl
          | some t =>
            show none = runT s (.sign [45] :: t)
            match t with
            | .num n :: t =>
              show none = (negR s n).bind _
              unfold negR
              rw [if_neg w0]
              rfl
            | [] => rw [runT_minus_none (by intro n q e; cases e)]
            | .text _ :: _ => rw [runT_minus_none (by intro n q e; cases e)]
            | .name _ :: _ => rw [runT_minus_none (by intro n q e; cases e)]
            | .field _ :: _ => rw [runT_minus_none (by intro n q e; cases e)]
            | .var _ :: _ => rw [runT_minus_none (by intro n q e; cases e)]
            | .sign _ :: _ => rw [runT_minus_none (by intro n q e; cases e)]
        by_cases hd : digit c = true
        · unfold goesT
          rw [tokensOf_cons, hb, if_neg (by decide), if_pos hd]
          dsimp only
          split
          · rfl
          · cases tokensOf ((c :: q).drop ((c :: q).takeWhile digit).length) with
            | none => rfl
            | some t =>
              show none = runT s (.num _ :: t)
              rw [runT_cons_none (by show (if s.wanted = 0 then _ else _) = _; rw [if_neg w0]) (by intro z; cases z)]
        have hd' : digit c = false := by simpa using hd
        by_cases hl : letter c = true
        · unfold goesT
          rw [tokensOf_cons, hb, if_neg (by decide), hd', if_neg (by decide), if_neg h34, if_pos hl]
          dsimp only
          split
          · rfl
          · cases tokensOf ((c :: q).drop ((c :: q).takeWhile word).length) with
            | none => rfl
            | some t =>
              show none = runT s (.name _ :: t)
              rw [runT_cons_none (by show (if s.wanted = 0 then _ else _) = _; rw [if_neg w0]) (by intro z; cases z)]
        · have hl' : letter c = false := by simpa using hl
          rw [tokens_rest hb hd' hl' (by omega)]
end Vt

namespace Vt
open Kcs7 (Bytes V Tok blank digit letter word textAt value tokens tokensOf readV readL readR insertNew bytesOrder)

/-! ### names in order -/
theorem bo_eq : ∀ {a b : Bytes}, bytesOrder a b = .eq ↔ a = b
  | [], [] => by simp [bytesOrder]
  | [], _ :: _ => by simp [bytesOrder]
  | _ :: _, [] => by simp [bytesOrder]
  | a :: x, b :: y => by
    unfold bytesOrder
    by_cases h : a < b
    · rw [if_pos h]
      simp
      omega
    · rw [if_neg h]
      by_cases h2 : b < a
      · rw [if_pos h2]
        simp
        omega
      · rw [if_neg h2, bo_eq]
        have : a = b := by omega
        simp [this]
theorem bo_gt : ∀ {a b : Bytes}, bytesOrder a b = .gt ↔ bytesOrder b a = .lt
  | [], [] => by simp [bytesOrder]
  | [], _ :: _ => by simp [bytesOrder]
  | _ :: _, [] => by simp [bytesOrder]
  | a :: x, b :: y => by
    unfold bytesOrder
    by_cases h : a < b
    · rw [if_pos h, if_neg (by omega), if_pos h]
      simp
    · rw [if_neg h]
      by_cases h2 : b < a
      · rw [if_pos h2, if_pos h2]
        simp
      · rw [if_neg h2, if_neg h2, if_neg h]
        exact bo_gt
theorem bo_trans : ∀ {a b c : Bytes}, bytesOrder a b = .lt → bytesOrder b c = .lt → bytesOrder a c = .lt
  | [], [], _, h, _ => by simp [bytesOrder] at h
  | [], _ :: _, [], _, h => by simp [bytesOrder] at h
  | [], _ :: _, _ :: _, _, _ => by simp [bytesOrder]
  | _ :: _, [], _, h, _ => by simp [bytesOrder] at h
  | _ :: _, _ :: _, [], _, h => by simp [bytesOrder] at h
  | a :: x, b :: y, c :: z, h1, h2 => by
    unfold bytesOrder at h1 h2 ⊢
    by_cases p : a < b
    · by_cases q : b < c
      · rw [if_pos (by omega)]
      · rw [if_neg q] at h2
        by_cases q2 : c < b
        · rw [if_pos q2] at h2; cases h2
        · rw [if_pos (by omega)]
    · rw [if_neg p] at h1
      by_cases p2 : b < a
      · rw [if_pos p2] at h1; cases h1
      · rw [if_neg p2] at h1
        by_cases q : b < c
        · rw [if_pos (by omega)]
        · rw [if_neg q] at h2
          by_cases q2 : c < b
          · rw [if_pos q2] at h2; cases h2
          · rw [if_neg q2] at h2
            rw [if_neg (by omega), if_neg (by omega)]
            exact bo_trans h1 h2
theorem bo_irrefl {a : Bytes} : bytesOrder a a ≠ .lt := by
  rw [bo_eq.mpr rfl]
  intro h
  cases h
/-- fields that rise -/
abbrev Rises (l : List (Bytes × V)) : Prop := l.Pairwise fun x y => bytesOrder x.1 y.1 = .lt
theorem insertNew_none : ∀ {l : List (Bytes × V)} {n : Bytes} {x : V}, Rises l → (insertNew n x l = none ↔ n ∈ l.map Prod.fst)
  | [], n, x, _ => by simp [insertNew]
  | (m, y) :: l, n, x, h => by
    obtain ⟨h1, h2⟩ := List.pairwise_cons.mp h
    unfold insertNew
    rw [List.map_cons, List.mem_cons]
    cases e : bytesOrder n m with
    | lt =>
      simp only []
      constructor
      · intro z; cases z
      · intro z
        exfalso
        rcases z with z | z
        · rw [z] at e
          exact bo_irrefl e
        · obtain ⟨⟨m', y'⟩, hm, rfl⟩ := List.mem_map.mp z
          have := bo_trans e (h1 _ hm)
          exact bo_irrefl this
    | eq => simp [bo_eq.mp e]
    | gt =>
      have ne : n ≠ m := by
        intro z
        rw [z, bo_eq.mpr rfl] at e
        cases e
      simp only [Option.map_eq_none_iff]
      rw [insertNew_none h2]
      simp [ne]
theorem insertNew_some : ∀ {l k : List (Bytes × V)} {n : Bytes} {x : V}, Rises l → insertNew n x l = some k → Rises k ∧ k.Perm ((n, x) :: l)
  | [], k, n, x, _, e => by
    cases e
    exact ⟨List.pairwise_singleton _ _, .refl _⟩
  | (m, y) :: l, k, n, x, h, e => by
    obtain ⟨h1, h2⟩ := List.pairwise_cons.mp h
    unfold insertNew at e
    cases q : bytesOrder n m with
    | lt =>
      rw [q] at e
      cases e
      refine ⟨List.pairwise_cons.mpr ⟨fun z hz => ?_, h⟩, .refl _⟩
      rcases List.mem_cons.mp hz with r | r
      · rw [r]; exact q
      · exact bo_trans q (h1 z r)
    | eq => rw [q] at e; cases e
    | gt =>
      rw [q] at e
      obtain ⟨k', hk, rfl⟩ := Option.map_eq_some_iff.mp e
      obtain ⟨i1, i2⟩ := insertNew_some h2 hk
      refine ⟨List.pairwise_cons.mpr ⟨fun z hz => ?_, i1⟩, (List.Perm.cons _ i2).trans (List.Perm.swap _ _ _)⟩
      rcases List.mem_cons.mp (i2.mem_iff.mp hz) with r | r
      · rw [r]; exact bo_gt.mp q
      · exact h1 z r
theorem insAll_snoc (fs : List (Bytes × V)) (n : Bytes) (x : V) : insAll (fs ++ [(n, x)]) = (insAll fs).bind (insertNew n x) := by
  unfold insAll
  rw [List.foldlM_append]
  cases List.foldlM (fun l f => insertNew f.1 f.2 l) [] fs with
  | none => rfl
  | some l =>
    show (insertNew n x l).bind _ = insertNew n x l
    cases insertNew n x l <;> rfl
theorem snoc_ind {α : Type} {P : List α → Prop} (h0 : P []) (h1 : ∀ l x, P l → P (l ++ [x])) : ∀ l, P l := by
  intro l
  have : ∀ m : List α, P m.reverse := by
    intro m
    induction m with
    | nil => exact h0
    | cons x m ih => rw [List.reverse_cons]; exact h1 _ _ ih
  rw [← List.reverse_reverse l]
  exact this _
theorem insAll_some : ∀ (fs : List (Bytes × V)) {l : List (Bytes × V)}, insAll fs = some l → Rises l ∧ l.Perm fs := by
  intro fs
  induction fs using snoc_ind with
  | h0 =>
    intro l e
    cases e
    exact ⟨List.Pairwise.nil, .refl _⟩
  | h1 fs x ih =>
    intro l e
    obtain ⟨n, x⟩ := x
    rw [insAll_snoc] at e
    obtain ⟨m, hm, hn⟩ := Option.bind_eq_some_iff.mp e
    obtain ⟨a, b⟩ := ih hm
    obtain ⟨c, d⟩ := insertNew_some a hn
    exact ⟨c, d.trans ((List.Perm.cons _ b).trans (List.perm_append_comm (l₁ := [(n, x)])))⟩
theorem rises_uniq : ∀ {l k : List (Bytes × V)}, Rises l → Rises k → l.Perm k → l = k
  | [], k, _, _, p => (List.Perm.eq_nil p.symm).symm
  | x :: l, [], _, _, p => absurd p.length_eq (by simp)
  | x :: l, y :: k, hl, hk, p => by
    obtain ⟨l1, l2⟩ := List.pairwise_cons.mp hl
    obtain ⟨k1, k2⟩ := List.pairwise_cons.mp hk
    have e : x = y := by
      rcases List.mem_cons.mp (p.mem_iff.mp (List.mem_cons_self (a := x) (l := l))) with e | hx
      · exact e
      · rcases List.mem_cons.mp (p.mem_iff.mpr (List.mem_cons_self (a := y) (l := k))) with e | hy
        · exact e.symm
        · exact absurd (bo_trans (l1 _ hy) (k1 _ hx)) bo_irrefl
    subst e
    rw [rises_uniq l2 k2 p.cons_inv]
/-- of names that are all unlike the fold always ends -/
theorem insAll_nodup : ∀ (fs : List (Bytes × V)), (fs.map Prod.fst).Nodup → ∃ l, insAll fs = some l := by
  intro fs
  induction fs using snoc_ind with
  | h0 => exact fun _ => ⟨[], rfl⟩
  | h1 fs x ih =>
    intro nd
    obtain ⟨n, x⟩ := x
    rw [List.map_append, List.nodup_append] at nd
    obtain ⟨l, hl⟩ := ih nd.1
    obtain ⟨a, b⟩ := insAll_some fs hl
    rw [insAll_snoc, hl]
    cases e : insertNew n x l with
    | some k => exact ⟨k, e⟩
    | none =>
      exfalso
      have hm := (insertNew_none a).mp e
      have : n ∈ fs.map Prod.fst := (b.map Prod.fst).mem_iff.mp hm
      exact nd.2.2 n this n (by simp) rfl
end Vt

namespace Vt
open Kcs7 (Bytes V Tok blank digit letter word textAt value tokens tokensOf readV readL readR insertNew bytesOrder)

theorem lens : ∀ f : Nat, (∀ d t v r, readV f d t = some (v, r) → r.length < t.length) ∧ (∀ d t v r, readL f d t = some (v, r) → r.length < t.length) ∧ (∀ d l t v r, readR f d l t = some (v, r) → r.length < t.length) := by
  intro f
  induction f with
  | zero => exact ⟨fun _ _ _ _ h => by simp [readV] at h, fun _ _ _ _ h => by simp [readL] at h, fun _ _ _ _ _ h => by simp [readR] at h⟩
  | succ f ih =>
    obtain ⟨iV, iL, iR⟩ := ih
    refine ⟨fun d t v r h => ?_, fun d t v r h => ?_, fun d l t v r h => ?_⟩
    · unfold readV at h
      split at h
      · cases h; simp
      · split at h <;> cases h
        simp
        omega
      · cases h; simp
      · split at h
        · cases h; simp
        · split at h
          · cases h; simp
          · split at h <;> cases h
            simp
      · split at h <;> cases h
        simp
        omega
      · split at h
        · cases h
        · obtain ⟨x, hx, e⟩ := Option.map_eq_some_iff.mp h
          cases e
          have := iL _ _ _ _ hx
          simp
          omega
      · split at h <;> cases h
        simp
        omega
      · split at h
        · cases h
        · obtain ⟨x, hx, e⟩ := Option.map_eq_some_iff.mp h
          cases e
          have := iR _ _ _ _ _ hx
          simp
          omega
      · cases h
    · unfold readL at h
      split at h
      · next x r' hx =>
        obtain ⟨y, hy, e⟩ := Option.map_eq_some_iff.mp h
        cases e
        have a := iV _ _ _ _ hx
        have b := iL _ _ _ _ hy
        simp at a
        omega
      · next x r' hx =>
        cases h
        have a := iV _ _ _ _ hx
        simp at a
        omega
      · cases h
    · unfold readR at h
      split at h
      · next n r' =>
        split at h
        · next x c r2 hx =>
          have a := iV _ _ _ _ hx
          split at h
          · cases h
          · split at h
            · have b := iR _ _ _ _ _ h
              simp at a ⊢
              omega
            · split at h <;> cases h
              simp at a ⊢
              omega
        · cases h
      · cases h
theorem takeV_only (s : Rd) (a : Nat) (b : Bool) (v : V) : Rd.takeV ⟨s.st, s.whole, a, b⟩ v = s.takeV v := by
  unfold Rd.takeV
  cases s.st <;> rfl
/-- behind a value within a list or a record: its end, or a comma -/
theorem runT_comma (o : Opn) (S : List Opn) (w : Option V) (t : Tok) (r : List Tok) :
    runT ⟨o :: S, w, 3, true⟩ (t :: r) = if t = .sign [o.endS] then runT (Rd.takeV ⟨S, w, 0, false⟩ o.val) r else if t = .sign [44] then runT ⟨o :: S, w, o.first, false⟩ r else none := by
  have ho : o.endS = 93 ∨ o.endS = 125 := by cases o <;> simp [Opn.endS]
  have hcl : Rd.close ⟨o :: S, w, 3, true⟩ = Rd.takeV ⟨S, w, 0, false⟩ o.val := by
    show Rd.takeV ⟨S, w, 3, true⟩ o.val = _
    exact takeV_only ⟨S, w, 0, false⟩ 3 true o.val
  have h45 : (45 : Nat) ≠ o.endS := by rcases ho with q | q <;> omega
  by_cases h : t = .sign [45]
  · subst h
    rw [if_neg (by simp [h45]), if_neg (by simp)]
    match r with
    | .num n :: r => rfl
    | [] => exact runT_minus_none (by intro n q e; cases e)
    | .text _ :: _ => exact runT_minus_none (by intro n q e; cases e)
    | .name _ :: _ => exact runT_minus_none (by intro n q e; cases e)
    | .field _ :: _ => exact runT_minus_none (by intro n q e; cases e)
    | .var _ :: _ => exact runT_minus_none (by intro n q e; cases e)
    | .sign _ :: _ => exact runT_minus_none (by intro n q e; cases e)
  rw [runT_cons h]
  match t with
  | .sign [c] =>
    have et : tokR ⟨o :: S, w, 3, true⟩ (.sign [c]) = if c = o.endS then some (Rd.takeV ⟨S, w, 0, false⟩ o.val) else if c = 44 then some ⟨o :: S, w, o.first, false⟩ else none := by
      rw [← hcl]
      unfold tokR
      simp only [Rd.ends, Rd.firstW, Option.some.injEq, true_and]
      by_cases e : o.endS = c
      · rw [if_pos e, if_pos e.symm]
      · rw [if_neg e, if_neg (Ne.symm e)]
        simp
    rw [et]
    simp only [Tok.sign.injEq, List.cons.injEq, and_true]
    by_cases e : c = o.endS
    · rw [if_pos e, if_pos e]; rfl
    · rw [if_neg e, if_neg e]
      by_cases e2 : c = 44
      · rw [if_pos e2, if_pos e2]; rfl
      · rw [if_neg e2, if_neg e2]; rfl
  | .sign [] => rw [if_neg (by intro z; cases z), if_neg (by intro z; cases z)]; rfl
  | .sign (_ :: _ :: _) => rw [if_neg (by intro z; cases z), if_neg (by intro z; cases z)]; rfl
  | .num _ => rfl
  | .text _ => rfl
  | .name _ => rfl
  | .field _ => rfl
  | .var _ => rfl
theorem runT_open {s : Rd} (isL : Bool) (c : Nat) (hc : c = if isL = true then 91 else 123) (hw : s.wanted = 0) (r : List Tok) :
    runT s (.sign [c] :: r) = if s.st.length = 40 then none else runT ⟨Opn.fresh isL :: s.st, s.whole, (Opn.fresh isL).first, true⟩ r := by
  have c1 : c = 91 ∨ c = 123 := by cases isL <;> simp at hc <;> omega
  rw [runT_cons (by intro z; cases z; omega)]
  have e : tokR s (.sign [c]) = s.begin isL := by
    show (if s.may = true ∧ s.ends = some c then some s.close else _ : Option Rd) = _
    rw [if_neg fun z => ends_ne (by omega) (by omega) z.2]
    cases isL with
    | true =>
      have : c = 91 := hc
      subst this
      rw [if_pos ⟨hw, rfl⟩]
    | false =>
      have : c = 123 := hc
      subst this
      rw [if_neg (by simp), if_pos ⟨hw, rfl⟩]
  rw [e]
  unfold Rd.begin
  by_cases h : s.st.length = 40
  · rw [if_pos h, if_pos h]; rfl
  · rw [if_neg h, if_neg h]; rfl
theorem runT_close {o : Opn} {S : List Opn} {w : Option V} {a : Nat} (r : List Tok) : runT ⟨o :: S, w, a, true⟩ (.sign [o.endS] :: r) = runT (Rd.takeV ⟨S, w, 0, false⟩ o.val) r := by
  have ho : o.endS = 93 ∨ o.endS = 125 := by cases o <;> simp [Opn.endS]
  rw [runT_cons (by simp only [ne_eq, Tok.sign.injEq, List.cons.injEq, and_true]; omega)]
  have e : tokR ⟨o :: S, w, a, true⟩ (.sign [o.endS]) = some (Rd.takeV ⟨S, w, 0, false⟩ o.val) := by
    show (if true = true ∧ some o.endS = some o.endS then some (Rd.close ⟨o :: S, w, a, true⟩) else _ : Option Rd) = _
    rw [if_pos ⟨rfl, rfl⟩]
    show some (Rd.takeV ⟨S, w, a, true⟩ o.val) = _
    rw [takeV_only ⟨S, w, 0, false⟩ a true o.val]
  rw [e]
  rfl
/-- the innermost's end doesn't stand ahead -/
def NoEnd (s : Rd) (t : List Tok) : Prop := s.may = false ∨ ∀ c q, t = .sign [c] :: q → s.ends ≠ some c
end Vt

namespace Vt
open Kcs7 (Bytes V Tok blank digit letter word textAt value tokens tokensOf readV readL readR insertNew bytesOrder)

theorem runT_name {o : Opn} {S : List Opn} {w : Option V} {t : List Tok} {may : Bool} (hn : NoEnd ⟨o :: S, w, 1, may⟩ t) (h : ∀ n r, t ≠ .text n :: .sign [58] :: r) : runT ⟨o :: S, w, 1, may⟩ t = none := by
  match t with
  | [] => rfl
  | .text n :: t =>
    rw [runT_cons (by simp)]
    show (Rd.putN ⟨o :: S, w, 1, may⟩ n).bind _ = none
    unfold Rd.putN
    cases o with
    | lst l => rfl
    | rcd fs nm =>
      show (if n ∈ fs.map Prod.fst then none else some ⟨.rcd fs (some n) :: S, w, 2, false⟩ : Option Rd).bind _ = none
      by_cases e : n ∈ fs.map Prod.fst
      · rw [if_pos e]; rfl
      · rw [if_neg e]
        show runT ⟨.rcd fs (some n) :: S, w, 2, false⟩ t = none
        match t with
        | [] => rfl
        | .sign [c] :: t =>
          by_cases c58 : c = 58
          · subst c58; exact absurd rfl (h n t)
          by_cases c45 : c = 45
          · subst c45
            match t with
            | .num n :: r => rfl
            | [] => exact runT_minus_none (by intro n q e; cases e)
            | .text _ :: _ => exact runT_minus_none (by intro n q e; cases e)
            | .name _ :: _ => exact runT_minus_none (by intro n q e; cases e)
            | .field _ :: _ => exact runT_minus_none (by intro n q e; cases e)
            | .var _ :: _ => exact runT_minus_none (by intro n q e; cases e)
            | .sign _ :: _ => exact runT_minus_none (by intro n q e; cases e)
          refine runT_cons_none ?_ (by simpa using c45)
          unfold tokR
          simp [c58]
        | .sign [] :: t => rfl
        | .sign (_ :: _ :: _) :: t => exact runT_cons_none rfl (by simp)
        | .num _ :: t => rfl
        | .text _ :: t => rfl
        | .name _ :: t => rfl
        | .field _ :: t => rfl
        | .var _ :: t => rfl
  | .sign [c] :: t =>
    by_cases c45 : c = 45
    · subst c45
      match t with
      | .num n :: r => rfl
      | [] => exact runT_minus_none (by intro n q e; cases e)
      | .text _ :: _ => exact runT_minus_none (by intro n q e; cases e)
      | .name _ :: _ => exact runT_minus_none (by intro n q e; cases e)
      | .field _ :: _ => exact runT_minus_none (by intro n q e; cases e)
      | .var _ :: _ => exact runT_minus_none (by intro n q e; cases e)
      | .sign _ :: _ => exact runT_minus_none (by intro n q e; cases e)
    refine runT_cons_none ?_ (by simpa using c45)
    unfold tokR
    have : ¬ (may = true ∧ Rd.ends ⟨o :: S, w, 1, may⟩ = some c) := by
      rintro ⟨h1, h2⟩
      rcases hn with q | q
      · have q' : may = false := q
        rw [h1] at q'; cases q'
      · exact q c t rfl h2
    simp [this]
  | .sign [] :: t => rfl
  | .sign (_ :: _ :: _) :: t => exact runT_cons_none rfl (by simp)
  | .num _ :: t => rfl
  | .name _ :: t => rfl
  | .field _ :: t => rfl
  | .var _ :: t => rfl
theorem runT_value_none {s : Rd} {t : List Tok} (hw : s.wanted = 0) (hn : NoEnd s t) (h1 : ∀ n r, t ≠ .num n :: r) (h2 : ∀ n r, t ≠ .sign [45] :: .num n :: r) (h3 : ∀ n r, t ≠ .text n :: r) (h4 : ∀ n r, t ≠ .name n :: r) (h5 : ∀ r, t ≠ .sign [91] :: r) (h6 : ∀ r, t ≠ .sign [123] :: r) : runT s t = none := by
  match t with
  | [] =>
    show endR s = none
    unfold endR
    rw [hw]
    rfl
  | .num n :: r => exact absurd rfl (h1 n r)
  | .text n :: r => exact absurd rfl (h3 n r)
  | .name n :: r => exact absurd rfl (h4 n r)
  | .field _ :: t => exact runT_cons_none rfl (by simp)
  | .var _ :: t => exact runT_cons_none rfl (by simp)
  | .sign [] :: t => exact runT_cons_none rfl (by simp)
  | .sign (_ :: _ :: _) :: t => exact runT_cons_none rfl (by simp)
  | .sign [c] :: t =>
    by_cases c45 : c = 45
    · subst c45
      refine runT_minus_none ?_
      intro n q e
      subst e
      exact h2 n q rfl
    refine runT_cons_none ?_ (by simpa using c45)
    unfold tokR
    have q1 : ¬ (s.may = true ∧ s.ends = some c) := by
      rintro ⟨a, b⟩
      rcases hn with q | q
      · rw [a] at q; cases q
      · exact q c t rfl b
    have q2 : c ≠ 91 := by intro e; subst e; exact h5 t rfl
    have q3 : c ≠ 123 := by intro e; subst e; exact h6 t rfl
    simp [q1, q2, q3, hw]
theorem str_null : Kcs7.str "null" = wNull := by decide +kernel
theorem str_true : Kcs7.str "true" = wTrue := by decide +kernel
theorem str_false : Kcs7.str "false" = wFalse := by decide +kernel
theorem reads : ∀ f : Nat,
    (∀ d s t, s.wanted = 0 → NoEnd s t → d + s.st.length = 40 → 2 * t.length + 1 ≤ f → runT s t = (readV f d t).bind fun x => runT (s.takeV x.1) x.2) ∧
    (∀ d l S w may t, NoEnd ⟨.lst l :: S, w, 0, may⟩ t → d + (S.length + 1) = 40 → 2 * t.length + 2 ≤ f → runT ⟨.lst l :: S, w, 0, may⟩ t = (readL f d t).bind fun x => runT (Rd.takeV ⟨S, w, 0, false⟩ (.list (l ++ x.1))) x.2) ∧
    (∀ d fs nm l S w may t, insAll fs = some l → NoEnd ⟨.rcd fs nm :: S, w, 1, may⟩ t → d + (S.length + 1) = 40 → 2 * t.length + 2 ≤ f → runT ⟨.rcd fs nm :: S, w, 1, may⟩ t = (readR f d l t).bind fun x => runT (Rd.takeV ⟨S, w, 0, false⟩ (.record x.1)) x.2) := by
  intro f
  induction f with
  | zero => exact ⟨fun _ _ _ _ _ _ h => absurd h (by omega), fun _ _ _ _ _ _ _ _ h => absurd h (by omega), fun _ _ _ _ _ _ _ _ _ _ _ h => absurd h (by omega)⟩
  | succ f ih =>
    obtain ⟨iV, iL, iR⟩ := ih
    refine ⟨fun d s t hw hn hd hf => ?_, fun d l S w may t hn hd hf => ?_, fun d fs nm l S w may t hl hn hd hf => ?_⟩
    · unfold readV
      split
      · next n r =>
        rw [runT_cons (by simp)]
        show (if s.wanted = 0 then _ else _ : Option Rd).bind _ = _
        rw [if_pos hw]
        rfl
      · next n r =>
        show (negR s n).bind _ = _
        unfold negR
        rw [if_pos hw]
        by_cases n0 : n = 0
        · rw [if_pos n0, if_pos n0]; rfl
        · rw [if_neg n0, if_neg n0]; rfl
      · next b r =>
        rw [runT_cons (by simp)]
        show (if s.wanted = 0 then _ else _ : Option Rd).bind _ = _
        rw [if_pos hw]
        rfl
      · next b r =>
        rw [runT_cons (by simp), str_null, str_true, str_false]
        show (if s.wanted = 0 then _ else _ : Option Rd).bind _ = _
        rw [if_pos hw]
        by_cases e1 : b = wNull
        · rw [if_pos e1, if_pos e1]; rfl
        · rw [if_neg e1, if_neg e1]
          by_cases e2 : b = wTrue
          · rw [if_pos e2, if_pos e2]; rfl
          · rw [if_neg e2, if_neg e2]
            by_cases e3 : b = wFalse
            · rw [if_pos e3, if_pos e3]; rfl
            · rw [if_neg e3, if_neg e3]; rfl
      · next r =>
        rw [runT_open true 91 rfl hw]
        by_cases d0 : d = 0
        · rw [if_pos d0, if_pos (by omega)]; rfl
        · rw [if_neg d0, if_neg (by omega)]
          show runT ⟨.lst [] :: s.st, s.whole, 0, true⟩ (.sign [(Opn.lst []).endS] :: r) = runT (s.takeV (.list [])) r
          rw [runT_close]
          rw [takeV_only]
          rfl
      · next r hr =>
        rw [runT_open true 91 rfl hw]
        by_cases d0 : d = 0
        · rw [if_pos d0, if_pos (by omega)]; rfl
        · rw [if_neg d0, if_neg (by omega)]
          have hne : NoEnd ⟨.lst [] :: s.st, s.whole, 0, true⟩ r := .inr fun c q e => by
            subst e
            intro e2
            cases e2
            exact hr q rfl
          have := iL (d - 1) [] s.st s.whole true r hne (by omega) (by simp at hf; omega)
          refine Eq.trans this ?_
          cases readL f (d - 1) r with
          | none => rfl
          | some x =>
            show runT (Rd.takeV ⟨s.st, s.whole, 0, false⟩ (.list ([] ++ x.1))) x.2 = runT (s.takeV (.list x.1)) x.2
            rw [takeV_only]
            rfl
      · next r =>
        rw [runT_open false 123 rfl hw]
        by_cases d0 : d = 0
        · rw [if_pos d0, if_pos (by omega)]; rfl
        · rw [if_neg d0, if_neg (by omega)]
          show runT ⟨.rcd [] none :: s.st, s.whole, 1, true⟩ (.sign [(Opn.rcd [] none).endS] :: r) = runT (s.takeV (.record [])) r
          rw [runT_close, takeV_only]
          rfl
      · next r hr =>
        rw [runT_open false 123 rfl hw]
        by_cases d0 : d = 0
        · rw [if_pos d0, if_pos (by omega)]; rfl
        · rw [if_neg d0, if_neg (by omega)]
          have hne : NoEnd ⟨.rcd [] none :: s.st, s.whole, 1, true⟩ r := .inr fun c q e => by
            subst e
            intro e2
            cases e2
            exact hr q rfl
          have := iR (d - 1) [] none [] s.st s.whole true r rfl hne (by omega) (by simp at hf; omega)
          refine Eq.trans this ?_
          cases readR f (d - 1) [] r with
          | none => rfl
          | some x =>
            show runT (Rd.takeV ⟨s.st, s.whole, 0, false⟩ (.record x.1)) x.2 = runT (s.takeV (.record x.1)) x.2
            rw [takeV_only]
      · next h1 h2 h3 h4 h5 h6 h7 h8 =>
        exact runT_value_none hw hn (fun n r e => h1 n r e) (fun n r e => h2 n r e) (fun n r e => h3 n r e) (fun n r e => h4 n r e) (fun r e => h6 r e) (fun r e => h8 r e)
    · have hV := iV d ⟨.lst l :: S, w, 0, may⟩ t rfl hn hd (by omega)
      rw [hV]
      unfold readL
      cases hx : readV f d t with
      | none => rfl
      | some x =>
        obtain ⟨x, r⟩ := x
        have hlen := (lens f).1 _ _ _ _ hx
        show runT ⟨.lst (l ++ [x]) :: S, w, 3, true⟩ r = _
        match r, hlen with
        | [], _ => rfl
        | c :: r, hlen =>
          rw [runT_comma]
          by_cases e1 : c = .sign [93]
          · subst e1
            rfl
          · rw [if_neg (show ¬ c = .sign [(Opn.lst (l ++ [x])).endS] from e1)]
            by_cases e2 : c = .sign [44]
            · subst e2
              rw [if_pos rfl]
              show runT ⟨.lst (l ++ [x]) :: S, w, 0, false⟩ r = ((readL f d r).map fun y => (x :: y.1, y.2)).bind _
              have := iL d (l ++ [x]) S w false r (.inl rfl) hd (by simp at hlen; omega)
              rw [this]
              cases readL f d r with
              | none => rfl
              | some y =>
                show runT (Rd.takeV ⟨S, w, 0, false⟩ (.list (l ++ [x] ++ y.1))) y.2 = runT (Rd.takeV ⟨S, w, 0, false⟩ (.list (l ++ (x :: y.1)))) y.2
                rw [List.append_assoc]
                rfl
            · rw [if_neg e2]
              symm
              split
              · next q => cases q; exact absurd rfl e2
              · next q => cases q; exact absurd rfl e1
              · rfl
    · unfold readR
      split
      · next n r =>
        rw [runT_cons (by simp)]
        show (if n ∈ fs.map Prod.fst then none else some ⟨.rcd fs (some n) :: S, w, 2, false⟩ : Option Rd).bind _ = _
        obtain ⟨ri, pe⟩ := insAll_some fs hl
        have hmem : n ∈ fs.map Prod.fst ↔ n ∈ l.map Prod.fst := (pe.map Prod.fst).mem_iff.symm
        by_cases e : n ∈ fs.map Prod.fst
        · rw [if_pos e]
          show none = _
          have hno : ∀ x, insertNew n x l = none := fun x => (insertNew_none ri).mpr (hmem.mp e)
          cases readV f d r with
          | none => rfl
          | some x =>
            obtain ⟨x, c⟩ := x
            match c with
            | [] => rfl
            | c :: r =>
              dsimp only
              rw [hno]
              rfl
        · rw [if_neg e]
          show runT ⟨.rcd fs (some n) :: S, w, 2, false⟩ (.sign [58] :: r) = _
          rw [runT_cons (by simp)]
          show runT ⟨.rcd fs (some n) :: S, w, 0, false⟩ r = _
          have hV := iV d ⟨.rcd fs (some n) :: S, w, 0, false⟩ r rfl (.inl rfl) hd (by simp at hf; omega)
          rw [hV]
          cases hx : readV f d r with
          | none => rfl
          | some x =>
            obtain ⟨x, c⟩ := x
            have hlen := (lens f).1 _ _ _ _ hx
            have ep : putB fs n x = fs ++ [(n, x)] := if_neg e
            show runT ⟨.rcd (putB fs n x) (some n) :: S, w, 3, true⟩ c = _
            rw [ep]
            match c, hlen with
            | [], _ => rfl
            | c :: r2, hlen =>
              rw [runT_comma]
              dsimp only
              have hsn := insAll_snoc fs n x
              rw [hl] at hsn
              cases hi : insertNew n x l with
              | none => exact absurd (hmem.mpr ((insertNew_none ri).mp hi)) e
              | some m =>
                have hm : insAll (fs ++ [(n, x)]) = some m := hsn.trans hi
                have hsf : sortF (fs ++ [(n, x)]) = m := by unfold sortF; rw [hm]; rfl
                by_cases e1 : c = .sign [125]
                · subst e1
                  show runT (Rd.takeV ⟨S, w, 0, false⟩ (.record (sortF (fs ++ [(n, x)])))) r2 = _
                  rw [hsf]
                  rfl
                · rw [if_neg (show ¬ c = .sign [(Opn.rcd (fs ++ [(n, x)]) (some n)).endS] from e1)]
                  have i125 : Kcs7.isSign c 125 = false := by
                    unfold Kcs7.isSign
                    simpa using e1
                  by_cases e2 : c = .sign [44]
                  · subst e2
                    rw [if_pos rfl]
                    show runT ⟨.rcd (fs ++ [(n, x)]) (some n) :: S, w, 1, false⟩ r2 = (readR f d m r2).bind _
                    exact iR d (fs ++ [(n, x)]) (some n) m S w false r2 hm (.inl rfl) hd (by simp at hlen hf; omega)
                  · rw [if_neg e2]
                    have i44 : Kcs7.isSign c 44 = false := by
                      unfold Kcs7.isSign
                      simpa using e2
                    rw [i44, i125]
                    rfl
      · next h =>
        rw [runT_name hn (fun n r e => h n r e)]
        rfl
end Vt

namespace Vt
open Kcs7 (Bytes V Tok blank digit letter word textAt value tokens tokensOf readV readL readR insertNew bytesOrder size sizeL sizeR depth depthL depthR)

/-! ### sizes -/
def wt : Tok → Nat
  | .text b => b.length + 1
  | _ => 1
def wts (t : List Tok) : Nat := (t.map wt).sum
theorem wts_cons (x : Tok) (t : List Tok) : wts (x :: t) = wt x + wts t := by simp [wts]
theorem wt_pos (x : Tok) : 1 ≤ wt x := by cases x <;> simp [wt]
theorem wts_tokens : ∀ (n : Nat) (b : Bytes) (t : List Tok), b.length ≤ n → tokensOf b = some t → wts t ≤ b.length := by
  intro n
  induction n with
  | zero =>
    intro b t h e
    have : b = [] := List.eq_nil_of_length_eq_zero (by omega)
    subst this
    cases e
    simp [wts]
  | succ n ih =>
    intro b t h e
    match b, h, e with
    | [], _, e => cases e; simp [wts]
    | c :: r, h, e =>
      have h' : r.length ≤ n := by simpa using h
      have key : ∀ (x : Tok) (q : Bytes), wt x + q.length ≤ (c :: r).length → q.length ≤ n → (tokensOf q).map (x :: ·) = some t → wts t ≤ (c :: r).length := by
        intro x q h1 h2 e
        obtain ⟨t', ht, rfl⟩ := Option.map_eq_some_iff.mp e
        have := ih q t' h2 ht
        rw [wts_cons]
        omega
      rw [tokensOf_cons] at e
      split at e
      · have := ih r t h' e
        simp
        omega
      · split at e
        · next hd =>
          dsimp only at e
          split at e
          · cases e
          · have hp := takeWhile_pos (r := r) hd
            refine key _ _ ?_ ?_ e <;> rw [List.length_drop]
            · simp only [wt, List.length_cons]; omega
            · simp only [List.length_cons]; omega
        · split at e
          · obtain ⟨x, hx, e⟩ := Option.bind_eq_some_iff.mp e
            have := textAt_len _ r x (Nat.le_refl _) hx
            refine key _ _ ?_ (by omega) e
            simp only [wt, List.length_cons]
            omega
          · split at e
            · next hl =>
              dsimp only at e
              split at e
              · cases e
              · have hp := takeWhile_pos (p := word) (r := r) (c := c) (by unfold word; rw [hl]; rfl)
                refine key _ _ ?_ ?_ e <;> rw [List.length_drop]
                · simp only [wt, List.length_cons]; omega
                · simp only [List.length_cons]; omega
            · split at e
              · dsimp only at e
                split at e
                · cases e
                · refine key _ _ ?_ ?_ e <;> rw [List.length_drop]
                  · simp only [wt, List.length_cons]; omega
                  · omega
              · split at e
                · dsimp only at e
                  split at e
                  · cases e
                  · refine key _ _ ?_ ?_ e <;> rw [List.length_drop]
                    · simp only [wt, List.length_cons]; omega
                    · omega
                · split at e
                  · refine key _ _ ?_ ?_ e <;> rw [List.length_drop]
                    · simp only [wt, List.length_cons]; omega
                    · omega
                  · split at e
                    · exact key _ _ (by simp only [wt, List.length_cons]; omega) h' e
                    · cases e
theorem sizeR_insert : ∀ {l m : List (Bytes × V)} {n : Bytes} {x : V}, insertNew n x l = some m → sizeR m = n.length + size x + sizeR l ∧ depthR m = max (depth x) (depthR l)
  | [], m, n, x, e => by
    cases e
    simp [sizeR, depthR]
  | (k, y) :: l, m, n, x, e => by
    unfold insertNew at e
    split at e
    · cases e
      simp [sizeR, depthR]
    · cases e
    · obtain ⟨m', hm, rfl⟩ := Option.map_eq_some_iff.mp e
      obtain ⟨a, b⟩ := sizeR_insert hm
      simp only [sizeR, depthR, a, b]
      omega
/-! numbers as they are read -/
mutual
def nok : V → Prop
  | .num n => n.natAbs < 9007199254740992
  | .list l => nokL l
  | .record l => nokR l
  | _ => True
def nokL : List V → Prop
  | [] => True
  | x :: l => nok x ∧ nokL l
def nokR : List (Bytes × V) → Prop
  | [] => True
  | (_, x) :: l => nok x ∧ nokR l
end
theorem nokR_insert : ∀ {l m : List (Bytes × V)} {n : Bytes} {x : V}, insertNew n x l = some m → nok x → nokR l → nokR m
  | [], m, n, x, e, h, _ => by
    cases e
    simp [nokR, h]
  | (k, y) :: l, m, n, x, e, h, hl => by
    simp only [nokR] at hl
    unfold insertNew at e
    split at e
    · cases e
      simp only [nokR]
      exact ⟨h, hl.1, hl.2⟩
    · cases e
    · obtain ⟨m', hm, rfl⟩ := Option.map_eq_some_iff.mp e
      simp only [nokR]
      exact ⟨hl.1, nokR_insert hm h hl.2⟩
def nokT (t : List Tok) : Prop := ∀ n, Tok.num n ∈ t → n < 9007199254740992
theorem bounds : ∀ f : Nat, (∀ d t v r, readV f d t = some (v, r) → size v + wts r ≤ wts t ∧ depth v ≤ d ∧ (nokT t → nok v ∧ nokT r)) ∧
    (∀ d t v r, readL f d t = some (v, r) → sizeL v + wts r ≤ wts t ∧ depthL v ≤ d ∧ (nokT t → nokL v ∧ nokT r)) ∧
    (∀ d l t v r, readR f d l t = some (v, r) → sizeR v + wts r ≤ wts t + sizeR l ∧ depthR v ≤ max d (depthR l) ∧ (nokT t → nokR l → nokR v ∧ nokT r)) := by
  have tl : ∀ {x : Tok} {t : List Tok}, nokT (x :: t) → nokT t := fun h n m => h n (List.mem_cons_of_mem _ m)
  intro f
  induction f with
  | zero => exact ⟨fun _ _ _ _ h => by simp [readV] at h, fun _ _ _ _ h => by simp [readL] at h, fun _ _ _ _ _ h => by simp [readR] at h⟩
  | succ f ih =>
    obtain ⟨iV, iL, iR⟩ := ih
    refine ⟨fun d t v r h => ?_, fun d t v r h => ?_, fun d l t v r h => ?_⟩
    · unfold readV at h
      split at h
      · cases h
        refine ⟨by simp only [wts_cons, wt, size]; omega, by simp [depth], fun k => ⟨?_, tl k⟩⟩
        have := k _ List.mem_cons_self
        simp only [nok]
        omega
      · split at h <;> cases h
        refine ⟨by simp only [wts_cons, wt, size]; omega, by simp [depth], fun k => ⟨?_, tl (tl k)⟩⟩
        have := tl k _ List.mem_cons_self
        simp only [nok]
        omega
      · cases h
        exact ⟨by simp only [wts_cons, wt, size]; omega, by simp [depth], fun k => ⟨by simp [nok], tl k⟩⟩
      · split at h
        · cases h; exact ⟨by simp only [wts_cons, wt, size]; omega, by simp [depth], fun k => ⟨by simp [nok], tl k⟩⟩
        · split at h
          · cases h; exact ⟨by simp only [wts_cons, wt, size]; omega, by simp [depth], fun k => ⟨by simp [nok], tl k⟩⟩
          · split at h <;> cases h
            exact ⟨by simp only [wts_cons, wt, size]; omega, by simp [depth], fun k => ⟨by simp [nok], tl k⟩⟩
      · split at h <;> cases h
        exact ⟨by simp only [wts_cons, wt, size, sizeL]; omega, by simp only [depth, depthL]; omega, fun k => ⟨by simp [nok, nokL], tl (tl k)⟩⟩
      · split at h
        · cases h
        · obtain ⟨x, hx, e⟩ := Option.map_eq_some_iff.mp h
          cases e
          obtain ⟨a, b, c⟩ := iL _ _ _ _ hx
          exact ⟨by simp only [wts_cons, wt, size]; omega, by simp only [depth]; omega, fun k => by simp only [nok]; exact c (tl k)⟩
      · split at h <;> cases h
        exact ⟨by simp only [wts_cons, wt, size, sizeR]; omega, by simp only [depth, depthR]; omega, fun k => ⟨by simp [nok, nokR], tl (tl k)⟩⟩
      · split at h
        · cases h
        · obtain ⟨x, hx, e⟩ := Option.map_eq_some_iff.mp h
          cases e
          obtain ⟨a, b, c⟩ := iR _ _ _ _ _ hx
          simp only [sizeR, depthR] at a b
          exact ⟨by simp only [wts_cons, wt, size]; omega, by simp only [depth]; omega, fun k => by simp only [nok]; exact c (tl k) (by simp [nokR])⟩
      · cases h
    · unfold readL at h
      split at h
      · next x r' hx =>
        obtain ⟨y, hy, e⟩ := Option.map_eq_some_iff.mp h
        cases e
        obtain ⟨a1, a2, a3⟩ := iV _ _ _ _ hx
        obtain ⟨b1, b2, b3⟩ := iL _ _ _ _ hy
        rw [wts_cons] at a1
        refine ⟨by simp only [sizeL]; omega, by simp only [depthL]; omega, fun k => ?_⟩
        obtain ⟨k1, k2⟩ := a3 k
        obtain ⟨k3, k4⟩ := b3 (tl k2)
        simp only [nokL]
        exact ⟨⟨k1, k3⟩, k4⟩
      · next x r' hx =>
        cases h
        obtain ⟨a1, a2, a3⟩ := iV _ _ _ _ hx
        rw [wts_cons] at a1
        refine ⟨by simp only [sizeL]; omega, by simp only [depthL]; omega, fun k => ?_⟩
        obtain ⟨k1, k2⟩ := a3 k
        simp only [nokL]
        exact ⟨⟨k1, trivial⟩, tl k2⟩
      · cases h
    · unfold readR at h
      split at h
      · next n r' =>
        split at h
        · next x c r2 hx =>
          obtain ⟨a1, a2, a3⟩ := iV _ _ _ _ hx
          rw [wts_cons] at a1
          split at h
          · cases h
          · next m hm =>
            obtain ⟨s1, s2⟩ := sizeR_insert hm
            have wc := wt_pos c
            have w58 : wt (.sign [58]) = 1 := rfl
            have wtx : wt (.text n) = n.length + 1 := rfl
            split at h
            · obtain ⟨b1, b2, b3⟩ := iR _ _ _ _ _ h
              refine ⟨by rw [wts_cons, wts_cons]; omega, by omega, fun k kl => ?_⟩
              obtain ⟨k1, k2⟩ := a3 (tl (tl k))
              exact b3 (tl k2) (nokR_insert hm k1 kl)
            · split at h <;> cases h
              refine ⟨by rw [wts_cons, wts_cons]; omega, by omega, fun k kl => ?_⟩
              obtain ⟨k1, k2⟩ := a3 (tl (tl k))
              exact ⟨nokR_insert hm k1 kl, tl k2⟩
        · cases h
      · cases h
theorem nokT_tokens : ∀ (n : Nat) (b : Bytes) (t : List Tok), b.length ≤ n → tokensOf b = some t → nokT t := by
  intro n
  induction n with
  | zero =>
    intro b t h e
    have : b = [] := List.eq_nil_of_length_eq_zero (by omega)
    subst this
    cases e
    intro n h
    cases h
  | succ n ih =>
    intro b t h e
    match b, h, e with
    | [], _, e => cases e; intro n h; cases h
    | c :: r, h, e =>
      have h' : r.length ≤ n := by simpa using h
      have key : ∀ (x : Tok) (q : Bytes), (∀ n, x = .num n → n < 9007199254740992) → q.length ≤ n → (tokensOf q).map (x :: ·) = some t → nokT t := by
        intro x q h1 h2 e
        obtain ⟨t', ht, rfl⟩ := Option.map_eq_some_iff.mp e
        have := ih q t' h2 ht
        intro m hm
        rcases List.mem_cons.mp hm with z | z
        · exact h1 m z.symm
        · exact this m z
      rw [tokensOf_cons] at e
      split at e
      · exact ih r t h' e
      · split at e
        · next hd =>
          dsimp only at e
          split at e
          · cases e
          · next hc =>
            have hp := takeWhile_pos (r := r) hd
            refine key _ _ ?_ ?_ e
            · intro m em
              cases em
              have : ¬ Kcs7.FAR ≤ (value ((c :: r).takeWhile digit) : Int) := fun z => hc (.inr (.inr (.inl z)))
              rw [value_far] at this
              omega
            · rw [List.length_drop, List.length_cons]; omega
        · split at e
          · obtain ⟨x, hx, e⟩ := Option.bind_eq_some_iff.mp e
            have := textAt_len _ r x (Nat.le_refl _) hx
            exact key _ _ (by intro m em; cases em) (by omega) e
          · split at e
            · next hl =>
              dsimp only at e
              split at e
              · cases e
              · have hp := takeWhile_pos (p := word) (r := r) (c := c) (by unfold word; rw [hl]; rfl)
                exact key _ _ (by intro m em; cases em) (by rw [List.length_drop, List.length_cons]; omega) e
            · split at e
              · dsimp only at e
                split at e
                · cases e
                · exact key _ _ (by intro m em; cases em) (by rw [List.length_drop]; omega) e
              · split at e
                · dsimp only at e
                  split at e
                  · cases e
                  · exact key _ _ (by intro m em; cases em) (by rw [List.length_drop]; omega) e
                · split at e
                  · exact key _ _ (by intro m em; cases em) (by rw [List.length_drop]; omega) e
                  · split at e
                    · exact key _ _ (by intro m em; cases em) h' e
                    · cases e
/-- **the program's reading is the document's** -/
theorem readM_is (b : Bytes) : readM b = Kcs7.valueOf b := by
  unfold readM Kcs7.valueOf
  have hV : Kcs7.VALUE = 4096 := rfl
  rw [hV]
  by_cases h : 4096 < b.length
  · rw [if_pos h, if_pos h]
  rw [if_neg h, if_neg h, run_goes _ _ _ (Nat.le_refl _)]
  unfold goesT Kcs7.read
  cases ht : tokensOf b with
  | none => rfl
  | some t =>
    show runT Rd.fresh t = _
    rw [(reads (2 * t.length + 2)).1 40 Rd.fresh t rfl (.inl rfl) rfl (by omega)]
    show _ = match readV (2 * t.length + 2) 40 t with
      | some (v, []) => if Kcs7.fits v then some v else none
      | _ => none
    cases hx : readV (2 * t.length + 2) 40 t with
    | none => rfl
    | some x =>
      obtain ⟨v, r⟩ := x
      obtain ⟨b1, b2, _⟩ := (bounds _).1 _ _ _ _ hx
      have b3 := wts_tokens _ b t (Nat.le_refl _) ht
      have hfit : Kcs7.fits v = true := by
        unfold Kcs7.fits Kcs7.SIZE Kcs7.DEEP
        simp only [Bool.and_eq_true, decide_eq_true_eq]
        omega
      match r with
      | [] =>
        show endR ⟨[], some v, 4, false⟩ = if Kcs7.fits v then some v else none
        rw [hfit]
        rfl
      | c :: r =>
        show runT ⟨[], some v, 4, false⟩ (c :: r) = none
        by_cases h45 : c = .sign [45]
        · subst h45
          match r with
          | .num n :: r => rfl
          | [] => exact runT_minus_none (by intro n q e; cases e)
          | .text _ :: _ => exact runT_minus_none (by intro n q e; cases e)
          | .name _ :: _ => exact runT_minus_none (by intro n q e; cases e)
          | .field _ :: _ => exact runT_minus_none (by intro n q e; cases e)
          | .var _ :: _ => exact runT_minus_none (by intro n q e; cases e)
          | .sign _ :: _ => exact runT_minus_none (by intro n q e; cases e)
        refine runT_cons_none ?_ h45
        match c with
        | .sign [c] =>
          unfold tokR
          simp
        | .sign [] => rfl
        | .sign (_ :: _ :: _) => rfl
        | .num _ => rfl
        | .text _ => rfl
        | .name _ => rfl
        | .field _ => rfl
        | .var _ => rfl
theorem readM_ok {b : Bytes} {v : V} (h : readM b = some v) : size v ≤ 4096 ∧ depth v ≤ 40 ∧ nok v := by
  rw [readM_is] at h
  unfold Kcs7.valueOf Kcs7.read at h
  split at h
  · cases h
  · cases ht : tokensOf b with
    | none => rw [ht] at h; cases h
    | some t =>
      rw [ht] at h
      dsimp only at h
      split at h
      · next w hx =>
        split at h
        · next hf =>
          cases h
          obtain ⟨_, _, b3⟩ := (bounds _).1 _ _ _ _ hx
          unfold Kcs7.fits Kcs7.SIZE Kcs7.DEEP at hf
          simp only [Bool.and_eq_true, decide_eq_true_eq] at hf
          exact ⟨hf.1, hf.2, (b3 (nokT_tokens _ b t (Nat.le_refl _) ht)).1⟩
        · cases h
      · cases h
end Vt

namespace Vt
open Kcs7 (Bytes V write writeL writeR quoted numOf digits size sizeL sizeR)

/-! ### what waits to be written -/
inductive Pc where
  | raw (l : Bytes)
  | val (v : V)
def Pc.wr : Pc → Bytes
  | .raw l => l
  | .val v => write v
def midL : List V → List Pc
  | [] => []
  | x :: r => .val x :: r.flatMap fun y => [.raw [44], .val y]
def piecesL (l : List V) : List Pc := .raw [91] :: midL l ++ [.raw [93]]
def fieldP (f : Bytes × V) : List Pc := [.val (.text f.1), .raw [58], .val f.2]
def midR : List (Bytes × V) → List Pc
  | [] => []
  | f :: r => fieldP f ++ r.flatMap fun g => .raw [44] :: fieldP g
def piecesR (l : List (Bytes × V)) : List Pc := .raw [123] :: midR l ++ [.raw [125]]
theorem midL_snoc (l : List V) (x : V) : midL (l ++ [x]) = midL l ++ ((if 0 < l.length then [.raw [44]] else []) ++ [.val x]) := by
  cases l with
  | nil => rfl
  | cons a r =>
    rw [if_pos (by simp)]
    show Pc.val a :: (r ++ [x]).flatMap _ = Pc.val a :: r.flatMap _ ++ _
    rw [List.flatMap_append]
    rfl
theorem midR_snoc (l : List (Bytes × V)) (f : Bytes × V) : midR (l ++ [f]) = midR l ++ ((if 0 < l.length then [.raw [44]] else []) ++ fieldP f) := by
  cases l with
  | nil =>
    show fieldP f ++ [] = _
    simp [midR]
  | cons a r =>
    rw [if_pos (by simp)]
    show fieldP a ++ (r ++ [f]).flatMap _ = fieldP a ++ r.flatMap _ ++ _
    rw [List.flatMap_append, List.append_assoc]
    rfl
def wrs (l : List Pc) : Bytes := l.flatMap Pc.wr
theorem wrs_app (l m : List Pc) : wrs (l ++ m) = wrs l ++ wrs m := List.flatMap_append
theorem wrs_midL : ∀ l : List V, wrs (midL l) = writeL l
  | [] => by simp [midL, wrs, writeL]
  | [x] => by simp [midL, wrs, Pc.wr, writeL]
  | x :: y :: l => by
    have ih := wrs_midL (y :: l)
    simp only [midL, wrs, List.flatMap_cons, Pc.wr] at ih ⊢
    simp only [writeL]
    rw [← ih]
    simp [Pc.wr]
theorem wrs_midR : ∀ l : List (Bytes × V), wrs (midR l) = writeR l
  | [] => by simp [midR, wrs, writeR]
  | [(n, x)] => by simp [midR, fieldP, wrs, Pc.wr, writeR, write]
  | (n, x) :: (m, y) :: l => by
    have ih := wrs_midR ((m, y) :: l)
    simp only [midR, fieldP, wrs, List.flatMap_cons, List.flatMap_append, Pc.wr] at ih ⊢
    simp only [writeR]
    rw [← ih]
    simp [Pc.wr, write]
theorem wrs_piecesL (l : List V) : wrs (piecesL l) = write (.list l) := by
  unfold piecesL
  rw [List.cons_append]
  show [91] ++ wrs (midL l ++ [.raw [93]]) = _
  rw [wrs_app, wrs_midL]
  simp [wrs, Pc.wr, write]
theorem wrs_piecesR (l : List (Bytes × V)) : wrs (piecesR l) = write (.record l) := by
  unfold piecesR
  rw [List.cons_append]
  show [123] ++ wrs (midR l ++ [.raw [125]]) = _
  rw [wrs_app, wrs_midR]
  simp [wrs, Pc.wr, write]
/-! how much is still to be done -/
mutual
def pw : V → Nat
  | .list l => 3 + pwL l
  | .record l => 3 + pwR l
  | _ => 1
def pwL : List V → Nat
  | [] => 0
  | x :: l => 1 + pw x + pwL l
def pwR : List (Bytes × V) → Nat
  | [] => 0
  | (_, x) :: l => 3 + pw x + pwR l
end
def Pc.w : Pc → Nat
  | .raw _ => 1
  | .val v => pw v
def pws (l : List Pc) : Nat := (l.map Pc.w).sum
theorem pws_app (l m : List Pc) : pws (l ++ m) = pws l + pws m := by simp [pws]
theorem pws_cons (x : Pc) (m : List Pc) : pws (x :: m) = x.w + pws m := by simp [pws]
theorem pws_rest : ∀ l : List V, pws (l.flatMap fun y => [.raw [44], .val y]) = pwL l
  | [] => rfl
  | x :: l => by
    rw [List.flatMap_cons, pws_app, pws_rest l]
    simp [pws, Pc.w, pwL]
theorem pws_midL : ∀ l : List V, pws (midL l) ≤ pwL l
  | [] => Nat.le_refl _
  | x :: l => by
    show pws (.val x :: _) ≤ _
    rw [pws_cons, pws_rest]
    simp [Pc.w, pwL]
theorem pws_restR : ∀ l : List (Bytes × V), pws (l.flatMap fun y => .raw [44] :: fieldP y) = pwR l
  | [] => rfl
  | (n, x) :: l => by
    rw [List.flatMap_cons, pws_app, pws_restR l]
    simp [pws, Pc.w, pwR, fieldP, pw]
    omega
theorem pws_midR : ∀ l : List (Bytes × V), pws (midR l) ≤ pwR l
  | [] => Nat.le_refl _
  | (n, x) :: l => by
    show pws (fieldP (n, x) ++ _) ≤ _
    rw [pws_app, pws_restR]
    simp [pws, Pc.w, pwR, fieldP, pw]
    omega
theorem pws_piecesL (l : List V) : pws (piecesL l) < pw (.list l) := by
  have := pws_midL l
  unfold piecesL
  rw [List.cons_append, pws_cons, pws_app]
  simp only [pw, pws, List.map_cons, List.map_nil, List.sum_cons, List.sum_nil, Pc.w] at this ⊢
  omega
theorem pws_piecesR (l : List (Bytes × V)) : pws (piecesR l) < pw (.record l) := by
  have := pws_midR l
  unfold piecesR
  rw [List.cons_append, pws_cons, pws_app]
  simp only [pw, pws, List.map_cons, List.map_nil, List.sum_cons, List.sum_nil, Pc.w] at this ⊢
  omega
theorem pw_pos (v : V) : 1 ≤ pw v := by cases v <;> simp only [pw] <;> omega
theorem w_pos (p : Pc) : 1 ≤ p.w := by
  cases p with
  | raw l => exact Nat.le_refl _
  | val v => exact pw_pos v
theorem len_pws : ∀ l : List Pc, l.length ≤ pws l
  | [] => Nat.le_refl _
  | p :: l => by
    have := len_pws l
    have := w_pos p
    rw [pws_cons, List.length_cons]
    omega
mutual
theorem pw_size : ∀ v : V, pw v + 3 ≤ 6 * size v
  | .null => by simp [pw, size]
  | .bool _ => by simp [pw, size]
  | .num _ => by simp [pw, size]
  | .text _ => by simp only [pw, size]; omega
  | .list l => by
    have := pwL_size l
    simp only [pw, size]
    omega
  | .record l => by
    have := pwR_size l
    simp only [pw, size]
    omega
theorem pwL_size : ∀ l : List V, pwL l ≤ 6 * sizeL l
  | [] => Nat.le_refl _
  | x :: l => by
    have := pw_size x
    have := pwL_size l
    simp only [pwL, sizeL]
    omega
theorem pwR_size : ∀ l : List (Bytes × V), pwR l ≤ 6 * sizeR l
  | [] => Nat.le_refl _
  | (n, x) :: l => by
    have := pw_size x
    have := pwR_size l
    simp only [pwR, sizeR]
    omega
end
/-! how long it gets -/
theorem digits_len {n : Nat} (h : n < 9007199254740992) : (digits n).length ≤ 16 := by
  unfold digits
  rw [List.length_map]
  have := (Nat.length_toDigits_le_iff (b := 10) (n := n) (k := 16) (by decide) (by decide)).mpr (by omega)
  exact this
theorem quoted_len (b : Bytes) : (quoted b).length ≤ 2 * b.length + 2 := by
  unfold quoted
  have : ∀ b : Bytes, (b.flatMap fun c => if c = 34 ∨ c = 92 then [92, c] else [c]).length ≤ 2 * b.length := by
    intro b
    induction b with
    | nil => simp
    | cons c b ih =>
      rw [List.flatMap_cons, List.length_append, List.length_cons]
      split <;> simp only [List.length_cons, List.length_nil] <;> omega
  have := this b
  simp only [List.cons_append, List.length_cons, List.length_append, List.length_nil]
  omega
mutual
theorem write_len : ∀ v : V, nok v → (write v).length + 4 ≤ 24 * size v
  | .null, _ => by simp [write, size]
  | .bool true, _ => by simp [write, size]
  | .bool false, _ => by simp [write, size]
  | .num n, h => by
    simp only [nok] at h
    have := digits_len h
    simp only [write, size, numOf]
    split <;> simp <;> omega
  | .text b, _ => by
    have := quoted_len b
    simp only [write, size]
    omega
  | .list l, h => by
    simp only [nok] at h
    have := writeL_len l h
    simp only [write, size, List.cons_append, List.length_cons, List.length_append, List.length_nil]
    omega
  | .record l, h => by
    simp only [nok] at h
    have := writeR_len l h
    simp only [write, size, List.cons_append, List.length_cons, List.length_append, List.length_nil]
    omega
theorem writeL_len : ∀ l : List V, nokL l → (writeL l).length ≤ 24 * sizeL l
  | [], _ => by simp [writeL]
  | [x], h => by
    simp only [nokL] at h
    have := write_len x h.1
    simp only [writeL, sizeL]
    omega
  | x :: y :: l, h => by
    simp only [nokL] at h
    have a := write_len x h.1
    have b := writeL_len (y :: l) h.2
    simp only [writeL, sizeL, List.length_append, List.length_cons] at b ⊢
    omega
theorem writeR_len : ∀ l : List (Bytes × V), nokR l → (writeR l).length ≤ 24 * sizeR l
  | [], _ => by simp [writeR]
  | [(n, x)], h => by
    simp only [nokR] at h
    have := write_len x h.1
    have := quoted_len n
    simp only [writeR, sizeR, List.length_append, List.length_cons]
    omega
  | (n, x) :: y :: l, h => by
    simp only [nokR] at h
    have a := write_len x h.1
    have b := writeR_len (y :: l) h.2
    have c := quoted_len n
    simp only [writeR, sizeR, List.length_append, List.length_cons] at b ⊢
    omega
end
end Vt

namespace Vt
open Kcs7 (Bytes V Tok blank digit letter word textAt value)
/-! ### what holds of the reading between two turns -/
def Opn.named : Opn → Prop
  | .lst _ => True
  | .rcd _ nm => nm ≠ none
def Opn.nd : Opn → Prop
  | .lst _ => True
  | .rcd fs _ => (fs.map Prod.fst).Nodup
def Opn.cnt : Opn → Nat
  | .lst l => l.length
  | .rcd fs _ => fs.length
structure Rd.Ok (s : Rd) : Prop where
  tail : ∀ o ∈ s.st.tail, o.named
  head : s.wanted = 0 → ∀ o S, s.st = o :: S → o.named
  colon : s.wanted = 2 → ∃ o S, s.st = o :: S ∧ o.named
  nd : ∀ o ∈ s.st, o.nd
  may : s.may = true → s.st ≠ []
  name : s.wanted = 1 → ∃ fs nm S, s.st = .rcd fs nm :: S
  comma : s.wanted = 3 → s.st ≠ []
  deep : s.st.length ≤ 40
  done : s.wanted = 4 → ∃ v, s.whole = some v
theorem Rd.Ok.fresh : Rd.fresh.Ok := ⟨fun o h => (nomatch h), fun _ o S h => (nomatch h), fun h => (nomatch h), fun o h => (nomatch h), fun h => (nomatch h), fun h => (nomatch h), fun h => (nomatch h), by decide, fun h => (nomatch h)⟩
theorem putB_nd {fs : List (Bytes × V)} {n : Bytes} {v : V} (h : (fs.map Prod.fst).Nodup) : ((putB fs n v).map Prod.fst).Nodup := by
  unfold putB
  by_cases e : n ∈ fs.map Prod.fst
  · rw [if_pos e, List.map_map]
    have : (Prod.fst ∘ fun f : Bytes × V => if f.1 = n then (f.1, v) else f) = Prod.fst := by
      funext f
      show (if f.1 = n then (f.1, v) else f).1 = f.1
      by_cases h : f.1 = n
      · rw [if_pos h]
      · rw [if_neg h]
    rw [this]
    exact h
  · rw [if_neg e, List.map_append, List.nodup_append]
    refine ⟨h, by simp, fun a ha b hb => ?_⟩
    have : b = n := by simpa using hb
    rw [this]
    intro z
    rw [z] at ha
    exact e ha
theorem putB_cnt {fs : List (Bytes × V)} {n : Bytes} {v : V} : (putB fs n v).length ≤ fs.length + 1 := by
  unfold putB
  by_cases e : n ∈ fs.map Prod.fst
  · rw [if_pos e, List.length_map]; omega
  · rw [if_neg e, List.length_append]; simp
theorem putV_nd {o : Opn} {v : V} (h : o.nd) : (o.putV v).nd := by
  cases o with
  | lst l => trivial
  | rcd fs nm => exact putB_nd h
theorem putV_named {o : Opn} {v : V} (h : o.named) : (o.putV v).named := by
  cases o with
  | lst l => trivial
  | rcd fs nm => exact h
theorem putV_cnt {o : Opn} {v : V} : (o.putV v).cnt ≤ o.cnt + 1 := by
  cases o with
  | lst l => show (l ++ [v]).length ≤ _; simp [Opn.cnt]
  | rcd fs nm => exact putB_cnt
/-- a value is taken -/
theorem Rd.Ok.takeV {s : Rd} (h : s.Ok) (hn : ∀ o S, s.st = o :: S → o.named) (v : V) : (s.takeV v).Ok := by
  obtain ⟨h1, h2, h3, h4, h5, h6, h7, h8, h9⟩ := h
  unfold Rd.takeV
  cases e : s.st with
  | nil => exact ⟨fun o h => (nomatch h), fun h => (nomatch h), fun h => (nomatch h), fun o h => (nomatch h), fun h => (nomatch h), fun h => (nomatch h), fun h => (nomatch h), by simp, fun _ => ⟨v, rfl⟩⟩
  | cons o S =>
    rw [e] at h1 h4 h8
    refine ⟨h1, fun h => (nomatch h), fun h => (nomatch h), ?_, fun _ z => (nomatch z), fun h => (nomatch h), fun _ z => (nomatch z), by simpa using h8, fun h => (nomatch h)⟩
    intro o' ho'
    rcases List.mem_cons.mp ho' with z | z
    · rw [z]; exact putV_nd (h4 o List.mem_cons_self)
    · exact h4 o' (List.mem_cons_of_mem _ z)
theorem stepR_ok {s s' : Rd} {r r' : Bytes} (h : s.Ok) (e : stepR s r = some (s', r')) : s'.Ok := by
  have h0 := h
  obtain ⟨h1, h2, h3, h4, h5, h6, h7, h8, h9⟩ := h
  unfold stepR at e
  split at e
  · next c =>
    cases e
    -- closed
    unfold Rd.close
    cases es : s.st with
    | nil => exact absurd es (h5 c.1)
    | cons o S =>
      rw [es] at h1 h4 h8
      have hS : ∀ o ∈ S, o.named := h1
      have base : Rd.Ok ⟨S, s.whole, 3, false⟩ ∨ S = [] := by
        cases S with
        | nil => exact .inr rfl
        | cons o2 S2 =>
          left
          exact ⟨fun o h => hS o (List.mem_of_mem_tail h), fun h => (nomatch h), fun h => (nomatch h), fun o h => h4 o (List.mem_cons_of_mem _ h), fun h => (nomatch h), fun h => (nomatch h), fun _ z => (nomatch z), by simp at h8 ⊢; omega, fun h => (nomatch h)⟩
      show (Rd.takeV ⟨S, s.whole, s.wanted, s.may⟩ o.val).Ok
      have et : Rd.takeV ⟨S, s.whole, s.wanted, s.may⟩ o.val = Rd.takeV ⟨S, s.whole, 3, false⟩ o.val := takeV_only ⟨S, s.whole, 3, false⟩ _ _ _
      rw [et]
      rcases base with b | b
      · refine b.takeV ?_ _
        intro o2 S2 e2
        have e3 : S = o2 :: S2 := e2
        exact hS o2 (by rw [e3]; exact List.mem_cons_self)
      · subst b
        exact ⟨fun o h => (nomatch h), fun h => (nomatch h), fun h => (nomatch h), fun o h => (nomatch h), fun h => (nomatch h), fun h => (nomatch h), fun h => (nomatch h), by simp [Rd.takeV], fun _ => ⟨_, rfl⟩⟩
  · split at e
    · next w0 =>
      have beg : ∀ isL, s.begin isL = some s' → s'.Ok := by
        intro isL e
        unfold Rd.begin at e
        split at e
        · cases e
        · next hl =>
          cases e
          refine ⟨?_, ?_, ?_, ?_, fun _ z => (nomatch z), ?_, fun _ z => (nomatch z), by simp; omega, fun hw => by cases isL <;> cases hw⟩
          · intro o ho
            have ho' : o ∈ s.st := ho
            cases es : s.st with
            | nil => rw [es] at ho'; cases ho'
            | cons o2 S2 =>
              rw [es] at ho'
              rcases List.mem_cons.mp ho' with z | z
              · rw [z]; exact h2 w0 o2 S2 es
              · exact h1 o (by rw [es]; exact z)
          · intro hw o S es
            have es' : Opn.fresh isL :: s.st = o :: S := es
            obtain ⟨e1, _⟩ := List.cons.inj es'
            rw [← e1]
            cases isL with
            | true => trivial
            | false => cases (show (1 : Nat) = 0 from hw)
          · intro hw
            cases isL with
            | true => cases (show (0 : Nat) = 2 from hw)
            | false => cases (show (1 : Nat) = 2 from hw)
          · intro o ho
            rcases List.mem_cons.mp ho with z | z
            · rw [z]
              cases isL with
              | true => trivial
              | false => exact List.nodup_nil
            · exact h4 o z
          · intro hw
            cases isL with
            | true => cases (show (0 : Nat) = 1 from hw)
            | false => exact ⟨[], none, s.st, rfl⟩
      split at e
      · obtain ⟨x, hx, e⟩ := Option.map_eq_some_iff.mp e
        cases e
        exact beg true hx
      · split at e
        · obtain ⟨x, hx, e⟩ := Option.map_eq_some_iff.mp e
          cases e
          exact beg false hx
        · obtain ⟨x, hx, e⟩ := Option.map_eq_some_iff.mp e
          cases e
          exact h0.takeV (fun o S es => h2 w0 o S es) _
    · split at e
      · obtain ⟨x, hx, e⟩ := Option.bind_eq_some_iff.mp e
        obtain ⟨y, hy, e⟩ := Option.map_eq_some_iff.mp e
        cases e
        unfold Rd.putN at hy
        split at hy
        · next fs nm S es =>
          split at hy
          · cases hy
          · cases hy
            rw [es] at h1 h4 h8
            refine ⟨h1, fun h => (nomatch h), fun _ => ⟨_, _, rfl, fun z => (nomatch z)⟩, ?_, fun _ z => (nomatch z), fun h => (nomatch h), fun h => (nomatch h), by simpa using h8, fun h => (nomatch h)⟩
            intro o ho
            rcases List.mem_cons.mp ho with z | z
            · rw [z]
              exact h4 (.rcd fs nm) List.mem_cons_self
            · exact h4 o (List.mem_cons_of_mem _ z)
        · cases hy
      · split at e
        · next w2 =>
          split at e
          · cases e
            obtain ⟨o, S, es, hn⟩ := h3 w2
            refine ⟨h1, fun _ o' S' es' => ?_, fun h => (nomatch h), h4, fun h => (nomatch h), fun h => (nomatch h), fun h => (nomatch h), h8, fun h => (nomatch h)⟩
            have es2 : s.st = o' :: S' := es'
            rw [es] at es2
            obtain ⟨e1, _⟩ := List.cons.inj es2
            rw [← e1]
            exact hn
          · cases e
        · split at e
          · next w3 =>
            split at e
            · cases e
              cases es : s.st with
              | nil => exact absurd es (h7 w3)
              | cons o S =>
                have hf : s.firstW = o.first := by unfold Rd.firstW; rw [es]
                rw [hf]
                rw [es] at h1 h4 h8
                refine ⟨h1, fun hw o' S' es' => ?_, fun hw => ?_, h4, fun h => (nomatch h), fun hw => ?_, fun hw => ?_, h8, fun hw => by cases o <;> cases hw⟩
                · obtain ⟨e1, _⟩ := List.cons.inj es'
                  rw [← e1]
                  cases o with
                  | lst l => trivial
                  | rcd fs nm => cases (show (1 : Nat) = 0 from hw)
                · cases o with
                  | lst l => cases (show (0 : Nat) = 2 from hw)
                  | rcd fs nm => cases (show (1 : Nat) = 2 from hw)
                · cases o with
                  | lst l => cases (show (0 : Nat) = 1 from hw)
                  | rcd fs nm => exact ⟨fs, nm, S, rfl⟩
                · exact fun z => (nomatch z)
            · cases e
          · cases e
/-! each turn takes a byte at least -/
theorem skipW_len {w r q : Bytes} (h : skipW w r = some q) (hw : 0 < w.length) : q.length < r.length := by
  have := congrArg List.length (skipW_iff.mp h)
  rw [List.length_append] at this
  omega
theorem amountR_len {r q : Bytes} {n : Nat} (h : amountR r = some (n, q)) : q.length < r.length := by
  unfold amountR at h
  dsimp only at h
  split at h
  · cases h
  · next c =>
    split at h
    · cases h
    · split at h
      · cases h
      · cases h
        have := takeWhile_le digit r
        rw [List.length_drop]
        omega
theorem textR_len {r : Bytes} {x : Bytes × Bytes} (hx : textR r = some x) : x.2.length < r.length := by
  unfold textR at hx
  by_cases h : r.head? = some 34
  · rw [if_pos h] at hx
    have := textAt_len _ _ x (Nat.le_refl _) hx
    rw [List.length_tail] at this
    omega
  · rw [if_neg h] at hx
    cases hx
theorem singleR_len {r q : Bytes} {v : V} (h : singleR r = some (v, q)) : q.length < r.length := by
  unfold singleR at h
  split at h
  · obtain ⟨x, hx, e⟩ := Option.map_eq_some_iff.mp h
    cases e
    exact textR_len hx
  · split at h
    · obtain ⟨x, hx, e⟩ := Option.map_eq_some_iff.mp h
      cases e
      exact skipW_len hx (by decide)
    · split at h
      · obtain ⟨x, hx, e⟩ := Option.map_eq_some_iff.mp h
        cases e
        exact skipW_len hx (by decide)
      · split at h
        · obtain ⟨x, hx, e⟩ := Option.map_eq_some_iff.mp h
          cases e
          exact skipW_len hx (by decide)
        · obtain ⟨x, hx, e⟩ := Option.map_eq_some_iff.mp h
          cases e
          unfold numberR at hx
          split at hx
          · cases ha : amountR (skipB r.tail) with
            | none => rw [ha] at hx; cases hx
            | some y =>
              obtain ⟨n, y⟩ := y
              rw [ha] at hx
              dsimp only at hx
              split at hx
              · cases hx
              · cases hx
                have a := amountR_len ha
                have b := skipB_len r.tail
                rw [List.length_tail] at b
                show y.length < r.length
                omega
          · obtain ⟨y, hy, e⟩ := Option.map_eq_some_iff.mp hx
            cases e
            exact amountR_len (n := y.1) hy
theorem stepR_len {s s' : Rd} {r r' : Bytes} (hr : r ≠ []) (e : stepR s r = some (s', r')) : r'.length < r.length ∧ ∀ N, r.length ≤ N → (∀ o ∈ s.st, o.cnt + r.length ≤ N) → ∀ o ∈ s'.st, o.cnt + r'.length ≤ N := by
  have ht : r.tail.length < r.length := by
    cases r with
    | nil => exact absurd rfl hr
    | cons c r => simp
  have up : ∀ (t : Rd) (v : V) (q : Bytes), q.length < r.length → ∀ N, (∀ o ∈ t.st, o.cnt + r.length ≤ N) → ∀ o ∈ (t.takeV v).st, o.cnt + q.length ≤ N := by
    intro t v q hq N hN o ho
    unfold Rd.takeV at ho
    cases es : t.st with
    | nil => rw [es] at ho; cases ho
    | cons o2 S =>
      rw [es] at ho hN
      rcases List.mem_cons.mp ho with z | z
      · rw [z]
        have := putV_cnt (o := o2) (v := v)
        have := hN o2 List.mem_cons_self
        omega
      · have := hN o (List.mem_cons_of_mem _ z)
        omega
  have same : ∀ q : Bytes, q.length < r.length → ∀ N, (∀ o ∈ s.st, o.cnt + r.length ≤ N) → ∀ o ∈ s.st, o.cnt + q.length ≤ N := fun q hq N hN o ho => by
    have := hN o ho
    omega
  have beg : ∀ isL t, s.begin isL = some t → ∀ N, r.length ≤ N → (∀ o ∈ s.st, o.cnt + r.length ≤ N) → ∀ o ∈ t.st, o.cnt + r.tail.length ≤ N := by
    intro isL t e N h0 hN
    unfold Rd.begin at e
    split at e
    · cases e
    · cases e
      intro o ho
      rcases List.mem_cons.mp ho with z | z
      · have : o.cnt = 0 := by
          rw [z]
          cases isL <;> rfl
        omega
      · exact same _ ht N hN o z
  unfold stepR at e
  split at e
  · cases e
    refine ⟨ht, fun N h0 hN => ?_⟩
    unfold Rd.close
    cases es : s.st with
    | nil =>
      intro o ho
      rw [es] at ho
      cases ho
    | cons o2 S =>
      rw [es] at hN
      exact up _ _ _ ht N fun o ho => hN o (List.mem_cons_of_mem _ ho)
  · split at e
    · split at e
      · obtain ⟨x, hx, e⟩ := Option.map_eq_some_iff.mp e
        cases e
        exact ⟨ht, beg true _ hx⟩
      · split at e
        · obtain ⟨x, hx, e⟩ := Option.map_eq_some_iff.mp e
          cases e
          exact ⟨ht, beg false _ hx⟩
        · obtain ⟨x, hx, e⟩ := Option.map_eq_some_iff.mp e
          cases e
          have hl := singleR_len (v := x.1) hx
          exact ⟨hl, fun N h0 hN => up s x.1 x.2 hl N hN⟩
    · split at e
      · obtain ⟨x, hx, e⟩ := Option.bind_eq_some_iff.mp e
        obtain ⟨y, hy, e⟩ := Option.map_eq_some_iff.mp e
        cases e
        have hl : x.2.length < r.length := textR_len hx
        refine ⟨hl, fun N h0 hN => ?_⟩
        unfold Rd.putN at hy
        split at hy
        · next fs nm S es =>
          split at hy
          · cases hy
          · cases hy
            rw [es] at hN
            intro o ho
            rcases List.mem_cons.mp ho with z | z
            · have := hN _ List.mem_cons_self
              have e2 : o.cnt = Opn.cnt (.rcd fs nm) := by rw [z]; rfl
              omega
            · have := hN o (List.mem_cons_of_mem _ z)
              omega
        · cases hy
      · split at e
        · split at e
          · cases e
            exact ⟨ht, fun N h0 hN => same _ ht N hN⟩
          · cases e
        · split at e
          · split at e
            · cases e
              exact ⟨ht, fun N h0 hN => same _ ht N hN⟩
            · cases e
          · cases e
end Vt

/-! ### the text, its defs -/
namespace Vt
open PySem PySem.Spec PyProof.Rows L2
def top (i : Nat) : Stmt := PySem.Challenge.pw_valuetwigs_s03_differ.main.body.getD i (.Pass ⟨0, 0, 0, 0⟩)
abbrev sBytesOf : Stmt := top 9
abbrev sMakeWord : Stmt := top 10
abbrev sMakeNumber : Stmt := top 11
abbrev sMakeText : Stmt := top 12
abbrev sMakeList : Stmt := top 13
abbrev sMakeRecord : Stmt := top 14
abbrev sFieldOf : Stmt := top 16
abbrev sHInit : Stmt := inClass (top 18) 0
abbrev sNameOf : Stmt := top 19
abbrev sChangeValue : Stmt := top 20
abbrev sCInit : Stmt := inClass (top 38) 0
abbrev sAtEnd : Stmt := inClass (top 38) 1
abbrev sSign : Stmt := inClass (top 38) 2
abbrev sSignBehind : Stmt := inClass (top 38) 3
abbrev sStep : Stmt := inClass (top 38) 4
abbrev sSkipBlanks : Stmt := top 39
abbrev sSkipWord : Stmt := top 40
abbrev sIsDigit : Stmt := top 41
abbrev sReadDigits : Stmt := top 42
abbrev sReadAmount : Stmt := top 43
abbrev sReadNumber : Stmt := top 44
abbrev sReadTextByte : Stmt := top 45
abbrev sReadText : Stmt := top 46
abbrev sMInit : Stmt := inClass (top 48) 0
abbrev sBothAre : Stmt := inClass (top 48) 1
abbrev sDeeper : Stmt := inClass (top 48) 2
abbrev sComparedFields : Stmt := top 49
abbrev sComparedPlaces : Stmt := top 50
abbrev sChangesBetween : Stmt := top 51
abbrev sOInit : Stmt := inClass (top 59) 0
abbrev sEndSign : Stmt := inClass (top 59) 1
abbrev sFirstWanted : Stmt := inClass (top 59) 2
abbrev sPutName : Stmt := inClass (top 59) 3
abbrev sPutValue : Stmt := inClass (top 59) 4
abbrev sAsValue : Stmt := inClass (top 59) 5
abbrev sRInit : Stmt := inClass (top 60) 0
abbrev sInnermost : Stmt := inClass (top 60) 1
abbrev sNowWant : Stmt := inClass (top 60) 2
abbrev sBegin : Stmt := inClass (top 60) 3
abbrev sTakeValue : Stmt := inClass (top 60) 4
abbrev sCloseInnermost : Stmt := inClass (top 60) 5
abbrev sReadSingle : Stmt := top 61
abbrev sReadIntoValue : Stmt := top 62
abbrev sReadName : Stmt := top 63
abbrev sReadBetween : Stmt := top 64
abbrev sReadNext : Stmt := top 65
abbrev sReadValue : Stmt := top 66
abbrev sWrittenText : Stmt := top 69
abbrev sPiecesOfList : Stmt := top 70
abbrev sPiecesOfRecord : Stmt := top 71
abbrev sWrittenSingle : Stmt := top 72
abbrev sWritten : Stmt := top 73
abbrev sAnswered : Stmt := top 79
abbrev sDiffer : Stmt := top 80
end Vt

/-! ### the text, its constants, its defs -/
namespace Vt
open PySem PySem.Spec PyProof.Rows L2
open PySem.W (Frag)
open Kcs7 (Bytes)

/-- a constant of the module -/
def GC (mg : Str → Option Value) (x : Str) (v : V) : Prop := ∃ u, mg x = some u ∧ RelV v u
theorem pe_const {X : Cx} {x : Str} {v : V} {pos : Pos} (h : GC X.mg x v) (hg : Gl X x := by rfl) (hd : (x == ("__debug__" : Str)) = false := by decide) : PE X (.Name x pos) (tC v) := by
  obtain ⟨u, a, b⟩ := h
  exact pe_glob hg a b hd
/-- a tuple that the top has written -/
def TupK (K : Frag) (a : Addr) (xs : List V) : Prop := ∃ (o : Obj) (its : Array Value) (n : Nat), K.lookup a = some o ∧ o.cls = .type "tuple" ∧ o.data = .seq its n ∧ its.size ≤ sizeLine ∧ Vals xs its.toList
theorem TupK.sq {K : Frag} {a : Addr} {xs : List V} (h : TupK K a xs) (H : Hp) : SqT K H a xs := .inr h

/-- what the top has written, but for the defs -/
structure Tx (K : Frag) (mg : Str → Option Value) (CC CO CR CN bB bW : Addr) : Prop where
  gNUMBER : GC mg "NUMBER" (.int 3)
  gTEXT : GC mg "TEXT" (.int 4)
  gLIST : GC mg "LIST" (.int 5)
  gRECORD : GC mg "RECORD" (.int 6)
  gWORDS : GC mg "WORDS" (.ref bW)
  tWORDS : TupK K bW [.str "null", .str "false", .str "true"]
  gBLANKS : GC mg "BLANKS" (.ref bB)
  tBLANKS : TupK K bB [.int 32, .int 9, .int 10, .int 13]
  gQUOTE : GC mg "QUOTE" (.int 34)
  gCOMMA : GC mg "COMMA" (.int 44)
  gMINUS : GC mg "MINUS" (.int 45)
  gDIGIT_ZERO : GC mg "DIGIT_ZERO" (.int 48)
  gDIGIT_NINE : GC mg "DIGIT_NINE" (.int 57)
  gCOLON : GC mg "COLON" (.int 58)
  gLIST_START : GC mg "LIST_START" (.int 91)
  gBACKSLASH : GC mg "BACKSLASH" (.int 92)
  gLIST_END : GC mg "LIST_END" (.int 93)
  gRECORD_START : GC mg "RECORD_START" (.int 123)
  gRECORD_END : GC mg "RECORD_END" (.int 125)
  gLOWEST : GC mg "LOWEST_IN_TEXTS" (.int 32)
  gHIGHEST : GC mg "HIGHEST_IN_TEXTS" (.int 126)
  gMOST_DIGITS : GC mg "MOST_DIGITS" (.int 16)
  gTOO_LARGE : GC mg "TOO_LARGE_AMOUNT" (.int 9007199254740992)
  gMOST_BYTES : GC mg "MOST_BYTES" (.int 4096)
  gMOST_DEPTH : GC mg "MOST_DEPTH" (.int 40)
  gWANTS_VALUE : GC mg "WANTS_VALUE" (.int 0)
  gWANTS_NAME : GC mg "WANTS_NAME" (.int 1)
  gWANTS_COLON : GC mg "WANTS_COLON" (.int 2)
  gWANTS_COMMA : GC mg "WANTS_COMMA" (.int 3)
  gWANTS_NOTHING : GC mg "WANTS_NOTHING" (.int 4)
  gAS_IT_IS : GC mg "AS_IT_IS" (.int 7)
  gNO1 : GC mg "NO_FIRST_VALUE" (.int (-2))
  len : mg "len" = none
  ord : mg "ord" = none
  tup : mg "tuple" = none
  lst : mg "list" = none
  str : mg "str" = none
  srt : mg "sorted" = none
  enm : mg "enumerate" = none
  rev : mg "reversed" = none
  sm : mg "sum" = none
  mx : mg "max" = none
  cC : Cls K CC
  nRow : NoAttr K CC "row"
  nPlace : NoAttr K CC "place"
  cO : Cls K CO
  nKind : NoAttr K CO "kind"
  nListed : NoAttr K CO "listed"
  nFields : NoAttr K CO "fields"
  nName : NoAttr K CO "name"
  cR : Cls K CR
  nOpened : NoAttr K CR "opened"
  nWhole : NoAttr K CR "whole"
  nWanted : NoAttr K CR "wanted"
  nMay : NoAttr K CR "may_close"
  gCC : mg "Cursor" = some (.ref CC)
  gCO : mg "Opened" = some (.ref CO)
  gCR : mg "Reading" = some (.ref CR)
  gCN : mg "NoValue" = some (.ref CN)
  xN : PySem.W.excIn K CN [.type "Exception", .type "BaseException", .type "object"] "Exception.__new__" = true
  kN : PySem.W.keepIn K (.ref CN) = true
  bN : PySem.W.subIn K (.ref CN) (.type "BaseException") = some true
  tN : PySem.W.typeIn K (.ref CN) = some (.type "type")
  eN : PySem.W.exmOne K (.ref CN) (.ref CN) = some true

/-- a def that keeps its promise, as it is called by its name -/
structure DefOk (P : Program) (w : World) (K : Frag) (mg : Str → Option Value) (base : Heap) (C : CXT) (k : Nat) (x : Str) (ps : List Str) (sp : Sp) : Prop where
  ex : ∃ (f : Addr) (fd : FuncData), mg x = some (.ref f) ∧ PySem.W.keepIn K (.ref f) = true ∧ Binds K fd ps [] ∧ FnOk P w K mg base C k f fd ps sp
/-- a method that keeps its promise -/
structure MetOk (P : Program) (w : World) (K : Frag) (mg : Str → Option Value) (base : Heap) (C : CXT) (k : Nat) (cl : Addr) (x : Str) (ps : List Str) (sp : Sp) : Prop where
  ex : ∃ (f : Addr) (fd : FuncData), Meth K cl x f ∧ Binds K fd ps [] ∧ FnOk P w K mg base C k f fd ps sp
section
variable {X : Cx} {C : CXT} {k : Nat} {x : Str} {ps : List Str} {sp : Sp} {E : XK} {e : Expr} {es : List Expr} {t : TA} {p pos : Pos}
theorem pe_def (D : DefOk X.prog X.w X.K X.mg X.base C k x ps sp) (hr : Room k X.A) (hx : Passes C X E) (ha : PA X (e :: es) t) (hg : Gl X x := by rfl)
    (hdb : (x == ("__debug__" : Str)) = false := by decide) (he : starEach (e :: es) X.env = (false, eval e X.env) :: starEach es X.env := by rfl) (hpl : (backTo pos (starEach es X.env)).any (·.1) = false := by rfl) :
    PE X (.Call (.Name x p) (e :: es) [] pos) (tCall sp [] E t) := by
  obtain ⟨f, fd, gm, kp, b, F⟩ := D.ex
  exact pe_call F hr hg gm kp b .nil hx ha hdb he hpl
theorem pe_met {cl : Addr} {o : Expr} {apos : Pos} {pl : Sem Bool} {ta : TE} (D : MetOk X.prog X.w X.K X.mg X.base C k cl x ps sp) (c : Cls X.K cl) (hr : Room k X.A) (hx : Passes C X E) (ho : PE X o ta) (ha : PA X (e :: es) t)
    (hst : starEach (e :: es) X.env = (false, eval e X.env) :: starEach es X.env := by rfl) (hpl : (backTo pos (starEach es X.env)).any (·.1) = false := by rfl)
    (ht : eval (.Call (.Attribute o x apos) (e :: es) [] pos) X.env = (do
      let ov ← eval o X.env
      standAt apos.atName
      let (f, first) ← holding [ov] (getMethod ov x pl)
      callWith pos f first (backTo pos (starEach (e :: es) X.env)) (backToKw pos (keywordEach [] X.env))) := by rfl) :
    PE X (.Call (.Attribute o x apos) (e :: es) [] pos) (tMeth cl x sp [] E ta t) := by
  obtain ⟨f, fd, m, b, F⟩ := D.ex
  exact pe_meth ho c m F hr b .nil hx ha hst hpl ht
theorem pe_met0 {cl : Addr} {o : Expr} {apos : Pos} {pl : Sem Bool} {ta : TE} (D : MetOk X.prog X.w X.K X.mg X.base C k cl x ps sp) (c : Cls X.K cl) (hr : Room k X.A) (hx : Passes C X E) (ho : PE X o ta)
    (ht : eval (.Call (.Attribute o x apos) [] [] pos) X.env = (do
      let ov ← eval o X.env
      standAt apos.atName
      let (f, first) ← holding [ov] (getMethod ov x pl)
      callWith pos f first (backTo pos (starEach [] X.env)) (backToKw pos (keywordEach [] X.env))) := by rfl) :
    PE X (.Call (.Attribute o x apos) [] [] pos) (tMeth cl x sp [] E ta tNil) := by
  obtain ⟨f, fd, m, b, F⟩ := D.ex
  exact pe_meth0 ho c m F hr b .nil hx ht
end
/-- an if whose test is known -/
theorem if_t {c : Bool} {A B : Prop} (hc : c = true) (h : A) : if c = true then A else B := by
  rw [if_pos hc]
  exact h
theorem if_f {c : Bool} {A B : Prop} (hc : c = false) (h : B) : if c = true then A else B := by
  rw [hc, if_neg Bool.false_ne_true]
  exact h

/-! ### the cursor -/
/-- the cursor's object: the row's list at a, the place p -/
abbrev cuO (CC dx a : Addr) (p : Nat) : HO := .ins CC dx [("row", .ref a), ("place", .int (p : Nat))]
/-- of the row b what is left behind the place is r -/
structure CuAt (K : Frag) (CC : Addr) (H : Hp) (c a : Addr) (b : Bytes) (r : Bytes) : Prop where
  ex : ∃ dx p, H c = some (cuO CC dx a p) ∧ p ≤ b.length ∧ b.drop p = r
  row : SqL K H a (b.map fun z => V.int (z : Nat))
/-- all but the object at c as it was -/
def But (c : Addr) (H H' : Hp) : Prop := ∀ d o, H d = some o → d ≠ c → H' d = some o
theorem But.refl {c : Addr} {H : Hp} : But c H H := fun _ _ h _ => h
theorem But.trans {c : Addr} {H H1 H2 : Hp} (a : But c H H1) (b : But c H1 H2) : But c H H2 := fun d o h n => b d o (a d o h n) n
theorem But.upd {c : Addr} {H : Hp} {o : HO} : But c H (upd H c o) := fun d u h n => by rw [upd_ne n]; exact h
theorem But.new {c p : Addr} {H : Hp} {o : HO} (hp : H p = none) : But c H (L2.upd H p o) := fun d u h n => by rw [upd_ne (ne_of_none h hp)]; exact h
theorem Same.but {c : Addr} {H H' : Hp} (s : Same H H') : But c H H' := fun d o h _ => s d o h
/-- the sign ahead, -1 at the end -/
def sgn : Bytes → Int
  | [] => -1
  | c :: _ => (c : Int)

def spAtEnd (K : Frag) (CC : Addr) : Sp := fun vs H Q _ => ∃ c a b r, vs = [.ref c] ∧ CuAt K CC H c a b r ∧ b.length ≤ 5000 ∧ Q (.bl (decide (r = []))) H
def spSign (K : Frag) (CC : Addr) : Sp := fun vs H Q _ => ∃ c a b r, vs = [.ref c] ∧ CuAt K CC H c a b r ∧ b.length ≤ 5000 ∧ Q (.int (sgn r)) H
def spStep (K : Frag) (CC : Addr) : Sp := fun vs H Q _ => ∃ c a b r, vs = [.ref c] ∧ CuAt K CC H c a b r ∧ r ≠ [] ∧ ∀ H', CuAt K CC H' c a b r.tail → But c H H' → Q .non H'
def spCInit (CC : Addr) : Sp := fun vs H Q _ => ∃ x dx a, vs = [.ref x, .ref a] ∧ H x = some (.ins CC dx []) ∧ Q .non (upd H x (cuO CC dx a 0))

theorem lk_here {k : Str} {v : V} {r : List (Str × V)} : List.lookup k ((k, v) :: r) = some v := by
  have e : (k == k) = true := beq_self_eq_true k
  simp only [List.lookup, e]
theorem lk_past {k g : Str} {v : V} {r : List (Str × V)} (h : (k == g) = false) : List.lookup k ((g, v) :: r) = List.lookup k r := by
  simp only [List.lookup, h]
theorem put_here {f : Str} {v x : V} {r : List (Str × V)} : putF f v ((f, x) :: r) = (f, v) :: r := if_pos rfl
theorem put_past {f g : Str} {v x : V} {r : List (Str × V)} (h : ¬ g = f) : putF f v ((g, x) :: r) = (g, x) :: putF f v r := if_neg h

section
variable {P : Program} {w : World} {K : Frag} {mg : Str → Option Value} {base : Heap} {CC CO CR CN bB bW : Addr}
theorem cu_row {v w : V} : List.lookup ("row" : Str) [("row", v), ("place", w)] = some v := lk_here
theorem cu_place {v w : V} : List.lookup ("place" : Str) [("row", v), ("place", w)] = some w := (lk_past (by decide +kernel)).trans lk_here

theorem scCInit : FnScope ["self", "row"] ["self", "row"] (defScope sCInit) := ⟨rfl, rfl, rfl, by decide +kernel, rfl, by decide +kernel, by decide +kernel⟩
theorem ok_cinit {f : Addr} {fd : FuncData} (F : Fun K "__init__" "Cursor.__init__" sCInit f fd) (T : Tx K mg CC CO CR CN bB bW) : FnOk P w K mg base CX0 1 f fd ["self", "row"] (spCInit CC) := by
  refine F.ok scCInit (fun vs H Q E h => ?_) (fun cdv A outer s H vs Q E hr h => ?_)
  · obtain ⟨_, _, _, rfl, _⟩ := h
    rfl
  · obtain ⟨x, dx, a, rfl, hx, q⟩ := h
    refine ⟨_, pss_cons (ps_fld (pv 0) (pv 1) rfl) (pss_one (ps_fld (pv 0) pe_int rfl)), ?_⟩
    refine ⟨_, rfl, _, rfl, x, CC, dx, [], rfl, hx, T.cC, T.nRow, (by show 0 < 1000; decide), ?_⟩
    refine ⟨_, rfl, x, CC, dx, _, rfl, upd_same, T.cC, T.nPlace, (by show 1 < 1000; decide), ?_⟩
    rw [upd_upd]
    have e : putF "place" (.int 0) (putF "row" (.ref a) []) = [(("row" : Str), V.ref a), (("place" : Str), V.int (0 : Nat))] := (put_past (by decide +kernel)).trans rfl
    rw [e]
    exact q
theorem scAtEnd : FnScope ["self"] ["self"] (defScope sAtEnd) := ⟨rfl, rfl, rfl, by decide +kernel, rfl, by decide +kernel, by decide +kernel⟩
theorem ok_atEnd {f : Addr} {fd : FuncData} (F : Fun K "at_end" "Cursor.at_end" sAtEnd f fd) (T : Tx K mg CC CO CR CN bB bW) : FnOk P w K mg base CX0 1 f fd ["self"] (spAtEnd K CC) := by
  refine F.ok scAtEnd (fun vs H Q E h => ?_) (fun cdv A outer s H vs Q E hr h => ?_)
  · obtain ⟨_, _, _, _, rfl, _⟩ := h
    rfl
  · obtain ⟨c, a, b, r, rfl, ⟨⟨dx, p, hc, hp, hr'⟩, hrow⟩, hl, q⟩ := h
    refine ⟨_, pss_one (ps_ret (pe_cmpR op_ge (pe_fld (pv 0) rfl) (pe_callB call_len_seq (by rfl) T.len PySem.boot_len (pa_cons (pe_fld (pv 0) rfl) pa_nil)) (nomark _))), ?_⟩
    refine ⟨_, rfl, c, CC, dx, _, _, rfl, hc, T.cC, T.nPlace, cu_place, ?_⟩
    refine ⟨_, rfl, c, CC, dx, _, _, rfl, hc, T.cC, T.nRow, cu_row, ?_⟩
    refine ⟨a, _, rfl, .inl hrow, ?_⟩
    refine ⟨_, _, rfl, rfl, ?_⟩
    have e : decide (((b.map fun z => V.int (z : Nat)).length : Int) ≤ (p : Nat)) = decide (r = []) := by
      rw [List.length_map, ← hr']
      by_cases h : b.length ≤ p
      · have h1 : b.drop p = [] := List.drop_eq_nil_of_le h
        rw [decide_eq_true (by omega), decide_eq_true h1]
      · have h1 : b.drop p ≠ [] := by
          intro z
          have := congrArg List.length z
          rw [List.length_drop] at this
          simp at this
          omega
        rw [decide_eq_false (by omega), decide_eq_false h1]
    first
      | (rw [e]; exact q)
      | (show Q (.bl (decide (((b.map fun z => V.int (z : Nat)).length : Int) ≤ (p : Nat)))) H; rw [e]; exact q)
end
end Vt

namespace Vt
open PySem PySem.Spec PyProof.Rows L2
open PySem.W (Frag)
open Kcs7 (Bytes)
section
variable {P : Program} {w : World} {K : Frag} {mg : Str → Option Value} {base : Heap} {CC CO CR CN bB bW : Addr}
theorem scSign : FnScope ["self"] ["self"] (defScope sSign) := ⟨rfl, rfl, rfl, by decide +kernel, rfl, by decide +kernel, by decide +kernel⟩
theorem sgn_cons {b : Bytes} {p : Nat} {c : Nat} {q : Bytes} (h : b.drop p = c :: q) : b[p]? = some c := by
  have := congrArg (fun l => l[0]?) h
  simpa using this
theorem ok_sign {f : Addr} {fd : FuncData} (F : Fun K "sign" "Cursor.sign" sSign f fd) (T : Tx K mg CC CO CR CN bB bW) (mE : MetOk P w K mg base CX0 1 CC "at_end" ["self"] (spAtEnd K CC)) : FnOk P w K mg base CX0 2 f fd ["self"] (spSign K CC) := by
  refine F.ok scSign (fun vs H Q E h => ?_) (fun cdv A outer s H vs Q E hr h => ?_)
  · obtain ⟨_, _, _, _, rfl, _⟩ := h
    rfl
  · obtain ⟨c, a, b, r, rfl, cu, hl, q⟩ := h
    refine ⟨_, pss_one (ps_ret (pe_ifExp (pt_val (pe_met0 mE T.cC hr pass0 (pv 0))) (pe_un un_neg pe_int) (pe_ix ix_list (pe_fld (pv 0) rfl) (pe_fld (pv 0) rfl) (fun _ _ => rfl)))), ?_⟩
    obtain ⟨dx, p, hc, hp, e⟩ := cu.ex
    refine ⟨_, rfl, c, dx, _, rfl, hc, (lk_past (by decide +kernel)).trans ((lk_past (by decide +kernel)).trans rfl), c, a, b, r, rfl, cu, hl, _, rfl, ?_⟩
    cases r with
    | nil =>
      refine if_t (by rfl) ?_
      exact ⟨_, rfl, q⟩
    | cons z r =>
      refine if_f (by rfl) ?_
      refine ⟨_, rfl, c, CC, dx, _, _, rfl, hc, T.cC, T.nRow, cu_row, _, rfl, c, CC, dx, _, _, rfl, hc, T.cC, T.nPlace, cu_place, ?_⟩
      have h1 := sgn_cons e
      have h2 : p < b.length := (List.getElem?_eq_some_iff.mp h1).1
      exact ⟨a, _, _, _, rfl, rfl, cu.row, atI_nat (by rw [List.getElem?_map, h1]; rfl), q⟩
theorem scStep : FnScope ["self"] ["self"] (defScope sStep) := ⟨rfl, rfl, rfl, by decide +kernel, rfl, by decide +kernel, by decide +kernel⟩
theorem cu_put {a : Addr} {p : Nat} : putF "place" (.int ((p : Nat) + 1)) [(("row" : Str), V.ref a), (("place" : Str), V.int (p : Nat))] = [(("row" : Str), V.ref a), (("place" : Str), V.int ((p + 1 : Nat)))] := (put_past (by decide +kernel)).trans (congrArg _ put_here)
theorem Rd.but {K : Frag} {c a : Addr} {H H' : Hp} {xs : List V} {o : HO} (h : SqL K H a xs) (hb : But c H H') (hc : H c = some o) (hno : (∀ ys, o ≠ .lst ys) ∧ ∀ u ys, o ≠ .frz u ys) : SqL K H' a xs := by
  rcases h with (h | ⟨u, h⟩) | h
  · exact .inl (.inl (hb _ _ h (ne_of h hc (Ne.symm (hno.1 _)))))
  · exact .inl (.inr ⟨u, hb _ _ h (ne_of h hc (Ne.symm (hno.2 _ _)))⟩)
  · exact .inr h
theorem ok_step {f : Addr} {fd : FuncData} (F : Fun K "step" "Cursor.step" sStep f fd) (T : Tx K mg CC CO CR CN bB bW) : FnOk P w K mg base CX0 1 f fd ["self"] (spStep K CC) := by
  refine F.ok scStep (fun vs H Q E h => ?_) (fun cdv A outer s H vs Q E hr h => ?_)
  · obtain ⟨_, _, _, _, rfl, _⟩ := h
    rfl
  · obtain ⟨c, a, b, r, rfl, cu, hne, q⟩ := h
    obtain ⟨dx, p, hc, hp, e⟩ := cu.ex
    refine ⟨_, pss_one (ps_fldaug (pv 0) pe_int in_add), ?_⟩
    refine ⟨_, rfl, c, CC, dx, _, _, rfl, hc, T.cC, T.nPlace, cu_place, _, _, rfl, rfl, dx, _, hc, (by show 2 < 1000; decide), ?_⟩
    refine q _ ⟨⟨dx, p + 1, by rw [cu_put]; exact upd_same, ?_, ?_⟩, ?_⟩ But.upd
    · have : p < b.length := by
        refine Nat.lt_of_not_le fun h => hne ?_
        rw [← e]
        exact List.drop_eq_nil_of_le h
      omega
    · rw [← e, List.tail_drop]
    · exact Rd.but cu.row But.upd hc ⟨fun _ z => (nomatch z), fun _ _ z => (nomatch z)⟩
/-! skip_blanks -/
def spSkipBlanks (K : Frag) (CC : Addr) : Sp := fun vs H Q _ => ∃ c a b r, vs = [.ref c] ∧ CuAt K CC H c a b r ∧ b.length ≤ 5000 ∧ ∀ H', CuAt K CC H' c a b (skipB r) → But c H H' → Q .non H'
theorem scSkipBlanks : FnScope ["cursor"] ["cursor"] (defScope sSkipBlanks) := ⟨rfl, rfl, rfl, by decide +kernel, rfl, by decide +kernel, by decide +kernel⟩
theorem inV_blank (z : Nat) : inV (.int (z : Nat)) [.int 32, .int 9, .int 10, .int 13] = Kcs7.blank z := by
  unfold inV Kcs7.blank
  simp only [List.any_cons, List.any_nil, Bool.or_false]
  have k : ∀ m : Nat, eqV (.int (m : Nat)) (.int (z : Nat)) = (z == m) := fun m => by
    show ((m : Int) == (z : Int)) = _
    by_cases h : z = m
    · subst h; simp
    · rw [beq_eq_false_iff_ne.mpr h, beq_eq_false_iff_ne]
      omega
  have k32 := k 32
  have k9 := k 9
  have k10 := k 10
  have k13 := k 13
  rw [show eqV (.int 32) (.int (z : Nat)) = _ from k32, show eqV (.int 9) (.int (z : Nat)) = _ from k9, show eqV (.int 10) (.int (z : Nat)) = _ from k10, show eqV (.int 13) (.int (z : Nat)) = _ from k13]
  simp only [Bool.or_assoc]
theorem ok_skipBlanks {f : Addr} {fd : FuncData} (F : Fun K "skip_blanks" "skip_blanks" sSkipBlanks f fd) (T : Tx K mg CC CO CR CN bB bW) (mS : MetOk P w K mg base CX0 2 CC "sign" ["self"] (spSign K CC)) (mT : MetOk P w K mg base CX0 1 CC "step" ["self"] (spStep K CC)) :
    FnOk P w K mg base CX0 3 f fd ["cursor"] (spSkipBlanks K CC) := by
  refine F.ok scSkipBlanks (fun vs H Q E h => ?_) (fun cdv A outer s H vs Q E hr h => ?_)
  · obtain ⟨_, _, _, _, rfl, _⟩ := h
    rfl
  · obtain ⟨c, a, b, r, rfl, cu, hl, q⟩ := h
    have hr1 : Room 1 _ := hr.mono (by decide)
    refine ⟨_, pss_one (ps_while PassesOwn.never (pt_cmpR op_in_seq (pe_met0 mS T.cC hr pass0 (pv 0)) (pe_const T.gBLANKS) (by rfl)) (pss_one (ps_expr (pe_met0 mT T.cC hr1 pass0 (pv 0))))), ?_⟩
    refine ⟨fun m σ H' => ∃ r', m = r'.length ∧ σ = [some (.ref c)] ∧ CuAt K CC H' c a b r' ∧ skipB r' = skipB r ∧ But c H H', ⟨_, r, rfl, rfl, cu, rfl, But.refl⟩, ?_⟩
    rintro m σ H1 ⟨r', rfl, rfl, cu1, e1, b1⟩
    obtain ⟨dx, p, hc, hp, e⟩ := cu1.ex
    refine ⟨_, rfl, c, dx, _, rfl, hc, (lk_past (by decide +kernel)).trans ((lk_past (by decide +kernel)).trans rfl), c, a, b, r', rfl, cu1, hl, bB, _, rfl, .inr (T.tBLANKS.sq _), rfl, rfl, _, rfl, ?_⟩
    cases r' with
    | nil =>
      refine if_f (by rfl) ?_
      refine q _ ?_ b1
      rw [← e1]
      exact cu1
    | cons z r' =>
      show if inV (.int (z : Nat)) _ = true then _ else _
      rw [inV_blank]
      cases hz : Kcs7.blank z with
      | true =>
        refine if_t rfl ⟨fun σ' H' => σ' = [some (.ref c)] ∧ CuAt K CC H' c a b r' ∧ But c H H', ?_, ?_⟩
        · rintro σ' H' ⟨rfl, cu2, b2⟩
          refine ⟨r'.length, by simp, r', rfl, rfl, cu2, ?_, b2⟩
          rw [← e1]
          show _ = if Kcs7.blank z = true then skipB r' else z :: r'
          rw [if_pos hz]
        · refine ⟨_, rfl, c, dx, _, rfl, hc, (lk_past (by decide +kernel)).trans ((lk_past (by decide +kernel)).trans rfl), c, a, b, z :: r', rfl, cu1, (by simp), fun H2 cu2 b2 => ?_⟩
          exact ⟨rfl, cu2, b1.trans b2⟩
      | false =>
        refine if_f rfl ?_
        refine q _ ?_ b1
        rw [← e1, skipB_of hz]
        exact cu1
/-! is_digit -/
def spIsDigit : Sp := fun vs H Q _ => ∃ i : Int, vs = [.int i] ∧ Q (.bl (decide (48 ≤ i) && decide (i ≤ 57))) H
theorem scIsDigit : FnScope ["sign"] ["sign"] (defScope sIsDigit) := ⟨rfl, rfl, rfl, by decide +kernel, rfl, by decide +kernel, by decide +kernel⟩
theorem ok_isDigit {f : Addr} {fd : FuncData} (F : Fun K "is_digit" "is_digit" sIsDigit f fd) (T : Tx K mg CC CO CR CN bB bW) : FnOk P w K mg base CX0 1 f fd ["sign"] spIsDigit := by
  refine F.ok scIsDigit (fun vs H Q E h => ?_) (fun cdv A outer s H vs Q E hr h => ?_)
  · obtain ⟨_, rfl, _⟩ := h
    rfl
  · obtain ⟨i, rfl, q⟩ := h
    refine ⟨_, pss_one (ps_ret (pe_and (pe_cmpR op_ge (pv 0) (pe_const T.gDIGIT_ZERO) (nomark _)) (pe_one (pe_cmpR op_le (pv 0) (pe_const T.gDIGIT_NINE) (nomark _))))), ?_⟩
    refine ⟨_, rfl, _, _, rfl, rfl, _, rfl, ?_⟩
    by_cases h : (48 : Int) ≤ i
    · refine if_t (decide_eq_true h) ⟨_, rfl, _, _, rfl, rfl, ?_⟩
      rw [decide_eq_true h, Bool.true_and] at q
      exact q
    · refine if_f (decide_eq_false h) ?_
      rw [decide_eq_false h, Bool.false_and] at q
      exact q
/-! bytes_of -/
/-- the codes of a text -/
def codes (z : Str) : List V := z.cps.toList.map fun c => V.int (c : Nat)
def spBytesOf : Sp := fun vs H Q _ => ∃ z : Str, vs = [.str z] ∧ z.cps.size ≤ 5000 ∧ ∀ H' p, H p = none → Same H H' → H' p = some (.lst (codes z)) → Q (.ref p) H'
theorem scBytesOf : FnScope ["text", "letter"] ["text"] (defScope sBytesOf) := ⟨rfl, rfl, rfl, by decide +kernel, rfl, by decide +kernel, by decide +kernel⟩
theorem Same.new {H : Hp} {p : Addr} {o : HO} (hp : H p = none) : Same H (upd H p o) := fun b u h => by rw [upd_ne (ne_of_none h hp)]; exact h
theorem ok_bytesOf {f : Addr} {fd : FuncData} (F : Fun K "bytes_of" "bytes_of" sBytesOf f fd) (T : Tx K mg CC CO CR CN bB bW) : FnOk P w K mg base CX0 1 f fd ["text"] spBytesOf := by
  refine F.ok scBytesOf (fun vs H Q E h => ?_) (fun cdv A outer s H vs Q E hr h => ?_)
  · obtain ⟨_, rfl, _⟩ := h
    rfl
  · obtain ⟨z, rfl, hz, q⟩ := h
    refine ⟨_, pss_one (ps_ret (pe_lc (own := [("letter", 1)]) (g := gName 1) (tt := tYes) rfl scBytesOf.nd (pi_str (pv 0)) (blkOk_by (N := ["text", "letter"]) (sc := defScope sBytesOf) (by decide +kernel))
      (fun _ _ _ _ _ => pg_name (i := 1) scBytesOf.nd rfl (Or.inl rfl)) (fun _ _ _ _ _ => pts_nil) (fun _ _ _ _ _ => pe_callB call_ord (by rfl) T.ord (by decide +kernel) (pa_cons (pv 1) pa_nil)))), ?_⟩
    refine ⟨_, rfl, z, rfl, fun D hD => ?_⟩
    refine lc_it walk_str (fun i H' => Same H H' ∧ H' D = some (.lst ((z.cps.toList.take i).map fun c => V.int (c : Nat)))) ⟨Same.new hD, upd_same⟩ (fun _ _ _ _ => trivial) ?_ ?_
    · rintro i x H1 H2 hi ⟨s1, h1⟩ ⟨rfl, c, hc, rfl⟩
      refine ⟨rfl, ?_⟩
      simp only [tYes, ↓reduceIte]
      refine ⟨_, rfl, _, rfl, rfl, ?_⟩
      refine ⟨_, h1, ?_, ?_, ?_⟩
      · rw [List.length_map, List.length_take]
        have : 5000 < sizeLine := by decide
        have h2 : z.cps.toList.length = z.cps.size := Array.length_toList
        omega
      · exact fun b o e => by
          rw [upd_ne (ne_of_none e hD)]
          exact s1 b o e
      · have hc' : z.cps.toList[i]? = some c := by rw [Array.getElem?_toList]; exact hc
        rw [upd_same, List.take_add_one, hc', List.map_append]
        rfl
    · rintro H1 ⟨s1, h1⟩
      refine q _ _ hD s1 ?_
      rw [h1]
      have : z.cps.toList.take z.cps.size = z.cps.toList := List.take_of_length_le (by simp)
      rw [this]
      rfl
end
end Vt

namespace Vt
open PySem PySem.Spec PyProof.Rows L2
open PySem.W (Frag)
open Kcs7 (Bytes digit textAt)
/-! ### raise NoValue() -/
theorem pmk_own0 {X : Cx} {C : Addr} {bmB : List Value} {B newId initId : String} {x : Str} {p pos : Pos} (F : ExcBaseFacts B newId initId bmB) (q : PySem.W.excIn X.K C bmB newId = true) (gC : X.mg x = some (.ref C)) (kC : PySem.W.keepIn X.K (.ref C) = true)
    (r : Raises X (.ref C)) (hg : Gl X x) (hdb : (x == ("__debug__" : Str)) = false := by decide) : PMk X (.Call (.Name x p) [] [] pos) (fun _ H Q => Q (.ref C) none H) := by
  intro pins s σ H Q I hq
  refine wpAny_Call_Name_kw (ld_glob I hg gC ?_ hdb)
  refine PySem.W.callWith_K0 I.kIn kC ?_
  obtain ⟨v1, v2, v3, v4, v5, v6, v7, v8, v9, v10, v11, v12, v13, v14, v15, v16, v17, gc, gn, gi, gt⟩ := exc_obj I.kIn q
  exact wpAny_call_exc_subT F gt gc gn gi (fun h' e mk => mk_of I mk r hq (I.hok.gone mk.new)) (Nat.zero_le _)
section
variable {P : Program} {w : World} {K : Frag} {mg : Str → Option Value} {base : Heap} {CC CO CR CN bB bW : Addr}
theorem ps_rn {X : Cx} {W : WX} {p pos pos' : Pos} (T : Tx X.K X.mg CC CO CR CN bB bW) (tk : Takes X W) (hc : X.calm = true := by rfl) (hg : Gl X "NoValue" := by rfl) : PS X (.Raise (some (.Call (.Name "NoValue" p) [] [] pos)) none pos') (fun _ σ H => W (.ref CN) none σ H) :=
  ps_raise hc tk (pmk_own0 PySem.F.excBase_Exception T.xN T.gCN T.kN (raises_own T.bN T.tN) hg)
/-- the error's way out, whatever the heap -/
def Fl (CN : Addr) (E : XK) : Prop := ∀ H', E (.ref CN) none H'
theorem CuAt.but {c a : Addr} {b r : Bytes} {H H' : Hp} (cu : CuAt K CC H c a b r) (s : Same H H') : CuAt K CC H' c a b r := by
  obtain ⟨dx, p, hc, hp, e⟩ := cu.ex
  exact ⟨⟨dx, p, s _ _ hc, hp, e⟩, s.seq cu.row⟩
theorem CuAt.get {c a : Addr} {b r : Bytes} {H : Hp} (cu : CuAt K CC H c a b r) : ∃ o, H c = some o := by
  obtain ⟨dx, p, hc, hp, e⟩ := cu.ex
  exact ⟨_, hc⟩
theorem cu_sign {v w : V} : List.lookup ("sign" : Str) [(("row" : Str), v), (("place" : Str), w)] = none := (lk_past (by decide +kernel)).trans ((lk_past (by decide +kernel)).trans rfl)
theorem cu_step {v w : V} : List.lookup ("step" : Str) [(("row" : Str), v), (("place" : Str), w)] = none := (lk_past (by decide +kernel)).trans ((lk_past (by decide +kernel)).trans rfl)
theorem cu_atEnd {v w : V} : List.lookup ("at_end" : Str) [(("row" : Str), v), (("place" : Str), w)] = none := (lk_past (by decide +kernel)).trans ((lk_past (by decide +kernel)).trans rfl)

theorem dV_t {i j : Int} (h : i = j) : decide (V.int i = V.int j) = true := decide_eq_true (congrArg _ h)
theorem dV_f {i j : Int} (h : ¬ i = j) : decide (V.int i = V.int j) = false := decide_eq_false fun z => h (V.int.inj z)

theorem nV_f {i j : Int} (h : i = j) : (!decide (V.int i = V.int j)) = false := by rw [dV_t h]; rfl
theorem nV_t {i j : Int} (h : ¬ i = j) : (!decide (V.int i = V.int j)) = true := by rw [dV_f h]; rfl

/-! ### skip_word -/
def spSkipWord (K : Frag) (CC CN : Addr) : Sp := fun vs H Q E => ∃ c a b r z, vs = [.ref c, .str z] ∧ CuAt K CC H c a b r ∧ b.length ≤ 5000 ∧ z.cps.size ≤ 5000 ∧
  (skipW z.cps.toList r = none → Fl CN E) ∧ ∀ q, skipW z.cps.toList r = some q → ∀ H', CuAt K CC H' c a b q → But c H H' → Q .non H'
theorem scSkipWord : FnScope ["cursor", "word", "sign"] ["cursor", "word"] (defScope sSkipWord) := ⟨rfl, rfl, rfl, by decide +kernel, rfl, by decide +kernel, by decide +kernel⟩
theorem sgn_eq {r : Bytes} {x : Nat} : sgn r = (x : Int) ↔ ∃ q, r = x :: q := by
  cases r with
  | nil =>
    constructor
    · intro h
      have : (-1 : Int) = x := h
      omega
    · rintro ⟨q, h⟩; cases h
  | cons c q =>
    constructor
    · intro h
      have h' : (c : Int) = x := h
      exact ⟨q, by rw [show c = x by omega]⟩
    · rintro ⟨q', h⟩
      cases h
      rfl
theorem ok_skipWord {f : Addr} {fd : FuncData} (F : Fun K "skip_word" "skip_word" sSkipWord f fd) (T : Tx K mg CC CO CR CN bB bW) (dB : DefOk P w K mg base CX0 1 "bytes_of" ["text"] spBytesOf) (mS : MetOk P w K mg base CX0 2 CC "sign" ["self"] (spSign K CC))
    (mT : MetOk P w K mg base CX0 1 CC "step" ["self"] (spStep K CC)) : FnOk P w K mg base (L2.CX P w) 3 f fd ["cursor", "word"] (spSkipWord K CC CN) := by
  refine F.okX scSkipWord (fun vs H Q E h => ?_) (fun cdv A outer s H vs Q E hr h => ?_)
  · obtain ⟨_, _, _, _, _, rfl, _⟩ := h
    rfl
  · obtain ⟨c, a, b, r, z, rfl, cu, hl, hz, kE, kQ⟩ := h
    have hr1 : Room 1 _ := hr.mono (by decide)
    refine ⟨_, pss_one (ps_for (passes_of rfl) rfl (pi_list (pe_def dB hr1 pass0 (pa_cons (pv 1) pa_nil))) (pg_name (i := 2) scSkipWord.nd rfl (Or.inl rfl))
      (pss_cons (ps_if (pt_cmpR op_ne (pe_met0 mS T.cC hr pass0 (pv 0)) (pv 2) (nomark _)) (pss_one (ps_rn T (takes_of rfl rfl rfl rfl))) pss_nil) (pss_one (ps_expr (pe_met0 mT T.cC hr1 pass0 (pv 0)))))), ?_⟩
    refine ⟨_, rfl, z, rfl, hz, fun H1 l hl1 s1 h1 => ⟨l, rfl, ⟨_, SqL.of h1⟩, ?_⟩⟩
    obtain ⟨oc, hoc⟩ := cu.get
    have lc : l ≠ c := Ne.symm (ne_of_none hoc hl1)
    refine for_list (K := K) (a := l) (xs := codes z) (fun i σ H' => ∃ r' v, σ = [some (.ref c), some (.str z), v] ∧ CuAt K CC H' c a b r' ∧ skipW (z.cps.toList.drop i) r' = skipW z.cps.toList r ∧ H' l = some (.lst (codes z)) ∧ But c H H')
      ⟨r, none, rfl, cu.but s1, rfl, h1, Same.but s1⟩ (fun i σ H' _ ⟨_, _, _, _, _, h, _⟩ => SqL.of h) ?_ ?_
    · rintro i y σ H' hi ⟨r', v, rfl, cu2, e2, h2, b2⟩
      obtain ⟨x, hx, rfl⟩ : ∃ x : Nat, z.cps.toList[i]? = some x ∧ y = V.int (x : Nat) := by
        unfold codes at hi
        rw [List.getElem?_map] at hi
        obtain ⟨x, hx, e⟩ := Option.map_eq_some_iff.mp hi
        exact ⟨x, hx, e.symm⟩
      have hdrop : z.cps.toList.drop i = x :: z.cps.toList.drop (i + 1) := by
        have hi' := (List.getElem?_eq_some_iff.mp hx)
        obtain ⟨hlt, hget⟩ := hi'
        rw [List.drop_eq_getElem_cons hlt, hget]
      obtain ⟨dx, p, hc, hp, e⟩ := cu2.ex
      refine ⟨_, rfl, c, dx, _, rfl, hc, cu_sign, c, a, b, r', rfl, cu2, hl, _, rfl, rfl, _, rfl, ?_⟩
      rw [hdrop] at e2
      by_cases hs : sgn r' = (x : Int)
      · refine if_f (by rw [dV_t hs]; rfl) ?_
        obtain ⟨q, rfl⟩ := sgn_eq.mp hs
        refine ⟨_, rfl, c, dx, _, rfl, hc, cu_step, c, a, b, x :: q, rfl, cu2, (by simp), fun H3 cu3 b3 => ?_⟩
        refine ⟨q, _, rfl, cu3, ?_, b3 _ _ h2 lc, b2.trans b3⟩
        rw [← e2]
        show _ = if x = x then skipW (z.cps.toList.drop (i + 1)) q else none
        rw [if_pos rfl]
      · refine if_t (by rw [dV_f hs]; rfl) ?_
        refine kE ?_ _
        rw [← e2]
        cases r' with
        | nil => rfl
        | cons c' q =>
          show (if c' = x then _ else none) = none
          rw [if_neg fun z => hs (sgn_eq.mpr ⟨q, by rw [z]⟩)]
    · rintro σ H' ⟨r', v, rfl, cu2, e2, h2, b2⟩
      have : z.cps.toList.drop (codes z).length = [] := List.drop_eq_nil_of_le (by unfold codes; rw [List.length_map]; exact Nat.le_refl _)
      rw [this] at e2
      exact kQ r' e2.symm H' cu2 b2

/-! ### read_digits -/
def dgs (d : Bytes) : List V := d.map fun (c : Nat) => V.int ((c : Int) - 48)
def spReadDigits (K : Frag) (CC : Addr) : Sp := fun vs H Q _ => ∃ c a b r, vs = [.ref c] ∧ CuAt K CC H c a b r ∧ b.length ≤ 5000 ∧
  ∀ H' l, H l = none → H' l = some (.lst (dgs (r.takeWhile digit))) → CuAt K CC H' c a b (r.drop (r.takeWhile digit).length) → But c H H' → Q (.ref l) H'
theorem scReadDigits : FnScope ["cursor", "digits"] ["cursor"] (defScope sReadDigits) := ⟨rfl, rfl, rfl, by decide +kernel, rfl, by decide +kernel, by decide +kernel⟩
theorem sgn_digit (r : Bytes) : (decide (48 ≤ sgn r) && decide (sgn r ≤ 57)) = (match r with | [] => false | c :: _ => digit c) := by
  cases r with
  | nil => rfl
  | cons c q =>
    show (decide ((48 : Int) ≤ (c : Int)) && decide ((c : Int) ≤ 57)) = digit c
    unfold digit
    have e1 : decide ((48 : Int) ≤ (c : Int)) = decide (48 ≤ c) := decide_eq_decide.mpr (by omega)
    have e2 : decide ((c : Int) ≤ 57) = decide (c ≤ 57) := decide_eq_decide.mpr (by omega)
    rw [e1, e2]
theorem CuAt.len {c a : Addr} {b r : Bytes} {H : Hp} (cu : CuAt K CC H c a b r) : r.length ≤ b.length := by
  obtain ⟨dx, p, hc, hp, e⟩ := cu.ex
  rw [← e, List.length_drop]
  omega
theorem CuAt.inj {c a : Addr} {b r r' : Bytes} {H : Hp} (cu : CuAt K CC H c a b r) (cu' : CuAt K CC H c a b r') : r = r' := by
  obtain ⟨dx, p, hc, hp, e⟩ := cu.ex
  obtain ⟨dx', p', hc', hp', e'⟩ := cu'.ex
  rw [hc] at hc'
  have h1 := Option.some.inj hc'
  injection h1 with _ _ h2
  have h3 : V.int (p : Nat) = V.int (p' : Nat) := by
    injection h2 with _ h4
    injection h4 with h5 _
    exact (Prod.mk.inj h5).2
  have h6 : (p : Int) = p' := V.int.inj h3
  rw [← e, ← e', show p = p' by omega]
/-- the object at l, new since H, is written: the cursor stands -/
theorem CuAt.set {c a l : Addr} {b r r' : Bytes} {H H' : Hp} {o : HO} (cu : CuAt K CC H c a b r) (cu2 : CuAt K CC H' c a b r') (b2 : But c H H') (hl : H l = none) : CuAt K CC (upd H' l o) c a b r' ∧ But c H (upd H' l o) := by
  obtain ⟨dx, p, hc, hp, e⟩ := cu.ex
  obtain ⟨dx', p', hc', hp', e'⟩ := cu2.ex
  have bt : But c H (upd H' l o) := fun d u h n => by rw [upd_ne (ne_of_none h hl)]; exact b2 d u h n
  exact ⟨⟨⟨dx', p', by rw [upd_ne (ne_of_none hc hl)]; exact hc', hp', e'⟩, Rd.but cu.row bt hc ⟨fun _ z => (nomatch z), fun _ _ z => (nomatch z)⟩⟩, bt⟩
theorem takeWhile_app {α : Type} {p : α → Bool} {u v : List α} (h : ∀ x ∈ u, p x = true) (hv : ∀ c q, v = c :: q → p c = false) : (u ++ v).takeWhile p = u := by
  rw [takeWhile_all h]
  cases v with
  | nil => simp
  | cons c q => rw [List.takeWhile_cons_of_neg (by rw [hv c q rfl]; decide), List.append_nil]
theorem ok_readDigits {f : Addr} {fd : FuncData} (F : Fun K "read_digits" "read_digits" sReadDigits f fd) (T : Tx K mg CC CO CR CN bB bW) (dD : DefOk P w K mg base CX0 1 "is_digit" ["sign"] spIsDigit) (mS : MetOk P w K mg base CX0 2 CC "sign" ["self"] (spSign K CC))
    (mT : MetOk P w K mg base CX0 1 CC "step" ["self"] (spStep K CC)) : FnOk P w K mg base CX0 3 f fd ["cursor"] (spReadDigits K CC) := by
  refine F.ok scReadDigits (fun vs H Q E h => ?_) (fun cdv A outer s H vs Q E hr h => ?_)
  · obtain ⟨_, _, _, _, rfl, _⟩ := h
    rfl
  · obtain ⟨c, a, b, r, rfl, cu, hl, kQ⟩ := h
    have hr1 : Room 1 _ := hr.mono (by decide)
    refine ⟨_, pss_cons (ps_set (i := 1) scReadDigits.nd rfl (Or.inl rfl) (pe_lst pa_nil))
      (pss_cons (ps_while PassesOwn.never (pt_val (pe_def dD hr1 pass0 (pa_cons (pe_met0 mS T.cC hr pass0 (pv 0)) pa_nil)))
        (pss_cons (ps_expr (pe_bm PySem.F.plainAttrs_list PySem.F.slot_list_append PySem.F.type_list_append mt_append (pv 1) (pa_cons (pe_op op_sub (pe_met0 mS T.cC hr pass0 (pv 0)) (pe_const T.gDIGIT_ZERO)) pa_nil)))
        (pss_one (ps_expr (pe_met0 mT T.cC hr1 pass0 (pv 0))))))
      (pss_one (ps_ret (pv 1)))), ?_⟩
    refine ⟨(by show 0 ≤ sizeLine; exact Nat.zero_le _), fun l hl0 => ?_⟩
    have st := cu.set (o := .lst []) cu But.refl hl0
    obtain ⟨oc, hoc⟩ := cu.get
    have lc : l ≠ c := Ne.symm (ne_of_none hoc hl0)
    refine ⟨fun m σ H' => ∃ u v, m = v.length ∧ r = u ++ v ∧ (∀ x ∈ u, digit x = true) ∧ σ = [some (.ref c), some (.ref l)] ∧ CuAt K CC H' c a b v ∧ H' l = some (.lst (dgs u)) ∧ But c H H',
      ⟨_, [], r, rfl, rfl, (fun x h => nomatch h), rfl, st.1, upd_same, st.2⟩, ?_⟩
    rintro m σ H1 ⟨u, v, rfl, e1, hu, rfl, cu1, h1, b1⟩
    obtain ⟨dx, p, hc, hp, e⟩ := cu1.ex
    refine ⟨_, rfl, c, dx, _, rfl, hc, cu_sign, c, a, b, v, rfl, cu1, hl, _, rfl, _, rfl, ?_⟩
    rw [sgn_digit]
    cases v with
    | nil =>
      refine if_f rfl ?_
      refine ⟨_, rfl, ?_⟩
      have ht : r.takeWhile digit = u := by rw [e1]; exact takeWhile_app hu (fun c q z => nomatch z)
      refine kQ H1 l hl0 (by rw [ht]; exact h1) ?_ b1
      rw [ht, e1, List.append_nil, List.drop_length]
      exact cu1
    | cons z v =>
      show if digit z = true then _ else _
      cases hz : digit z with
      | false =>
        refine if_f rfl ?_
        refine ⟨_, rfl, ?_⟩
        have ht : r.takeWhile digit = u := by rw [e1]; exact takeWhile_app hu (fun c q y => by cases y; exact hz)
        refine kQ H1 l hl0 (by rw [ht]; exact h1) ?_ b1
        rw [ht, e1, List.drop_left]
        exact cu1
      | true =>
        refine if_t rfl ⟨fun σ' H' => σ' = [some (.ref c), some (.ref l)] ∧ CuAt K CC H' c a b v ∧ H' l = some (.lst (dgs (u ++ [z]))) ∧ But c H H', ?_, ?_⟩
        · rintro σ' H' ⟨rfl, cu2, h2, b2⟩
          refine ⟨v.length, by simp, u ++ [z], v, rfl, by rw [e1, List.append_assoc]; rfl, ?_, rfl, cu2, h2, b2⟩
          intro x hx
          rcases List.mem_append.mp hx with hx | hx
          · exact hu x hx
          · rw [List.mem_singleton.mp hx]; exact hz
        · have hlen : (dgs u).length < sizeLine := by
            have h5 : 5000 < sizeLine := by decide
            have h6 := cu.len
            rw [e1, List.length_append] at h6
            unfold dgs
            rw [List.length_map]
            omega
          refine ⟨_, rfl, .inl ⟨rfl, _, SqL.of h1⟩, ?_⟩
          refine ⟨_, rfl, c, dx, _, rfl, hc, cu_sign, c, a, b, z :: v, rfl, cu1, hl, _, _, rfl, rfl, l, _, _, rfl, rfl, h1, hlen, ?_⟩
          have st2 := cu.set (o := .lst (dgs u ++ [.int ((z : Int) - 48)])) cu1 b1 hl0
          obtain ⟨dx', p', hc', _, _⟩ := st2.1.ex
          refine ⟨_, rfl, c, dx', _, rfl, hc', cu_step, c, a, b, z :: v, rfl, st2.1, (by simp), fun H3 cu3 b3 => ?_⟩
          refine ⟨rfl, cu3, ?_, st2.2.trans b3⟩
          rw [b3 l _ upd_same lc]
          unfold dgs
          rw [List.map_append]
          rfl
end
end Vt

namespace Vt
open PySem PySem.Spec PyProof.Rows L2
open PySem.W (Frag)
open Kcs7 (Bytes digit textAt value)
section
variable {P : Program} {w : World} {K : Frag} {mg : Str → Option Value} {base : Heap} {CC CO CR CN bB bW : Addr}
/-! ### read_amount -/
def spReadAmount (K : Frag) (CC CN : Addr) : Sp := fun vs H Q E => ∃ c a b r, vs = [.ref c] ∧ CuAt K CC H c a b r ∧ b.length ≤ 5000 ∧
  (amountR r = none → Fl CN E) ∧ ∀ n q, amountR r = some (n, q) → ∀ H', CuAt K CC H' c a b q → But c H H' → Q (.int (n : Nat)) H'
theorem scReadAmount : FnScope ["cursor", "digits", "amount", "digit"] ["cursor"] (defScope sReadAmount) := ⟨rfl, rfl, rfl, by decide +kernel, rfl, by decide +kernel, by decide +kernel⟩
theorem value_take {d : Bytes} (hd : ∀ x ∈ d, digit x = true) {i : Nat} {x : Nat} (hx : d[i]? = some x) : ((value (d.take (i + 1)) : Nat) : Int) = ((value (d.take i) : Nat) : Int) * 10 + ((x : Int) - 48) := by
  have h1 : d.take (i + 1) = d.take i ++ [x] := by
    rw [List.take_add_one, hx]
    rfl
  have h2 : 48 ≤ x ∧ x ≤ 57 := digit_facts (hd x (List.mem_of_getElem? hx))
  rw [h1]
  unfold value
  rw [List.foldl_append]
  show ((10 * (d.take i).foldl _ 0 + (x - 48) : Nat) : Int) = _
  omega
theorem value_lt : ∀ (d : Bytes), (∀ x ∈ d, digit x = true) → value d < 10 ^ d.length := by
  intro d
  induction d using snoc_ind with
  | h0 => intro _; decide
  | h1 d x ih =>
    intro hd
    have h1 := ih fun y hy => hd y (List.mem_append.mpr (.inl hy))
    have h2 : 48 ≤ x ∧ x ≤ 57 := digit_facts (hd x (by simp))
    have e : value (d ++ [x]) = 10 * value d + (x - 48) := by
      unfold value
      rw [List.foldl_append]
      rfl
    rw [e, List.length_append, Nat.pow_add]
    show _ < 10 ^ d.length * 10 ^ 1
    omega
theorem takeWhile_mem {α : Type} {p : α → Bool} : ∀ {l : List α} {x : α}, x ∈ l.takeWhile p → p x = true
  | [], x, h => by simp at h
  | a :: l, x, h => by
    by_cases e : p a = true
    · rw [List.takeWhile_cons_of_pos e] at h
      rcases List.mem_cons.mp h with z | z
      · rw [z]; exact e
      · exact takeWhile_mem z
    · rw [List.takeWhile_cons_of_neg e] at h
      cases h
theorem ok_readAmount {f : Addr} {fd : FuncData} (F : Fun K "read_amount" "read_amount" sReadAmount f fd) (T : Tx K mg CC CO CR CN bB bW) (dD : DefOk P w K mg base CX0 3 "read_digits" ["cursor"] (spReadDigits K CC)) :
    FnOk P w K mg base (L2.CX P w) 4 f fd ["cursor"] (spReadAmount K CC CN) := by
  refine F.okX scReadAmount (fun vs H Q E h => ?_) (fun cdv A outer s H vs Q E hr h => ?_)
  · obtain ⟨_, _, _, _, rfl, _⟩ := h
    rfl
  · obtain ⟨c, a, b, r, rfl, cu, hl, kE, kQ⟩ := h
    refine ⟨_, pss_cons (ps_set (i := 1) scReadAmount.nd rfl (Or.inl rfl) (pe_def dD hr pass0 (pa_cons (pv 0) pa_nil)))
      (pss_cons (ps_if (PW.pt (pw_or (pt_cmpR op_eq (pe_callB call_len_seq (by rfl) T.len PySem.boot_len (pa_cons (pv 1) pa_nil)) pe_int (nomark _)) (pw_or1 (pt_cmpR op_gt (pe_callB call_len_seq (by rfl) T.len PySem.boot_len (pa_cons (pv 1) pa_nil)) (pe_const T.gMOST_DIGITS) (nomark _)))))
        (pss_one (ps_rn T (takes_of rfl rfl rfl rfl))) pss_nil)
      (pss_cons (ps_if (PW.pt (pw_and (pt_cmpR op_eq (pe_ix ix_list (pv 1) pe_int (fun _ _ => rfl)) pe_int (nomark _)) (pw_and1 (pt_cmpR op_gt (pe_callB call_len_seq (by rfl) T.len PySem.boot_len (pa_cons (pv 1) pa_nil)) pe_int (nomark _)))))
        (pss_one (ps_rn T (takes_of rfl rfl rfl rfl))) pss_nil)
      (pss_cons (ps_set (i := 2) scReadAmount.nd rfl (Or.inl rfl) pe_int)
      (pss_cons (ps_for (passes_of rfl) rfl (pi_list (pv 1)) (pg_name (i := 3) scReadAmount.nd rfl (Or.inl rfl)) (pss_one (ps_set (i := 2) scReadAmount.nd rfl (Or.inl rfl) (pe_op op_add (pe_op op_mul (pv 2) pe_int) (pv 3)))))
      (pss_cons (ps_if (pt_cmpR op_ge (pv 2) (pe_const T.gTOO_LARGE) (nomark _)) (pss_one (ps_rn T (takes_of rfl rfl rfl rfl))) pss_nil)
      (pss_one (ps_ret (pv 2)))))))), ?_⟩
    refine ⟨_, rfl, c, a, b, r, rfl, cu, hl, fun H1 l hl0 h1 cu1 b1 => ?_⟩
    have hd : ∀ x ∈ r.takeWhile digit, digit x = true := fun x hx => takeWhile_mem hx
    unfold amountR at kE kQ
    generalize r.takeWhile digit = d at h1 cu1 hd kE kQ
    dsimp only at kE kQ
    have hlen : (dgs d).length = d.length := by unfold dgs; rw [List.length_map]
    -- len(digits) == 0
    refine ⟨_, rfl, l, _, rfl, .inl (SqL.of h1), rfl, _, rfl, ?_⟩
    rw [hlen]
    by_cases c0 : d.length = 0
    · refine if_t (dV_t (by omega)) ?_
      refine if_t rfl ?_
      refine kE ?_ _
      rw [if_pos (.inl c0)]
    refine if_f (dV_f (by omega)) ?_
    refine ⟨_, rfl, l, _, rfl, .inl (SqL.of h1), _, _, rfl, rfl, _, rfl, ?_⟩
    rw [hlen]
    by_cases c1 : 16 < d.length
    · refine if_t (decide_eq_true (by omega)) ?_
      refine kE ?_ _
      rw [if_pos (.inr c1)]
    refine if_f (decide_eq_false (by omega)) ?_
    rw [if_neg (show ¬ (d.length = 0 ∨ 16 < d.length) by omega)] at kE kQ
    -- digits[0] == 0 and len(digits) > 1
    obtain ⟨z, d', rfl⟩ : ∃ z d', d = z :: d' := by
      cases d with
      | nil => exact absurd rfl c0
      | cons z d' => exact ⟨z, d', rfl⟩
    have hz := digit_facts (hd z List.mem_cons_self)
    refine ⟨_, rfl, l, _, 0, V.int ((z : Int) - 48), rfl, rfl, SqL.of h1, atI_nat (j := 0) rfl, rfl, _, rfl, ?_⟩
    have go : ¬ (z = 48 ∧ 1 < (z :: d').length) → (tSeq (tAsg (tC (.int 0)) (gName 2)) (tSeq (tFor (iList K (tVar 1)) (gName 3) (tAsg (tOp (rI0 fun i j => .int (i + j)) (tOp (rI CMul fun i j => .int (i * j)) (tVar 2) (tC (.int 10))) (tVar 3)) (gName 2)))
        (tSeq (tIfS (tTest (tOp (rI0 fun i j => .bl (decide (j ≤ i))) (tVar 2) (tC (.int 9007199254740992)))) (fun _ σ H => E (.ref CN) none H) tNext) (tRet (tVar 2))))) { nx := fun _ H' => Q .non H', rt := Q } [some (.ref c), some (.ref l), none, none] H1 := by
      intro hno
      have hh : ((z :: d').head? = some 48 ∧ 1 < (z :: d').length) ↔ (z = 48 ∧ 1 < (z :: d').length) := by simp
      rw [if_neg (fun q => hno (hh.mp q))] at kE kQ
      refine ⟨_, rfl, l, rfl, ⟨_, SqL.of h1⟩, ?_⟩
      refine for_list (K := K) (a := l) (xs := dgs (z :: d')) (fun i σ H' => H' = H1 ∧ ∃ v, σ = [some (.ref c), some (.ref l), some (.int ((value ((z :: d').take i) : Nat) : Int)), v]) ⟨rfl, none, rfl⟩ (fun i σ H' _ ⟨e, _⟩ => by rw [e]; exact SqL.of h1) ?_ ?_
      · rintro i y σ H' hi ⟨rfl, v, rfl⟩
        obtain ⟨x, hx, rfl⟩ : ∃ x : Nat, (z :: d')[i]? = some x ∧ y = V.int ((x : Int) - 48) := by
          unfold dgs at hi
          rw [List.getElem?_map] at hi
          obtain ⟨x, hx, e⟩ := Option.map_eq_some_iff.mp hi
          exact ⟨x, hx, e.symm⟩
        refine ⟨_, rfl, _, _, rfl, rfl, .inr ⟨by decide, by decide⟩, _, rfl, _, _, rfl, rfl, ?_⟩
        refine ⟨rfl, some (.int ((x : Int) - 48)), ?_⟩
        rw [value_take hd hx]
        rfl
      · rintro σ H' ⟨rfl, v, rfl⟩
        have et : (z :: d').take (dgs (z :: d')).length = z :: d' := List.take_of_length_le (by rw [hlen]; exact Nat.le_refl _)
        rw [et]
        refine ⟨_, rfl, _, _, rfl, rfl, _, rfl, ?_⟩
        by_cases c3 : 9007199254740992 ≤ value (z :: d')
        · refine if_t (decide_eq_true (by omega)) ?_
          refine kE ?_ _
          rw [if_pos c3]
        · refine if_f (decide_eq_false (by omega)) ?_
          refine ⟨_, rfl, ?_⟩
          exact kQ _ _ (by rw [if_neg c3]) _ cu1 b1
    by_cases c2 : z = 48
    · subst c2
      refine if_t (dV_t (by rfl)) ?_
      refine ⟨_, rfl, l, _, rfl, .inl (SqL.of h1), _, _, rfl, rfl, _, rfl, ?_⟩
      rw [hlen]
      by_cases c4 : 1 < (48 :: d').length
      · refine if_t (decide_eq_true (by omega)) ?_
        refine kE ?_ _
        rw [if_pos ⟨rfl, c4⟩]
      · refine if_f (decide_eq_false (by omega)) ?_
        exact go (fun q => c4 q.2)
    · refine if_f (dV_f (by omega)) ?_
      refine if_f rfl ?_
      exact go (fun q => c2 q.1)
end
end Vt

namespace Vt
open PySem PySem.Spec PyProof.Rows L2
open PySem.W (Frag)
open Kcs7 (Bytes digit textAt value)
section
variable {P : Program} {w : World} {K : Frag} {mg : Str → Option Value} {base : Heap} {CC CO CR CN bB bW : Addr}
/-! ### read_number -/
theorem passF {X : Cx} {CN : Addr} {E : XK} (tk : Takes X (fun cls d _ H => E cls d H)) : Passes (L2.CX X.prog X.w) X E := passes_call tk (fun _ _ _ _ h => h)
def spReadNumber (K : Frag) (CC CN : Addr) : Sp := fun vs H Q E => ∃ c a b r, vs = [.ref c] ∧ CuAt K CC H c a b r ∧ b.length ≤ 5000 ∧
  (numberR r = none → Fl CN E) ∧ ∀ n q, numberR r = some (n, q) → ∀ H', CuAt K CC H' c a b q → But c H H' → Q (.int n) H'
theorem scReadNumber : FnScope ["cursor", "amount"] ["cursor"] (defScope sReadNumber) := ⟨rfl, rfl, rfl, by decide +kernel, rfl, by decide +kernel, by decide +kernel⟩
theorem sgn_head {r : Bytes} {x : Nat} : sgn r = (x : Int) ↔ r.head? = some x := by
  rw [sgn_eq]
  cases r with
  | nil => simp
  | cons c q => simp
theorem ok_readNumber {f : Addr} {fd : FuncData} (F : Fun K "read_number" "read_number" sReadNumber f fd) (T : Tx K mg CC CO CR CN bB bW) (dA : DefOk P w K mg base (L2.CX P w) 4 "read_amount" ["cursor"] (spReadAmount K CC CN))
    (dB : DefOk P w K mg base CX0 3 "skip_blanks" ["cursor"] (spSkipBlanks K CC)) (mS : MetOk P w K mg base CX0 2 CC "sign" ["self"] (spSign K CC)) (mT : MetOk P w K mg base CX0 1 CC "step" ["self"] (spStep K CC)) :
    FnOk P w K mg base (L2.CX P w) 5 f fd ["cursor"] (spReadNumber K CC CN) := by
  refine F.okX scReadNumber (fun vs H Q E h => ?_) (fun cdv A outer s H vs Q E hr h => ?_)
  · obtain ⟨_, _, _, _, rfl, _⟩ := h
    rfl
  · obtain ⟨c, a, b, r, rfl, cu, hl, kE, kQ⟩ := h
    have hr1 : Room 1 _ := hr.mono (by decide)
    have hr2 : Room 2 _ := hr.mono (by decide)
    have hr3 : Room 3 _ := hr.mono (by decide)
    refine ⟨_, pss_cons (ps_if (pt_cmpR op_ne (pe_met0 mS T.cC hr2 pass0 (pv 0)) (pe_const T.gMINUS) (nomark _)) (pss_one (ps_ret (pe_def dA hr (passes_call (takes_of rfl rfl rfl rfl) (fun _ _ _ _ h => h)) (pa_cons (pv 0) pa_nil)))) pss_nil)
      (pss_cons (ps_expr (pe_met0 mT T.cC hr1 pass0 (pv 0)))
      (pss_cons (ps_expr (pe_def dB hr3 pass0 (pa_cons (pv 0) pa_nil)))
      (pss_cons (ps_set (i := 1) scReadNumber.nd rfl (Or.inl rfl) (pe_def dA hr (passes_call (takes_of rfl rfl rfl rfl) (fun _ _ _ _ h => h)) (pa_cons (pv 0) pa_nil)))
      (pss_cons (ps_if (pt_cmpR op_eq (pv 1) pe_int (nomark _)) (pss_one (ps_rn T (takes_of rfl rfl rfl rfl))) pss_nil)
      (pss_one (ps_ret (pe_un un_neg (pv 1)))))))), ?_⟩
    obtain ⟨dx, p, hc, hp, e⟩ := cu.ex
    refine ⟨_, rfl, c, dx, _, rfl, hc, cu_sign, c, a, b, r, rfl, cu, hl, rfl, _, rfl, ?_⟩
    unfold numberR at kE kQ
    by_cases hs : sgn r = (45 : Nat)
    · refine if_f (nV_f hs) ?_
      have hh := sgn_head.mp hs
      obtain ⟨q, rfl⟩ := sgn_eq.mp hs
      rw [if_pos hh] at kE kQ
      refine ⟨_, rfl, c, dx, _, rfl, hc, cu_step, c, a, b, _, rfl, cu, (by simp), fun H1 cu1 b1 => ?_⟩
      refine ⟨_, rfl, c, a, b, _, rfl, cu1, hl, fun H2 cu2 b2 => ?_⟩
      refine ⟨_, rfl, c, a, b, _, rfl, cu2, hl, fun hn => ?_, fun n q2 hn H3 cu3 b3 => ?_⟩
      · refine kE ?_
        show (match amountR (skipB q) with | none => none | some (n, q) => if n = 0 then none else some (-(n : Int), q)) = none
        rw [show amountR (skipB q) = none from hn]
      · have hm : (match amountR (skipB q) with | none => none | some (n, q) => if n = 0 then none else some (-(n : Int), q)) = if n = 0 then none else some (-(n : Int), q2) := by
          rw [show amountR (skipB q) = some (n, q2) from hn]
        refine ⟨_, rfl, rfl, _, rfl, ?_⟩
        by_cases n0 : n = 0
        · refine if_t (dV_t (by omega)) ?_
          refine kE ?_ _
          refine hm.trans ?_
          rw [if_pos n0]
        · refine if_f (dV_f (by omega)) ?_
          refine ⟨_, rfl, _, rfl, ?_⟩
          exact kQ _ q2 (hm.trans (by rw [if_neg n0])) H3 cu3 ((b1.trans b2).trans b3)
    · refine if_t (nV_t hs) ?_
      rw [if_neg (fun z => hs (sgn_head.mpr z))] at kE kQ
      refine ⟨_, rfl, c, a, b, r, rfl, cu, hl, fun hn => ?_, fun n q2 hn H3 cu3 b3 => ?_⟩
      · exact kE (by rw [hn]; rfl)
      · exact kQ _ q2 (by rw [hn]; rfl) H3 cu3 b3
/-! ### read_text_byte -/
def byteR : Bytes → Option (Nat × Bytes)
  | [] => none
  | 92 :: [] => none
  | 92 :: c :: q => if c = 34 ∨ c = 92 then some (c, q) else none
  | c :: q => if 32 ≤ c ∧ c ≤ 126 then some (c, q) else none
theorem byteR_92 {c : Nat} {q : Bytes} : byteR (92 :: c :: q) = if c = 34 ∨ c = 92 then some (c, q) else none := rfl
theorem byteR_c {c : Nat} {q : Bytes} (h : c ≠ 92) : byteR (c :: q) = if 32 ≤ c ∧ c ≤ 126 then some (c, q) else none := by
  unfold byteR
  split
  · next z => cases z
  · next z => cases z; exact absurd rfl h
  · next z => cases z; exact absurd rfl h
  · next z => cases z; rfl
def spReadTextByte (K : Frag) (CC CN : Addr) : Sp := fun vs H Q E => ∃ c a b r, vs = [.ref c] ∧ CuAt K CC H c a b r ∧ b.length ≤ 5000 ∧
  (byteR r = none → Fl CN E) ∧ ∀ n q, byteR r = some (n, q) → ∀ H', CuAt K CC H' c a b q → But c H H' → Q (.int (n : Nat)) H'
theorem scReadTextByte : FnScope ["cursor", "sign"] ["cursor"] (defScope sReadTextByte) := ⟨rfl, rfl, rfl, by decide +kernel, rfl, by decide +kernel, by decide +kernel⟩
theorem ok_readTextByte {f : Addr} {fd : FuncData} (F : Fun K "read_text_byte" "read_text_byte" sReadTextByte f fd) (T : Tx K mg CC CO CR CN bB bW) (mS : MetOk P w K mg base CX0 2 CC "sign" ["self"] (spSign K CC))
    (mT : MetOk P w K mg base CX0 1 CC "step" ["self"] (spStep K CC)) : FnOk P w K mg base (L2.CX P w) 3 f fd ["cursor"] (spReadTextByte K CC CN) := by
  refine F.okX scReadTextByte (fun vs H Q E h => ?_) (fun cdv A outer s H vs Q E hr h => ?_)
  · obtain ⟨_, _, _, _, rfl, _⟩ := h
    rfl
  · obtain ⟨c, a, b, r, rfl, cu, hl, kE, kQ⟩ := h
    have hr1 : Room 1 _ := hr.mono (by decide)
    refine ⟨_, pss_cons (ps_set (i := 1) scReadTextByte.nd rfl (Or.inl rfl) (pe_met0 mS T.cC hr pass0 (pv 0)))
      (pss_cons (ps_if (pt_cmpR op_eq (pv 1) (pe_const T.gBACKSLASH) (nomark _))
        (pss_cons (ps_expr (pe_met0 mT T.cC hr1 pass0 (pv 0)))
        (pss_cons (ps_set (i := 1) scReadTextByte.nd rfl (Or.inl rfl) (pe_met0 mS T.cC hr pass0 (pv 0)))
        (pss_one (ps_if (PW.pt (pw_and (pt_cmpR op_ne (pv 1) (pe_const T.gQUOTE) (nomark _)) (pw_and1 (pt_cmpR op_ne (pv 1) (pe_const T.gBACKSLASH) (nomark _))))) (pss_one (ps_rn T (takes_of rfl rfl rfl rfl))) pss_nil)))) pss_nil)
      (pss_cons (ps_if (PW.pt (pw_or (pt_cmpR op_lt (pv 1) (pe_const T.gLOWEST) (nomark _)) (pw_or1 (pt_cmpR op_gt (pv 1) (pe_const T.gHIGHEST) (nomark _))))) (pss_one (ps_rn T (takes_of rfl rfl rfl rfl))) pss_nil)
      (pss_cons (ps_expr (pe_met0 mT T.cC hr1 pass0 (pv 0))) (pss_one (ps_ret (pv 1)))))), ?_⟩
    obtain ⟨dx, p, hc, hp, e⟩ := cu.ex
    refine ⟨_, rfl, c, dx, _, rfl, hc, cu_sign, c, a, b, r, rfl, cu, hl, ?_⟩
    -- from the last test on
    have go : ∀ (r1 : Bytes) (H1 : Hp), CuAt K CC H1 c a b r1 → But c H H1 → (¬ (32 ≤ sgn r1 ∧ sgn r1 ≤ 126) → byteR r = none) → (∀ z q, r1 = z :: q → 32 ≤ z → z ≤ 126 → byteR r = some (z, q)) →
        (tSeq (tIfS (tOr (tTest (tOp (rI0 fun i j => .bl (decide (i < j))) (tVar 1) (tC (.int 32)))) (tTest (tOp (rI0 fun i j => .bl (decide (j < i))) (tVar 1) (tC (.int 126))))) (fun _ σ H => E (.ref CN) none H) tNext)
          (tSeq (tDrop (tMeth CC "step" (spStep K CC) [] E0 (tVar 0) tNil)) (tRet (tVar 1)))) { nx := fun _ H' => Q .non H', rt := Q } [some (.ref c), some (.int (sgn r1))] H1 := by
      intro r1 H1 cu1 b1 hno hyes
      refine ⟨_, rfl, _, _, rfl, rfl, _, rfl, ?_⟩
      by_cases c1 : sgn r1 < 32
      · refine if_t (decide_eq_true c1) ?_
        refine if_t rfl ?_
        exact kE (hno (by omega)) _
      refine if_f (decide_eq_false c1) ?_
      refine ⟨_, rfl, _, _, rfl, rfl, _, rfl, ?_⟩
      by_cases c2 : 126 < sgn r1
      · refine if_t (decide_eq_true c2) ?_
        exact kE (hno (by omega)) _
      refine if_f (decide_eq_false c2) ?_
      cases r1 with
      | nil => exact absurd (show (-1 : Int) < 32 by decide) c1
      | cons z q =>
        have z1 : ¬ (z : Int) < 32 := c1
        have z2 : ¬ 126 < (z : Int) := c2
        obtain ⟨dx1, p1, hc1, hp1, e1⟩ := cu1.ex
        refine ⟨_, rfl, c, dx1, _, rfl, hc1, cu_step, c, a, b, _, rfl, cu1, (by simp), fun H2 cu2 b2 => ?_⟩
        refine ⟨_, rfl, ?_⟩
        exact kQ z q (hyes z q rfl (by omega) (by omega)) H2 cu2 (b1.trans b2)
    refine ⟨_, rfl, rfl, _, rfl, ?_⟩
    by_cases hs : sgn r = (92 : Nat)
    · refine if_t (dV_t hs) ?_
      obtain ⟨q, rfl⟩ := sgn_eq.mp hs
      refine ⟨_, rfl, c, dx, _, rfl, hc, cu_step, c, a, b, _, rfl, cu, (by simp), fun H1 cu1 b1 => ?_⟩
      obtain ⟨dx1, p1, hc1, hp1, e1⟩ := cu1.ex
      refine ⟨_, rfl, c, dx1, _, rfl, hc1, cu_sign, c, a, b, _, rfl, cu1, hl, ?_⟩
      refine ⟨_, rfl, rfl, _, rfl, ?_⟩
      show if (!decide (V.int (sgn q) = V.int 34)) = true then _ else _
      have bad : sgn q ≠ (34 : Nat) → sgn q ≠ (92 : Nat) → byteR (92 :: q) = none := by
        intro h1 h2
        cases q with
        | nil => rfl
        | cons z q =>
          rw [byteR_92, if_neg]
          rintro (h | h)
          · subst h; exact h1 rfl
          · subst h; exact h2 rfl
      have good : sgn q = (34 : Nat) ∨ sgn q = (92 : Nat) → (tSeq (tIfS (tOr (tTest (tOp (rI0 fun i j => .bl (decide (i < j))) (tVar 1) (tC (.int 32)))) (tTest (tOp (rI0 fun i j => .bl (decide (j < i))) (tVar 1) (tC (.int 126))))) (fun _ σ H => E (.ref CN) none H) tNext)
          (tSeq (tDrop (tMeth CC "step" (spStep K CC) [] E0 (tVar 0) tNil)) (tRet (tVar 1)))) { nx := fun _ H' => Q .non H', rt := Q } [some (.ref c), some (.int (sgn q))] H1 := by
        intro h
        refine go q H1 cu1 b1 (fun z => absurd (show 32 ≤ sgn q ∧ sgn q ≤ 126 by omega) z) ?_
        rintro z q' rfl _ _
        rw [byteR_92, if_pos]
        rcases h with h | h
        · left; have h' : (z : Int) = 34 := h; omega
        · right; have h' : (z : Int) = 92 := h; omega
      by_cases c1 : sgn q = (34 : Nat)
      · refine if_f (nV_f c1) ?_
        refine if_f rfl ?_
        exact good (.inl c1)
      · refine if_t (nV_t c1) ?_
        refine ⟨_, rfl, rfl, _, rfl, ?_⟩
        by_cases c2 : sgn q = (92 : Nat)
        · refine if_f (nV_f c2) ?_
          exact good (.inr c2)
        · refine if_t (nV_t c2) ?_
          exact kE (bad c1 c2) _
    · refine if_f (dV_f hs) ?_
      refine go r H cu But.refl ?_ ?_
      · intro h
        cases r with
        | nil => rfl
        | cons z q =>
          rw [byteR_c (by rintro rfl; exact hs rfl), if_neg]
          intro h2
          refine h ?_
          show 32 ≤ (z : Int) ∧ (z : Int) ≤ 126
          omega
      · rintro z q rfl h1 h2
        rw [byteR_c (by rintro rfl; exact hs rfl), if_pos ⟨h1, h2⟩]
/-! ### read_text -/
/-- bytes as they stand in the heap -/
def bys (b : Bytes) : List V := b.map fun (c : Nat) => V.int (c : Int)
def spReadText (K : Frag) (CC CN : Addr) : Sp := fun vs H Q E => ∃ c a b r, vs = [.ref c] ∧ CuAt K CC H c a b r ∧ b.length ≤ 5000 ∧
  (textR r = none → Fl CN E) ∧ ∀ x q, textR r = some (x, q) → ∀ H' t, CuAt K CC H' c a b q → H' t = some (.tup (bys x)) → But c H H' → Q (.ref t) H'
theorem scReadText : FnScope ["cursor", "text"] ["cursor"] (defScope sReadText) := ⟨rfl, rfl, rfl, by decide +kernel, rfl, by decide +kernel, by decide +kernel⟩
theorem textAt_step {r : Bytes} (h : ∀ q, r ≠ 34 :: q) : textAt r = (byteR r).bind fun x => (textAt x.2).map fun y => (x.1 :: y.1, y.2) := by
  match r with
  | [] => rfl
  | [92] => rfl
  | 92 :: c :: q =>
    rw [byteR_92]
    show (if c = 34 ∨ c = 92 then (textAt q).map fun x => (c :: x.1, x.2) else none) = _
    by_cases hc : c = 34 ∨ c = 92
    · rw [if_pos hc, if_pos hc]; rfl
    · rw [if_neg hc, if_neg hc]; rfl
  | c :: q =>
    by_cases h92 : c = 92
    · subst h92
      cases q with
      | nil => rfl
      | cons c q =>
        rw [byteR_92]
        show (if c = 34 ∨ c = 92 then (textAt q).map fun x => (c :: x.1, x.2) else none) = _
        by_cases hc : c = 34 ∨ c = 92
        · rw [if_pos hc, if_pos hc]; rfl
        · rw [if_neg hc, if_neg hc]; rfl
    · have e : textAt (c :: q) = if 32 ≤ c ∧ c ≤ 126 ∧ c ≠ 92 then (textAt q).map fun x => (c :: x.1, x.2) else none := by
        conv => lhs; unfold textAt
        split
        · next z => cases z; exact absurd rfl (h q)
        · next z => cases z; exact absurd rfl h92
        · next z => cases z; rfl
        · next z => cases z
      rw [e, byteR_c h92]
      by_cases hc : 32 ≤ c ∧ c ≤ 126
      · rw [if_pos ⟨hc.1, hc.2, h92⟩, if_pos hc]; rfl
      · rw [if_neg (fun z => hc ⟨z.1, z.2.1⟩), if_neg hc]; rfl
theorem byteR_len {r : Bytes} {n : Nat} {q : Bytes} (h : byteR r = some (n, q)) : q.length < r.length := by
  match r with
  | [] => cases h
  | [92] => cases h
  | 92 :: c :: r =>
    rw [byteR_92] at h
    split at h <;> cases h
    simp
    omega
  | c :: r =>
    by_cases h92 : c = 92
    · subst h92
      cases r with
      | nil => cases h
      | cons c r =>
        rw [byteR_92] at h
        split at h <;> cases h
        simp
        omega
    · rw [byteR_c h92] at h
      split at h <;> cases h
      simp
theorem ok_readText {f : Addr} {fd : FuncData} (F : Fun K "read_text" "read_text" sReadText f fd) (T : Tx K mg CC CO CR CN bB bW) (dY : DefOk P w K mg base (L2.CX P w) 3 "read_text_byte" ["cursor"] (spReadTextByte K CC CN))
    (mS : MetOk P w K mg base CX0 2 CC "sign" ["self"] (spSign K CC)) (mT : MetOk P w K mg base CX0 1 CC "step" ["self"] (spStep K CC)) : FnOk P w K mg base (L2.CX P w) 4 f fd ["cursor"] (spReadText K CC CN) := by
  refine F.okX scReadText (fun vs H Q E h => ?_) (fun cdv A outer s H vs Q E hr h => ?_)
  · obtain ⟨_, _, _, _, rfl, _⟩ := h
    rfl
  · obtain ⟨c, a, b, r, rfl, cu, hl, kE, kQ⟩ := h
    have hr1 : Room 1 _ := hr.mono (by decide)
    have hr2 : Room 2 _ := hr.mono (by decide)
    refine ⟨_, pss_cons (ps_if (pt_cmpR op_ne (pe_met0 mS T.cC hr2 pass0 (pv 0)) (pe_const T.gQUOTE) (nomark _)) (pss_one (ps_rn T (takes_of rfl rfl rfl rfl))) pss_nil)
      (pss_cons (ps_expr (pe_met0 mT T.cC hr1 pass0 (pv 0)))
      (pss_cons (ps_set (i := 1) scReadText.nd rfl (Or.inl rfl) (pe_lst pa_nil))
      (pss_cons (ps_while (passes_of rfl) (pt_cmpR op_ne (pe_met0 mS T.cC hr2 pass0 (pv 0)) (pe_const T.gQUOTE) (nomark _))
        (pss_one (ps_expr (pe_bm PySem.F.plainAttrs_list PySem.F.slot_list_append PySem.F.type_list_append mt_append (pv 1) (pa_cons (pe_def dY hr (passes_call (takes_of rfl rfl rfl rfl) (fun _ _ _ _ h => h)) (pa_cons (pv 0) pa_nil)) pa_nil)))))
      (pss_cons (ps_expr (pe_met0 mT T.cC hr1 pass0 (pv 0)))
      (pss_one (ps_ret (pe_callTy call_tuple_of (by rfl) T.tup (by decide +kernel) (pa_cons (pv 1) pa_nil)))))))), ?_⟩
    obtain ⟨dx, p, hc, hp, e⟩ := cu.ex
    refine ⟨_, rfl, c, dx, _, rfl, hc, cu_sign, c, a, b, r, rfl, cu, hl, rfl, _, rfl, ?_⟩
    unfold textR at kE kQ
    by_cases hs : sgn r = (34 : Nat)
    · refine if_f (nV_f hs) ?_
      have hh := sgn_head.mp hs
      obtain ⟨r0, rfl⟩ := sgn_eq.mp hs
      rw [if_pos hh] at kE kQ
      have kE' : textAt r0 = none → Fl CN E := kE
      have kQ' : ∀ x q, textAt r0 = some (x, q) → ∀ H' t, CuAt K CC H' c a b q → H' t = some (.tup (bys x)) → But c H H' → Q (.ref t) H' := kQ
      refine ⟨_, rfl, c, dx, _, rfl, hc, cu_step, c, a, b, _, rfl, cu, (by simp), fun H1 cu1 b1 => ?_⟩
      refine ⟨(by show 0 ≤ sizeLine; exact Nat.zero_le _), fun l hl0 => ?_⟩
      have st := cu1.set (o := .lst []) cu1 But.refl hl0
      obtain ⟨oc, hoc⟩ := cu1.get
      have lc : l ≠ c := Ne.symm (ne_of_none hoc hl0)
      refine ⟨fun m σ H' => ∃ u v, m = v.length ∧ u.length + v.length ≤ r0.length ∧ textAt r0 = (textAt v).map (fun x => (u ++ x.1, x.2)) ∧ σ = [some (.ref c), some (.ref l)] ∧ CuAt K CC H' c a b v ∧ H' l = some (.lst (bys u)) ∧ But c H1 H',
        ⟨_, [], r0, rfl, (by simp), (by cases textAt r0 <;> rfl), rfl, st.1, upd_same, st.2⟩, ?_⟩
      rintro m σ H2 ⟨u, v, rfl, hlen, e2, rfl, cu2, h2, b2⟩
      obtain ⟨dx2, p2, hc2, _, _⟩ := cu2.ex
      refine ⟨_, rfl, c, dx2, _, rfl, hc2, cu_sign, c, a, b, v, rfl, cu2, hl, rfl, _, rfl, ?_⟩
      by_cases hv : sgn v = (34 : Nat)
      · refine if_f (nV_f hv) ?_
        obtain ⟨q, rfl⟩ := sgn_eq.mp hv
        refine ⟨_, rfl, c, dx2, _, rfl, hc2, cu_step, c, a, b, _, rfl, cu2, (by simp), fun H3 cu3 b3 => ?_⟩
        have h3 := b3 l _ h2 lc
        refine ⟨_, rfl, l, _, rfl, .inl ⟨SqL.of h3, fun t ht => ?_⟩⟩
        have et : textAt r0 = some (u, q) := by
          rw [e2]
          show some (u ++ [], q) = _
          rw [List.append_nil]
        have cu4 := (cu3.set (o := .tup (bys u)) cu3 But.refl ht)
        refine kQ' u q et _ t cu4.1 upd_same (((b1.trans b2).trans b3).trans cu4.2)
      · refine if_t (nV_t hv) ⟨fun σ' H' => ∃ n q, byteR v = some (n, q) ∧ σ' = [some (.ref c), some (.ref l)] ∧ CuAt K CC H' c a b q ∧ H' l = some (.lst (bys (u ++ [n]))) ∧ But c H1 H', ?_, ?_⟩
        · rintro σ' H' ⟨n, q, hb, rfl, cu3, h3, b3⟩
          refine ⟨q.length, byteR_len hb, u ++ [n], q, rfl, ?_, ?_, rfl, cu3, h3, b3⟩
          · have := byteR_len hb
            rw [List.length_append]
            simp
            omega
          · rw [e2, textAt_step (fun q z => hv (by rw [z]; rfl)), hb]
            show ((textAt q).map fun y => (n :: y.1, y.2)).map _ = _
            cases textAt q with
            | none => rfl
            | some y => simp
        · refine ⟨_, rfl, .inl ⟨rfl, _, SqL.of h2⟩, ?_⟩
          refine ⟨_, rfl, c, a, b, v, rfl, cu2, hl, fun hb => ?_, fun n q hb H3 cu3 b3 => ?_⟩
          · refine kE' ?_
            rw [e2, textAt_step (fun q z => hv (by rw [z]; rfl)), hb]
            rfl
          · have h3 := b3 l _ h2 lc
            have hz : (bys u).length < sizeLine := by
              have h5 : 5000 < sizeLine := by decide
              have h6 := cu1.len
              unfold bys
              rw [List.length_map]
              have : (34 :: r0 : Bytes).tail.length = r0.length := rfl
              omega
            refine ⟨l, _, _, rfl, rfl, h3, hz, ?_⟩
            have st3 := cu1.set (o := .lst (bys u ++ [.int (n : Nat)])) cu3 (b2.trans b3) hl0
            refine ⟨n, q, hb, rfl, st3.1, ?_, st3.2⟩
            rw [upd_same]
            unfold bys
            rw [List.map_append]
            rfl
    · refine if_t (nV_t hs) ?_
      refine kE ?_ _
      rw [if_neg (fun z => hs (sgn_head.mpr z))]
end
end Vt

namespace Vt
open PySem PySem.Spec PyProof.Rows L2
open PySem.W (Frag)
open Kcs7 (Bytes)
/-! ### values as they lie in the heap -/
/-- a value's row of four -/
abbrev vt (k : Int) (h : V) (v : Kcs7.V) : HO := .tup [.int k, h, .int (Kcs7.size v : Nat), .int (Kcs7.depth v : Nat)]
mutual
inductive VAt (H : Hp) : V → Kcs7.V → Prop where
  | null {t : Addr} : H t = some (vt 0 .non .null) → VAt H (.ref t) .null
  | fal {t : Addr} : H t = some (vt 1 .non (.bool false)) → VAt H (.ref t) (.bool false)
  | tru {t : Addr} : H t = some (vt 2 .non (.bool true)) → VAt H (.ref t) (.bool true)
  | num {t : Addr} {n : Int} : H t = some (vt 3 (.int n) (.num n)) → VAt H (.ref t) (.num n)
  | text {t q : Addr} {b : Bytes} : H t = some (vt 4 (.ref q) (.text b)) → H q = some (.tup (bys b)) → VAt H (.ref t) (.text b)
  | list {t q : Addr} {xs : List V} {l : List Kcs7.V} : H t = some (vt 5 (.ref q) (.list l)) → H q = some (.tup xs) → VsAt H xs l → VAt H (.ref t) (.list l)
  | record {t q : Addr} {xs : List V} {l : List (Bytes × Kcs7.V)} : H t = some (vt 6 (.ref q) (.record l)) → H q = some (.tup xs) → FsAt H xs l → VAt H (.ref t) (.record l)
inductive VsAt (H : Hp) : List V → List Kcs7.V → Prop where
  | nil : VsAt H [] []
  | cons {x : V} {v : Kcs7.V} {xs : List V} {l : List Kcs7.V} : VAt H x v → VsAt H xs l → VsAt H (x :: xs) (v :: l)
inductive FsAt (H : Hp) : List V → List (Bytes × Kcs7.V) → Prop where
  | nil : FsAt H [] []
  | cons {f n : Addr} {x : V} {name : Bytes} {v : Kcs7.V} {xs : List V} {l : List (Bytes × Kcs7.V)} : H f = some (.tup [.ref n, x]) → H n = some (.tup (bys name)) → VAt H x v → FsAt H xs l → FsAt H (.ref f :: xs) ((name, v) :: l)
end
/-- tuples stay -/
def Tk (H H' : Hp) : Prop := ∀ b xs, H b = some (.tup xs) → H' b = some (.tup xs)
mutual
theorem VAt.mono {H H' : Hp} (k : Tk H H') : ∀ {x : V} {v : Kcs7.V}, VAt H x v → VAt H' x v
  | _, _, .null h => .null (k _ _ h)
  | _, _, .fal h => .fal (k _ _ h)
  | _, _, .tru h => .tru (k _ _ h)
  | _, _, .num h => .num (k _ _ h)
  | _, _, .text h q => .text (k _ _ h) (k _ _ q)
  | _, _, .list h q r => .list (k _ _ h) (k _ _ q) (VsAt.mono k r)
  | _, _, .record h q r => .record (k _ _ h) (k _ _ q) (FsAt.mono k r)
theorem VsAt.mono {H H' : Hp} (k : Tk H H') : ∀ {xs : List V} {l : List Kcs7.V}, VsAt H xs l → VsAt H' xs l
  | _, _, .nil => .nil
  | _, _, .cons h r => .cons (VAt.mono k h) (VsAt.mono k r)
theorem FsAt.mono {H H' : Hp} (k : Tk H H') : ∀ {xs : List V} {l : List (Bytes × Kcs7.V)}, FsAt H xs l → FsAt H' xs l
  | _, _, .nil => .nil
  | _, _, .cons h n v r => .cons (k _ _ h) (k _ _ n) (VAt.mono k v) (FsAt.mono k r)
end
theorem VsAt.len {H : Hp} : ∀ {xs : List V} {l : List Kcs7.V}, VsAt H xs l → xs.length = l.length
  | _, _, .nil => rfl
  | _, _, .cons _ r => congrArg (· + 1) (VsAt.len r)
theorem VsAt.snoc {H : Hp} {x : V} {v : Kcs7.V} : ∀ {xs : List V} {l : List Kcs7.V}, VsAt H xs l → VAt H x v → VsAt H (xs ++ [x]) (l ++ [v])
  | _, _, .nil, h => .cons h .nil
  | _, _, .cons a r, h => .cons a (VsAt.snoc r h)
/-- a name as a key -/
def keyB (n : Bytes) : List Key := n.map fun (c : Nat) => Sum.inl (c : Int)
theorem keyB_kV (n : Bytes) : (keyB n).map kV = bys n := by
  unfold keyB bys
  rw [List.map_map]
  rfl
theorem keyB_inj {n m : Bytes} (h : keyB n = keyB m) : n = m := by
  unfold keyB at h
  induction n generalizing m with
  | nil =>
    cases m with
    | nil => rfl
    | cons _ _ => cases h
  | cons c n ih =>
    cases m with
    | nil => cases h
    | cons d m =>
      rw [List.map_cons, List.map_cons] at h
      obtain ⟨h1, h2⟩ := List.cons.inj h
      have h3 : (c : Int) = d := Sum.inl.inj h1
      rw [ih h2, show c = d by omega]
inductive KvAt (H : Hp) : List (List Key × V) → List (Bytes × Kcs7.V) → Prop where
  | nil : KvAt H [] []
  | cons {n : Bytes} {x : V} {v : Kcs7.V} {kvs : List (List Key × V)} {fs : List (Bytes × Kcs7.V)} : VAt H x v → KvAt H kvs fs → KvAt H ((keyB n, x) :: kvs) ((n, v) :: fs)
theorem KvAt.mono {H H' : Hp} (k : Tk H H') {kvs : List (List Key × V)} {fs : List (Bytes × Kcs7.V)} (h : KvAt H kvs fs) : KvAt H' kvs fs := by
  induction h with
  | nil => exact .nil
  | cons a _ ih => exact .cons (a.mono k) ih
theorem KvAt.len {H : Hp} {kvs : List (List Key × V)} {fs : List (Bytes × Kcs7.V)} (h : KvAt H kvs fs) : kvs.length = fs.length := by
  induction h with
  | nil => rfl
  | cons a _ ih => exact congrArg (· + 1) ih
theorem KvAt.snoc {H : Hp} {n : Bytes} {x : V} {v : Kcs7.V} {kvs : List (List Key × V)} {fs : List (Bytes × Kcs7.V)} (h : KvAt H kvs fs) (hv : VAt H x v) : KvAt H (kvs ++ [(keyB n, x)]) (fs ++ [(n, v)]) := by
  induction h with
  | nil => exact .cons hv .nil
  | cons a _ ih => exact .cons a ih
theorem KvAt.gone {H : Hp} {n : Bytes} {kvs : List (List Key × V)} {fs : List (Bytes × Kcs7.V)} (h : KvAt H kvs fs) (hn : n ∉ fs.map Prod.fst) : valV kvs (keyB n) = none := by
  induction h with
  | nil => rfl
  | cons a _ ih =>
    rw [List.map_cons, List.mem_cons, not_or] at hn
    rw [valV_neg (fun z => hn.1 (keyB_inj z).symm)]
    exact ih hn.2
theorem KvAt.found {H : Hp} {n : Bytes} {kvs : List (List Key × V)} {fs : List (Bytes × Kcs7.V)} (h : KvAt H kvs fs) (hn : n ∈ fs.map Prod.fst) : ∃ x v, valV kvs (keyB n) = some x ∧ VAt H x v ∧ (n, v) ∈ fs := by
  induction h with
  | nil => cases hn
  | @cons m x v kvs fs a _ ih =>
    by_cases e : m = n
    · subst e
      exact ⟨x, v, valV_pos rfl, a, List.mem_cons_self⟩
    · rw [List.map_cons, List.mem_cons] at hn
      rcases hn with z | z
      · exact absurd z.symm e
      · obtain ⟨x', v', h1, h2, h3⟩ := ih z
        exact ⟨x', v', by rw [valV_neg (fun y => e (keyB_inj y))]; exact h1, h2, List.mem_cons_of_mem _ h3⟩
theorem putK_new {kvs : List (List Key × V)} {k : List Key} {v : V} (h : valV kvs k = none) : putK kvs k v = kvs ++ [(k, v)] := by
  unfold putK
  rw [valV_any, h]
  rfl

/-! ### what is open -/
abbrev opO (CO dx : Addr) (k : Int) (la da : Addr) (nm : V) : HO := .ins CO dx [("kind", .int k), ("listed", .ref la), ("fields", .ref da), ("name", nm)]
structure OA where
  o : Addr
  la : Addr
  da : Addr
def NmAt (H : Hp) (nv : V) : Option Bytes → Prop
  | none => nv = .non
  | some n => ∃ t, nv = .ref t ∧ H t = some (.tup (bys n))
def OpnAt (CO : Addr) (H : Hp) (x : OA) : Opn → Prop
  | .lst l => ∃ dx xs, H x.o = some (opO CO dx 5 x.la x.da .non) ∧ H x.la = some (.lst xs) ∧ VsAt H xs l ∧ H x.da = some (.dT [])
  | .rcd fs nm => ∃ dx nv kvs, H x.o = some (opO CO dx 6 x.la x.da nv) ∧ H x.la = some (.lst []) ∧ H x.da = some (.dT kvs) ∧ KvAt H kvs fs ∧ NmAt H nv nm
def OA.all (x : OA) : List Addr := [x.o, x.la, x.da]
/-- what stands at the three places, and the tuples, stays -/
theorem OpnAt.mono {CO : Addr} {H H' : Hp} {x : OA} {o : Opn} (h : OpnAt CO H x o) (k : Tk H H') (hk : ∀ b ∈ x.all, ∀ u, H b = some u → H' b = some u) : OpnAt CO H' x o := by
  have k1 := hk x.o (by simp [OA.all])
  have k2 := hk x.la (by simp [OA.all])
  have k3 := hk x.da (by simp [OA.all])
  cases o with
  | lst l =>
    obtain ⟨dx, xs, h1, h2, h3, h4⟩ := h
    exact ⟨dx, xs, k1 _ h1, k2 _ h2, h3.mono k, k3 _ h4⟩
  | rcd fs nm =>
    obtain ⟨dx, nv, kvs, h1, h2, h3, h4, h5⟩ := h
    refine ⟨dx, nv, kvs, k1 _ h1, k2 _ h2, k3 _ h3, h4.mono k, ?_⟩
    cases nm with
    | none => exact h5
    | some n =>
      obtain ⟨t, e, ht⟩ := h5
      exact ⟨t, e, k _ _ ht⟩
section
variable {P : Program} {w : World} {K : Frag} {mg : Str → Option Value} {base : Heap} {CC CO CR CN bB bW : Addr}
theorem op_kind {a b c d : V} : List.lookup ("kind" : Str) [(("kind" : Str), a), (("listed" : Str), b), (("fields" : Str), c), (("name" : Str), d)] = some a := lk_here
theorem op_listed {a b c d : V} : List.lookup ("listed" : Str) [(("kind" : Str), a), (("listed" : Str), b), (("fields" : Str), c), (("name" : Str), d)] = some b := (lk_past (by decide +kernel)).trans lk_here
theorem op_fields {a b c d : V} : List.lookup ("fields" : Str) [(("kind" : Str), a), (("listed" : Str), b), (("fields" : Str), c), (("name" : Str), d)] = some c := (lk_past (by decide +kernel)).trans ((lk_past (by decide +kernel)).trans lk_here)
theorem op_name {a b c d : V} : List.lookup ("name" : Str) [(("kind" : Str), a), (("listed" : Str), b), (("fields" : Str), c), (("name" : Str), d)] = some d :=
  (lk_past (by decide +kernel)).trans ((lk_past (by decide +kernel)).trans ((lk_past (by decide +kernel)).trans lk_here))
theorem op_no {x : Str} {a b c d : V} (h1 : (x == ("kind" : Str)) = false) (h2 : (x == ("listed" : Str)) = false) (h3 : (x == ("fields" : Str)) = false) (h4 : (x == ("name" : Str)) = false) :
    List.lookup x [(("kind" : Str), a), (("listed" : Str), b), (("fields" : Str), c), (("name" : Str), d)] = none := (lk_past h1).trans ((lk_past h2).trans ((lk_past h3).trans ((lk_past h4).trans rfl)))
theorem op_putN {a b c d e : V} : putF "name" e [(("kind" : Str), a), (("listed" : Str), b), (("fields" : Str), c), (("name" : Str), d)] = [(("kind" : Str), a), (("listed" : Str), b), (("fields" : Str), c), (("name" : Str), e)] :=
  (put_past (by decide +kernel)).trans (congrArg _ ((put_past (by decide +kernel)).trans (congrArg _ ((put_past (by decide +kernel)).trans (congrArg _ put_here)))))
/-! __init__ -/
def spOInit (CO : Addr) : Sp := fun vs H Q _ => ∃ x dx k, vs = [.ref x, .int k] ∧ H x = some (.ins CO dx []) ∧
  ∀ H' la da, H la = none → H da = none → la ≠ da → H' x = some (opO CO dx k la da .non) → H' la = some (.lst []) → H' da = some (.dT []) → But x H H' → Q .non H'
theorem scOInit : FnScope ["self", "kind"] ["self", "kind"] (defScope sOInit) := ⟨rfl, rfl, rfl, by decide +kernel, rfl, by decide +kernel, by decide +kernel⟩
theorem ok_oinit {f : Addr} {fd : FuncData} (F : Fun K "__init__" "Opened.__init__" sOInit f fd) (T : Tx K mg CC CO CR CN bB bW) : FnOk P w K mg base CX0 1 f fd ["self", "kind"] (spOInit CO) := by
  refine F.ok scOInit (fun vs H Q E h => ?_) (fun cdv A outer s H vs Q E hr h => ?_)
  · obtain ⟨_, _, _, rfl, _⟩ := h
    rfl
  · obtain ⟨x, dx, k, rfl, hx, q⟩ := h
    refine ⟨_, pss_cons (ps_fld (pv 0) (pv 1) rfl) (pss_cons (ps_fld (pv 0) (pe_lst pa_nil) rfl) (pss_cons (ps_fld (pv 0) pe_dnewT rfl) (pss_one (ps_fld (pv 0) pe_non rfl)))), ?_⟩
    refine ⟨_, rfl, _, rfl, x, CO, dx, [], rfl, hx, T.cO, T.nKind, (by show 0 < 1000; decide), ?_⟩
    refine ⟨(by show 0 ≤ sizeLine; exact Nat.zero_le _), fun la hla => ?_⟩
    have nx : x ≠ la := by
      intro z; subst z
      rw [upd_same] at hla; cases hla
    have hla0 : H la = none := by rw [upd_ne (Ne.symm nx)] at hla; exact hla
    refine ⟨_, rfl, x, CO, dx, _, rfl, by rw [upd_ne nx]; exact upd_same, T.cO, T.nListed, (by show 1 < 1000; decide), ?_⟩
    intro da hda
    have nx2 : x ≠ da := by
      intro z; subst z
      rw [upd_same] at hda; cases hda
    rw [upd_ne (Ne.symm nx2)] at hda
    have nl : la ≠ da := by
      intro z; subst z
      rw [upd_same] at hda; cases hda
    have hda0 : H da = none := by rw [upd_ne (Ne.symm nl), upd_ne (Ne.symm nx2)] at hda; exact hda
    refine ⟨_, rfl, x, CO, dx, _, rfl, by rw [upd_ne nx2]; exact upd_same, T.cO, T.nFields, (by show 2 < 1000; decide), ?_⟩
    refine ⟨_, rfl, x, CO, dx, _, rfl, upd_same, T.cO, T.nName, (by show 3 < 1000; decide), ?_⟩
    have e : putF "name" .non (putF "fields" (.ref da) (putF "listed" (.ref la) (putF "kind" (.int k) []))) = [(("kind" : Str), V.int k), (("listed" : Str), V.ref la), (("fields" : Str), V.ref da), (("name" : Str), V.non)] := by
      have e1 : putF "listed" (.ref la) (putF "kind" (.int k) []) = [(("kind" : Str), V.int k), (("listed" : Str), V.ref la)] := (put_past (by decide +kernel)).trans rfl
      have e2 : putF "fields" (.ref da) [(("kind" : Str), V.int k), (("listed" : Str), V.ref la)] = [(("kind" : Str), V.int k), (("listed" : Str), V.ref la), (("fields" : Str), V.ref da)] := (put_past (by decide +kernel)).trans (congrArg _ ((put_past (by decide +kernel)).trans rfl))
      have e3 : putF "name" .non [(("kind" : Str), V.int k), (("listed" : Str), V.ref la), (("fields" : Str), V.ref da)] = [(("kind" : Str), V.int k), (("listed" : Str), V.ref la), (("fields" : Str), V.ref da), (("name" : Str), V.non)] :=
        (put_past (by decide +kernel)).trans (congrArg _ ((put_past (by decide +kernel)).trans (congrArg _ ((put_past (by decide +kernel)).trans rfl))))
      rw [e1, e2, e3]
    rw [e]
    refine q _ la da hla0 hda0 nl upd_same ?_ ?_ ?_
    · rw [upd_ne (Ne.symm nx), upd_ne (Ne.symm nx), upd_ne nl, upd_ne (Ne.symm nx)]
      exact upd_same
    · rw [upd_ne (Ne.symm nx2), upd_ne (Ne.symm nx2)]
      exact upd_same
    · intro d o hd hn
      rw [upd_ne hn, upd_ne hn, upd_ne (ne_of_none hd hda0), upd_ne hn, upd_ne (ne_of_none hd hla0), upd_ne hn]
      exact hd
/-! end_sign, first_wanted -/
def spEndSign (CO : Addr) : Sp := fun vs H Q _ => ∃ o dx k la da nm, vs = [.ref o] ∧ H o = some (opO CO dx k la da nm) ∧ Q (.int (if k = 5 then 93 else 125)) H
def spFirstWanted (CO : Addr) : Sp := fun vs H Q _ => ∃ o dx k la da nm, vs = [.ref o] ∧ H o = some (opO CO dx k la da nm) ∧ Q (.int (if k = 5 then 0 else 1)) H
theorem scEndSign : FnScope ["self"] ["self"] (defScope sEndSign) := ⟨rfl, rfl, rfl, by decide +kernel, rfl, by decide +kernel, by decide +kernel⟩
theorem scFirstWanted : FnScope ["self"] ["self"] (defScope sFirstWanted) := ⟨rfl, rfl, rfl, by decide +kernel, rfl, by decide +kernel, by decide +kernel⟩
theorem ok_endSign {f : Addr} {fd : FuncData} (F : Fun K "end_sign" "Opened.end_sign" sEndSign f fd) (T : Tx K mg CC CO CR CN bB bW) : FnOk P w K mg base CX0 1 f fd ["self"] (spEndSign CO) := by
  refine F.ok scEndSign (fun vs H Q E h => ?_) (fun cdv A outer s H vs Q E hr h => ?_)
  · obtain ⟨_, _, _, _, _, _, rfl, _⟩ := h
    rfl
  · obtain ⟨o, dx, k, la, da, nm, rfl, ho, q⟩ := h
    refine ⟨_, pss_one (ps_ret (pe_ifExp (pt_cmpR op_eq (pe_fld (pv 0) rfl) (pe_const T.gLIST) (nomark _)) (pe_const T.gLIST_END) (pe_const T.gRECORD_END))), ?_⟩
    refine ⟨_, rfl, o, CO, dx, _, _, rfl, ho, T.cO, T.nKind, op_kind, rfl, _, rfl, ?_⟩
    by_cases h : k = 5
    · refine if_t (dV_t h) ?_
      rw [if_pos h] at q
      exact q
    · refine if_f (dV_f h) ?_
      rw [if_neg h] at q
      exact q
theorem ok_firstWanted {f : Addr} {fd : FuncData} (F : Fun K "first_wanted" "Opened.first_wanted" sFirstWanted f fd) (T : Tx K mg CC CO CR CN bB bW) : FnOk P w K mg base CX0 1 f fd ["self"] (spFirstWanted CO) := by
  refine F.ok scFirstWanted (fun vs H Q E h => ?_) (fun cdv A outer s H vs Q E hr h => ?_)
  · obtain ⟨_, _, _, _, _, _, rfl, _⟩ := h
    rfl
  · obtain ⟨o, dx, k, la, da, nm, rfl, ho, q⟩ := h
    refine ⟨_, pss_one (ps_ret (pe_ifExp (pt_cmpR op_eq (pe_fld (pv 0) rfl) (pe_const T.gLIST) (nomark _)) (pe_const T.gWANTS_VALUE) (pe_const T.gWANTS_NAME))), ?_⟩
    refine ⟨_, rfl, o, CO, dx, _, _, rfl, ho, T.cO, T.nKind, op_kind, rfl, _, rfl, ?_⟩
    by_cases h : k = 5
    · refine if_t (dV_t h) ?_
      rw [if_pos h] at q
      exact q
    · refine if_f (dV_f h) ?_
      rw [if_neg h] at q
      exact q
/-! put_name -/
def spPutName (CO CN : Addr) : Sp := fun vs H Q E => ∃ o dx k la da nm t n kvs fs, vs = [.ref o, .ref t] ∧ H o = some (opO CO dx k la da nm) ∧ H t = some (.tup (bys n)) ∧ H da = some (.dT kvs) ∧ KvAt H kvs fs ∧
  (n ∈ fs.map Prod.fst → Fl CN E) ∧ (n ∉ fs.map Prod.fst → Q .non (upd H o (opO CO dx k la da (.ref t))))
theorem scPutName : FnScope ["self", "name"] ["self", "name"] (defScope sPutName) := ⟨rfl, rfl, rfl, by decide +kernel, rfl, by decide +kernel, by decide +kernel⟩
theorem ok_putName {f : Addr} {fd : FuncData} (F : Fun K "put_name" "Opened.put_name" sPutName f fd) (T : Tx K mg CC CO CR CN bB bW) : FnOk P w K mg base (L2.CX P w) 1 f fd ["self", "name"] (spPutName CO CN) := by
  refine F.okX scPutName (fun vs H Q E h => ?_) (fun cdv A outer s H vs Q E hr h => ?_)
  · obtain ⟨_, _, _, _, _, _, _, _, _, _, rfl, _⟩ := h
    rfl
  · obtain ⟨o, dx, k, la, da, nm, t, n, kvs, fs, rfl, ho, ht, hd, kv, kE, kQ⟩ := h
    refine ⟨_, pss_cons (ps_if (pt_cmp (pc_din (hu_of hr) (pv 1) (pe_fld (pv 0) rfl))) (pss_one (ps_rn T (takes_of rfl rfl rfl rfl))) pss_nil) (pss_one (ps_fld (pv 0) (pv 1) rfl)), ?_⟩
    refine ⟨_, rfl, _, rfl, o, CO, dx, _, _, rfl, ho, T.cO, T.nFields, op_fields, da, _, rfl, DGet.t (k := keyB n) hd (by rw [keyB_kV]; exact ht), ?_⟩
    by_cases h : n ∈ fs.map Prod.fst
    · obtain ⟨x, v, h1, _, _⟩ := kv.found h
      rw [h1]
      refine ⟨_, rfl, if_t rfl ?_⟩
      exact kE h _
    · rw [kv.gone h]
      refine ⟨_, rfl, if_f rfl ?_⟩
      refine ⟨_, rfl, _, rfl, o, CO, dx, _, rfl, ho, T.cO, T.nName, (by show 4 < 1000; decide), ?_⟩
      rw [op_putN]
      exact kQ h
/-! put_value -/
def spPutValue (CO : Addr) : Sp := fun vs H Q _ => ∃ o dx k la da nm v, vs = [.ref o, v] ∧ H o = some (opO CO dx k la da nm) ∧
  ((k = 5 ∧ ∃ xs, H la = some (.lst xs) ∧ xs.length < sizeLine ∧ Q .non (upd H la (.lst (xs ++ [v])))) ∨
  (k ≠ 5 ∧ ∃ t n kvs, nm = .ref t ∧ H t = some (.tup (bys n)) ∧ H da = some (.dT kvs) ∧ kvs.length < sizeLine ∧ Q .non (upd H da (.dT (putK kvs (keyB n) v)))))
theorem scPutValue : FnScope ["self", "value"] ["self", "value"] (defScope sPutValue) := ⟨rfl, rfl, rfl, by decide +kernel, rfl, by decide +kernel, by decide +kernel⟩
theorem ok_putValue {f : Addr} {fd : FuncData} (F : Fun K "put_value" "Opened.put_value" sPutValue f fd) (T : Tx K mg CC CO CR CN bB bW) : FnOk P w K mg base CX0 1 f fd ["self", "value"] (spPutValue CO) := by
  refine F.ok scPutValue (fun vs H Q E h => ?_) (fun cdv A outer s H vs Q E hr h => ?_)
  · obtain ⟨_, _, _, _, _, _, _, rfl, _⟩ := h
    rfl
  · obtain ⟨o, dx, k, la, da, nm, v, rfl, ho, h⟩ := h
    refine ⟨_, pss_one (ps_if (pt_cmpR op_eq (pe_fld (pv 0) rfl) (pe_const T.gLIST) (nomark _))
      (pss_one (ps_expr (pe_bm PySem.F.plainAttrs_list PySem.F.slot_list_append PySem.F.type_list_append mt_append (pe_fld (pv 0) rfl) (pa_cons (pv 1) pa_nil))))
      (pss_one (ps_dput (hu_of hr) (pe_fld (pv 0) rfl) (pe_fld (pv 0) rfl) (pv 1) rfl))), ?_⟩
    refine ⟨_, rfl, o, CO, dx, _, _, rfl, ho, T.cO, T.nKind, op_kind, rfl, _, rfl, ?_⟩
    rcases h with ⟨hk, xs, hx, hz, q⟩ | ⟨hk, t, n, kvs, rfl, ht, hd, hz, q⟩
    · refine if_t (dV_t hk) ?_
      refine ⟨_, rfl, o, CO, dx, _, _, rfl, ho, T.cO, T.nListed, op_listed, .inl ⟨rfl, _, SqL.of hx⟩, _, rfl, la, _, _, rfl, rfl, hx, hz, q⟩
    · refine if_f (dV_f hk) ?_
      refine ⟨_, rfl, _, rfl, o, CO, dx, _, _, rfl, ho, T.cO, T.nFields, op_fields, _, rfl, o, CO, dx, _, _, rfl, ho, T.cO, T.nName, op_name, da, _, rfl, DPut.t (k := keyB n) hd (by rw [keyB_kV]; exact ht) hz, q⟩
end
end Vt

namespace Vt
open PySem PySem.Spec PyProof.Rows L2
open PySem.W (Frag)
/-! ### tuples of ints in order: a beginning first -/
theorem lexLt_asym : ∀ {x y : List Int}, HT.lexLt x y = true → HT.lexLt y x = false
  | [], [], h => by cases h
  | [], _ :: _, _ => rfl
  | _ :: _, [], h => by cases h
  | a :: x, b :: y, h => by
    rw [HT.lexLt_cons] at h ⊢
    by_cases e : a = b
    · rw [if_pos e] at h
      rw [if_pos e.symm]
      exact lexLt_asym h
    · rw [if_neg e] at h
      rw [if_neg (Ne.symm e)]
      have := of_decide_eq_true h
      exact decide_eq_false (by omega)
theorem lexLt_tr : ∀ {x y z : List Int}, HT.lexLt y x = false → HT.lexLt z y = false → HT.lexLt z x = false
  | _, [], [], h, _ => h
  | [], [], _ :: _, _, _ => rfl
  | [], _ :: _, [], _, h => by cases h
  | [], _ :: _, _ :: _, _, _ => rfl
  | _ :: _, [], _ :: _, h, _ => by cases h
  | _ :: _, _ :: _, [], _, h => by cases h
  | a :: x, b :: y, c :: z, h1, h2 => by
    rw [HT.lexLt_cons] at h1 h2 ⊢
    by_cases e1 : b = a
    · rw [if_pos e1] at h1
      by_cases e2 : c = b
      · rw [if_pos e2] at h2
        rw [if_pos (e2.trans e1)]
        exact lexLt_tr h1 h2
      · rw [if_neg e2] at h2
        have := of_decide_eq_false h2
        rw [if_neg (by omega)]
        exact decide_eq_false (by omega)
    · rw [if_neg e1] at h1
      have q1 := of_decide_eq_false h1
      by_cases e2 : c = b
      · rw [if_neg (by omega)]
        exact decide_eq_false (by omega)
      · rw [if_neg e2] at h2
        have q2 := of_decide_eq_false h2
        rw [if_neg (by omega)]
        exact decide_eq_false (by omega)
/-- a tuple of ints -/
def IsTI (h : Heap) (v : Value) (ns : List Int) : Prop := ∃ a its, v = .ref a ∧ IsTup h a its ∧ IntsAre its.toList ns
theorem IsTI.keep {h h' : Heap} {v : Value} {ns : List Int} (x : IsTI h v ns) (k : ∀ b o, h.get? b = some o → o.cls = .type "tuple" → h'.get? b = some o) : IsTI h' v ns := by
  obtain ⟨a, its, e, ⟨o, ho, hc, n, hd⟩, hi⟩ := x
  exact ⟨a, its, e, ⟨o, k _ _ ho hc, hc, n, hd⟩, hi⟩
section
variable {prog : Program} {w : World} {A : Around} {E : Value → Shared → Prop} {s : Shared}
theorem katInts {Q : Bool → Shared → Prop} : ∀ {xs ys : List Value} {ns ms : List Int} {i : Nat} {n m : Nat}, IntsAre xs ns → IntsAre ys ms → ns.length + m = ms.length + n → Q (HT.lexLt ns ms) s → PySem.W.KatLex prog w A true (decide (n < m)) Q (xs.zip ys) i s
  | _, _, _, _, i, n, m, .nil, .nil, hl, h => by
    refine PySem.W.kat_nil ?_
    rw [decide_eq_false (by simp at hl; omega)]
    exact h
  | _, _, _, _, i, n, m, .nil, .cons _ _ _, hl, h => by
    refine PySem.W.kat_nil ?_
    rw [decide_eq_true (by simp at hl; omega)]
    exact h
  | _, _, _, _, i, n, m, .cons _ _ _, .nil, hl, h => by
    refine PySem.W.kat_nil ?_
    rw [decide_eq_false (by simp at hl; omega)]
    exact h
  | _, _, _, _, i, n, m, .cons a t r, .cons c u r', hl, h => by
    rw [HT.lexLt_cons] at h
    refine PySem.W.kat_cons (SeqAt.EqAt.int_int a t c u prog w _ _ ?_)
    refine PySem.W.kat_go (fun e => ?_) (fun e => ?_)
    · have e' : a = c := by simpa using e
      rw [if_pos e'] at h
      exact PySem.W.kat_yes (katInts r r' (by simp at hl; omega) h)
    · have e' : ¬ a = c := by simpa using e
      rw [if_neg e'] at h
      exact PySem.W.kat_no (TS.oneLt_ints _ h)
theorem ltTI_tuples {Q : Bool → Shared → Prop} {x y : Value} {ns ms : List Int} (hx : IsTI s.heap x ns) (hy : IsTI s.heap y ms) (h : Q (HT.lexLt ns ms) s) : wpAny (model prog w) A (keyLt' (tuples' true) x y) Q E s := by
  obtain ⟨a, its, rfl, ⟨o, ho, hc, n, hd⟩, hi⟩ := hx
  obtain ⟨b, its', rfl, ⟨o', ho', hc', n', hd'⟩, hi'⟩ := hy
  refine PySem.W.kat_lt ho hd ho' hd' ?_
  have e1 := hi.length
  have e2 := hi'.length
  rw [Array.length_toList] at e1 e2
  exact katInts hi hi' (by omega) h
theorem ltTI_gen {Q : Bool → Shared → Prop} {x y : Value} {ns ms : List Int} (hu : A.units < cLine) (hx : IsTI s.heap x ns) (hy : IsTI s.heap y ms) (h : Q (HT.lexLt ns ms) s) : wpAny (model prog w) A (keyLt' general' x y) Q E s := by
  obtain ⟨a, its, rfl, ht, hi⟩ := hx
  obtain ⟨b, its', rfl, ht', hi'⟩ := hy
  show wpAny _ _ (oneLt' false _ _) _ _ _
  exact PySem.W.kat_one _ _ (HT.lt_tupInts ht ht' hi hi' hu h)
theorem ltTI_one {Q : Bool → Shared → Prop} {x y : Value} {ns ms : List Int} (hu : A.units < cLine) (hx : IsTI s.heap x ns) (hy : IsTI s.heap y ms) (h : Q (HT.lexLt ns ms) s) : wpAny (model prog w) A (keyLt' oneType' x y) Q E s := by
  obtain ⟨a, its, rfl, ⟨⟨cls, dd, data, sl⟩, ho, hc, n, hd⟩, hi⟩ := hx
  obtain ⟨b, its', rfl, ⟨⟨cls', dd', data', sl'⟩, ho', hc', n', hd'⟩, hi'⟩ := hy
  simp only at hc hd hc' hd'
  subst hc hd hc' hd'
  rw [keyLt'_oneType, oneLt'_eq]
  simp only [if_true]
  refine wpAny_bind (wpAny_cRoomFor hu ?_)
  refine wpAny_bind (wpAny_callSpecialIfBound?_slot (T := "tuple") ⟨_, ho, rfl⟩ PySem.F.slot_tuple_lt (call_meets PySem.F.slot_tuple_lt ⟨_, ho, rfl⟩ PySem.F.entry_tuple_lt (PySem.F.args_tuple_lt_2 _ _)
    (HT.tuple_lt_ints a b its its' n n' dd dd' sl sl' ns ms hi hi') ⟨ho, ho', ?_⟩))
  exact wpAny_truthy_bool h
end
section
variable {M : Model} {A : Around} {E : Value → Shared → Prop} {s : Shared}
/-- the first items, none of the empty tuple -/
theorem firstsTI : ∀ (vs : List Value) (ks : List (List Int)) {Q : List (Option Value) → Shared → Prop}, Paired (IsTI s.heap) vs ks →
    (∀ fs : List (Option Value), Paired (fun f k => f.isSome = !k.isEmpty ∧ ∀ v, f = some v → ∃ i t, v = Value.int i t) fs ks → Q fs s) → wpAny M A (vs.mapM firstOfTuple') Q E s
  | [], [], _, _, h => by rw [List.mapM_nil]; exact wpAny_pure (h [] .nil)
  | v :: vs, k :: ks, Q, .cons r t, h => by
    obtain ⟨a, its, rfl, ⟨o, ho, hc, n, hd⟩, hi⟩ := r
    rw [List.mapM_cons]
    refine wpAny_bind ?_
    rw [PySem.W.kas_first_eq]
    refine wpAny_bind (PySem.W.Looks.here (show PySem.W.Looks M s.heap (typeOf (.ref a)) o.cls from (PySem.W.Looks.ld ho).andThen .now) ?_)
    rw [hc, if_neg (by first | decide | simp)]
    refine wpAny_bind (listItems_at ho hd (wpAny_pure ?_))
    refine wpAny_bind (firstsTI vs ks (Q := fun bs s' => wpAny M A (pure (its[0]? :: bs)) Q E s') t fun fs hf => wpAny_pure (h _ (.cons ?_ hf)))
    have e0 : its[0]? = its.toList[0]? := by rw [Array.getElem?_toList]
    rw [e0]
    generalize its.toList = l at hi
    cases hi with
    | nil => exact ⟨rfl, fun v z => nomatch z⟩
    | cons i t r => exact ⟨rfl, fun v z => ⟨i, t, (Option.some.inj z).symm⟩⟩
theorem pairs_all {fs : List (Option Value)} {ks : List (List Int)} (h : Paired (fun f k => f.isSome = !k.isEmpty ∧ ∀ v, f = some v → ∃ i t, v = Value.int i t) fs ks) : fs.all (·.isSome) = ks.all (fun k => !k.isEmpty) := by
  induction h with
  | nil => rfl
  | cons a _ ih => rw [List.all_cons, List.all_cons, ih, a.1]
end
section
variable {prog : Program} {w : World} {A : Around} {s : Shared}
/-- the kind that the sort finds, and that it compares as lexLt says -/
theorem sortTI {a : Addr} {vs : List Value} {ks : List (List Int)} {ltv : Value → Value → Bool} (hu : A.units < cLine) (h2 : 2 ≤ vs.length) (hp : Paired (IsTI s.heap) vs ks)
    (hlt : ∀ v ∈ vs, ∀ u ∈ vs, ∃ ns ms, IsTI s.heap v ns ∧ IsTI s.heap u ms ∧ ltv v u = HT.lexLt ns ms) (ha : ∀ o, s.heap.get? a = some o → o.cls ≠ .type "tuple") : SrtO.SortableO prog w A s a vs ltv := by
  intro h' keep
  have kp : ∀ b o, s.heap.get? b = some o → o.cls = .type "tuple" → h'.get? b = some o := fun b o e c => keep b o (fun z => by subst z; exact ha o e c) e
  have hp' : Paired (IsTI h') vs ks := Paired.mapP hp fun _ _ x => x.keep kp
  have cmp : ∀ κ, (∀ {Q : Bool → Shared → Prop} {x y : Value} {ns ms : List Int}, IsTI h' x ns → IsTI h' y ms → Q (HT.lexLt ns ms) { s with heap := h' } → wpAny (model prog w) A (keyLt' κ x y) Q (fun _ _ => False) { s with heap := h' }) →
      SrtO.Cmp prog w A { s with heap := h' } κ (fun p => p.1 ∈ vs) (SrtO.lt2 ltv) := fun κ hk p q hm hm' => by
    obtain ⟨ns, ms, h1, h2, e⟩ := hlt _ hm _ hm'
    exact hk (h1.keep kp) (h2.keep kp) ⟨rfl, e.symm⟩
  by_cases hall : ks.all (fun k => !k.isEmpty) = true
  · refine ⟨tuples' true, fun Q E hq => ?_, cmp _ fun h1 h2 hq => ltTI_tuples h1 h2 hq⟩
    -- every tuple has a first item
    have tups : ∃ fs, PySem.W.KatTups h' vs fs ∧ fs.length = vs.length ∧ ∀ v ∈ fs, ∃ i t, v = Value.int i t := by
      clear hlt cmp h2 hp
      induction hp' with
      | nil => exact ⟨[], trivial, rfl, fun v h => nomatch h⟩
      | @cons v k vs ks r _ ih =>
        rw [List.all_cons, Bool.and_eq_true] at hall
        obtain ⟨fs, h1, h2, h3⟩ := ih hall.2
        obtain ⟨b, its, rfl, ⟨o, ho, hc, n, hd⟩, hi⟩ := r
        have e0 : its[0]? = its.toList[0]? := by rw [Array.getElem?_toList]
        cases hl : its.toList with
        | nil =>
          rw [hl] at hi
          cases hi
          cases hall.1
        | cons f l =>
          rw [hl] at hi e0
          cases hi with
          | cons i t r =>
            refine ⟨.int i t :: fs, PySem.W.KatTups.cons ho hc hd e0 h1, by simp [h2], ?_⟩
            intro v hv
            rcases List.mem_cons.mp hv with z | z
            · exact ⟨i, t, z⟩
            · exact h3 v z
    obtain ⟨fs, h1, h2', h3⟩ := tups
    refine PySem.W.kat_kind (s := { s with heap := h' }) (T := .type "int") h1 (by omega) (fun f hm => ?_) (by rfl) ?_
    · obtain ⟨x, t, rfl⟩ := h3 f hm
      exact PySem.W.Looks.now
    · have e : (Value.type "int" != Value.type "tuple") = true := by first | decide +kernel | rfl | decide
      rw [e]
      exact hq
  · have hall' : ks.all (fun k => !k.isEmpty) = false := by simpa using hall
    obtain ⟨v1, vs', rfl⟩ : ∃ v1 vs', vs = v1 :: vs' := by
      cases vs with
      | nil => simp at h2
      | cons v1 vs' => exact ⟨v1, vs', rfl⟩
    obtain ⟨k1, ks', rfl⟩ : ∃ k1 ks', ks = k1 :: ks' := by
      cases hp with
      | cons _ _ => exact ⟨_, _, rfl⟩
    by_cases hk1 : k1.isEmpty = true
    · refine ⟨oneType', fun Q E hq => ?_, cmp _ fun h1 h2 hq => ltTI_one hu h1 h2 hq⟩
      rw [PyProof.Rows.kat_kind_eq, List.mapM_toArray, map_eq_pure_bind]
      refine wpAny_bind (wpAny_bind (firstsTI (s := { s with heap := h' }) _ _ hp' fun fs hf => wpAny_pure ?_))
      have e1 : (fs.toArray.all fun x => x.isSome) = false := by
        rw [List.all_toArray, pairs_all hf]
        exact hall'
      rw [e1, if_neg (by decide)]
      cases hf with
      | @cons f _ fs _ a t =>
        have e2 : f.isSome = false := by rw [a.1, hk1]; rfl
        have e3 : ((((f :: fs).toArray[0]?).bind id).isSome) = false := by
          show f.isSome = false
          exact e2
        rw [e3, if_neg (by decide), oneTypeOnly'_eq, List.mapM_toArray, map_eq_pure_bind]
        refine wpAny_bind (wpAny_bind (wpAny_bind (PySem.W.kas_mapM (r := Value.type "tuple") _ (fun v hv Q' hq' => ?_) (wpAny_pure ?_))))
        · obtain ⟨ns, ms, ⟨b, its, rfl, ⟨o, ho, hc, n, hd⟩, _⟩, _, _⟩ := hlt v hv v hv
          have L : PySem.W.Looks (model prog w) h' (typeOf (.ref b)) o.cls := (PySem.W.Looks.ld (kp _ _ ho hc)).andThen .now
          rw [hc] at L
          exact PySem.W.Looks.here (s := { s with heap := h' }) L hq'
        · have h0 : (List.map (fun _ => Value.type "tuple") (v1 :: vs')).toArray[0]? = some (Value.type "tuple") := by simp
          have hT : (Value.type "tuple" == Value.type "tuple") = true := by first | decide +kernel | rfl
          have hal2 : ((List.map (fun _ => Value.type "tuple") (v1 :: vs')).toArray.all fun x => x == Value.type "tuple") = true := by
            simp only [List.all_toArray, List.all_map, List.all_eq_true]
            intro _ _
            exact hT
          rw [h0]
          simp only [hal2, if_true]
          exact wpAny_pure (wpAny_pure hq)
    · have hk1' : k1.isEmpty = false := by simpa using hk1
      refine ⟨general', fun Q E hq => ?_, cmp _ fun h1 h2 hq => ltTI_gen hu h1 h2 hq⟩
      rw [PyProof.Rows.kat_kind_eq, List.mapM_toArray, map_eq_pure_bind]
      refine wpAny_bind (wpAny_bind (firstsTI (s := { s with heap := h' }) _ _ hp' fun fs hf => wpAny_pure ?_))
      have e1 : (fs.toArray.all fun x => x.isSome) = false := by
        rw [List.all_toArray, pairs_all hf]
        exact hall'
      rw [e1, if_neg (by decide)]
      cases hf with
      | @cons f _ fs _ a t =>
        have e3 : ((((f :: fs).toArray[0]?).bind id).isSome) = true := by
          show f.isSome = true
          rw [a.1, hk1']
          rfl
        rw [e3, if_pos rfl]
        exact wpAny_pure hq
end
end Vt

namespace Vt
open PySem PySem.Spec PyProof.Rows L2
open PySem.W (Frag)
open Kcs7 (Bytes)
/-! ### sorted(d), d a dict whose keys are tuples of ints -/
def ivs (xs : List V) : List Int := xs.map fun x => match x with
  | .int i => i
  | _ => 0
theorem ivs_ints (ns : List Int) : ivs (ns.map V.int) = ns := by
  unfold ivs
  rw [List.map_map]
  conv => rhs; rw [← List.map_id ns]
  rfl
def kfA (H : Hp) (b : Addr) : List Int := match H b with
  | some (.tup xs) => ivs xs
  | _ => []
def adr : Value → Addr
  | .ref a => a
  | _ => 0
theorem kfA_of {H : Hp} {b : Addr} {ns : List Int} (h : H b = some (.tup (ns.map V.int))) : kfA H b = ns := by
  unfold kfA
  rw [h]
  exact ivs_ints ns
def rSortDT : List V → Hp → VK → Prop := fun vs H Q => ∃ (d : Addr) (kvs : List (List Key × V)) (ks : List (List Int)), vs = [V.ref d] ∧ L2.Rd H d (.dT kvs) ∧ kvs.map (·.1) = ks.map (fun k => k.map Sum.inl) ∧
  ∀ (bs : List Addr) (p : Addr), (bs.map (kfA H)).Perm ks → (bs.map (kfA H)).Pairwise (fun x y => HT.lexLt y x = false) → (∀ b ∈ bs, H b = some (.tup ((kfA H b).map V.int))) → H p = none → Q (.ref p) (upd H p (.lst (bs.map V.ref)))
theorem vals_refsV : ∀ bs : List Addr, Vals (bs.map V.ref) (bs.map Value.ref)
  | [] => .nil
  | _ :: r => .cons rfl (vals_refsV r)
theorem hold_of {H : Hp} {kvs : List (List Key × V)} {kx : List (List Key × Addr × Value)} {ks : List (List Int)} (pr : KT H kvs kx) (hks : kvs.map (·.1) = ks.map (fun k => k.map Sum.inl)) :
    Paired (fun b k => H b = some (.tup (k.map V.int))) (kx.map fun x => x.2.1) ks := by
  induction pr generalizing ks with
  | nil =>
    cases ks with
    | nil => exact .nil
    | cons _ _ => cases hks
  | cons a _ ih =>
    cases ks with
    | nil => cases hks
    | cons k ks =>
      rw [List.map_cons, List.map_cons] at hks
      obtain ⟨k1, k2⟩ := List.cons.inj hks
      refine .cons ?_ (ih k2)
      rw [a.2.1, k1, List.map_map]
      rfl
theorem hold_map {H : Hp} {bs : List Addr} {ks : List (List Int)} (hold : Paired (fun b k => H b = some (.tup (k.map V.int))) bs ks) : bs.map (kfA H) = ks := by
  induction hold with
  | nil => rfl
  | cons a _ ih => rw [List.map_cons, kfA_of a, ih]
theorem hold_mem {H : Hp} {bs : List Addr} {ks : List (List Int)} (hold : Paired (fun b k => H b = some (.tup (k.map V.int))) bs ks) : ∀ b ∈ bs, H b = some (.tup ((kfA H b).map V.int)) := by
  induction hold with
  | nil => exact fun b h => nomatch h
  | cons a _ ih =>
    intro b hb
    rcases List.mem_cons.mp hb with e | e
    · rw [e, kfA_of a]; exact a
    · exact ih b e
theorem ti_pairs {H : Hp} {h : Heap} : ∀ {bs : List Addr}, (∀ b ∈ bs, IsTI h (.ref b) (kfA H b)) → Paired (IsTI h) (bs.map Value.ref) (bs.map (kfA H))
  | [], _ => .nil
  | b :: bs, ti => .cons (ti b List.mem_cons_self) (ti_pairs fun c hc => ti c (List.mem_cons_of_mem _ hc))
section
variable {X : Cx}
theorem cr_sortedDT (hcalm : X.calm = true) (hu : X.A.units + 64 < cLine) : CallR X (.builtin "sorted") rSortDT := by
  intro pins s σ H vs us Q I r hyp
  obtain ⟨d, kvs, ks, rfl, hd, hks, q⟩ := hyp
  obtain ⟨u, rfl, ru⟩ := vals1 r
  obtain rfl : u = Value.ref d := ru
  obtain ⟨z, hs, kx, pr, o, es, ep, ho, hx, hdt, he, hn⟩ := (show ObjOk X.prog X.w H s.heap d (.dT kvs) from hd.ok I.hok)
  have l1 : es.size = kx.length := size_of_entries he
  have l2 : kvs.length = kx.length := Paired.length pr
  refine Calls.call_function_entry PyProof.Rows.kind_sorted PyProof.Rows.plain_sorted PyProof.Rows.entry_sorted (PyProof.Rows.args_sorted1 _) ?_
  unfold Builtin.«sorted»
  refine wpAny_bind (m := checkCount "sorted" 1 1 _) (wpAny_pure ?_)
  refine wpAny_bind (PySem.W.kdu_collect (A := X.A.in1) (kdl_raw hs hx hdt) (I.ok.hd hcalm) ho (by omega) fun h' tk acc hk hacc => ?_)
  -- the keys' own tuples, in the dict's order
  have ea : acc.toList = (kx.map fun x => x.2.1).map Value.ref := by
    have hl : acc.toList.length = kx.length := by rw [Array.length_toList, hacc.1]; exact l1
    rw [List.map_map]
    apply List.ext_getElem?
    intro j
    rw [List.getElem?_map]
    cases hj : acc.toList[j]? with
    | none =>
      have hlt := List.getElem?_eq_none_iff.mp hj
      rw [List.getElem?_eq_none (show kx.length ≤ j by omega)]
      all_goals rfl
    | some v =>
      obtain ⟨en, hen, hv⟩ := hacc.2 j v (by rw [← Array.getElem?_toList]; exact hj)
      have qe := entry_at he j
      rw [hen] at qe
      cases hb : kx[j]? with
      | none =>
        rw [hb] at qe
        exact nomatch (show some en = none from qe)
      | some b =>
        rw [hb] at qe
        have e9 : en = entryOfKey (tupleKind (mixKind X.prog X.w)) b := Option.some.inj qe
        rw [hv, e9]
        all_goals rfl
  generalize hbs : (kx.map fun x => x.2.1) = bs at ea
  -- what they hold
  have hold : Paired (fun b k => H b = some (.tup (k.map V.int))) bs ks := by
    rw [← hbs]
    exact hold_of pr hks
  have hkf : bs.map (kfA H) = ks := hold_map hold
  have hmem : ∀ b ∈ bs, H b = some (.tup ((kfA H b).map V.int)) := hold_mem hold
  have I1 : Inv X pins σ H { s with heap := h', toks := tk } := I.kept hk
  have hlen : acc.toList.length ≤ sizeLine := by rw [ea, List.length_map, ← hbs, List.length_map]; omega
  refine wpAny_bind (wpAny_newList ?_ hlen)
  have hoL : (h'.push (seqObj "list" acc.toList.toArray 0)).get? h'.objs.size = some (seqObj "list" acc.toList.toArray 0) := Heap.get?_push_size _ rfl
  show wpAny _ _ _ _ _ { s with heap := h'.push (seqObj "list" acc.toList.toArray 0), toks := tk }
  have ti : ∀ b ∈ bs, IsTI (h'.push (seqObj "list" acc.toList.toArray 0)) (.ref b) (kfA H b) := fun b hb => by
    obtain ⟨_, its, rv, ht⟩ := (show ObjOk X.prog X.w H h' b (.tup ((kfA H b).map V.int)) from I1.hok b _ (hmem b hb))
    have x : IsTI h' (.ref b) (kfA H b) := ⟨b, its.toArray, rfl, ht, rv.ints⟩
    exact x.keep fun c o' e' _ => Heap.get?_push_of_some _ e'
  have swo : SrtO.Swo (fun v u : Value => HT.lexLt (kfA H (adr v)) (kfA H (adr u))) := ⟨fun x y h => lexLt_asym h, fun x y w h1 h2 => lexLt_tr h1 h2⟩
  refine wpAny_bind (wpAny_holding (wpAny_call_entry PyProof.Rows.slot_list_sort ⟨_, hoL, rfl⟩ PyProof.Rows.entry_list_sort
    (SrtO.list_sort_ord (s := { s with heap := h'.push (seqObj "list" acc.toList.toArray 0), toks := tk }) swo hoL hlen (fun h2 => sortTI (ks := ks) ?hu h2 ?hp ?hlt ?ha) fun out g1 g2 => ⟨_, rfl, ?_⟩) (PyProof.Rows.args_list_sort _)))
  case hu =>
    simp only [Around.in1_units]
    omega
  case hp =>
    rw [ea] at ti
    rw [ea, ← hkf]
    exact ti_pairs ti
  case hlt =>
    rw [ea] at ti
    rw [ea]
    intro v hv u hu'
    obtain ⟨b, hb, rfl⟩ := List.mem_map.mp hv
    obtain ⟨c, hc, rfl⟩ := List.mem_map.mp hu'
    exact ⟨_, _, ti b hb, ti c hc, rfl⟩
  case ha =>
    intro o' e'
    have e2 : some o' = some (seqObj "list" acc.toList.toArray 0) := e'.symm.trans hoL
    cases e2
    intro cc
    exact absurd (Value.type.inj cc) (by decide)
  · -- what comes out
    have hout : ∀ v ∈ out, ∃ b ∈ bs, v = Value.ref b := fun v hv => by
      have hv' := g2.perm.mem_iff.mp hv
      rw [ea] at hv'
      obtain ⟨b, hb, e⟩ := List.mem_map.mp hv'
      exact ⟨b, hb, e.symm⟩
    have eo : out = (out.map adr).map Value.ref := by
      rw [List.map_map]
      conv => lhs; rw [← List.map_id out]
      refine List.map_congr_left fun v hv => ?_
      obtain ⟨b, _, rfl⟩ := hout v hv
      rfl
    have pb : (out.map adr).Perm bs := by
      have p1 := g2.perm.map adr
      rw [ea, List.map_map] at p1
      have e5 : bs.map (adr ∘ Value.ref) = bs := by
        conv => rhs; rw [← List.map_id bs]
        rfl
      rw [e5] at p1
      exact p1
    have srt : ((out.map adr).map (kfA H)).Pairwise (fun x y => HT.lexLt y x = false) := by
      rw [List.map_map]
      exact List.pairwise_map.mpr g1
    obtain ⟨e', he'⟩ := PyProof.Rows.sortedHeap_at (vs := acc.toList) (out := out.toArray) hoL
    have hz2 : ((out.map adr).map V.ref).length ≤ sizeLine := by
      rw [List.length_map, pb.length_eq]
      rw [ea, List.length_map] at hlen
      exact hlen
    have rv2 : Vals ((out.map adr).map V.ref) out := by
      have := vals_refsV (out.map adr)
      rw [← eo] at this
      exact this
    refine wpAny_pure ⟨_, rfl, .ref h'.objs.size, upd H h'.objs.size (.lst ((out.map adr).map V.ref)), I1.laid (t' := tk) (fun b u' e => ?_) (Nat.le_refl _)
      (show ObjOk X.prog X.w _ _ _ (.lst ((out.map adr).map V.ref)) from ⟨hz2, out, e', rv2, he'⟩), rfl, q _ _ ?_ srt (fun b hb => hmem b (pb.mem_iff.mp hb)) (I1.hok.fresh (Nat.le_refl _))⟩
    · have hb : b < h'.objs.size := Heap.lt_size e
      rw [PyProof.Rows.sortedHeap_old (Nat.ne_of_lt hb) (by rw [size_push']; exact Nat.lt_succ_of_lt hb)]
      exact Heap.get?_push_of_some _ e
    · rw [← hkf]
      exact pb.map _
end
end Vt

namespace Vt
open PySem PySem.Spec PyProof.Rows L2
open PySem.W (Frag)
open Kcs7 (Bytes)
theorem Same.tk {H H' : Hp} (s : Same H H') : Tk H H' := fun b xs h => s b _ h
/-! ### the greatest of a list, 0 if there is none -/
def rMaxDef (K : Frag) : List V → List V → Hp → VK → Prop := fun vs zs H Q => ∃ (a : Addr) (ns : List Nat), vs = [V.ref a] ∧ zs = [.int 0] ∧ SqL K H a (ns.map fun n => V.int (n : Nat)) ∧ Q (.int ((ns.foldr max 0 : Nat))) H
theorem readsInts {h : Heap} : ∀ {us : List Value} {ns : List Int}, IntsAre us ns → PySem.W.HoldAll h us ns
  | _, _, .nil => PySem.W.HoldAll.nil
  | _, _, .cons _ _ r => PySem.W.HoldAll.cons ⟨_, Reads.int _ _⟩ (readsInts r)
theorem maxOf_nat : ∀ (ns : List Nat) (m : Nat), PySem.W.maxOf ((m : Nat) : Int) (ns.map fun n : Nat => (n : Int)) = ((ns.foldl max m : Nat) : Int)
  | [], _ => rfl
  | n :: ns, m => by
    have h := maxOf_nat ns (max m n)
    unfold PySem.W.maxOf at h ⊢
    rw [List.map_cons, List.foldl_cons, List.foldl_cons, ← h]
    refine congrArg (fun z => List.foldl _ z _) ?_
    show (if decide ((m : Int) < (n : Int)) = true then (n : Int) else (m : Int)) = ((max m n : Nat) : Int)
    by_cases e : m < n
    · rw [if_pos (decide_eq_true (by omega))]; omega
    · rw [if_neg (by rw [decide_eq_true_eq]; omega)]; omega
theorem foldl_max : ∀ (ns : List Nat) (m : Nat), ns.foldl max m = max m (ns.foldr max 0)
  | [], m => by simp
  | n :: ns, m => by
    rw [List.foldl_cons, List.foldr_cons, foldl_max ns]
    omega
theorem cr_maxDef {X : Cx} (hc : X.calm = true) (hu : X.A.units + 64 < cLine) : CallRK X (.builtin "max") [Str.ofString "default"] (rMaxDef X.K) := by
  intro pins s σ H vs zs us ws Q I r rz h
  obtain ⟨a, ns, rfl, rfl, hs, q⟩ := h
  obtain ⟨its, rv, hl, _⟩ := I.list hs
  rw [Vals.ref1 r]
  obtain ⟨w1, rfl, e1⟩ := vals1 rz
  have rv' : Vals ((ns.map fun n : Nat => (n : Int)).map V.int) its := by
    rw [List.map_map]; exact rv
  have hi : IntsAre its (ns.map fun n : Nat => (n : Int)) := rv'.ints
  refine PySem.W.max_list_datum_default (α := Int) (I.ok.hd hc) hl.isList (readsInts hi) (by show X.A.units + 1 + 0 < _; omega) (fun e h' tk hk => ?_) (fun y ys i v h' tk e hv hh hk => ?_)
  · have e0 : ns = [] := List.map_eq_nil_iff.mp e
    subst e0
    exact ⟨.int 0, H, I.kept hk, e1, q⟩
  · cases ns with
    | nil => cases e
    | cons n ns =>
      rw [List.map_cons] at e
      obtain ⟨e2, e3⟩ := List.cons.inj e
      subst e2; subst e3
      rw [maxOf_nat] at hh
      obtain ⟨as, rd⟩ := hh
      have hv' : ∃ t, v = .int ((ns.foldl max n : Nat) : Int) t := by
        cases rd with
        | int i t => exact ⟨t, rfl⟩
      obtain ⟨t, rfl⟩ := hv'
      refine ⟨.int ((ns.foldl max n : Nat) : Int), H, I.kept hk, ⟨t, rfl⟩, ?_⟩
      rw [foldl_max]
      exact q
/-! ### a comprehension that changes nothing -/
theorem SqT.sm {K : Frag} {H H' : Hp} {a : Addr} {xs : List V} (e : Same H H') (h : SqT K H a xs) : SqT K H' a xs := by
  rcases h with (h | ⟨u, h⟩) | h
  · exact .inl (.inl (e _ _ h))
  · exact .inl (.inr ⟨u, e _ _ h⟩)
  · exact .inr h
theorem wipe_one {σ : L2.St} {i : Nat} {x : V} : wipe ((wipe σ [i]).set i (some x)) [i] = wipe σ [i] := by
  show ((σ.set i none).set i (some x)).set i none = σ.set i none
  rw [List.set_set, List.set_set]
theorem tlc_tup {K : Frag} {tx te : TE} {i : Nat} {σ : L2.St} {H : Hp} {Q : VK}
    (h : tx σ H fun v H1 => ∃ (a : Addr) (xs ys : List V), v = .ref a ∧ SqT K H1 a xs ∧ xs.length = ys.length ∧ ys.length ≤ 20000 ∧
      (∀ (j : Nat) (x y : V), xs[j]? = some x → ys[j]? = some y → ∀ (H' : Hp) (Qk : VK), Same H1 H' → Qk y H' → te ((wipe σ [i]).set i (some x)) H' Qk) ∧
      ∀ D, H1 D = none → Q (.ref D) (upd H1 D (.lst ys))) (mono : ∀ (Q1 Q2 : VK), (∀ v H', Q1 v H' → Q2 v H') → tx σ H Q1 → tx σ H Q2) : tLc (iTup K tx) (gName i) tYes te [i] σ H Q := by
  refine mono _ _ (fun v H1 z => ?_) h
  obtain ⟨a, xs, ys, rfl, hT, hlen, hsz, hel, q⟩ := z
  refine ⟨a, rfl, ⟨xs, hT⟩, fun D hD => ?_⟩
  refine lc_tup (K := K) (a := a) (xs := xs) (fun i H' => H' = upd H1 D (.lst (ys.take i))) (by rw [List.take_zero]) (fun i H' _ e => ?_) ?_ ?_
  · rw [e]
    exact SqT.sm (Same.new hD) hT
  · rintro j x H' hj rfl
    obtain ⟨y, hy⟩ : ∃ y, ys[j]? = some y := by
      have := (List.getElem?_eq_some_iff.mp hj).1
      exact ⟨_, List.getElem?_eq_getElem (by omega)⟩
    refine ⟨wipe_one, ?_⟩
    simp only [tYes, ↓reduceIte]
    refine hel j x y hj hy _ _ (Same.new hD) ?_
    refine ⟨_, upd_same, ?_, ?_⟩
    · have : 20000 < sizeLine := by decide
      rw [List.length_take]; omega
    · rw [upd_upd, List.take_add_one, hy]
      rfl
  · rintro H' rfl
    rw [List.take_of_length_le (by omega)]
    exact q D hD
theorem tlc_list {K : Frag} {tx te : TE} {i : Nat} {σ : L2.St} {H : Hp} {Q : VK}
    (h : tx σ H fun v H1 => ∃ (a : Addr) (xs ys : List V), v = .ref a ∧ SqL K H1 a xs ∧ xs.length = ys.length ∧ ys.length ≤ 20000 ∧
      (∀ (j : Nat) (x y : V), xs[j]? = some x → ys[j]? = some y → ∀ (H' : Hp) (Qk : VK), Same H1 H' → Qk y H' → te ((wipe σ [i]).set i (some x)) H' Qk) ∧
      ∀ D, H1 D = none → Q (.ref D) (upd H1 D (.lst ys))) (mono : ∀ (Q1 Q2 : VK), (∀ v H', Q1 v H' → Q2 v H') → tx σ H Q1 → tx σ H Q2) : tLc (iList K tx) (gName i) tYes te [i] σ H Q := by
  refine mono _ _ (fun v H1 z => ?_) h
  obtain ⟨a, xs, ys, rfl, hT, hlen, hsz, hel, q⟩ := z
  refine ⟨a, rfl, ⟨xs, hT⟩, fun D hD => ?_⟩
  refine lc_list (K := K) (a := a) (xs := xs) (fun i H' => H' = upd H1 D (.lst (ys.take i))) (by rw [List.take_zero]) (fun i H' _ e => ?_) ?_ ?_
  · rw [e]
    exact (Same.new hD).seq hT
  · rintro j x H' hj rfl
    obtain ⟨y, hy⟩ : ∃ y, ys[j]? = some y := by
      have := (List.getElem?_eq_some_iff.mp hj).1
      exact ⟨_, List.getElem?_eq_getElem (by omega)⟩
    refine ⟨wipe_one, ?_⟩
    simp only [tYes, ↓reduceIte]
    refine hel j x y hj hy _ _ (Same.new hD) ?_
    refine ⟨_, upd_same, ?_, ?_⟩
    · have : 20000 < sizeLine := by decide
      rw [List.length_take]; omega
    · rw [upd_upd, List.take_add_one, hy]
      rfl
  · rintro H' rfl
    rw [List.take_of_length_le (by omega)]
    exact q D hD
theorem mono_var {i : Nat} {σ : L2.St} {H : Hp} (Q1 Q2 : VK) (h : ∀ v H', Q1 v H' → Q2 v H') (t : tVar i σ H Q1) : tVar i σ H Q2 := by
  obtain ⟨v, e, q⟩ := t
  exact ⟨v, e, h _ _ q⟩
/-! ### sizes and depths as they lie -/
theorem VAt.row {H : Hp} {x : V} {v : Kcs7.V} (h : VAt H x v) : ∃ t k hv, x = .ref t ∧ H t = some (vt k hv v) := by
  cases h with
  | null h => exact ⟨_, _, _, rfl, h⟩
  | fal h => exact ⟨_, _, _, rfl, h⟩
  | tru h => exact ⟨_, _, _, rfl, h⟩
  | num h => exact ⟨_, _, _, rfl, h⟩
  | text h _ => exact ⟨_, _, _, rfl, h⟩
  | list h _ _ => exact ⟨_, _, _, rfl, h⟩
  | record h _ _ => exact ⟨_, _, _, rfl, h⟩
theorem VsAt.at {H : Hp} : ∀ {xs : List V} {l : List Kcs7.V} {i : Nat} {x : V}, VsAt H xs l → xs[i]? = some x → ∃ v, l[i]? = some v ∧ VAt H x v
  | _, _, 0, _, .cons h _, e => by cases e; exact ⟨_, rfl, h⟩
  | _, _, i + 1, _, .cons _ r, e => by
    obtain ⟨v, h1, h2⟩ := VsAt.at (i := i) r (by simpa using e)
    exact ⟨v, by simpa using h1, h2⟩
theorem FsAt.at {H : Hp} : ∀ {xs : List V} {l : List (Bytes × Kcs7.V)} {i : Nat} {x : V}, FsAt H xs l → xs[i]? = some x → ∃ f n y name v, l[i]? = some (name, v) ∧ x = .ref f ∧ H f = some (.tup [.ref n, y]) ∧ H n = some (.tup (bys name)) ∧ VAt H y v
  | _, _, 0, _, .cons h1 h2 h3 _, e => by cases e; exact ⟨_, _, _, _, _, rfl, rfl, h1, h2, h3⟩
  | _, _, i + 1, _, .cons _ _ _ r, e => by
    obtain ⟨f, n, y, name, v, h0, h1⟩ := FsAt.at (i := i) r (by simpa using e)
    exact ⟨f, n, y, name, v, by simpa using h0, h1⟩
theorem FsAt.len {H : Hp} : ∀ {xs : List V} {l : List (Bytes × Kcs7.V)}, FsAt H xs l → xs.length = l.length
  | _, _, .nil => rfl
  | _, _, .cons _ _ _ r => congrArg (· + 1) (FsAt.len r)
theorem sizeL_sum : ∀ l : List Kcs7.V, Kcs7.sizeL l = (l.map Kcs7.size).sum
  | [] => by simp [Kcs7.sizeL]
  | x :: l => by rw [Kcs7.sizeL, sizeL_sum l, List.map_cons, List.sum_cons]
theorem depthL_max : ∀ l : List Kcs7.V, Kcs7.depthL l = (l.map Kcs7.depth).foldr max 0
  | [] => by simp [Kcs7.depthL]
  | x :: l => by rw [Kcs7.depthL, depthL_max l, List.map_cons, List.foldr_cons]
theorem sizeR_sum : ∀ l : List (Bytes × Kcs7.V), Kcs7.sizeR l = (l.map fun f => f.1.length + Kcs7.size f.2).sum
  | [] => by simp [Kcs7.sizeR]
  | (n, x) :: l => by rw [Kcs7.sizeR, sizeR_sum l, List.map_cons, List.sum_cons]
theorem depthR_max : ∀ l : List (Bytes × Kcs7.V), Kcs7.depthR l = (l.map fun f => Kcs7.depth f.2).foldr max 0
  | [] => by simp [Kcs7.depthR]
  | (n, x) :: l => by rw [Kcs7.depthR, depthR_max l, List.map_cons, List.foldr_cons]
theorem sum_ints (ns : List Nat) : (ns.map fun n : Nat => (n : Int)).sum = ((ns.sum : Nat) : Int) := by
  induction ns with
  | nil => rfl
  | cons n ns ih => rw [List.map_cons, List.sum_cons, List.sum_cons, ih]; omega
section
variable {P : Program} {w : World} {K : Frag} {mg : Str → Option Value} {base : Heap} {CC CO CR CN bB bW : Addr}
/-! make_word, make_number, make_text -/
def spMakeWord : Sp := fun vs H Q _ => ∃ k : Int, vs = [.int k] ∧ ∀ p, H p = none → Q (.ref p) (upd H p (.tup [.int k, .non, .int (1 : Nat), .int (0 : Nat)]))
theorem scMakeWord : FnScope ["kind"] ["kind"] (defScope sMakeWord) := ⟨rfl, rfl, rfl, by decide +kernel, rfl, by decide +kernel, by decide +kernel⟩
theorem ok_makeWord {f : Addr} {fd : FuncData} (F : Fun K "make_word" "make_word" sMakeWord f fd) : FnOk P w K mg base CX0 1 f fd ["kind"] spMakeWord := by
  refine F.ok scMakeWord (fun vs H Q E h => ?_) (fun cdv A outer s H vs Q E hr h => ?_)
  · obtain ⟨_, rfl, _⟩ := h
    rfl
  · obtain ⟨k, rfl, q⟩ := h
    refine ⟨_, pss_one (ps_ret (pe_tup (pa_cons (pv 0) (pa_cons pe_non (pa_cons pe_int (pa_cons pe_int pa_nil)))))), ?_⟩
    exact ⟨_, rfl, (by show 4 ≤ sizeLine; decide), q⟩
def spMakeNumber : Sp := fun vs H Q _ => ∃ n : Int, vs = [.int n] ∧ ∀ p, H p = none → Q (.ref p) (upd H p (.tup [.int 3, .int n, .int (1 : Nat), .int (0 : Nat)]))
theorem scMakeNumber : FnScope ["amount"] ["amount"] (defScope sMakeNumber) := ⟨rfl, rfl, rfl, by decide +kernel, rfl, by decide +kernel, by decide +kernel⟩
theorem ok_makeNumber {f : Addr} {fd : FuncData} (F : Fun K "make_number" "make_number" sMakeNumber f fd) (T : Tx K mg CC CO CR CN bB bW) : FnOk P w K mg base CX0 1 f fd ["amount"] spMakeNumber := by
  refine F.ok scMakeNumber (fun vs H Q E h => ?_) (fun cdv A outer s H vs Q E hr h => ?_)
  · obtain ⟨_, rfl, _⟩ := h
    rfl
  · obtain ⟨k, rfl, q⟩ := h
    refine ⟨_, pss_one (ps_ret (pe_tup (pa_cons (pe_const T.gNUMBER) (pa_cons (pv 0) (pa_cons pe_int (pa_cons pe_int pa_nil)))))), ?_⟩
    exact ⟨_, rfl, (by show 4 ≤ sizeLine; decide), q⟩
def spMakeText : Sp := fun vs H Q _ => ∃ t b, vs = [.ref t] ∧ H t = some (.tup (bys b)) ∧ ∀ p, H p = none → Q (.ref p) (upd H p (vt 4 (.ref t) (.text b)))
theorem scMakeText : FnScope ["signs"] ["signs"] (defScope sMakeText) := ⟨rfl, rfl, rfl, by decide +kernel, rfl, by decide +kernel, by decide +kernel⟩
theorem ok_makeText {f : Addr} {fd : FuncData} (F : Fun K "make_text" "make_text" sMakeText f fd) (T : Tx K mg CC CO CR CN bB bW) : FnOk P w K mg base CX0 1 f fd ["signs"] spMakeText := by
  refine F.ok scMakeText (fun vs H Q E h => ?_) (fun cdv A outer s H vs Q E hr h => ?_)
  · obtain ⟨_, _, rfl, _⟩ := h
    rfl
  · obtain ⟨t, b, rfl, ht, q⟩ := h
    refine ⟨_, pss_one (ps_ret (pe_tup (pa_cons (pe_const T.gTEXT) (pa_cons (pe_callTy call_tuple_of (by rfl) T.tup (by decide +kernel) (pa_cons (pv 0) pa_nil))
      (pa_cons (pe_op op_add pe_int (pe_callB call_len_seq (by rfl) T.len PySem.boot_len (pa_cons (pv 0) pa_nil))) (pa_cons pe_int pa_nil)))))), ?_⟩
    refine ⟨_, rfl, t, _, rfl, .inr ⟨SqT.of ht, _, rfl, t, _, rfl, .inr (SqT.of ht), _, _, rfl, rfl, (by show 4 ≤ sizeLine; decide), fun p hp => ?_⟩⟩
    have e : (.tup [.int 4, .ref t, .int (1 + ((bys b).length : Nat)), .int 0] : HO) = vt 4 (.ref t) (.text b) := by
      have e1 : (bys b).length = b.length := by unfold bys; rw [List.length_map]
      have e2 : Kcs7.size (.text b) = 1 + b.length := by simp [Kcs7.size]
      have e3 : Kcs7.depth (.text b) = 0 := by simp [Kcs7.depth]
      unfold vt
      rw [e1, e2, e3]
      rfl
    show Q (.ref p) (upd H p (.tup [.int 4, .ref t, .int (1 + ((bys b).length : Nat)), .int 0]))
    rw [e]
    exact q p hp
end
end Vt

namespace Vt
open PySem PySem.Spec PyProof.Rows L2
open PySem.W (Frag)
open Kcs7 (Bytes)
section
variable {P : Program} {w : World} {K : Frag} {mg : Str → Option Value} {base : Heap} {CC CO CR CN bB bW : Addr}
/-! ### make_list -/
def spMakeList : Sp := fun vs H Q _ => ∃ a xs l, vs = [.ref a] ∧ (H a = some (.lst xs) ∨ H a = some (.tup xs)) ∧ VsAt H xs l ∧ l.length ≤ 20000 ∧ ∀ H' x, Same H H' → VAt H' x (.list l) → Q x H'
theorem scMakeList : FnScope ["inner", "size", "depth", "value"] ["inner"] (defScope sMakeList) := ⟨rfl, rfl, rfl, by decide +kernel, rfl, by decide +kernel, by decide +kernel⟩
theorem ys_at {α : Type} {f : α → Nat} {l : List α} {j : Nat} {y : V} (h : (l.map fun v => V.int (f v : Nat))[j]? = some y) : ∃ v, l[j]? = some v ∧ y = V.int (f v : Nat) := by
  rw [List.getElem?_map] at h
  obtain ⟨v, hv, e⟩ := Option.map_eq_some_iff.mp h
  exact ⟨v, hv, e.symm⟩
theorem vt_list {q : Addr} {l : List Kcs7.V} {a b : Int} (ha : a = 1 + (((l.map Kcs7.size).sum : Nat) : Int)) (hb : b = 1 + (((l.map Kcs7.depth).foldr max 0 : Nat) : Int)) : (.tup [.int 5, .ref q, .int a, .int b] : HO) = vt 5 (.ref q) (.list l) := by
  have e2 : Kcs7.size (.list l) = 1 + (l.map Kcs7.size).sum := by rw [← sizeL_sum]; simp [Kcs7.size]
  have e3 : Kcs7.depth (.list l) = 1 + (l.map Kcs7.depth).foldr max 0 := by rw [← depthL_max]; simp [Kcs7.depth]
  unfold vt
  rw [e2, e3, ha, hb]
  rfl
theorem vt_record {q : Addr} {l : List (Bytes × Kcs7.V)} {a b : Int} (ha : a = 1 + (((l.map fun f => f.1.length + Kcs7.size f.2).sum : Nat) : Int)) (hb : b = 1 + (((l.map fun f => Kcs7.depth f.2).foldr max 0 : Nat) : Int)) : (.tup [.int 6, .ref q, .int a, .int b] : HO) = vt 6 (.ref q) (.record l) := by
  have e2 : Kcs7.size (.record l) = 1 + (l.map fun f => f.1.length + Kcs7.size f.2).sum := by rw [← sizeR_sum]; simp [Kcs7.size]
  have e3 : Kcs7.depth (.record l) = 1 + (l.map fun f => Kcs7.depth f.2).foldr max 0 := by rw [← depthR_max]; simp [Kcs7.depth]
  unfold vt
  rw [e2, e3, ha, hb]
  rfl
theorem ok_makeList {f : Addr} {fd : FuncData} (F : Fun K "make_list" "make_list" sMakeList f fd) (T : Tx K mg CC CO CR CN bB bW) : FnOk P w K mg base CX0 1 f fd ["inner"] spMakeList := by
  refine F.ok scMakeList (fun vs H Q E h => ?_) (fun cdv A outer s H vs Q E hr h => ?_)
  · obtain ⟨_, _, _, rfl, _⟩ := h
    rfl
  · obtain ⟨a, xs, l, rfl, ha, hv, hl, q⟩ := h
    have hlen := hv.len
    have el : ∀ (n : Nat) (g : Kcs7.V → Nat), (∀ k hv v, (match (vt k hv v : HO) with | .tup r => r | _ => [])[n]? = some (V.int (g v : Nat))) → ∀ (H0 : Hp), Same H H0 → ∀ (j : Nat) (x y : V), xs[j]? = some x → (l.map fun v => V.int (g v : Nat))[j]? = some y → ∀ (H' : Hp) (Qk : VK), Same H0 H' → Qk y H' → ∃ p ys, x = .ref p ∧ SqT K H' p ys ∧ ys[n]? = some y := by
      intro n g hg H0 s0 j x y hx hy H' Qk s1 _
      obtain ⟨v, hv1, rfl⟩ := ys_at hy
      obtain ⟨v', hv2, hat⟩ := hv.at hx
      rw [hv1] at hv2
      cases hv2
      obtain ⟨t, k, hvv, rfl, ht⟩ := hat.row
      exact ⟨t, _, rfl, SqT.of (s1 _ _ (s0 _ _ ht)), hg k hvv v⟩
    rcases ha with ha | ha
    · refine ⟨_, pss_cons (ps_set (i := 1) scMakeList.nd rfl (Or.inl rfl) (pe_op op_add pe_int (pe_callB (cr_sum rfl) (by rfl) T.sm (by decide +kernel) (pa_cons
          (pe_lc (own := [("value", 3)]) (g := gName 3) (tt := tYes) (te := tOp (rIxT K) (tVar 3) (tC (.int 2))) rfl scMakeList.nd (pi_list (pv 0)) (blkOk_by (N := ["inner", "size", "depth", "value"]) (sc := defScope sMakeList) (by decide +kernel))
            (fun _ _ _ _ _ => pg_name (i := 3) scMakeList.nd rfl (Or.inl rfl)) (fun _ _ _ _ _ => pts_nil) (fun _ _ _ _ _ => by exact pe_ix ix_tup (pv 3) pe_int (fun _ _ => rfl))) pa_nil))))
        (pss_cons (ps_set (i := 2) scMakeList.nd rfl (Or.inl rfl) (pe_op op_add pe_int (pe_callBK (cr_maxDef rfl hr.units) (by rfl) T.mx (by decide +kernel) (pa_cons
          (pe_lc (own := [("value", 3)]) (g := gName 3) (tt := tYes) (te := tOp (rIxT K) (tVar 3) (tC (.int 3))) rfl scMakeList.nd (pi_list (pv 0)) (blkOk_by (N := ["inner", "size", "depth", "value"]) (sc := defScope sMakeList) (by decide +kernel))
            (fun _ _ _ _ _ => pg_name (i := 3) scMakeList.nd rfl (Or.inl rfl)) (fun _ _ _ _ _ => pts_nil) (fun _ _ _ _ _ => by exact pe_ix ix_tup (pv 3) pe_int (fun _ _ => rfl))) pa_nil) (pk_cons pe_int pk_nil))))
        (pss_one (ps_ret (pe_tup (pa_cons (pe_const T.gLIST) (pa_cons (pe_callTy call_tuple_of (by rfl) T.tup (by decide +kernel) (pa_cons (pv 0) pa_nil)) (pa_cons (pv 1) (pa_cons (pv 2) pa_nil)))))))), ?_⟩
      (try delta tSeq); (try delta tAsg); (try delta tOp); (try delta tCKw); (try delta tCB); (try delta tCons); (try delta tC); (try dsimp only [gName])
      refine tlc_list ?_ mono_var
      refine ⟨_, rfl, a, xs, l.map fun v => V.int (Kcs7.size v : Nat), rfl, SqL.of ha, by rw [List.length_map]; exact hlen, by rw [List.length_map]; exact hl, ?_, fun D hD => ?_⟩
      · intro j x y hx hy H' Qk s1 hq
        obtain ⟨p, ys, rfl, h1, h2⟩ := el 2 Kcs7.size (fun _ _ _ => rfl) H (Same.refl _) j x y hx hy H' Qk s1 hq
        exact ⟨_, rfl, p, ys, 2, _, rfl, rfl, h1, atI_nat (j := 2) h2, hq⟩
      refine ⟨D, l.map fun v => (Kcs7.size v : Int), rfl, SqL.of (by rw [List.map_map]; exact upd_same), _, _, rfl, rfl, ?_⟩
      have s1 : Same H (upd H D (.lst (l.map fun v => V.int (Kcs7.size v : Nat)))) := Same.new hD
      generalize upd H D (.lst (l.map fun v => V.int (Kcs7.size v : Nat))) = H1 at s1
      (try delta tSeq); (try delta tAsg); (try delta tOp); (try delta tCKw); (try delta tCB); (try delta tCons); (try delta tC); (try dsimp only [gName])
      refine tlc_list ?_ mono_var
      refine ⟨_, rfl, a, xs, l.map fun v => V.int (Kcs7.depth v : Nat), rfl, SqL.of (s1 _ _ ha), by rw [List.length_map]; exact hlen, by rw [List.length_map]; exact hl, ?_, fun D2 hD2 => ?_⟩
      · intro j x y hx hy H' Qk s2 hq
        obtain ⟨p, ys, rfl, h1, h2⟩ := el 3 Kcs7.depth (fun _ _ _ => rfl) H1 s1 j x y hx hy H' Qk s2 hq
        exact ⟨_, rfl, p, ys, 3, _, rfl, rfl, h1, atI_nat (j := 3) h2, hq⟩
      refine ⟨D2, l.map Kcs7.depth, rfl, rfl, SqL.of (by rw [List.map_map]; exact upd_same), _, _, rfl, rfl, ?_⟩
      have s2 : Same H1 (upd H1 D2 (.lst (l.map fun v => V.int (Kcs7.depth v : Nat)))) := Same.new hD2
      generalize upd H1 D2 (.lst (l.map fun v => V.int (Kcs7.depth v : Nat))) = H2 at s2
      refine ⟨_, rfl, a, xs, rfl, .inl ⟨SqL.of (s2 _ _ (s1 _ _ ha)), fun t ht => ?_⟩⟩
      refine ⟨_, rfl, _, rfl, (by show 4 ≤ sizeLine; decide), fun p hp => ?_⟩
      have s3 : Same H2 (upd H2 t (.tup xs)) := Same.new ht
      have s4 := Same.new (o := vt 5 (.ref t) (.list l)) hp
      have hs : (l.map fun v => (Kcs7.size v : Int)).sum = (((l.map Kcs7.size).sum : Nat) : Int) := by rw [← sum_ints, List.map_map]; rfl
      have e := vt_list (q := t) (l := l) (congrArg (fun z : Int => 1 + z) hs) rfl
      have fin : Q (.ref p) (upd (upd H2 t (.tup xs)) p (vt 5 (.ref t) (.list l))) :=
        q _ _ (((s1.trans s2).trans s3).trans s4) (.list upd_same (s4 _ _ upd_same) (hv.mono (Same.tk (((s1.trans s2).trans s3).trans s4))))
      rw [← e] at fin
      exact fin
    · refine ⟨_, pss_cons (ps_set (i := 1) scMakeList.nd rfl (Or.inl rfl) (pe_op op_add pe_int (pe_callB (cr_sum rfl) (by rfl) T.sm (by decide +kernel) (pa_cons
          (pe_lc (own := [("value", 3)]) (g := gName 3) (tt := tYes) (te := tOp (rIxT K) (tVar 3) (tC (.int 2))) rfl scMakeList.nd (pi_tup (pv 0)) (blkOk_by (N := ["inner", "size", "depth", "value"]) (sc := defScope sMakeList) (by decide +kernel))
            (fun _ _ _ _ _ => pg_name (i := 3) scMakeList.nd rfl (Or.inl rfl)) (fun _ _ _ _ _ => pts_nil) (fun _ _ _ _ _ => by exact pe_ix ix_tup (pv 3) pe_int (fun _ _ => rfl))) pa_nil))))
        (pss_cons (ps_set (i := 2) scMakeList.nd rfl (Or.inl rfl) (pe_op op_add pe_int (pe_callBK (cr_maxDef rfl hr.units) (by rfl) T.mx (by decide +kernel) (pa_cons
          (pe_lc (own := [("value", 3)]) (g := gName 3) (tt := tYes) (te := tOp (rIxT K) (tVar 3) (tC (.int 3))) rfl scMakeList.nd (pi_tup (pv 0)) (blkOk_by (N := ["inner", "size", "depth", "value"]) (sc := defScope sMakeList) (by decide +kernel))
            (fun _ _ _ _ _ => pg_name (i := 3) scMakeList.nd rfl (Or.inl rfl)) (fun _ _ _ _ _ => pts_nil) (fun _ _ _ _ _ => by exact pe_ix ix_tup (pv 3) pe_int (fun _ _ => rfl))) pa_nil) (pk_cons pe_int pk_nil))))
        (pss_one (ps_ret (pe_tup (pa_cons (pe_const T.gLIST) (pa_cons (pe_callTy call_tuple_of (by rfl) T.tup (by decide +kernel) (pa_cons (pv 0) pa_nil)) (pa_cons (pv 1) (pa_cons (pv 2) pa_nil)))))))), ?_⟩
      (try delta tSeq); (try delta tAsg); (try delta tOp); (try delta tCKw); (try delta tCB); (try delta tCons); (try delta tC); (try dsimp only [gName])
      refine tlc_tup ?_ mono_var
      refine ⟨_, rfl, a, xs, l.map fun v => V.int (Kcs7.size v : Nat), rfl, SqT.of ha, by rw [List.length_map]; exact hlen, by rw [List.length_map]; exact hl, ?_, fun D hD => ?_⟩
      · intro j x y hx hy H' Qk s1 hq
        obtain ⟨p, ys, rfl, h1, h2⟩ := el 2 Kcs7.size (fun _ _ _ => rfl) H (Same.refl _) j x y hx hy H' Qk s1 hq
        exact ⟨_, rfl, p, ys, 2, _, rfl, rfl, h1, atI_nat (j := 2) h2, hq⟩
      refine ⟨D, l.map fun v => (Kcs7.size v : Int), rfl, SqL.of (by rw [List.map_map]; exact upd_same), _, _, rfl, rfl, ?_⟩
      have s1 : Same H (upd H D (.lst (l.map fun v => V.int (Kcs7.size v : Nat)))) := Same.new hD
      generalize upd H D (.lst (l.map fun v => V.int (Kcs7.size v : Nat))) = H1 at s1
      (try delta tSeq); (try delta tAsg); (try delta tOp); (try delta tCKw); (try delta tCB); (try delta tCons); (try delta tC); (try dsimp only [gName])
      refine tlc_tup ?_ mono_var
      refine ⟨_, rfl, a, xs, l.map fun v => V.int (Kcs7.depth v : Nat), rfl, SqT.of (s1 _ _ ha), by rw [List.length_map]; exact hlen, by rw [List.length_map]; exact hl, ?_, fun D2 hD2 => ?_⟩
      · intro j x y hx hy H' Qk s2 hq
        obtain ⟨p, ys, rfl, h1, h2⟩ := el 3 Kcs7.depth (fun _ _ _ => rfl) H1 s1 j x y hx hy H' Qk s2 hq
        exact ⟨_, rfl, p, ys, 3, _, rfl, rfl, h1, atI_nat (j := 3) h2, hq⟩
      refine ⟨D2, l.map Kcs7.depth, rfl, rfl, SqL.of (by rw [List.map_map]; exact upd_same), _, _, rfl, rfl, ?_⟩
      have s2 : Same H1 (upd H1 D2 (.lst (l.map fun v => V.int (Kcs7.depth v : Nat)))) := Same.new hD2
      generalize upd H1 D2 (.lst (l.map fun v => V.int (Kcs7.depth v : Nat))) = H2 at s2
      refine ⟨_, rfl, a, xs, rfl, .inr ⟨SqT.of (s2 _ _ (s1 _ _ ha)), ?_⟩⟩
      refine ⟨_, rfl, _, rfl, (by show 4 ≤ sizeLine; decide), fun p hp => ?_⟩
      have s4 := Same.new (o := vt 5 (.ref a) (.list l)) hp
      have hs : (l.map fun v => (Kcs7.size v : Int)).sum = (((l.map Kcs7.size).sum : Nat) : Int) := by rw [← sum_ints, List.map_map]; rfl
      have e := vt_list (q := a) (l := l) (congrArg (fun z : Int => 1 + z) hs) rfl
      have fin : Q (.ref p) (upd H2 p (vt 5 (.ref a) (.list l))) :=
        q _ _ ((s1.trans s2).trans s4) (.list upd_same (s4 _ _ (s2 _ _ (s1 _ _ ha))) (hv.mono (Same.tk ((s1.trans s2).trans s4))))
      rw [← e] at fin
      exact fin
/-! ### make_record -/
def spMakeRecord : Sp := fun vs H Q _ => ∃ a xs l, vs = [.ref a] ∧ H a = some (.lst xs) ∧ FsAt H xs l ∧ l.length ≤ 20000 ∧ ∀ H' x, Same H H' → VAt H' x (.record l) → Q x H'
theorem scMakeRecord : FnScope ["fields", "size", "depth", "field"] ["fields"] (defScope sMakeRecord) := ⟨rfl, rfl, rfl, by decide +kernel, rfl, by decide +kernel, by decide +kernel⟩
theorem ok_makeRecord {f : Addr} {fd : FuncData} (F : Fun K "make_record" "make_record" sMakeRecord f fd) (T : Tx K mg CC CO CR CN bB bW) : FnOk P w K mg base CX0 1 f fd ["fields"] spMakeRecord := by
  refine F.ok scMakeRecord (fun vs H Q E h => ?_) (fun cdv A outer s H vs Q E hr h => ?_)
  · obtain ⟨_, _, _, rfl, _⟩ := h
    rfl
  · obtain ⟨a, xs, l, rfl, ha, hv, hl, q⟩ := h
    have hlen := hv.len
    refine ⟨_, pss_cons (ps_set (i := 1) scMakeRecord.nd rfl (Or.inl rfl) (pe_op op_add pe_int (pe_callB (cr_sum rfl) (by rfl) T.sm (by decide +kernel) (pa_cons
        (pe_lc (own := [("field", 3)]) (g := gName 3) (tt := tYes) (te := tOp (rI0 fun i j => .int (i + j)) (tCB (fun xs H Q => ∃ p ys, xs = [.ref p] ∧ (SqL K H p ys ∨ SqT K H p ys) ∧ Q (.int ys.length) H) (tCons (tOp (rIxT K) (tVar 3) (tC (.int 0))) tNil)) (tOp (rIxT K) (tOp (rIxT K) (tVar 3) (tC (.int 1))) (tC (.int 2)))) rfl scMakeRecord.nd (pi_list (pv 0)) (blkOk_by (N := ["fields", "size", "depth", "field"]) (sc := defScope sMakeRecord) (by decide +kernel))
          (fun _ _ _ _ _ => pg_name (i := 3) scMakeRecord.nd rfl (Or.inl rfl)) (fun _ _ _ _ _ => pts_nil) (fun _ _ _ _ _ => by exact pe_op op_add (pe_callB call_len_seq (by rfl) T.len PySem.boot_len (pa_cons (pe_ix ix_tup (pv 3) pe_int (fun _ _ => rfl)) pa_nil)) (pe_ix ix_tup (pe_ix ix_tup (pv 3) pe_int (fun _ _ => rfl)) pe_int (fun _ _ => rfl)))) pa_nil))))
      (pss_cons (ps_set (i := 2) scMakeRecord.nd rfl (Or.inl rfl) (pe_op op_add pe_int (pe_callBK (cr_maxDef rfl hr.units) (by rfl) T.mx (by decide +kernel) (pa_cons
        (pe_lc (own := [("field", 3)]) (g := gName 3) (tt := tYes) (te := tOp (rIxT K) (tOp (rIxT K) (tVar 3) (tC (.int 1))) (tC (.int 3))) rfl scMakeRecord.nd (pi_list (pv 0)) (blkOk_by (N := ["fields", "size", "depth", "field"]) (sc := defScope sMakeRecord) (by decide +kernel))
          (fun _ _ _ _ _ => pg_name (i := 3) scMakeRecord.nd rfl (Or.inl rfl)) (fun _ _ _ _ _ => pts_nil) (fun _ _ _ _ _ => by exact pe_ix ix_tup (pe_ix ix_tup (pv 3) pe_int (fun _ _ => rfl)) pe_int (fun _ _ => rfl))) pa_nil) (pk_cons pe_int pk_nil))))
      (pss_one (ps_ret (pe_tup (pa_cons (pe_const T.gRECORD) (pa_cons (pe_callTy call_tuple_of (by rfl) T.tup (by decide +kernel) (pa_cons (pv 0) pa_nil)) (pa_cons (pv 1) (pa_cons (pv 2) pa_nil)))))))), ?_⟩
    (try delta tSeq); (try delta tAsg); (try delta tOp); (try delta tCKw); (try delta tCB); (try delta tCons); (try delta tC); (try dsimp only [gName])
    refine tlc_list ?_ mono_var
    refine ⟨_, rfl, a, xs, l.map fun f => V.int ((f.1.length + Kcs7.size f.2 : Nat)), rfl, SqL.of ha, by rw [List.length_map]; exact hlen, by rw [List.length_map]; exact hl, ?_, fun D hD => ?_⟩
    · intro j x y hx hy H' Qk s1 hq
      obtain ⟨⟨nm, v⟩, hv1, rfl⟩ := ys_at hy
      obtain ⟨fa, na, y', nm', v', hl', rfl, hf, hn, hat⟩ := hv.at hx
      rw [hv1] at hl'
      cases hl'
      obtain ⟨t, k, hvv, rfl, ht⟩ := hat.row
      refine ⟨_, rfl, fa, _, 0, _, rfl, rfl, SqT.of (s1 _ _ hf), atI_nat (j := 0) rfl, na, _, rfl, .inr (SqT.of (s1 _ _ hn)), _, rfl, fa, _, 1, _, rfl, rfl, SqT.of (s1 _ _ hf), atI_nat (j := 1) rfl, t, _, 2, _, rfl, rfl, SqT.of (s1 _ _ ht), atI_nat (j := 2) rfl, _, _, rfl, rfl, ?_⟩
      have e : (((bys nm).length : Nat) : Int) + (Kcs7.size v : Int) = ((nm.length + Kcs7.size v : Nat) : Int) := by
        unfold bys; rw [List.length_map]; omega
      show Qk (.int ((((bys nm).length : Nat) : Int) + (Kcs7.size v : Int))) H'
      rw [e]
      exact hq
    refine ⟨D, l.map fun f => ((f.1.length + Kcs7.size f.2 : Nat) : Int), rfl, SqL.of (by rw [List.map_map]; exact upd_same), _, _, rfl, rfl, ?_⟩
    have s1 : Same H (upd H D (.lst (l.map fun f => V.int ((f.1.length + Kcs7.size f.2 : Nat))))) := Same.new hD
    generalize upd H D (.lst (l.map fun f => V.int ((f.1.length + Kcs7.size f.2 : Nat)))) = H1 at s1
    (try delta tSeq); (try delta tAsg); (try delta tOp); (try delta tCKw); (try delta tCB); (try delta tCons); (try delta tC); (try dsimp only [gName])
    refine tlc_list ?_ mono_var
    refine ⟨_, rfl, a, xs, l.map fun f => V.int (Kcs7.depth f.2 : Nat), rfl, SqL.of (s1 _ _ ha), by rw [List.length_map]; exact hlen, by rw [List.length_map]; exact hl, ?_, fun D2 hD2 => ?_⟩
    · intro j x y hx hy H' Qk s2 hq
      obtain ⟨⟨nm, v⟩, hv1, rfl⟩ := ys_at (f := fun f : Bytes × Kcs7.V => Kcs7.depth f.2) hy
      obtain ⟨fa, na, y', nm', v', hl', rfl, hf, hn, hat⟩ := hv.at hx
      rw [hv1] at hl'
      cases hl'
      obtain ⟨t, k, hvv, rfl, ht⟩ := hat.row
      exact ⟨_, rfl, fa, _, 1, _, rfl, rfl, SqT.of (s2 _ _ (s1 _ _ hf)), atI_nat (j := 1) rfl, t, _, 3, _, rfl, rfl, SqT.of (s2 _ _ (s1 _ _ ht)), atI_nat (j := 3) rfl, hq⟩
    refine ⟨D2, l.map fun f => Kcs7.depth f.2, rfl, rfl, SqL.of (by rw [List.map_map]; exact upd_same), _, _, rfl, rfl, ?_⟩
    have s2 : Same H1 (upd H1 D2 (.lst (l.map fun f => V.int (Kcs7.depth f.2 : Nat)))) := Same.new hD2
    generalize upd H1 D2 (.lst (l.map fun f => V.int (Kcs7.depth f.2 : Nat))) = H2 at s2
    refine ⟨_, rfl, a, xs, rfl, .inl ⟨SqL.of (s2 _ _ (s1 _ _ ha)), fun t ht => ?_⟩⟩
    refine ⟨_, rfl, _, rfl, (by show 4 ≤ sizeLine; decide), fun p hp => ?_⟩
    have s3 : Same H2 (upd H2 t (.tup xs)) := Same.new ht
    have s4 := Same.new (o := vt 6 (.ref t) (.record l)) hp
    have hs : (l.map fun f => ((f.1.length + Kcs7.size f.2 : Nat) : Int)).sum = (((l.map fun f => f.1.length + Kcs7.size f.2).sum : Nat) : Int) := by rw [← sum_ints, List.map_map]; rfl
    have e := vt_record (q := t) (l := l) (congrArg (fun z : Int => 1 + z) hs) rfl
    have fin : Q (.ref p) (upd (upd H2 t (.tup xs)) p (vt 6 (.ref t) (.record l))) :=
      q _ _ (((s1.trans s2).trans s3).trans s4) (.record upd_same (s4 _ _ upd_same) (hv.mono (Same.tk (((s1.trans s2).trans s3).trans s4))))
    rw [← e] at fin
    exact fin
end
end Vt

namespace Vt
open PySem PySem.Spec PyProof.Rows L2
open PySem.W (Frag)
open Kcs7 (Bytes bytesOrder)
/-! ### names in order, as the sort has them -/
def nmI (n : Bytes) : List Int := n.map fun (c : Nat) => (c : Int)
theorem nmI_inl (n : Bytes) : (nmI n).map Sum.inl = keyB n := by
  unfold nmI keyB
  rw [List.map_map]
  rfl
theorem nmI_int (n : Bytes) : (nmI n).map V.int = bys n := by
  unfold nmI bys
  rw [List.map_map]
  rfl
def nmB (k : List Int) : Bytes := k.map Int.toNat
theorem nmB_I (n : Bytes) : nmB (nmI n) = n := by
  unfold nmB nmI
  rw [List.map_map]
  conv => rhs; rw [← List.map_id n]
  rfl
theorem lexLt_bo : ∀ {m n : Bytes}, HT.lexLt (nmI m) (nmI n) = false → m ≠ n → bytesOrder n m = .lt
  | [], [], _, h => absurd rfl h
  | [], _ :: _, h, _ => by cases h
  | _ :: _, [], _, _ => by simp [bytesOrder]
  | a :: m, b :: n, h, hne => by
    have h' : HT.lexLt ((a : Int) :: nmI m) ((b : Int) :: nmI n) = false := h
    rw [HT.lexLt_cons] at h'
    unfold bytesOrder
    by_cases e : a = b
    · rw [if_pos (by rw [e])] at h'
      rw [if_neg (by omega), if_neg (by omega)]
      exact lexLt_bo h' fun z => hne (by rw [e, z])
    · rw [if_neg (by omega)] at h'
      have := of_decide_eq_false h'
      rw [if_pos (by omega)]
/-- the value at a name -/
def lkB (fs : List (Bytes × Kcs7.V)) (n : Bytes) : Kcs7.V := match fs with
  | [] => .null
  | (m, v) :: r => if m = n then v else lkB r n
theorem lkB_map : ∀ {fs : List (Bytes × Kcs7.V)}, (fs.map Prod.fst).Nodup → (fs.map Prod.fst).map (fun n => (n, lkB fs n)) = fs
  | [], _ => rfl
  | (m, v) :: r, h => by
    rw [List.map_cons, List.nodup_cons] at h
    rw [List.map_cons, List.map_cons]
    have e1 : lkB ((m, v) :: r) m = v := if_pos rfl
    rw [show ((m, v) : Bytes × Kcs7.V).1 = m from rfl, e1]
    refine congrArg _ ?_
    have e2 : (r.map Prod.fst).map (fun n => (n, lkB ((m, v) :: r) n)) = (r.map Prod.fst).map (fun n => (n, lkB r n)) := by
      refine List.map_congr_left fun n hn => ?_
      have : lkB ((m, v) :: r) n = lkB r n := if_neg (fun z => h.1 (by rw [show ((m, v) : Bytes × Kcs7.V).1 = m from rfl, z]; exact hn))
      rw [this]
    rw [e2]
    exact lkB_map h.2
theorem KvAt.get {H : Hp} {n : Bytes} {kvs : List (List Key × V)} {fs : List (Bytes × Kcs7.V)} (h : KvAt H kvs fs) (hn : n ∈ fs.map Prod.fst) : ∃ x, valV kvs (keyB n) = some x ∧ VAt H x (lkB fs n) := by
  induction h with
  | nil => cases hn
  | @cons m x v kvs fs a _ ih =>
    by_cases e : m = n
    · subst e
      refine ⟨x, valV_pos rfl, ?_⟩
      rw [show lkB ((m, v) :: fs) m = v from if_pos rfl]
      exact a
    · rw [List.map_cons, List.mem_cons] at hn
      rcases hn with z | z
      · exact absurd z.symm e
      · obtain ⟨x', h1, h2⟩ := ih z
        refine ⟨x', by rw [valV_neg (fun y => e (keyB_inj y))]; exact h1, ?_⟩
        rw [show lkB ((m, v) :: fs) n = lkB fs n from if_neg e]
        exact h2
theorem KvAt.keys {H : Hp} {kvs : List (List Key × V)} {fs : List (Bytes × Kcs7.V)} (h : KvAt H kvs fs) : kvs.map (·.1) = ((fs.map Prod.fst).map nmI).map (fun k => k.map Sum.inl) := by
  induction h with
  | nil => rfl
  | cons a _ ih =>
    simp only [List.map_cons]
    rw [nmI_inl, ih]
theorem KvAt.put {H : Hp} {n : Bytes} {x : V} {v : Kcs7.V} {kvs : List (List Key × V)} {fs : List (Bytes × Kcs7.V)} (h : KvAt H kvs fs) (hv : VAt H x v) : KvAt H (putK kvs (keyB n) x) (putB fs n v) := by
  by_cases e : n ∈ fs.map Prod.fst
  · obtain ⟨x0, hx0, hv0⟩ := h.get e
    clear hv0
    unfold putK putB
    rw [valV_any, hx0, if_pos e]
    show KvAt H (kvs.map (fun kv => if kv.1 = keyB n then (kv.1, x) else kv)) _
    clear hx0 e
    induction h with
    | nil => exact .nil
    | @cons m x' v' kvs fs a _ ih =>
      rw [List.map_cons, List.map_cons]
      by_cases em : m = n
      · subst em
        rw [if_pos rfl, if_pos rfl]
        exact .cons hv ih
      · rw [if_neg (fun z => em (keyB_inj z)), if_neg em]
        exact .cons a ih
  · rw [putK_new (h.gone e)]
    unfold putB
    rw [if_neg e]
    exact h.snoc hv
/-- the fields as they are sorted -/
theorem sorted_fields {fs : List (Bytes × Kcs7.V)} {ns : List Bytes} (hnd : (fs.map Prod.fst).Nodup) (hp : ns.Perm (fs.map Prod.fst)) (hs : (ns.map nmI).Pairwise (fun x y => HT.lexLt y x = false)) : ns.map (fun n => (n, lkB fs n)) = sortF fs := by
  have hnn : ns.Nodup := hp.nodup_iff.mpr hnd
  have hr : Rises (ns.map fun n => (n, lkB fs n)) := by
    have h1 : ns.Pairwise (fun x y => HT.lexLt (nmI y) (nmI x) = false) := List.pairwise_map.mp hs
    have h2 : ns.Pairwise (fun x y => HT.lexLt (nmI y) (nmI x) = false ∧ x ≠ y) := h1.and hnn
    exact List.pairwise_map.mpr (h2.imp fun {x y} h => lexLt_bo h.1 (Ne.symm h.2))
  have hpm : (ns.map fun n => (n, lkB fs n)).Perm fs := by
    have := hp.map (fun n => (n, lkB fs n))
    rw [lkB_map hnd] at this
    exact this
  obtain ⟨l, hl⟩ := insAll_nodup fs hnd
  obtain ⟨a, b⟩ := insAll_some fs hl
  unfold sortF
  rw [hl]
  exact rises_uniq hr a (hpm.trans b.symm)
theorem FsAt.snoc {H : Hp} {f n : Addr} {x : V} {name : Bytes} {v : Kcs7.V} : ∀ {xs : List V} {l : List (Bytes × Kcs7.V)}, FsAt H xs l → H f = some (.tup [.ref n, x]) → H n = some (.tup (bys name)) → VAt H x v → FsAt H (xs ++ [.ref f]) (l ++ [(name, v)])
  | _, _, .nil, h1, h2, h3 => .cons h1 h2 h3 .nil
  | _, _, .cons a b c r, h1, h2, h3 => .cons a b c (FsAt.snoc r h1 h2 h3)
section
variable {P : Program} {w : World} {K : Frag} {mg : Str → Option Value} {base : Heap} {CC CO CR CN bB bW : Addr}
/-! ### as_value -/
def spAsValue (CO : Addr) : Sp := fun vs H Q _ => ∃ (x : OA) (o : Opn), vs = [.ref x.o] ∧ OpnAt CO H x o ∧ o.nd ∧ o.cnt ≤ 5000 ∧ ∀ H' v, Same H H' → VAt H' v o.val → Q v H'
theorem scAsValue : FnScope ["self", "name"] ["self"] (defScope sAsValue) := ⟨rfl, rfl, rfl, by decide +kernel, rfl, by decide +kernel, by decide +kernel⟩
theorem ok_asValue {f : Addr} {fd : FuncData} (F : Fun K "as_value" "Opened.as_value" sAsValue f fd) (T : Tx K mg CC CO CR CN bB bW) (dL : DefOk P w K mg base CX0 1 "make_list" ["inner"] spMakeList) (dR : DefOk P w K mg base CX0 1 "make_record" ["fields"] spMakeRecord) : FnOk P w K mg base CX0 2 f fd ["self"] (spAsValue CO) := by
  refine F.ok scAsValue (fun vs H Q E h => ?_) (fun cdv A outer s H vs Q E hr h => ?_)
  · obtain ⟨_, _, rfl, _⟩ := h
    rfl
  · obtain ⟨x, o, rfl, ho, hnd, hcnt, q⟩ := h
    refine ⟨_, pss_cons (ps_if (pt_cmpR op_eq (pe_fld (pv 0) rfl) (pe_const T.gLIST) (nomark _))
        (pss_one (ps_ret (pe_def dL hr pass0 (pa_cons (pe_fld (pv 0) rfl) pa_nil)))) pss_nil)
      (pss_one (ps_ret (pe_def dR hr pass0 (pa_cons
        (pe_lc (own := [("name", 1)]) (g := gName 1) (tt := tYes) (te := tTup (tCons (tVar 1) (tCons (tDGet (tFld K (tVar 0) "fields") (tVar 1)) tNil))) rfl scAsValue.nd (pi_list (pe_callB (cr_sortedDT rfl hr.units) (by rfl) T.srt (by decide +kernel) (pa_cons (pe_fld (pv 0) rfl) pa_nil))) (blkOk_by (N := ["self", "name"]) (sc := defScope sAsValue) (by decide +kernel))
          (fun _ _ _ _ _ => pg_name (i := 1) scAsValue.nd rfl (Or.inl rfl)) (fun _ _ _ _ _ => pts_nil)
          (fun _ _ _ _ _ => by exact (pe_tup (pa_cons (pv 1) (pa_cons (pe_dget (by exact (hu_of hr)) (by exact (pe_fld (pv 0) rfl)) (pv 1) (fun _ _ => rfl)) pa_nil)))))
        pa_nil)))), ?_⟩
    cases o with
    | lst l =>
      obtain ⟨dx, xs, h1, h2, h3, h4⟩ := ho
      refine ⟨_, rfl, x.o, CO, dx, _, _, rfl, h1, T.cO, T.nKind, op_kind, rfl, _, rfl, ?_⟩
      refine if_t (dV_t rfl) ?_
      refine ⟨_, rfl, x.o, CO, dx, _, _, rfl, h1, T.cO, T.nListed, op_listed, x.la, xs, l, rfl, .inl h2, h3, ?_, fun H' y s1 hy => q _ _ s1 hy⟩
      have h7 : l.length ≤ 5000 := hcnt
      omega
    | rcd fs nm =>
      obtain ⟨dx, nv, kvs, h1, h2, h3, h4, h5⟩ := ho
      refine ⟨_, rfl, x.o, CO, dx, _, _, rfl, h1, T.cO, T.nKind, op_kind, rfl, _, rfl, ?_⟩
      refine if_f (dV_f (by decide)) ?_
      refine ⟨_, rfl, x.o, CO, dx, _, _, rfl, h1, T.cO, T.nFields, op_fields, x.da, kvs, _, rfl, .inl h3, h4.keys, fun bs l hperm hsrt hmem hl => ?_⟩
      -- the names that the tuples tell
      have hbs : ∀ b ∈ bs, ∃ n ∈ fs.map Prod.fst, kfA H b = nmI n := fun b hb => by
        have : kfA H b ∈ (fs.map Prod.fst).map nmI := hperm.mem_iff.mp (List.mem_map.mpr ⟨b, hb, rfl⟩)
        obtain ⟨n, hn, e⟩ := List.mem_map.mp this
        exact ⟨n, hn, e.symm⟩
      have hnI : ∀ b ∈ bs, nmI (nmB (kfA H b)) = kfA H b := fun b hb => by
        obtain ⟨n, _, e⟩ := hbs b hb
        rw [e, nmB_I]
      generalize hns : bs.map (fun b => nmB (kfA H b)) = ns
      have hk : bs.map (kfA H) = ns.map nmI := by
        rw [← hns, List.map_map]
        exact List.map_congr_left fun b hb => (hnI b hb).symm
      have hpn : ns.Perm (fs.map Prod.fst) := by
        have := hperm.map nmB
        rw [hk, List.map_map, List.map_map] at this
        have e : ∀ l : List Bytes, l.map (nmB ∘ nmI) = l := fun l => by
          conv => rhs; rw [← List.map_id l]
          exact List.map_congr_left fun n _ => nmB_I n
        rw [e, e] at this
        exact this
      rw [hk] at hsrt
      have hsf := sorted_fields hnd hpn hsrt
      have hlen : bs.length = fs.length := by
        have := hpn.length_eq
        rw [← hns, List.length_map, List.length_map] at this
        exact this
      have s1 : Same H (upd H l (.lst (bs.map V.ref))) := Same.new hl
      refine ⟨l, rfl, ⟨_, SqL.of upd_same⟩, fun D hD => ?_⟩
      have s2 : Same (upd H l (.lst (bs.map V.ref))) (upd (upd H l (.lst (bs.map V.ref))) D (.lst [])) := Same.new hD
      have hD0 : H D = none := s1.free hD
      have lD : l ≠ D := by
        intro z; subst z
        rw [upd_same] at hD; cases hD
      refine lc_list (K := K) (a := l) (xs := bs.map V.ref) (fun i H' => (∀ d o, upd H l (.lst (bs.map V.ref)) d = some o → H' d = some o) ∧ ∃ ys, H' D = some (.lst ys) ∧ FsAt H' ys ((ns.take i).map fun n => (n, lkB fs n)))
        ⟨s2, [], upd_same, .nil⟩ (fun i H' _ ⟨k, _⟩ => SqL.of (k _ _ upd_same)) ?_ ?_
      · rintro i y H' hi ⟨k, ys, hys, hfs⟩
        obtain ⟨b, hb, rfl⟩ : ∃ b, bs[i]? = some b ∧ y = V.ref b := by
          rw [List.getElem?_map] at hi
          obtain ⟨b, hb, e⟩ := Option.map_eq_some_iff.mp hi
          exact ⟨b, hb, e.symm⟩
        have hbm := List.mem_of_getElem? hb
        obtain ⟨n, hn, en⟩ := hbs b hbm
        have kH : Same H H' := fun d o e => k d o (s1 d o e)
        have hbt : H' b = some (.tup (bys n)) := by
          have := kH _ _ (hmem b hbm)
          rw [en, nmI_int] at this
          exact this
        obtain ⟨z, hz, hv⟩ := h4.get hn
        have hni : ns[i]? = some n := by
          rw [← hns, List.getElem?_map, hb]
          show some (nmB (kfA H b)) = _
          rw [en, nmB_I]
        refine ⟨rfl, ?_⟩
        simp only [tYes, ↓reduceIte]
        refine ⟨_, rfl, _, rfl, x.o, CO, dx, _, _, rfl, kH _ _ h1, T.cO, T.nFields, op_fields, _, rfl, x.da, z, rfl, ?_, ?_⟩
        · have g := DGet.t (k := keyB n) (kH _ _ h3) (by rw [keyB_kV]; exact hbt)
          rw [hz] at g
          exact g
        · refine ⟨(by show 2 ≤ sizeLine; decide), fun p hp => ?_⟩
          have s3 : Same H' (upd H' p (.tup [.ref b, z])) := Same.new hp
          have pD : D ≠ p := by
            intro z; subst z
            rw [hys] at hp; cases hp
          refine ⟨ys, s3 _ _ hys, ?_, ?_, ys ++ [.ref p], upd_same, ?_⟩
          · have h5 : 5000 < sizeLine := by decide
            have h6 := hfs.len
            rw [List.length_map, List.length_take] at h6
            have h7 : fs.length ≤ 5000 := hcnt
            have h8 := hpn.length_eq
            rw [List.length_map] at h8
            omega
          · intro d o e
            by_cases ed : d = D
            · subst ed
              rw [hD] at e; cases e
            · rw [upd_ne ed]
              exact s3 _ _ (k d o e)
          · have tk2 : Tk H' (upd (upd H' p (.tup [.ref b, z])) D (.lst (ys ++ [.ref p]))) := fun d xs e => by
              rw [upd_ne (fun w => by subst w; rw [hys] at e; cases e)]
              exact s3 _ _ e
            rw [List.take_add_one, hni, List.map_append]
            refine FsAt.snoc (hfs.mono tk2) ?_ (tk2 _ _ hbt) ((hv.mono (Same.tk kH)).mono tk2)
            rw [upd_ne (Ne.symm pD)]
            exact upd_same
      · rintro H' ⟨k, ys, hys, hfs⟩
        have et : ns.take (bs.map V.ref).length = ns := List.take_of_length_le (by rw [← hns, List.length_map, List.length_map]; exact Nat.le_refl _)
        rw [et, hsf] at hfs
        have kH : Same H H' := fun d o e => k d o (s1 d o e)
        refine ⟨D, ys, _, rfl, hys, hfs, ?_, fun H2 y s2 hy => q _ _ (kH.trans s2) hy⟩
        have h7 : fs.length ≤ 5000 := hcnt
        have h8 := hpn.length_eq
        rw [← hsf, List.length_map]
        rw [List.length_map] at h8
        omega
end
end Vt

namespace Vt
open PySem PySem.Spec PyProof.Rows L2
open PySem.W (Frag)
open Kcs7 (Bytes)
/-! ### the reading's object -/
abbrev rdO (CR dx l : Addr) (wh : V) (w : Int) (m : Bool) : HO := .ins CR dx [("opened", .ref l), ("whole", wh), ("wanted", .int w), ("may_close", .bl m)]
def WhAt (H : Hp) (wh : V) : Option Kcs7.V → Prop
  | none => wh = .non
  | some v => VAt H wh v
theorem WhAt.mono {H H' : Hp} {wh : V} {o : Option Kcs7.V} (h : WhAt H wh o) (k : Tk H H') : WhAt H' wh o := by
  cases o with
  | none => exact h
  | some v => exact VAt.mono k h
inductive OpnsAt (CO : Addr) (H : Hp) : List OA → List Opn → Prop where
  | nil : OpnsAt CO H [] []
  | cons {x : OA} {o : Opn} {os : List OA} {S : List Opn} : OpnAt CO H x o → OpnsAt CO H os S → OpnsAt CO H (x :: os) (o :: S)
def fps (os : List OA) : List Addr := os.flatMap OA.all
theorem OpnsAt.mono {CO : Addr} {H H' : Hp} {os : List OA} {S : List Opn} (h : OpnsAt CO H os S) (k : Tk H H') (hk : ∀ b ∈ fps os, ∀ u, H b = some u → H' b = some u) : OpnsAt CO H' os S := by
  induction h with
  | nil => exact .nil
  | cons a _ ih =>
    refine .cons (a.mono k fun b hb => hk b ?_) (ih fun b hb => hk b ?_)
    · unfold fps; rw [List.flatMap_cons]; exact List.mem_append.mpr (.inl hb)
    · unfold fps; rw [List.flatMap_cons]; exact List.mem_append.mpr (.inr hb)
theorem OpnsAt.len {CO : Addr} {H : Hp} {os : List OA} {S : List Opn} (h : OpnsAt CO H os S) : os.length = S.length := by
  induction h with
  | nil => rfl
  | cons a _ ih => exact congrArg (· + 1) ih
structure RdAt (CO CR : Addr) (H : Hp) (r : Addr) (s : Rd) (F : List Addr) : Prop where
  ex : ∃ dx l wh os, F = r :: l :: fps os ∧ F.Nodup ∧ H r = some (rdO CR dx l wh s.wanted s.may) ∧ WhAt H wh s.whole ∧ H l = some (.lst (os.reverse.map fun x => V.ref x.o)) ∧ OpnsAt CO H os s.st
/-- all that isn't in F stays -/
def Fr (F : List Addr) (H H' : Hp) : Prop := ∀ b u, H b = some u → b ∉ F → H' b = some u
/-- what is in F' was in F, or is new -/
def Gw (F F' : List Addr) (H : Hp) : Prop := ∀ b ∈ F', b ∈ F ∨ H b = none
theorem tk_upd {H : Hp} {a : Addr} {u o : HO} (h : H a = some u) (hn : ∀ xs, u ≠ .tup xs) : Tk H (upd H a o) := fun b xs e => by
  rw [upd_ne (ne_of e h (Ne.symm (hn xs)))]
  exact e
section
variable {P : Program} {w : World} {K : Frag} {mg : Str → Option Value} {base : Heap} {CC CO CR CN bB bW : Addr}
theorem rd_opened {a b c d : V} : List.lookup ("opened" : Str) [(("opened" : Str), a), (("whole" : Str), b), (("wanted" : Str), c), (("may_close" : Str), d)] = some a := lk_here
theorem rd_whole {a b c d : V} : List.lookup ("whole" : Str) [(("opened" : Str), a), (("whole" : Str), b), (("wanted" : Str), c), (("may_close" : Str), d)] = some b := (lk_past (by decide +kernel)).trans lk_here
theorem rd_wanted {a b c d : V} : List.lookup ("wanted" : Str) [(("opened" : Str), a), (("whole" : Str), b), (("wanted" : Str), c), (("may_close" : Str), d)] = some c := (lk_past (by decide +kernel)).trans ((lk_past (by decide +kernel)).trans lk_here)
theorem rd_may {a b c d : V} : List.lookup ("may_close" : Str) [(("opened" : Str), a), (("whole" : Str), b), (("wanted" : Str), c), (("may_close" : Str), d)] = some d :=
  (lk_past (by decide +kernel)).trans ((lk_past (by decide +kernel)).trans ((lk_past (by decide +kernel)).trans lk_here))
theorem rd_no {x : Str} {a b c d : V} (h1 : (x == ("opened" : Str)) = false) (h2 : (x == ("whole" : Str)) = false) (h3 : (x == ("wanted" : Str)) = false) (h4 : (x == ("may_close" : Str)) = false) :
    List.lookup x [(("opened" : Str), a), (("whole" : Str), b), (("wanted" : Str), c), (("may_close" : Str), d)] = none := (lk_past h1).trans ((lk_past h2).trans ((lk_past h3).trans ((lk_past h4).trans rfl)))
theorem rd_putW {a b c d e : V} : putF "whole" e [(("opened" : Str), a), (("whole" : Str), b), (("wanted" : Str), c), (("may_close" : Str), d)] = [(("opened" : Str), a), (("whole" : Str), e), (("wanted" : Str), c), (("may_close" : Str), d)] :=
  (put_past (by decide +kernel)).trans (congrArg _ put_here)
theorem rd_putT {a b c d e : V} : putF "wanted" e [(("opened" : Str), a), (("whole" : Str), b), (("wanted" : Str), c), (("may_close" : Str), d)] = [(("opened" : Str), a), (("whole" : Str), b), (("wanted" : Str), e), (("may_close" : Str), d)] :=
  (put_past (by decide +kernel)).trans (congrArg _ ((put_past (by decide +kernel)).trans (congrArg _ put_here)))
theorem rd_putM {a b c d e : V} : putF "may_close" e [(("opened" : Str), a), (("whole" : Str), b), (("wanted" : Str), c), (("may_close" : Str), d)] = [(("opened" : Str), a), (("whole" : Str), b), (("wanted" : Str), c), (("may_close" : Str), e)] :=
  (put_past (by decide +kernel)).trans (congrArg _ ((put_past (by decide +kernel)).trans (congrArg _ ((put_past (by decide +kernel)).trans (congrArg _ put_here)))))
/-! __init__ -/
def spRInit (CR : Addr) : Sp := fun vs H Q _ => ∃ x dx, vs = [.ref x] ∧ H x = some (.ins CR dx []) ∧ ∀ H' l, H l = none → H' x = some (rdO CR dx l .non 0 false) → H' l = some (.lst []) → But x H H' → Q .non H'
theorem scRInit : FnScope ["self"] ["self"] (defScope sRInit) := ⟨rfl, rfl, rfl, by decide +kernel, rfl, by decide +kernel, by decide +kernel⟩
theorem ok_rinit {f : Addr} {fd : FuncData} (F : Fun K "__init__" "Reading.__init__" sRInit f fd) (T : Tx K mg CC CO CR CN bB bW) : FnOk P w K mg base CX0 1 f fd ["self"] (spRInit CR) := by
  refine F.ok scRInit (fun vs H Q E h => ?_) (fun cdv A outer s H vs Q E hr h => ?_)
  · obtain ⟨_, _, rfl, _⟩ := h
    rfl
  · obtain ⟨x, dx, rfl, hx, q⟩ := h
    refine ⟨_, pss_cons (ps_fld (pv 0) (pe_lst pa_nil) rfl) (pss_cons (ps_fld (pv 0) pe_non rfl) (pss_cons (ps_fld (pv 0) (pe_const T.gWANTS_VALUE) rfl) (pss_one (ps_fld (pv 0) pe_bl rfl)))), ?_⟩
    refine ⟨(by show 0 ≤ sizeLine; exact Nat.zero_le _), fun l hl => ?_⟩
    have nx : x ≠ l := ne_of_none hx hl
    refine ⟨_, rfl, x, CR, dx, [], rfl, by rw [upd_ne nx]; exact hx, T.cR, T.nOpened, (by show 0 < 1000; decide), ?_⟩
    refine ⟨_, rfl, x, CR, dx, _, rfl, upd_same, T.cR, T.nWhole, (by show 1 < 1000; decide), ?_⟩
    refine ⟨_, rfl, x, CR, dx, _, rfl, upd_same, T.cR, T.nWanted, (by show 2 < 1000; decide), ?_⟩
    refine ⟨_, rfl, x, CR, dx, _, rfl, upd_same, T.cR, T.nMay, (by show 3 < 1000; decide), ?_⟩
    rw [upd_upd, upd_upd, upd_upd]
    have e : putF "may_close" (.bl false) (putF "wanted" (.int 0) (putF "whole" .non (putF "opened" (.ref l) []))) = [(("opened" : Str), V.ref l), (("whole" : Str), V.non), (("wanted" : Str), V.int 0), (("may_close" : Str), V.bl false)] := by
      have e1 : putF "whole" .non (putF "opened" (.ref l) []) = [(("opened" : Str), V.ref l), (("whole" : Str), V.non)] := (put_past (by decide +kernel)).trans rfl
      have e2 : putF "wanted" (.int 0) [(("opened" : Str), V.ref l), (("whole" : Str), V.non)] = [(("opened" : Str), V.ref l), (("whole" : Str), V.non), (("wanted" : Str), V.int 0)] := (put_past (by decide +kernel)).trans (congrArg _ ((put_past (by decide +kernel)).trans rfl))
      have e3 : putF "may_close" (.bl false) [(("opened" : Str), V.ref l), (("whole" : Str), V.non), (("wanted" : Str), V.int 0)] = [(("opened" : Str), V.ref l), (("whole" : Str), V.non), (("wanted" : Str), V.int 0), (("may_close" : Str), V.bl false)] :=
        (put_past (by decide +kernel)).trans (congrArg _ ((put_past (by decide +kernel)).trans (congrArg _ ((put_past (by decide +kernel)).trans rfl))))
      rw [e1, e2, e3]
    rw [e]
    refine q _ l hl upd_same (by rw [upd_ne (Ne.symm nx)]; exact upd_same) ?_
    intro d o hd hn
    rw [upd_ne hn, upd_ne (ne_of_none hd hl)]
    exact hd
/-! innermost, now_want -/
def spInnermost (CR : Addr) : Sp := fun vs H Q _ => ∃ r dx l wh t m xs y, vs = [.ref r] ∧ H r = some (rdO CR dx l wh t m) ∧ H l = some (.lst (xs ++ [y])) ∧ Q y H
theorem scInnermost : FnScope ["self"] ["self"] (defScope sInnermost) := ⟨rfl, rfl, rfl, by decide +kernel, rfl, by decide +kernel, by decide +kernel⟩
theorem atI_last {α : Type} {xs : List α} {y : α} : atI (xs ++ [y]) (-1) = some y := by
  unfold atI ixN
  rw [if_neg (by decide), if_pos (by rw [List.length_append]; simp; omega)]
  show (xs ++ [y])[(-1 + ((xs ++ [y]).length : Int)).toNat]? = some y
  have e : (-1 + ((xs ++ [y]).length : Int)).toNat = xs.length := by rw [List.length_append]; simp; omega
  rw [e, List.getElem?_append_right (Nat.le_refl _), Nat.sub_self]
  rfl
theorem ok_innermost {f : Addr} {fd : FuncData} (F : Fun K "innermost" "Reading.innermost" sInnermost f fd) (T : Tx K mg CC CO CR CN bB bW) : FnOk P w K mg base CX0 1 f fd ["self"] (spInnermost CR) := by
  refine F.ok scInnermost (fun vs H Q E h => ?_) (fun cdv A outer s H vs Q E hr h => ?_)
  · obtain ⟨_, _, _, _, _, _, _, _, rfl, _⟩ := h
    rfl
  · obtain ⟨r, dx, l, wh, t, m, xs, y, rfl, h1, h2, q⟩ := h
    refine ⟨_, pss_one (ps_ret (pe_ix ix_list (pe_fld (pv 0) rfl) (pe_un un_neg pe_int) (fun _ _ => rfl))), ?_⟩
    exact ⟨_, rfl, r, CR, dx, _, _, rfl, h1, T.cR, T.nOpened, rd_opened, _, rfl, l, _, -1, y, rfl, rfl, SqL.of h2, atI_last, q⟩
def spNowWant (CR : Addr) : Sp := fun vs H Q _ => ∃ r dx l wh t m t' m', vs = [.ref r, .int t', .bl m'] ∧ H r = some (rdO CR dx l wh t m) ∧ Q .non (upd H r (rdO CR dx l wh t' m'))
theorem scNowWant : FnScope ["self", "wanted", "may_close"] ["self", "wanted", "may_close"] (defScope sNowWant) := ⟨rfl, rfl, rfl, by decide +kernel, rfl, by decide +kernel, by decide +kernel⟩
theorem ok_nowWant {f : Addr} {fd : FuncData} (F : Fun K "now_want" "Reading.now_want" sNowWant f fd) (T : Tx K mg CC CO CR CN bB bW) : FnOk P w K mg base CX0 1 f fd ["self", "wanted", "may_close"] (spNowWant CR) := by
  refine F.ok scNowWant (fun vs H Q E h => ?_) (fun cdv A outer s H vs Q E hr h => ?_)
  · obtain ⟨_, _, _, _, _, _, _, _, rfl, _⟩ := h
    rfl
  · obtain ⟨r, dx, l, wh, t, m, t', m', rfl, h1, q⟩ := h
    refine ⟨_, pss_cons (ps_fld (pv 0) (pv 1) rfl) (pss_one (ps_fld (pv 0) (pv 2) rfl)), ?_⟩
    refine ⟨_, rfl, _, rfl, r, CR, dx, _, rfl, h1, T.cR, T.nWanted, (by show 4 < 1000; decide), ?_⟩
    rw [rd_putT]
    refine ⟨_, rfl, _, rfl, r, CR, dx, _, rfl, upd_same, T.cR, T.nMay, (by show 4 < 1000; decide), ?_⟩
    rw [rd_putM, upd_upd]
    exact q
/-! take_value -/
theorem take_len {CO : Addr} {os : List OA} {H : Hp} {S : List Opn} (h : OpnsAt CO H os S) : ((os.reverse.map fun x => V.ref x.o).length : Int) = S.length := by
  rw [List.length_map, List.length_reverse, h.len]
def spTakeValue (CO CR : Addr) : Sp := fun vs H Q _ => ∃ r x s F v, vs = [.ref r, x] ∧ RdAt CO CR H r s F ∧ (∀ o S, s.st = o :: S → o.named ∧ o.cnt < 5001) ∧ VAt H x v ∧ ∀ H', RdAt CO CR H' r (s.takeV v) F → Fr F H H' → Q .non H'
theorem scTakeValue : FnScope ["self", "value"] ["self", "value"] (defScope sTakeValue) := ⟨rfl, rfl, rfl, by decide +kernel, rfl, by decide +kernel, by decide +kernel⟩
theorem ok_takeValue {f : Addr} {fd : FuncData} (F : Fun K "take_value" "Reading.take_value" sTakeValue f fd) (T : Tx K mg CC CO CR CN bB bW) (mI : MetOk P w K mg base CX0 1 CR "innermost" ["self"] (spInnermost CR))
    (mP : MetOk P w K mg base CX0 1 CO "put_value" ["self", "value"] (spPutValue CO)) (mN : MetOk P w K mg base CX0 1 CR "now_want" ["self", "wanted", "may_close"] (spNowWant CR)) :
    FnOk P w K mg base CX0 2 f fd ["self", "value"] (spTakeValue CO CR) := by
  refine F.ok scTakeValue (fun vs H Q E h => ?_) (fun cdv A outer s H vs Q E hr h => ?_)
  · obtain ⟨_, _, _, _, _, rfl, _⟩ := h
    rfl
  · obtain ⟨r, x, t, Fp, v, rfl, ⟨dx, l, wh, os, eF, nd, hR, hW, hL, hO⟩, hnm, hv, q⟩ := h
    refine ⟨_, pss_one (ps_if (pt_cmpR op_eq (pe_callB call_len_seq (by rfl) T.len PySem.boot_len (pa_cons (pe_fld (pv 0) rfl) pa_nil)) pe_int (nomark _))
      (pss_cons (ps_fld (pv 0) (pv 1) rfl) (pss_one (ps_expr (pe_met mN T.cR hr pass0 (pv 0) (pa_cons (pe_const T.gWANTS_NOTHING) (pa_cons pe_bl pa_nil))))))
      (pss_cons (ps_expr (pe_met mP T.cO hr pass0 (pe_met0 mI T.cR hr pass0 (pv 0)) (pa_cons (pv 1) pa_nil))) (pss_one (ps_expr (pe_met mN T.cR hr pass0 (pv 0) (pa_cons (pe_const T.gWANTS_COMMA) (pa_cons pe_bl pa_nil))))))), ?_⟩
    refine ⟨_, rfl, r, CR, dx, _, _, rfl, hR, T.cR, T.nOpened, rd_opened, l, _, rfl, .inl (SqL.of hL), rfl, _, rfl, ?_⟩
    have hlen := take_len hO
    rw [eF] at nd
    have nr : r ∉ l :: fps os := (List.nodup_cons.mp nd).1
    have nl : l ∉ fps os := (List.nodup_cons.mp (List.nodup_cons.mp nd).2).1
    have nrl : r ≠ l := fun z => nr (by rw [z]; exact List.mem_cons_self)
    have nrF : r ∉ fps os := fun z => nr (List.mem_cons_of_mem _ z)
    cases hst : t.st with
    | nil =>
      rw [hst] at hO hlen
      cases hO
      refine if_t (dV_t (by rw [hlen]; rfl)) ?_
      refine ⟨_, rfl, _, rfl, r, CR, dx, _, rfl, hR, T.cR, T.nWhole, (by show 4 < 1000; decide), ?_⟩
      rw [rd_putW]
      refine ⟨_, rfl, r, dx, _, rfl, upd_same, rd_no (by decide +kernel) (by decide +kernel) (by decide +kernel) (by decide +kernel), r, dx, l, _, _, _, _, _, rfl, upd_same, ?_⟩
      rw [upd_upd]
      have tk : Tk H (upd H r (rdO CR dx l x 4 false)) := tk_upd hR fun _ z => nomatch z
      refine q _ ⟨dx, l, x, [], eF, (by rw [eF]; exact nd), ?_, ?_, ?_, ?_⟩ ?_
      · unfold Rd.takeV
        rw [hst]
        exact upd_same
      · unfold Rd.takeV
        rw [hst]
        exact hv.mono tk
      · rw [upd_ne (Ne.symm nrl)]
        exact hL
      · unfold Rd.takeV
        rw [hst]
        exact .nil
      · intro b u hb hn
        rw [upd_ne (fun z => hn (by rw [eF, z]; exact List.mem_cons_self))]
        exact hb
    | cons o S =>
      rw [hst] at hO hlen
      refine if_f (dV_f (by rw [hlen]; simp; omega)) ?_
      cases hO with
      | @cons xo _ os' _ hA hO' =>
        obtain ⟨hnamed, hcnt⟩ := hnm o S hst
        have eL : (xo :: os').reverse.map (fun x => V.ref x.o) = os'.reverse.map (fun x => V.ref x.o) ++ [.ref xo.o] := by
          rw [List.reverse_cons, List.map_append]
          rfl
        have hL' : H l = some (.lst (os'.reverse.map (fun x => V.ref x.o) ++ [.ref xo.o])) := by rw [hL, eL]
        have h5 : 5001 < sizeLine := by decide
        have mem : ∀ b ∈ xo.all, b ∈ fps (xo :: os') := fun b hb => by unfold fps; rw [List.flatMap_cons]; exact List.mem_append.mpr (.inl hb)
        have mem' : ∀ b ∈ fps os', b ∈ fps (xo :: os') := fun b hb => by unfold fps at hb ⊢; rw [List.flatMap_cons]; exact List.mem_append.mpr (.inr hb)
        have ndF : (fps (xo :: os')).Nodup := (List.nodup_cons.mp (List.nodup_cons.mp nd).2).2
        have nd3 : xo.all.Nodup ∧ (fps os').Nodup ∧ ∀ a ∈ xo.all, ∀ b ∈ fps os', a ≠ b := by
          unfold fps at ndF ⊢
          rw [List.flatMap_cons] at ndF
          exact List.nodup_append.mp ndF
        have ho1 : xo.o ∈ xo.all := by simp [OA.all]
        have ho2 : xo.la ∈ xo.all := by simp [OA.all]
        have ho3 : xo.da ∈ xo.all := by simp [OA.all]
        have nn : xo.o ≠ xo.la ∧ xo.o ≠ xo.da ∧ xo.la ≠ xo.da := by
          have := nd3.1
          simp only [OA.all, List.nodup_cons, List.mem_cons, List.not_mem_nil, or_false, not_or] at this
          exact ⟨this.1.1, this.1.2, this.2.1⟩
        -- the end: at a place z of the innermost something else is put
        have fin : ∀ (z : Addr) (u u' : HO), z ∈ xo.all → H z = some u → (∀ xs, u ≠ .tup xs) → OpnAt CO (upd H z u') xo (o.putV v) →
            (∃ a dx' fs, V.ref r = .ref a ∧ (upd H z u') a = some (.ins CR dx' fs) ∧ fs.lookup ("now_want" : Str) = none ∧ spNowWant CR (.ref r :: ([.int 3, .bl true] ++ [])) (upd H z u') (fun _ H1 => Q .non H1) E0) := by
          intro z u u' hz hu hnt hop
          have zr : r ≠ z := fun w => nrF (by rw [w]; exact mem z hz)
          have zl : l ≠ z := fun w => nl (by rw [w]; exact mem z hz)
          have hR' : upd H z u' r = some (rdO CR dx l wh t.wanted t.may) := by rw [upd_ne zr]; exact hR
          refine ⟨r, dx, _, rfl, hR', rd_no (by decide +kernel) (by decide +kernel) (by decide +kernel) (by decide +kernel), r, dx, l, _, _, _, _, _, rfl, hR', ?_⟩
          have tk1 : Tk H (upd H z u') := tk_upd hu hnt
          have tk2 : Tk (upd H z u') (upd (upd H z u') r (rdO CR dx l wh 3 true)) := tk_upd hR' fun _ y => nomatch y
          refine q _ ⟨dx, l, wh, xo :: os', eF, (by rw [eF]; exact nd), ?_, ?_, ?_, ?_⟩ ?_
          · unfold Rd.takeV
            rw [hst]
            exact upd_same
          · unfold Rd.takeV
            rw [hst]
            exact (hW.mono tk1).mono tk2
          · rw [upd_ne (Ne.symm nrl), upd_ne zl]
            exact hL
          · unfold Rd.takeV
            rw [hst]
            refine .cons (hop.mono tk2 fun b hb w hw => ?_) ((hO'.mono tk1 fun b hb w hw => ?_).mono tk2 fun b hb w hw => ?_)
            · rw [upd_ne (fun y => nrF (by rw [← y]; exact mem b hb))]; exact hw
            · rw [upd_ne (fun y => nd3.2.2 z hz b hb y.symm)]; exact hw
            · rw [upd_ne (fun y => nrF (by rw [← y]; exact mem' b hb))]; exact hw
          · intro b w hb hn
            rw [eF] at hn
            rw [upd_ne (fun y => hn (by rw [y]; exact List.mem_cons_self)), upd_ne (fun y => hn (by rw [y]; exact List.mem_cons_of_mem _ (List.mem_cons_of_mem _ (mem z hz))))]
            exact hb
        refine ⟨_, rfl, r, dx, _, rfl, hR, rd_no (by decide +kernel) (by decide +kernel) (by decide +kernel) (by decide +kernel), r, dx, l, _, _, _, _, _, rfl, hR, hL', ?_⟩
        cases o with
        | lst l0 =>
          obtain ⟨dxo, xs, h1, h2, h3, h4⟩ := hA
          refine ⟨xo.o, dxo, _, rfl, h1, op_no (by decide +kernel) (by decide +kernel) (by decide +kernel) (by decide +kernel), _, rfl, xo.o, dxo, 5, xo.la, xo.da, .non, x, rfl, h1, .inl ⟨rfl, xs, h2, ?_, ?_⟩⟩
          · have := h3.len
            have : l0.length < 5001 := hcnt
            omega
          · refine ⟨_, rfl, ?_⟩
            have tk1 : Tk H (upd H xo.la (.lst (xs ++ [x]))) := tk_upd h2 fun _ y => nomatch y
            refine fin xo.la _ _ ho2 h2 (fun _ y => nomatch y) ⟨dxo, xs ++ [x], ?_, upd_same, (h3.mono tk1).snoc (hv.mono tk1), ?_⟩
            · rw [upd_ne nn.1]; exact h1
            · rw [upd_ne (Ne.symm nn.2.2)]; exact h4
        | rcd fs nm =>
          obtain ⟨dxo, nv, kvs, h1, h2, h3, h4, h5'⟩ := hA
          cases nm with
          | none => exact absurd rfl hnamed
          | some n =>
            obtain ⟨tt, rfl, htt⟩ := h5'
            refine ⟨xo.o, dxo, _, rfl, h1, op_no (by decide +kernel) (by decide +kernel) (by decide +kernel) (by decide +kernel), _, rfl, xo.o, dxo, 6, xo.la, xo.da, .ref tt, x, rfl, h1, .inr ⟨(by decide), tt, n, kvs, rfl, htt, h3, ?_, ?_⟩⟩
            · have := h4.len
              have : fs.length < 5001 := hcnt
              omega
            · refine ⟨_, rfl, ?_⟩
              have tk1 : Tk H (upd H xo.da (.dT (putK kvs (keyB n) x))) := tk_upd h3 fun _ y => nomatch y
              refine fin xo.da _ _ ho3 h3 (fun _ y => nomatch y) ⟨dxo, .ref tt, _, ?_, ?_, upd_same, (h4.mono tk1).put (hv.mono tk1), tt, rfl, tk1 _ _ htt⟩
              · rw [upd_ne nn.2.1]; exact h1
              · rw [upd_ne nn.2.2]; exact h2
end
end Vt

namespace Vt
open PySem PySem.Spec PyProof.Rows L2
open PySem.W (Frag)
open Kcs7 (Bytes)
/-- a class that is made, its __init__ keeping its promise -/
structure MkOk (P : Program) (w : World) (K : Frag) (mg : Str → Option Value) (base : Heap) (k : Nat) (cl : Addr) (ps : List Str) (sp : Sp) : Prop where
  ex : ∃ (f : Addr) (fd : FuncData), Mk K cl f ∧ Binds K fd ps [] ∧ FnOk P w K mg base CX0 k f fd ps sp
section
variable {X : Cx} {k : Nat} {x : Str} {ps : List Str} {sp : Sp} {e : Expr} {es : List Expr} {t : TA} {p pos : Pos} {cl : Addr}
theorem pe_mk (D : MkOk X.prog X.w X.K X.mg X.base k cl ps sp) (hr : Room (k + 1) X.A) (hm : X.mg x = some (.ref cl)) (ha : PA X (e :: es) t) (hg : Gl X x := by rfl) (hdb : (x == ("__debug__" : Str)) = false := by decide)
    (he : starEach (e :: es) X.env = (false, eval e X.env) :: starEach es X.env := by rfl) (hpl : (backTo pos (starEach es X.env)).any (·.1) = false := by rfl) :
    PE X (.Call (.Name x p) (e :: es) [] pos) (tMake cl sp [] E0 t) := by
  obtain ⟨f, fd, M, b, F⟩ := D.ex
  exact pe_make M F hr hg hm b .nil pass0 ha hdb he hpl
theorem pe_mk0 (D : MkOk X.prog X.w X.K X.mg X.base k cl ps sp) (hr : Room (k + 1) X.A) (hm : X.mg x = some (.ref cl)) (hg : Gl X x := by rfl) (hdb : (x == ("__debug__" : Str)) = false := by decide) :
    PE X (.Call (.Name x p) [] [] pos) (tMake cl sp [] E0 tNil) := by
  obtain ⟨f, fd, M, b, F⟩ := D.ex
  exact pe_make0 M F hr hg hm b .nil pass0 hdb
end
theorem OpnAt.some {CO : Addr} {H : Hp} {x : OA} {o : Opn} (h : OpnAt CO H x o) : ∀ b ∈ x.all, ∃ u, H b = Option.some u := by
  intro b hb
  simp only [OA.all, List.mem_cons, List.not_mem_nil, or_false] at hb
  cases o with
  | lst l =>
    obtain ⟨dx, xs, h1, h2, h3, h4⟩ := h
    rcases hb with z | z | z <;> subst z
    · exact ⟨_, h1⟩
    · exact ⟨_, h2⟩
    · exact ⟨_, h4⟩
  | rcd fs nm =>
    obtain ⟨dx, nv, kvs, h1, h2, h3, h4, h5⟩ := h
    rcases hb with z | z | z <;> subst z
    · exact ⟨_, h1⟩
    · exact ⟨_, h2⟩
    · exact ⟨_, h3⟩
theorem OpnsAt.tracked {CO : Addr} {H : Hp} {os : List OA} {S : List Opn} (h : OpnsAt CO H os S) : ∀ b ∈ fps os, ∃ u, H b = some u := by
  induction h with
  | nil => exact fun b hb => nomatch hb
  | cons a _ ih =>
    intro b hb
    unfold fps at hb
    rw [List.flatMap_cons] at hb
    rcases List.mem_append.mp hb with z | z
    · exact a.some b z
    · exact ih b z
theorem RdAt.tracked {CO CR : Addr} {H : Hp} {r : Addr} {s : Rd} {F : List Addr} (h : RdAt CO CR H r s F) : ∀ b ∈ F, ∃ u, H b = some u := by
  obtain ⟨dx, l, wh, os, eF, nd, hR, hW, hL, hO⟩ := h.ex
  intro b hb
  rw [eF] at hb
  rcases List.mem_cons.mp hb with z | z
  · rw [z]; exact ⟨_, hR⟩
  · rcases List.mem_cons.mp z with z | z
    · rw [z]; exact ⟨_, hL⟩
    · exact hO.tracked b z
section
variable {P : Program} {w : World} {K : Frag} {mg : Str → Option Value} {base : Heap} {CC CO CR CN bB bW : Addr}
/-! ### begin -/
def kdN (isL : Bool) : Int := if isL = true then 5 else 6
def spBegin (CO CR CN : Addr) : Sp := fun vs H Q E => ∃ r s F isL, vs = [.ref r, .int (kdN isL)] ∧ RdAt CO CR H r s F ∧ s.st.length ≤ 40 ∧ (s.begin isL = none → Fl CN E) ∧
  ∀ s', s.begin isL = some s' → ∀ H' F', RdAt CO CR H' r s' F' → Fr F H H' → Gw F F' H → Q .non H'
theorem scBegin : FnScope ["self", "kind"] ["self", "kind"] (defScope sBegin) := ⟨rfl, rfl, rfl, by decide +kernel, rfl, by decide +kernel, by decide +kernel⟩
theorem ok_begin {f : Addr} {fd : FuncData} (F : Fun K "begin" "Reading.begin" sBegin f fd) (T : Tx K mg CC CO CR CN bB bW) (mI : MetOk P w K mg base CX0 1 CR "innermost" ["self"] (spInnermost CR))
    (mF : MetOk P w K mg base CX0 1 CO "first_wanted" ["self"] (spFirstWanted CO)) (mN : MetOk P w K mg base CX0 1 CR "now_want" ["self", "wanted", "may_close"] (spNowWant CR)) (dO : MkOk P w K mg base 1 CO ["self", "kind"] (spOInit CO)) :
    FnOk P w K mg base (L2.CX P w) 3 f fd ["self", "kind"] (spBegin CO CR CN) := by
  refine F.okX scBegin (fun vs H Q E h => ?_) (fun cdv A outer s H vs Q E hr h => ?_)
  · obtain ⟨_, _, _, _, rfl, _⟩ := h
    rfl
  · obtain ⟨r, t, Fp, isL, rfl, ⟨dx, l, wh, os, eF, nd, hR, hW, hL, hO⟩, h40, kE, kQ⟩ := h
    have hr1 : Room 1 _ := hr.mono (by decide)
    refine ⟨_, pss_cons (ps_if (pt_cmpR op_eq (pe_callB call_len_seq (by rfl) T.len PySem.boot_len (pa_cons (pe_fld (pv 0) rfl) pa_nil)) (pe_const T.gMOST_DEPTH) (nomark _)) (pss_one (ps_rn T (takes_of rfl rfl rfl rfl))) pss_nil)
      (pss_cons (ps_expr (pe_bm PySem.F.plainAttrs_list PySem.F.slot_list_append PySem.F.type_list_append mt_append (pe_fld (pv 0) rfl) (pa_cons (pe_mk dO hr T.gCO (pa_cons (pv 1) pa_nil)) pa_nil)))
      (pss_one (ps_expr (pe_met mN T.cR hr1 pass0 (pv 0) (pa_cons (pe_met0 mF T.cO hr1 pass0 (pe_met0 mI T.cR hr1 pass0 (pv 0))) (pa_cons pe_bl pa_nil)))))), ?_⟩
    refine ⟨_, rfl, r, CR, dx, _, _, rfl, hR, T.cR, T.nOpened, rd_opened, l, _, rfl, .inl (SqL.of hL), rfl, _, rfl, ?_⟩
    have hlen := take_len hO
    unfold Rd.begin at kE kQ
    by_cases c : t.st.length = 40
    · refine if_t (dV_t (by rw [hlen, c]; rfl)) ?_
      refine kE ?_ _
      rw [if_pos c]
    refine if_f (dV_f (by rw [hlen]; omega)) ?_
    rw [if_neg c] at kQ
    refine ⟨_, rfl, r, CR, dx, _, _, rfl, hR, T.cR, T.nOpened, rd_opened, .inl ⟨rfl, _, SqL.of hL⟩, _, rfl, fun x dx' nx ndx nxd => ?_⟩
    refine ⟨x, dx', kdN isL, rfl, upd_same, fun H2 la da hla hda nla hx hla2 hda2 bt => ⟨rfl, ?_⟩⟩
    have sm : Same H H2 := fun b u hb => by
      refine bt b u ?_ (ne_of_none hb nx)
      rw [upd_ne (ne_of_none hb nx), upd_ne (ne_of_none hb ndx)]
      exact hb
    have free : ∀ b, upd (upd H dx' (.own x)) x (.ins CO dx' []) b = none → H b = none ∧ b ≠ x := fun b hb => by
      have h1 : b ≠ x := by
        intro z; subst z
        rw [upd_same] at hb; cases hb
      rw [upd_ne h1] at hb
      have h2 : b ≠ dx' := by
        intro z; subst z
        rw [upd_same] at hb; cases hb
      rw [upd_ne h2] at hb
      exact ⟨hb, h1⟩
    obtain ⟨hla0, nlx⟩ := free la hla
    obtain ⟨hda0, ndx2⟩ := free da hda
    have hL2 := sm _ _ hL
    have hR2 := sm _ _ hR
    refine ⟨l, _, _, rfl, rfl, hL2, ?_, ?_⟩
    · have h5 : 5000 < sizeLine := by decide
      omega
    rw [eF] at nd
    have nr : r ∉ l :: fps os := (List.nodup_cons.mp nd).1
    have nl : l ∉ fps os := (List.nodup_cons.mp (List.nodup_cons.mp nd).2).1
    have nrl : r ≠ l := fun z => nr (by rw [z]; exact List.mem_cons_self)
    have lx : x ≠ l := Ne.symm (ne_of_none hL nx)
    have lla : la ≠ l := Ne.symm (ne_of_none hL hla0)
    have lda : da ≠ l := Ne.symm (ne_of_none hL hda0)
    have rx : x ≠ r := Ne.symm (ne_of_none hR nx)
    have rla : la ≠ r := Ne.symm (ne_of_none hR hla0)
    have rda : da ≠ r := Ne.symm (ne_of_none hR hda0)
    generalize hH3 : upd H2 l (.lst (os.reverse.map (fun x => V.ref x.o) ++ [.ref x])) = H3
    have hR3 : H3 r = some (rdO CR dx l wh t.wanted t.may) := by rw [← hH3, upd_ne nrl]; exact hR2
    have hL3 : H3 l = some (.lst (os.reverse.map (fun x => V.ref x.o) ++ [.ref x])) := by rw [← hH3]; exact upd_same
    have hx3 : H3 x = some (opO CO dx' (kdN isL) la da .non) := by rw [← hH3, upd_ne lx]; exact hx
    have tk3 : Tk H H3 := fun b xs hb => by rw [← hH3]; exact (tk_upd hL2 fun _ z => nomatch z) _ _ (sm _ _ hb)
    refine ⟨_, rfl, r, dx, _, rfl, hR3, rd_no (by decide +kernel) (by decide +kernel) (by decide +kernel) (by decide +kernel), _, rfl, r, dx, _, rfl, hR3, rd_no (by decide +kernel) (by decide +kernel) (by decide +kernel) (by decide +kernel), ?_⟩
    refine ⟨r, dx, l, _, _, _, _, _, rfl, hR3, hL3, ?_⟩
    refine ⟨x, dx', _, rfl, hx3, op_no (by decide +kernel) (by decide +kernel) (by decide +kernel) (by decide +kernel), x, dx', _, la, da, _, rfl, hx3, ?_⟩
    refine ⟨r, dx, l, _, _, _, _, _, rfl, hR3, ?_⟩
    have ef : (if kdN isL = 5 then (0 : Int) else 1) = ((Opn.fresh isL).first : Nat) := by cases isL <;> rfl
    rw [ef]
    have tk4 : Tk H3 (upd H3 r (rdO CR dx l wh ((Opn.fresh isL).first : Nat) true)) := tk_upd hR3 fun _ z => nomatch z
    have keep : ∀ b u, H b = some u → b ≠ r → b ≠ l → upd H3 r (rdO CR dx l wh ((Opn.fresh isL).first : Nat) true) b = some u := fun b u hb h1 h2 => by
      rw [upd_ne h1, ← hH3, upd_ne h2]
      exact sm _ _ hb
    refine kQ _ rfl _ (r :: l :: fps (⟨x, la, da⟩ :: os)) ⟨dx, l, wh, ⟨x, la, da⟩ :: os, rfl, ?_, ?_, ?_, ?_, ?_⟩ ?_ ?_
    · have ndF : (fps os).Nodup := (List.nodup_cons.mp (List.nodup_cons.mp nd).2).2
      have tr := hO.tracked
      have nf : ∀ b, H b = none → b ∉ fps os := fun b hb z => by
        obtain ⟨u, hu⟩ := tr b z
        rw [hu] at hb; cases hb
      have e : fps (⟨x, la, da⟩ :: os) = x :: la :: da :: fps os := rfl
      rw [e]
      simp only [List.nodup_cons, List.mem_cons, not_or]
      exact ⟨⟨nrl, Ne.symm rx, Ne.symm rla, Ne.symm rda, fun z => nr (List.mem_cons_of_mem _ z)⟩, ⟨Ne.symm lx, Ne.symm lla, Ne.symm lda, nl⟩, ⟨Ne.symm nlx, Ne.symm ndx2, nf x nx⟩, ⟨nla, nf la hla0⟩, nf da hda0, ndF⟩
    · exact upd_same
    · exact (hW.mono tk3).mono tk4
    · rw [upd_ne (Ne.symm nrl), hL3, List.reverse_cons, List.map_append]
      rfl
    · refine .cons ?_ ((hO.mono tk3 fun b hb u hu => ?_).mono tk4 fun b hb u hu => ?_)
      · have g1 : upd H3 r (rdO CR dx l wh ((Opn.fresh isL).first : Nat) true) x = some (opO CO dx' (kdN isL) la da .non) := by rw [upd_ne rx]; exact hx3
        have g2 : upd H3 r (rdO CR dx l wh ((Opn.fresh isL).first : Nat) true) la = some (.lst []) := by rw [upd_ne rla, ← hH3, upd_ne lla]; exact hla2
        have g3 : upd H3 r (rdO CR dx l wh ((Opn.fresh isL).first : Nat) true) da = some (.dT []) := by rw [upd_ne rda, ← hH3, upd_ne lda]; exact hda2
        cases isL with
        | true => exact ⟨dx', [], g1, g2, .nil, g3⟩
        | false => exact ⟨dx', .non, [], g1, g2, g3, .nil, rfl⟩
      · rw [← hH3, upd_ne (fun z => nl (by rw [← z]; exact hb))]
        exact sm _ _ hu
      · rw [upd_ne (fun z => nr (by rw [← z]; exact List.mem_cons_of_mem _ hb))]
        exact hu
    · intro b u hb hn
      rw [eF] at hn
      exact keep b u hb (fun z => hn (by rw [z]; exact List.mem_cons_self)) (fun z => hn (by rw [z]; exact List.mem_cons_of_mem _ List.mem_cons_self))
    · intro b hb
      rw [eF]
      have e : fps (⟨x, la, da⟩ :: os) = x :: la :: da :: fps os := rfl
      rw [e] at hb
      simp only [List.mem_cons] at hb ⊢
      rcases hb with z | z | z | z | z | z
      · exact .inl (.inl z)
      · exact .inl (.inr (.inl z))
      · right; rw [z]; exact nx
      · right; rw [z]; exact hla0
      · right; rw [z]; exact hda0
      · exact .inl (.inr (.inr z))
/-! ### close_innermost -/
def spClose (CO CR : Addr) : Sp := fun vs H Q _ => ∃ r s F, vs = [.ref r] ∧ RdAt CO CR H r s F ∧ s.st ≠ [] ∧ (∀ o ∈ s.st, o.nd ∧ o.cnt ≤ 5000) ∧ (∀ o ∈ s.st.tail, o.named) ∧
  ∀ H' F', RdAt CO CR H' r s.close F' → Fr F H H' → Gw F F' H → Q .non H'
theorem scClose : FnScope ["self"] ["self"] (defScope sCloseInnermost) := ⟨rfl, rfl, rfl, by decide +kernel, rfl, by decide +kernel, by decide +kernel⟩
theorem ok_close {f : Addr} {fd : FuncData} (F : Fun K "close_innermost" "Reading.close_innermost" sCloseInnermost f fd) (T : Tx K mg CC CO CR CN bB bW) (mT : MetOk P w K mg base CX0 2 CR "take_value" ["self", "value"] (spTakeValue CO CR))
    (mA : MetOk P w K mg base CX0 2 CO "as_value" ["self"] (spAsValue CO)) : FnOk P w K mg base CX0 3 f fd ["self"] (spClose CO CR) := by
  refine F.ok scClose (fun vs H Q E h => ?_) (fun cdv A outer s H vs Q E hr h => ?_)
  · obtain ⟨_, _, _, rfl, _⟩ := h
    rfl
  · obtain ⟨r, t, Fp, rfl, ⟨dx, l, wh, os, eF, nd, hR, hW, hL, hO⟩, hne, hnd, hnm, kQ⟩ := h
    have hr1 : Room 1 _ := hr.mono (by decide)
    refine ⟨_, pss_one (ps_expr (pe_met mT T.cR hr pass0 (pv 0) (pa_cons (pe_met0 mA T.cO hr pass0 (pe_bm0 PySem.F.plainAttrs_list PySem.F.slot_list_pop PySem.F.type_list_pop mt_pop (pe_fld (pv 0) rfl))) pa_nil))), ?_⟩
    cases hst : t.st with
    | nil => exact absurd hst hne
    | cons o S =>
      rw [hst] at hO hnd hnm
      cases hO with
      | @cons xo _ os' _ hA hO' =>
        rw [eF] at nd
        have nr : r ∉ l :: fps (xo :: os') := (List.nodup_cons.mp nd).1
        have nl : l ∉ fps (xo :: os') := (List.nodup_cons.mp (List.nodup_cons.mp nd).2).1
        have nrl : r ≠ l := fun z => nr (by rw [z]; exact List.mem_cons_self)
        have mem : ∀ b ∈ xo.all, b ∈ fps (xo :: os') := fun b hb => by unfold fps; rw [List.flatMap_cons]; exact List.mem_append.mpr (.inl hb)
        have mem' : ∀ b ∈ fps os', b ∈ fps (xo :: os') := fun b hb => by unfold fps at hb ⊢; rw [List.flatMap_cons]; exact List.mem_append.mpr (.inr hb)
        have eL : (xo :: os').reverse.map (fun x => V.ref x.o) = os'.reverse.map (fun x => V.ref x.o) ++ [.ref xo.o] := by
          rw [List.reverse_cons, List.map_append]
          rfl
        rw [eL] at hL
        refine ⟨_, rfl, r, dx, _, rfl, hR, rd_no (by decide +kernel) (by decide +kernel) (by decide +kernel) (by decide +kernel), ?_⟩
        refine ⟨_, rfl, r, CR, dx, _, _, rfl, hR, T.cR, T.nOpened, rd_opened, .inl ⟨rfl, _, SqL.of hL⟩, l, _, .ref xo.o, rfl, rfl, hL, ?_, ?_⟩
        · rw [List.length_append]
          simp
        rw [List.dropLast_concat]
        generalize hH1 : upd H l (.lst (os'.reverse.map fun x => V.ref x.o)) = H1
        have tk1 : Tk H H1 := by rw [← hH1]; exact tk_upd hL fun _ z => nomatch z
        have kp1 : ∀ b u, H b = some u → b ≠ l → H1 b = some u := fun b u hb hn => by rw [← hH1, upd_ne hn]; exact hb
        have hA1 : OpnAt CO H1 xo o := hA.mono tk1 fun b hb u hu => kp1 b u hu fun z => nl (by rw [← z]; exact mem b hb)
        obtain ⟨uo, huo⟩ := hA1.some xo.o (by simp [OA.all])
        have hins : ∃ dxo fs, H1 xo.o = some (.ins CO dxo fs) ∧ fs.lookup ("as_value" : Str) = none := by
          cases o with
          | lst l0 =>
            obtain ⟨dxo, xs, h1, _⟩ := hA1
            exact ⟨dxo, _, h1, op_no (by decide +kernel) (by decide +kernel) (by decide +kernel) (by decide +kernel)⟩
          | rcd fs nm =>
            obtain ⟨dxo, nv, kvs, h1, _⟩ := hA1
            exact ⟨dxo, _, h1, op_no (by decide +kernel) (by decide +kernel) (by decide +kernel) (by decide +kernel)⟩
        obtain ⟨dxo, fso, ho1, hlk⟩ := hins
        obtain ⟨hnd1, hcnt1⟩ := hnd o List.mem_cons_self
        refine ⟨xo.o, dxo, fso, rfl, ho1, hlk, xo, o, rfl, hA1, hnd1, hcnt1, fun H2 v sm hv => ?_⟩
        have hR1 : H1 r = some (rdO CR dx l wh t.wanted t.may) := kp1 _ _ hR nrl
        refine ⟨r, v, ⟨S, t.whole, t.wanted, t.may⟩, r :: l :: fps os', o.val, rfl, ⟨dx, l, wh, os', rfl, ?_, sm _ _ hR1, (hW.mono tk1).mono (Same.tk sm), ?_, ?_⟩, ?_, hv, fun H3 rd3 fr3 => ?_⟩
        · have ndF : (fps os').Nodup := by
            have := (List.nodup_cons.mp (List.nodup_cons.mp nd).2).2
            unfold fps at this ⊢
            rw [List.flatMap_cons] at this
            exact (List.nodup_append.mp this).2.1
          refine List.nodup_cons.mpr ⟨fun z => nr ?_, List.nodup_cons.mpr ⟨fun z => nl (mem' _ z), ndF⟩⟩
          rcases List.mem_cons.mp z with y | y
          · rw [y]; exact List.mem_cons_self
          · exact List.mem_cons_of_mem _ (mem' _ y)
        · rw [← hH1] at sm
          exact sm _ _ upd_same
        · exact (hO'.mono tk1 fun b hb u hu => kp1 b u hu fun z => nl (by rw [← z]; exact mem' b hb)).mono (Same.tk sm) fun b hb u hu => sm _ _ hu
        · intro o2 S2 e2
          have e3 : S = o2 :: S2 := e2
          have hm2 : o2 ∈ S := by rw [e3]; exact List.mem_cons_self
          have := (hnd o2 (List.mem_cons_of_mem _ hm2)).2
          exact ⟨hnm o2 hm2, by omega⟩
        · refine kQ H3 (r :: l :: fps os') ?_ ?_ ?_
          · have e : t.close = Rd.takeV ⟨S, t.whole, t.wanted, t.may⟩ o.val := by
              unfold Rd.close
              rw [hst]
            rw [e]
            exact rd3
          · intro b u hb hn
            rw [eF] at hn
            have n1 : b ≠ l := fun z => hn (by rw [z]; exact List.mem_cons_of_mem _ List.mem_cons_self)
            refine fr3 b u (sm _ _ (kp1 _ _ hb n1)) fun z => hn ?_
            rcases List.mem_cons.mp z with y | y
            · rw [y]; exact List.mem_cons_self
            · rcases List.mem_cons.mp y with y | y
              · rw [y]; exact List.mem_cons_of_mem _ List.mem_cons_self
              · exact List.mem_cons_of_mem _ (List.mem_cons_of_mem _ (mem' _ y))
          · intro b hb
            left
            rw [eF]
            rcases List.mem_cons.mp hb with y | y
            · rw [y]; exact List.mem_cons_self
            · rcases List.mem_cons.mp y with y | y
              · rw [y]; exact List.mem_cons_of_mem _ List.mem_cons_self
              · exact List.mem_cons_of_mem _ (List.mem_cons_of_mem _ (mem' _ y))
end
end Vt

/-! ### enumerate(t), t a tuple -/
namespace Vt
open PySem PySem.Spec PyProof.Rows L2
open PySem.W (Frag)
def tiO (t : Addr) : Obj := { cls := .type "tuple_iterator", data := .fields #[.ref t, .int 0 0] }
theorem meetsET (t : Addr) (items : Array Value) :
    Meets (Builtin.«enumerate.__new__» ⟨[.type "enumerate", .ref t], []⟩) (fun _ R s => s.heap.IsTuple t items ∧
      R (.ok (.ret (.ref (s.heap.push (tiO t)).objs.size))) { s with heap := (s.heap.push (tiO t)).push { cls := .type "enumerate", data := .fields #[.none, .bool false, .ref s.heap.objs.size, rawInt 0, .none, .none] } }) :=
  .of_wp fun prog w A R s h => by
    obtain ⟨hp, g, d, tk, os⟩ := s
    obtain ⟨hT, h⟩ := h
    have hsub := sub_enumerate
    have q1 : ∀ {A' : Around} {E : Value → Shared → Prop} {Q : Value → Shared → Prop}, Q (.ref hp.objs.size) ⟨hp.push (tiO t), g, d, tk, os⟩ → wpAny (model prog w) A' (pyIter (.ref t)) Q E ⟨hp, g, d, tk, os⟩ := fun q => (begins_tuple t items).iter prog w _ _ ⟨hp, g, d, tk, os⟩ _ hT q
    wp_walk using q1
    refine wpAny_stack_any fun stk => wpAny_pure ?_
    split
    · rename_i cc _ _ _ _ _
      cases (cc == Value.type "enumerate")
      · wp_walk using q1
        exact ⟨_, rfl, h⟩
      · wp_walk using q1
        exact ⟨_, rfl, h⟩
    · wp_walk using q1
      exact ⟨_, rfl, h⟩
section
variable {prog : Program} {w : World} {A : Around} {E : Value → Shared → Prop} {s : Shared}
theorem callET {t : Addr} {items : Array Value} {Q : Value → Shared → Prop} (hT : s.heap.IsTuple t items)
    (h : ∀ h', IsEnum h' (s.heap.objs.size + 1) s.heap.objs.size 0 .none → h'.IsTupleIter s.heap.objs.size t 0 → (∀ b o, s.heap.get? b = some o → h'.get? b = some o) → Q (.ref (s.heap.objs.size + 1)) { s with heap := h' }) :
    wpAny (model prog w) A (call (.type "enumerate") [.ref t]) Q E s := by
  refine callType_new F.called_enumerate (by decide) (F.typeCall_enumerate_1 _) (F.newCall_enumerate_1 _) (fun obj => F.args_object_init_2 obj _) F.entry_enumerate_new (meetsET t items) ⟨hT, ?_⟩
  have hz : (s.heap.push (tiO t)).objs.size = s.heap.objs.size + 1 := Heap.size_push ..
  show _ ∧ _
  rw [hz]
  have hen : IsEnum ((s.heap.push (tiO t)).push { cls := .type "enumerate", data := .fields #[.none, .bool false, .ref s.heap.objs.size, rawInt 0, .none, .none] }) (s.heap.objs.size + 1) s.heap.objs.size 0 .none := by
    have q := Heap.get?_push_size (s.heap.push (tiO t)) (o := { cls := .type "enumerate", data := .fields #[.none, .bool false, .ref s.heap.objs.size, rawInt 0, .none, .none] }) rfl
    rw [hz] at q
    exact q
  exact ⟨⟨_, hen, rfl⟩, h _ hen ⟨_, Heap.get?_push_of_some _ (Heap.get?_push_size _ rfl), rfl, rfl⟩ fun b o x => Heap.get?_push_of_some _ (Heap.get?_push_of_some _ x)⟩
end
/-- the tuple at a as it stands, each item in a new pair -/
def IteT (K : Frag) (a : Addr) : It :=
  ⟨fun i H => ∃ (xs : List V) (x : V), SqT K H a xs ∧ xs[i]? = some x, fun i H v H' => ∃ T x, v = .ref T ∧ H T = none ∧ H' = upd H T (.tup [.int (i : Nat), x]) ∧ ∀ xs, SqT K H a xs → xs[i]? = some x, fun i H => ∃ xs : List V, SqT K H a xs ∧ xs.length = i⟩
theorem turnET {P : Program} {w : World} {K : Frag} {elts : List Expr} {kk : Nat} {tpos : Pos} (a e it : Addr) :
    Turn P w K (.Tuple elts kk tpos) (IteT K a) [e, it] e (fun i h => (∃ old, IsEnum h e it ((i : Nat) : Int) old) ∧ h.IsTupleIter it a i ∧ e ≠ it ∧ a ≠ it ∧ a ≠ e) where
  mem := by simp
  obj := fun i h st b hb => by
    obtain ⟨⟨old, he⟩, ⟨o, ho, hc, hd⟩, _⟩ := st
    have eb : b = e ∨ b = it := by simpa using hb
    rcases eb with z | z
    · rw [z]; exact ⟨_, he, fun v q => nomatch q⟩
    · rw [z]; exact ⟨o, ho, fun v q => by rw [hd] at q; cases q⟩
  keep := fun i h h' st k => let ⟨⟨old, he⟩, hi, hne⟩ := st; ⟨⟨old, k e (by simp) _ he⟩, (let ⟨o, ho, r⟩ := hi; ⟨o, k it (by simp) o ho, r⟩), hne⟩
  item := by
    intro X hP hw hK hc i pins s σ H E I hf st hg
    subst hP hw hK
    obtain ⟨⟨old, he⟩, hit, hne, hai, hae⟩ := st
    obtain ⟨xs, x, hq, hx⟩ := hg
    obtain ⟨its, rv, p, hz⟩ := I.tuple hq
    obtain ⟨u, hu, ru⟩ := rv.get hx
    have hel : e < s.heap.objs.size := Heap.lt_size he
    have hil : it < s.heap.objs.size := by obtain ⟨_, q, _⟩ := hit; exact Heap.lt_size q
    have hlt : i < its.toArray.size := by
      have := (List.getElem?_eq_some_iff.mp hu).1
      simpa using this
    have D : Draws X.prog X.w X.A.in1 it [it, a] its.toArray.size (fun i v => its.toArray[i]? = some v) (fun i h => h.IsTupleIter it a i ∧ h.IsTuple a its.toArray) := Draws.tuple (show X.A.in1.handled = none from I.ok.hd hc) it a hai its.toArray
    refine wpAny_pyNext_enum_itemD D he ⟨hit, p⟩ hlt hne (by simp only [List.mem_cons, List.not_mem_nil, or_false, not_or]; exact ⟨hne, Ne.symm hae⟩) fun x' h' tk hx' ho st' hT hsz hk => ?_
    have ex : x' = u := by
      have h1 : its.toArray[i]? = some u := by simpa using hu
      rw [h1] at hx'
      exact (Option.some.inj hx').symm
    subst ex
    refine ⟨_, rfl, wpAny_letOwnedTupleGo_enum (s := { s with heap := h', toks := tk + 1 }) ho fun h2 he2 sb => ?_⟩
    have hT2 : h2.get? s.heap.objs.size = some { cls := .type "tuple", data := .seq #[.int i tk, x'] } := (sb.2 _ (Nat.ne_of_gt hel)).trans hT
    have new : ObjOk X.prog X.w (upd H s.heap.objs.size (.tup [.int (i : Nat), x])) h2 s.heap.objs.size (.tup [.int (i : Nat), x]) :=
      ⟨by show 2 ≤ sizeLine; decide, [.int i tk, x'], .cons ⟨_, rfl⟩ (.cons ru .nil), ⟨_, hT2, rfl, _, rfl⟩⟩
    have I1 : Inv X pins σ (upd H s.heap.objs.size (.tup [.int (i : Nat), x])) { s with heap := h2, toks := tk + 1 } :=
      I.turnedNew (ch := [e, it]) (fun b ob hb q => (sb.2 b (fun z => hb (by simp [z]))).trans (hk b ob (fun z => hb (by simp [z])) (fun z => hb (by simp [z])) q)) hf (Nat.le_refl _) new
    refine ⟨.ref s.heap.objs.size, _, I1, rfl, ⟨_, x, rfl, I.hok.fresh (Nat.le_refl _), rfl, fun ys hy => by rw [I.tuple_inj hy hq]; exact hx⟩, ⟨⟨x', ?_⟩, ?_, hne, hai, hae⟩, fun b hb => ?_⟩
    · have e1 : ((i + 1 : Nat) : Int) = (i : Int) + 1 := by omega
      rw [e1]; exact he2
    · obtain ⟨o2, ho2, r2⟩ := st'.1
      exact ⟨o2, (sb.2 it (Ne.symm hne)).trans ho2, r2⟩
    · have hb' : b < s.heap.objs.size := by
        have eb : b = e ∨ b = it := by simpa using hb
        rcases eb with z | z
        · rw [z]; exact hel
        · rw [z]; exact hil
      rw [upd_ne (Nat.ne_of_lt hb')]
      exact (hf b hb).1
  done := by
    intro X hP hw hK hc i pins s σ H E I hf st hg
    subst hP hw hK
    obtain ⟨⟨old, he⟩, hit, hne, hai, hae⟩ := st
    obtain ⟨xs, hq, hx⟩ := hg
    obtain ⟨its, rv, p, hz⟩ := I.tuple hq
    obtain ⟨f0, f1, f2, f3, f4, f5⟩ := hf it (by simp)
    have hl := rv.length
    have D : Draws X.prog X.w X.A.in1 it [it, a] its.toArray.size (fun i v => its.toArray[i]? = some v) (fun i h => h.IsTupleIter it a i ∧ h.IsTuple a its.toArray) := Draws.tuple (show X.A.in1.handled = none from I.ok.hd hc) it a hai its.toArray
    have ei : i = its.toArray.size := by simp; omega
    subst ei
    exact wpAny_pyNext_enum_endD D he ⟨hit, p⟩ fun h' eb => ⟨rfl, I.turned (t' := s.toks) (fun b o hb q => eb b o hb q) f0 f1 f3 f4 f5⟩
  self := fun A i s Q E st h => let ⟨⟨_, he⟩, _⟩ := st; wpAny_pyIter_enum he h
def iEnumT (K : Frag) (ta : TA) : TI := fun σ H R => ta σ H fun vs H1 => ∃ a xs, vs = [.ref a] ∧ SqT K H1 a xs ∧ R (IteT K a) H1
theorem pi_enumT {X : Cx} {e : Expr} {ta : TA} {p pos tpos : Pos} {elts : List Expr} {kk : Nat} (hg : Gl X "enumerate") (hm : X.mg "enumerate" = none) (ha : PA X [e] ta) (hs : starEach [e] X.env = [(false, eval e X.env)] := by rfl) :
    PI X (.Tuple elts kk tpos) (.Call (.Name "enumerate" p) [e] [] pos) (iEnumT X.K ta) := by
  refine ⟨fun pins s σ H R I h => ?_⟩
  refine Call_ (ld_blt I hg hm boot_enumerate (PyProof.Rows.callWith_type1 (thn (ha.run pos pins s σ H _ I h) fun us s1 ⟨vs, H1, I1, r1, q1⟩ => ?_) hs rfl))
  obtain ⟨a, xs, ex, hq, q⟩ := q1
  subst ex
  obtain ⟨u, rfl, ru⟩ := vals1 r1
  cases ru
  obtain ⟨its, rv, pt, hz⟩ := I1.tuple hq
  have hal : a < s1.heap.objs.size := by obtain ⟨_, z, _⟩ := id pt; exact Heap.lt_size z
  refine callET (items := its.toArray) pt fun h' he hit hk => wpAny_pyIter_enum he ?_
  have I2 : Inv X pins σ H1 { s1 with heap := h' } := I1.kept (t' := s1.toks) hk
  refine ⟨s1.heap.objs.size + 1, [s1.heap.objs.size + 1, s1.heap.objs.size], _, _, H1, rfl, I2, turnET a (s1.heap.objs.size + 1) s1.heap.objs.size, ⟨⟨.none, he⟩, hit, Nat.succ_ne_self _, Nat.ne_of_lt hal, Nat.ne_of_lt (Nat.lt_succ_of_lt hal)⟩, fun b hb => ?_, q⟩
  have eb : b = s1.heap.objs.size + 1 ∨ b = s1.heap.objs.size := by simpa using hb
  have hle : s1.heap.objs.size ≤ b := by
    rcases eb with z | z
    · rw [z]; exact Nat.le_add_right _ _
    · rw [z]; exact Nat.le_refl _
  exact I1.fpOk hle (I1.hok.fresh hle)
theorem walk_enumT {K : Frag} {a : Addr} {xs : List V} : Walk (IteT K a) xs.length (fun H => SqT K H a xs) (YPair (fun i => some (.int (i : Nat))) (fun i => xs[i]?)) := by
  refine ⟨fun i _ hi q => ⟨xs, xs[i], q, by simp [hi]⟩, fun _ q => ⟨xs, q, rfl⟩, fun i H v H' _ q y => ?_⟩
  obtain ⟨T, x, h1, h2, h3, h4⟩ := y
  exact ⟨T, .int (i : Nat), x, h1, h2, h3, rfl, h4 xs q⟩
/-! ### list(reversed(x)), x a list -/
section
variable {prog : Program} {w : World} {A : Around} {s : Shared} {R : Result → Shared → Prop}
theorem extRev {S it l : Addr} {items : Array Value} {res : Value} {c₀ : Nat} (hh : A.handled = none) (hit : s.heap.IsRevIter it l ((items.size : Int) - 1)) (hl : s.heap.IsList l items) (hne : l ≠ it) (hn : items.size ≤ sizeLine) (hSi : S ≠ it) (hSl : S ≠ l)
    (hS : s.heap.get? S = some { cls := .type "list", data := .seq #[] c₀ })
    (hR : ∀ h' tk acc c', (∀ b o, b ≠ S → b ≠ it → s.heap.get? b = some o → h'.get? b = some o) → h'.get? S = some { cls := .type "list", dict := none, data := .seq acc c', slots := #[] } → ItemsOf (fun i v => items[items.size - 1 - i]? = some v) acc items.size → R (.ok (.ret res)) { s with heap := h', toks := tk }) :
    wpAny (model prog w) A.in1 (Builtin.List.listExtendWith (.ref S) (.ref it) res) (fun fin s' => match fin with | .done f => R (.ok f) s' | .again c' => c'.quiet = true ∧ codeAny (model prog w) A c' R s') (fun e s' => R (.error e) s') s := by
  have W := (Walks.listRev (prog := prog) (w := w) (A := A.in1) hh it l hne items).toS
  have hSf : S ∉ [it, l] := by simp only [List.mem_cons, List.not_mem_nil, or_false, not_or]; exact ⟨hSi, hSl⟩
  have hT : s.TypeIs (.ref it) "list_reverseiterator" := hit.typeIs
  have h1 : Builtin.List.listSameRef (.ref S) (.ref it) = false := by simp [Builtin.List.listSameRef, hSi]
  (unfold Builtin.List.listExtendWith)
  refine wpAny_bind (wpAny_typeOf hT ?_)
  rw [if_neg (by rw [h1]; decide)]
  refine wpAny_bind (wpAny_pyIter_revIter hit ?_)
  refine wpAny_bind (wpAny_holding ?_)
  (unfold Builtin.List.listLengthHint)
  refine wpAny_bind (wpAny_specialOf hT RT.nolen_lri ?_)
  show wpAny _ A.in1 (specialOf (Value.ref it) (Str.ofString "__length_hint__") >>= _) _ _ s
  refine wpAny_bind (wpAny_specialOf hT RT.hint_lri ?_)
  generalize hid : ("list_reverseiterator.__length_hint__" : String) = idn
  wp_delta
  rw [show splitId idn = some ("list_reverseiterator", "__length_hint__") from by subst hid; decide +kernel]
  subst hid
  refine wpAny_bind (wpAny_isInstance (b := true) hT (by rw [isSubtype_type]; kernel_rfl) ?_)
  refine wpAny_pure ?_
  rw [if_neg (by decide)]
  have e0 : ((items.size : Nat) : Int) - 1 - ((0 : Nat) : Int) = (items.size : Int) - 1 := by omega
  refine wpAny_pure ⟨plainId_quiet F.plain_extend_loop _, codeAny_extend_loopS W hn _ hSf _ items.size 0 _ _ _ rfl (Nat.zero_le _) ⟨Nat.zero_le _, by rw [e0]; exact hit, hl⟩ hS (ItemsOf.nil _) fun s' acc' c' hm hS' hacc => ?_⟩
  rw [Moved.eq_with hm]
  refine hR s'.heap s'.toks acc' c' (fun b o hb hb2 e => hm.heap b o (fun hmem => ?_) e) hS' hacc
  rcases List.mem_cons.mp hmem with e' | hmem
  · exact hb e'
  · exact hb2 (List.mem_singleton.mp hmem)
theorem initRev {S it l : Addr} {items : Array Value} (hh : A.handled = none) (hit : s.heap.IsRevIter it l ((items.size : Int) - 1)) (hl : s.heap.IsList l items) (hne : l ≠ it) (hn : items.size ≤ sizeLine) (hSi : S ≠ it) (hSl : S ≠ l)
    (hS : s.heap.get? S = some { cls := .type "list", data := .seq #[] })
    (hR : ∀ h' tk acc c', (∀ b o, b ≠ S → b ≠ it → s.heap.get? b = some o → h'.get? b = some o) → h'.get? S = some { cls := .type "list", dict := none, data := .seq acc c', slots := #[] } → ItemsOf (fun i v => items[items.size - 1 - i]? = some v) acc items.size → R (.ok (.ret .none)) { s with heap := h', toks := tk }) :
    wpAny (model prog w) A.in1 (Builtin.«list.__init__» ⟨[.ref S, .ref it], []⟩) (fun fin s' => match fin with | .done f => R (.ok f) s' | .again c' => c'.quiet = true ∧ codeAny (model prog w) A c' R s') (fun e s' => R (.error e) s') s := by
  show wpAny _ A.in1 (do let was ← Builtin.List.listItems (.ref S); Builtin.List.listUpdate (.ref S) (fun _ => #[]); letGo was.toList.reverse; Builtin.List.listExtendWith (.ref S) (.ref it) .none) _ _ s
  refine wpAny_bind ?_
  (unfold Builtin.List.listItems)
  refine wpAny_bind (wpAny_seqItems hS rfl (wpAny_pure ?_))
  show wpAny _ A.in1 (updateSeq S (fun _ => #[]) >>= fun _ => letGo (#[] : Array Value).toList.reverse >>= fun _ => Builtin.List.listExtendWith (.ref S) (.ref it) .none) _ _ { s with heap := s.heap }
  refine wpAny_bind (wpAny_updateSeq hS rfl ?_)
  have hS2 := Heap.get?_update_self (Obj.mapSeq (fun _ => (#[] : Array Value))) hS rfl
  have oth : ∀ b o, b ≠ S → s.heap.get? b = some o → (s.heap.update S (Obj.mapSeq (fun _ => (#[] : Array Value)))).get? b = some o := fun b o hb e => (Heap.get?_update_other _ _ (Ne.symm hb)).trans e
  refine wpAny_bind (wpAny_letGo ?_)
  refine extRev (s := { s with heap := s.heap.update S (Obj.mapSeq (fun _ => (#[] : Array Value))) }) hh (hit.at fun o e => oth it o (Ne.symm hSi) e) (hl.at fun o e => oth l o (Ne.symm hSl) e) hne hn hSi hSl hS2 fun h' tk acc c' hk h2 h3 => ?_
  exact hR h' tk acc c' (fun b o hb hb2 e => hk b o hb hb2 (oth b o hb e)) h2 h3
end
section
variable {prog : Program} {w : World} {A : Around} {E : Value → Shared → Prop} {s : Shared}
theorem callLstRev {it l : Addr} {items : Array Value} {Q : Value → Shared → Prop} (hh : A.handled = none) (hit : s.heap.IsRevIter it l ((items.size : Int) - 1)) (hl : s.heap.IsList l items) (hne : l ≠ it) (hn : items.size ≤ sizeLine)
    (hQ : ∀ (h' : Heap) (tk : Nat) (acc : Array Value) (c' : Nat), (∀ b o, b ≠ it → s.heap.get? b = some o → h'.get? b = some o) → h'.get? s.heap.objs.size = some { cls := .type "list", dict := none, data := .seq acc c', slots := #[] } → ItemsOf (fun i v => items[items.size - 1 - i]? = some v) acc items.size →
      Q (.ref s.heap.objs.size) { s with heap := h', toks := tk }) : wpAny (model prog w) A (call (.type "list") [.ref it]) Q E s := by
  obtain ⟨oi, hoi, _⟩ := id hit
  obtain ⟨ol, hol, _⟩ := id hl
  refine callType_codes (Q₁ := fun obj s₁ => obj = .ref s.heap.objs.size ∧ s₁ = { s with heap := s.heap.push { cls := .type "list", data := .seq #[] } }) F.called_list (F.typeCall_list_1 _) F.entry_list_init (code_list_new _ ⟨rfl, rfl⟩) fun obj s₁ h₁ => ?_
  obtain ⟨rfl, rfl⟩ := h₁
  have hS : (s.heap.push { cls := .type "list", data := .seq #[] }).get? s.heap.objs.size = some { cls := .type "list", data := .seq #[] } := Heap.get?_push_size _ rfl
  refine ⟨⟨_, hS, rfl⟩, F.args_list_init_2 _ _, initRev (A := A.in1) (s := { s with heap := s.heap.push { cls := .type "list", data := .seq #[] } }) hh (hit.at fun o e => Heap.get?_push_of_some _ e) (hl.push _) hne hn (Nat.ne_of_gt (Heap.lt_size hoi)) (Nat.ne_of_gt (Heap.lt_size hol)) hS fun h' tk acc c' hk h2 h3 => ?_⟩
  exact ⟨rfl, hQ h' tk acc c' (fun b o hb e => hk b o (Nat.ne_of_lt (Heap.lt_size e)) hb (Heap.get?_push_of_some _ e)) h2 h3⟩
end
def tLstRev (K : Frag) (te : TE) : TE := fun σ H Q => te σ H fun v H1 => ∃ (a : Addr) (xs : List V), v = .ref a ∧ SqL K H1 a xs ∧ ∀ q, H1 q = none → Q (.ref q) (upd H1 q (.lst xs.reverse))
section
variable {X : Cx}
theorem pe_lstRev {e : Expr} {te : TE} {p p2 pos pos2 : Pos} (hc : X.calm = true) (hg : Gl X "list") (hm : X.mg "list" = none) (hg2 : Gl X "reversed") (hm2 : X.mg "reversed" = none) (he : PE X e te)
    (hs : starEach [e] X.env = (false, eval e X.env) :: starEach [] X.env := by rfl)
    (hs2 : starEach [.Call (.Name "reversed" p2) [e] [] pos2] X.env = (false, eval (.Call (.Name "reversed" p2) [e] [] pos2) X.env) :: starEach [] X.env := by rfl) :
    PE X (.Call (.Name "list" p) [.Call (.Name "reversed" p2) [e] [] pos2] [] pos) (tLstRev X.K te) := by
  refine ⟨fun pins s σ H Q I h => ?_⟩
  refine Call_ (ld_blt I hg hm boot_list (PyProof.Rows.callWith_type1 (args_cons (Call_ (ld_blt I hg2 hm2 PyProof.Rows.boot_reversed (PyProof.Rows.callWith_type1 (args_cons (thn (he.run pins s σ H _ I h) fun u s1 ⟨v, H1, I1, r1, q1⟩ => args_nil ?_) hs) hs rfl))) hs2) hs2 rfl))
  obtain ⟨a, xs, ev, hq, q⟩ := q1
  subst ev
  obtain rfl : u = Value.ref a := r1
  obtain ⟨its, rv, pl, hz⟩ := I1.list hq
  refine call_reversed_list pl.isList (args_nil ?_)
  have k0 : ∀ b o, s1.heap.get? b = some o → (s1.heap.push (revObj a ((its.toArray.size : Int) - 1))).get? b = some o := fun b o eo => Heap.get?_push_of_some _ eo
  have I2 : Inv X pins σ H1 { s1 with heap := s1.heap.push (revObj a ((its.toArray.size : Int) - 1)) } := I1.kept (t' := s1.toks) k0
  obtain ⟨f0, f1, f2, f3, f4, f5⟩ := I1.fpOk (H' := H1) (b := s1.heap.objs.size) (Nat.le_refl _) (I1.hok.fresh (Nat.le_refl _))
  have hl := pl.isList
  obtain ⟨ol, hol, _⟩ := id hl
  have hne : a ≠ s1.heap.objs.size := Nat.ne_of_lt (Heap.lt_size hol)
  have hn : its.toArray.size ≤ sizeLine := by rw [List.size_toArray, ← rv.length]; exact hz
  refine callLstRev (s := { s1 with heap := s1.heap.push (revObj a ((its.toArray.size : Int) - 1)) }) (I1.ok.hd hc) ⟨_, Heap.get?_push_size _ rfl, rfl, rfl⟩ (hl.push _) hne hn fun h' tk acc c' hk hS hi => ?_
  have hnew : ObjOk X.prog X.w (upd H1 (s1.heap.push (revObj a ((its.toArray.size : Int) - 1))).objs.size (.lst xs.reverse)) h' (s1.heap.push (revObj a ((its.toArray.size : Int) - 1))).objs.size (.lst xs.reverse) :=
    ⟨by rw [List.length_reverse]; exact hz, acc.toList, c', RT.vals_rev rv hi, by rw [Array.toArray_toList]; exact hS⟩
  have I3 := I2.turnedNew (h' := h') (t' := tk) (ch := [s1.heap.objs.size]) (fun b o hb eo => hk b o (fun z => hb (by simp [z])) eo) (fun b hb => by rw [List.mem_singleton.mp hb]; exact ⟨f0, f1, f2, f3, f4, f5⟩) (Nat.le_refl _) hnew
  exact ⟨.ref _, _, I3, rfl, q _ (I2.hok.fresh (Nat.le_refl _))⟩
end
end Vt

namespace Vt
open PySem PySem.Spec PyProof.Rows L2
open PySem.W (Frag)
open Kcs7 (Bytes)
/-! ### read_single -/
def zI : Nat → Str
  | 0 => "null"
  | 1 => "false"
  | _ => "true"
def vI : Nat → Kcs7.V
  | 0 => .null
  | 1 => .bool false
  | _ => .bool true
def hI : Nat → Nat
  | 0 => 110
  | 1 => 102
  | _ => 116
def wI : Nat → Bytes
  | 0 => wNull
  | 1 => wFalse
  | _ => wTrue
abbrev wordsV : List V := [.str "null", .str "false", .str "true"]
theorem zI_cps : ∀ i, (zI i).cps.toList = wI i
  | 0 => by decide +kernel
  | 1 => by decide +kernel
  | _ + 2 => by show ("true" : Str).cps.toList = wTrue; decide +kernel
theorem wI_head : ∀ i, ∃ t, wI i = hI i :: t
  | 0 => ⟨_, rfl⟩
  | 1 => ⟨_, rfl⟩
  | _ + 2 => ⟨_, rfl⟩
theorem wordsV_at {i : Nat} {y : V} (h : wordsV[i]? = some y) : y = .str (zI i) ∧ i < 3 := by
  match i, h with
  | 0, h => cases h; exact ⟨rfl, by decide⟩
  | 1, h => cases h; exact ⟨rfl, by decide⟩
  | 2, h => cases h; exact ⟨rfl, by decide⟩
  | _ + 3, h => cases h
theorem vI_at {H : Hp} {t : Addr} : ∀ {i : Nat}, i < 3 → H t = some (.tup [.int (i : Nat), .non, .int (1 : Nat), .int (0 : Nat)]) → VAt H (.ref t) (vI i)
  | 0, _, h => .null (by rw [h]; simp [vt, Kcs7.size, Kcs7.depth])
  | 1, _, h => .fal (by rw [h]; simp [vt, Kcs7.size, Kcs7.depth])
  | 2, _, h => .tru (by rw [h]; simp [vt, Kcs7.size, Kcs7.depth])
theorem singleR_word {r : Bytes} : ∀ {i : Nat}, i < 3 → r.head? = some (hI i) → singleR r = (skipW (wI i) r).map fun q => (vI i, q)
  | 0, _, h => by
    unfold singleR
    rw [h, if_neg (by decide), if_pos (show some (hI 0) = some 110 from rfl)]
    rfl
  | 1, _, h => by
    unfold singleR
    rw [h, if_neg (by decide), if_neg (by decide), if_pos (show some (hI 1) = some 102 from rfl)]
    rfl
  | 2, _, h => by
    unfold singleR
    rw [h, if_neg (by decide), if_neg (by decide), if_neg (by decide), if_pos (show some (hI 2) = some 116 from rfl)]
    rfl
theorem zI_size (i : Nat) : (zI i).cps.size ≤ 5000 := by
  have h := congrArg List.length (zI_cps i)
  rw [Array.length_toList] at h
  rw [h]
  match i with
  | 0 => decide
  | 1 => decide
  | _ + 2 => show wTrue.length ≤ 5000; decide
section
variable {P : Program} {w : World} {K : Frag} {mg : Str → Option Value} {base : Heap} {CC CO CR CN bB bW : Addr}
def spReadSingle (K : Frag) (CC CN : Addr) : Sp := fun vs H Q E => ∃ c a b r, vs = [.ref c] ∧ CuAt K CC H c a b r ∧ b.length ≤ 5000 ∧
  (singleR r = none → Fl CN E) ∧ ∀ v q, singleR r = some (v, q) → ∀ H' x, CuAt K CC H' c a b q → VAt H' x v → But c H H' → Q x H'
theorem scReadSingle : FnScope ["cursor", "kind", "word"] ["cursor"] (defScope sReadSingle) := ⟨rfl, rfl, rfl, by decide +kernel, rfl, by decide +kernel, by decide +kernel⟩
theorem ok_readSingle {f : Addr} {fd : FuncData} (F : Fun K "read_single" "read_single" sReadSingle f fd) (T : Tx K mg CC CO CR CN bB bW) (dT : DefOk P w K mg base (L2.CX P w) 4 "read_text" ["cursor"] (spReadText K CC CN))
    (dW : DefOk P w K mg base (L2.CX P w) 3 "skip_word" ["cursor", "word"] (spSkipWord K CC CN)) (dN : DefOk P w K mg base (L2.CX P w) 5 "read_number" ["cursor"] (spReadNumber K CC CN)) (mS : MetOk P w K mg base CX0 2 CC "sign" ["self"] (spSign K CC))
    (dMW : DefOk P w K mg base CX0 1 "make_word" ["kind"] spMakeWord) (dMN : DefOk P w K mg base CX0 1 "make_number" ["amount"] spMakeNumber) (dMT : DefOk P w K mg base CX0 1 "make_text" ["signs"] spMakeText) :
    FnOk P w K mg base (L2.CX P w) 6 f fd ["cursor"] (spReadSingle K CC CN) := by
  refine F.okX scReadSingle (fun vs H Q E h => ?_) (fun cdv A outer s H vs Q E hr h => ?_)
  · obtain ⟨_, _, _, _, rfl, _⟩ := h
    rfl
  · obtain ⟨c, a, b, r, rfl, cu, hl, kE, kQ⟩ := h
    have hr1 : Room 1 _ := hr.mono (by decide)
    have hr2 : Room 2 _ := hr.mono (by decide)
    have hr3 : Room 3 _ := hr.mono (by decide)
    have hr4 : Room 4 _ := hr.mono (by decide)
    refine ⟨_, pss_cons (ps_if (pt_cmpR op_eq (pe_met0 mS T.cC hr2 pass0 (pv 0)) (pe_const T.gQUOTE) (nomark _))
        (pss_one (ps_ret (pe_def dMT hr1 pass0 (pa_cons (pe_def dT hr4 (passes_call (takes_of rfl rfl rfl rfl) (fun _ _ _ _ h => h)) (pa_cons (pv 0) pa_nil)) pa_nil)))) pss_nil)
      (pss_cons (ps_for (passes_of rfl) rfl (pi_enumT (by rfl) T.enm (pa_cons (pe_const T.gWORDS) pa_nil)) (pg_tup rfl (pgs_cons (pg_name (i := 1) scReadSingle.nd rfl (Or.inl rfl)) (pgs_cons (pg_name (i := 2) scReadSingle.nd rfl (Or.inl rfl)) pgs_nil)))
        (pss_one (ps_if (pt_cmpR op_eq (pe_met0 mS T.cC hr2 pass0 (pv 0)) (pe_callB call_ord (by rfl) T.ord (by decide +kernel) (pa_cons (pe_item_str (pv 2) pe_int (fun _ _ => rfl)) pa_nil)) (nomark _))
          (pss_cons (ps_expr (pe_def dW hr3 (passes_call (takes_of rfl rfl rfl rfl) (fun _ _ _ _ h => h)) (pa_cons (pv 0) (pa_cons (pv 2) pa_nil)))) (pss_one (ps_ret (pe_def dMW hr1 pass0 (pa_cons (pv 1) pa_nil))))) pss_nil)))
      (pss_one (ps_ret (pe_def dMN hr1 pass0 (pa_cons (pe_def dN hr (passes_call (takes_of rfl rfl rfl rfl) (fun _ _ _ _ h => h)) (pa_cons (pv 0) pa_nil)) pa_nil))))), ?_⟩
    obtain ⟨dx, p, hc, hp, e⟩ := cu.ex
    refine ⟨_, rfl, c, dx, _, rfl, hc, cu_sign, c, a, b, r, rfl, cu, hl, rfl, _, rfl, ?_⟩
    by_cases hq : sgn r = (34 : Nat)
    · refine if_t (dV_t hq) ?_
      have hh := sgn_head.mp hq
      have es : singleR r = (textR r).map fun x => (Kcs7.V.text x.1, x.2) := by
        unfold singleR
        rw [if_pos hh]
      rw [es] at kE kQ
      refine ⟨_, rfl, c, a, b, r, rfl, cu, hl, fun hn => kE (by rw [hn]; rfl), fun x q hx H1 t cu1 ht b1 => ?_⟩
      refine ⟨t, x, rfl, ht, fun t2 ht2 => ?_⟩
      have cu2 := cu1.set (o := vt 4 (.ref t) (.text x)) cu1 But.refl ht2
      refine kQ (.text x) q (by rw [hx]; rfl) _ _ cu2.1 ?_ (b1.trans cu2.2)
      exact .text upd_same (by rw [upd_ne (ne_of_none ht ht2)]; exact ht)
    refine if_f (dV_f hq) ?_
    have hh : ¬ r.head? = some 34 := fun z => hq (sgn_head.mpr z)
    refine ⟨bW, wordsV, rfl, T.tWORDS.sq _, ?_⟩
    refine for_it (walk_enumT (K := K) (a := bW) (xs := wordsV)) (fun i σ H' => (∃ v1 v2, σ = [some (.ref c), v1, v2]) ∧ Same H H' ∧ ∀ j, j < i → ¬ r.head? = some (hI j)) ⟨⟨none, none, rfl⟩, Same.refl _, fun j h => absurd h (by omega)⟩ (fun _ _ H' _ _ => T.tWORDS.sq H') ?_ ?_
    · rintro i y σ H1 H2 hi ⟨⟨v1, v2, rfl⟩, s1, hno⟩ ⟨tt, x1, x2, rfl, hfree, rfl, ex1, ex2⟩
      cases ex1
      obtain ⟨rfl, hi3⟩ := wordsV_at ex2
      have s2 : Same H1 (upd H1 tt (.tup [.int (i : Nat), .str (zI i)])) := Same.new hfree
      refine ⟨tt, _, rfl, SqT.of upd_same, rfl, _, _, rfl, _, _, rfl, rfl, ?_⟩
      have cu1 := cu.but (s1.trans s2)
      obtain ⟨dx1, p1, hc1, hp1, e1⟩ := cu1.ex
      obtain ⟨wt, ew⟩ := wI_head i
      have hz0 : (zI i).cps[0]? = some (hI i) := by
        rw [← Array.getElem?_toList, zI_cps, ew]
        rfl
      have hzl : (0 : Int) < (zI i).length := by
        have h1 := congrArg List.length (zI_cps i)
        rw [Array.length_toList, ew] at h1
        show (0 : Int) < ((zI i).cps.size : Nat)
        rw [h1]
        simp
      refine ⟨_, rfl, c, dx1, _, rfl, hc1, cu_sign, c, a, b, r, rfl, cu1, hl, _, rfl, zI i, 0, hI i, rfl, rfl, (by decide), (by decide), hzl, hz0, _, rfl, rfl, rfl, _, rfl, ?_⟩
      show if decide (V.int (sgn r) = V.int ((hI i : Nat) : Int)) = true then _ else _
      by_cases hs : sgn r = (hI i : Nat)
      · refine if_t (dV_t hs) ?_
        have hh2 := sgn_head.mp hs
        have es := singleR_word hi3 hh2
        rw [es] at kE kQ
        refine ⟨_, rfl, _, rfl, c, a, b, r, zI i, rfl, cu1, hl, zI_size i, fun hn => ?_, fun q hq2 H3 cu3 b3 => ?_⟩
        · rw [zI_cps] at hn
          exact kE (by rw [hn]; rfl)
        · rw [zI_cps] at hq2
          refine ⟨_, rfl, _, rfl, fun t2 ht2 => ?_⟩
          have cu4 := cu3.set (o := .tup [.int (i : Nat), .non, .int (1 : Nat), .int (0 : Nat)]) cu3 But.refl ht2
          refine kQ (vI i) q (by rw [hq2]; rfl) _ _ cu4.1 (vI_at hi3 upd_same) (((Same.but (s1.trans s2)).trans b3).trans cu4.2)
      · refine if_f (dV_f hs) ?_
        refine ⟨⟨_, _, rfl⟩, s1.trans s2, fun j hj => ?_⟩
        by_cases ej : j = i
        · rw [ej]
          exact fun z => hs (sgn_head.mpr z)
        · exact hno j (by omega)
    · rintro σ H1 ⟨⟨v1, v2, rfl⟩, s1, hno⟩
      have n0 : ¬ r.head? = some 110 := hno 0 (by decide)
      have n1 : ¬ r.head? = some 102 := hno 1 (by decide)
      have n2 : ¬ r.head? = some 116 := hno 2 (by decide)
      have es : singleR r = (numberR r).map fun x => (Kcs7.V.num x.1, x.2) := by
        unfold singleR
        rw [if_neg hh, if_neg n0, if_neg n1, if_neg n2]
      rw [es] at kE kQ
      have cu1 := cu.but s1
      refine ⟨_, rfl, c, a, b, r, rfl, cu1, hl, fun hn => kE (by rw [hn]; rfl), fun n q hx H2 cu2 b2 => ?_⟩
      refine ⟨_, rfl, fun t2 ht2 => ?_⟩
      have cu3 := cu2.set (o := .tup [.int 3, .int n, .int (1 : Nat), .int (0 : Nat)]) cu2 But.refl ht2
      exact kQ (.num n) q (by rw [hx]; rfl) _ _ cu3.1 (.num (by rw [upd_same]; simp [vt, Kcs7.size, Kcs7.depth])) (((Same.but s1).trans b2).trans cu3.2)
end
end Vt

namespace Vt
open PySem PySem.Spec PyProof.Rows L2
open PySem.W (Frag)
open Kcs7 (Bytes)
section
variable {P : Program} {w : World} {K : Frag} {mg : Str → Option Value} {base : Heap} {CC CO CR CN bB bW : Addr}
/-- the row's list: not among F where it is tracked; or the top's own -/
def RowOut (K : Frag) (H : Hp) (a : Addr) (xs : List V) (F : List Addr) : Prop := (L2.Rd H a (.lst xs) ∧ a ∉ F) ∨
  ∃ (o : Obj) (its : Array Value) (n : Nat), K.lookup a = some o ∧ o.cls = .type "list" ∧ o.dict = none ∧ o.data = .seq its n ∧ its.size ≤ sizeLine ∧ Vals xs its.toList
theorem RowOut.sq {H : Hp} {a : Addr} {xs : List V} {F : List Addr} (h : RowOut K H a xs F) : SqL K H a xs := by
  rcases h with ⟨h, _⟩ | h
  · exact .inl h
  · exact .inr h
theorem Rd.some {H : Hp} {a : Addr} {u : HO} (h : L2.Rd H a u) : ∃ o, H a = Option.some o := by
  rcases h with h | ⟨o, h⟩
  · exact ⟨_, h⟩
  · exact ⟨_, h⟩
theorem Rd.move {H H' : Hp} {a : Addr} {u : HO} (h : L2.Rd H a u) (k : ∀ o, H a = Option.some o → H' a = Option.some o) : L2.Rd H' a u := by
  rcases h with h | ⟨o, h⟩
  · exact .inl (k _ h)
  · exact .inr ⟨o, k _ h⟩
/-- the cursor and the reading, apart from each other -/
structure Pr (K : Frag) (CC CO CR : Addr) (H : Hp) (c a : Addr) (b r : Bytes) (rd : Addr) (s : Rd) (F : List Addr) : Prop where
  cu : CuAt K CC H c a b r
  rd : RdAt CO CR H rd s F
  nc : c ∉ F
  ro : RowOut K H a (b.map fun z => V.int (z : Nat)) F
theorem RdAt.but {H H' : Hp} {c rd : Addr} {s : Rd} {F : List Addr} {u : HO} (h : RdAt CO CR H rd s F) (hc : H c = some u) (hu : ∀ xs, u ≠ .tup xs) (nc : c ∉ F) (bt : But c H H') : RdAt CO CR H' rd s F := by
  obtain ⟨dx, l, wh, os, eF, nd, hR, hW, hL, hO⟩ := h.ex
  have tk : Tk H H' := fun b xs e => bt b _ e (ne_of e hc (Ne.symm (hu xs)))
  have kp : ∀ b ∈ F, ∀ v, H b = some v → H' b = some v := fun b hb v hv => bt b v hv fun z => nc (by rw [← z]; exact hb)
  refine ⟨dx, l, wh, os, eF, nd, kp _ (by rw [eF]; exact List.mem_cons_self) _ hR, hW.mono tk, kp _ (by rw [eF]; exact List.mem_cons_of_mem _ List.mem_cons_self) _ hL, hO.mono tk fun b hb => kp b (by rw [eF]; exact List.mem_cons_of_mem _ (List.mem_cons_of_mem _ hb))⟩
/-- the cursor goes on -/
theorem Pr.cur {H H' : Hp} {c a rd : Addr} {b r r' : Bytes} {s : Rd} {F : List Addr} (h : Pr K CC CO CR H c a b r rd s F) (cu' : CuAt K CC H' c a b r') (bt : But c H H') : Pr K CC CO CR H' c a b r' rd s F := by
  obtain ⟨dx, p, hc, hp, e⟩ := h.cu.ex
  refine ⟨cu', h.rd.but hc (fun _ z => nomatch z) h.nc bt, h.nc, ?_⟩
  rcases h.ro with ⟨q, hn⟩ | q
  · left
    refine ⟨?_, hn⟩
    rcases q with q | ⟨o, q⟩
    · exact .inl (bt _ _ q (ne_of q hc (fun z => nomatch z)))
    · exact .inr ⟨o, bt _ _ q (ne_of q hc (fun z => nomatch z))⟩
  · exact .inr q
/-- the reading goes on -/
theorem Pr.rds {H H' : Hp} {c a rd : Addr} {b r : Bytes} {s s' : Rd} {F F' : List Addr} (h : Pr K CC CO CR H c a b r rd s F) (rd' : RdAt CO CR H' rd s' F') (fr : Fr F H H') (gw : Gw F F' H) : Pr K CC CO CR H' c a b r rd s' F' := by
  obtain ⟨dx, p, hc, hp, e⟩ := h.cu.ex
  have out : ∀ d o, H d = some o → d ∉ F → d ∉ F' := fun d o hd hn z => by
    rcases gw d z with y | y
    · exact hn y
    · rw [hd] at y; cases y
  have ro' : RowOut K H' a (b.map fun z => V.int (z : Nat)) F' := by
    rcases h.ro with ⟨q, hn⟩ | q
    · left
      obtain ⟨o, ho⟩ := Rd.some q
      exact ⟨Rd.move q fun o' ho' => fr _ _ ho' hn, out _ _ ho hn⟩
    · exact .inr q
  exact ⟨⟨⟨dx, p, fr _ _ hc h.nc, hp, e⟩, ro'.sq⟩, rd', out _ _ hc h.nc, ro'⟩
/-- what else stood there, stands -/
def FrC (c : Addr) (F : List Addr) (H H' : Hp) : Prop := ∀ d u, H d = some u → d ≠ c → d ∉ F → H' d = some u
theorem RdAt.ins {H : Hp} {rd : Addr} {s : Rd} {F : List Addr} (h : RdAt CO CR H rd s F) : ∃ dx l wh os, F = rd :: l :: fps os ∧ H rd = some (rdO CR dx l wh s.wanted s.may) ∧ H l = some (.lst (os.reverse.map fun x => V.ref x.o)) ∧ OpnsAt CO H os s.st := by
  obtain ⟨dx, l, wh, os, eF, nd, hR, hW, hL, hO⟩ := h.ex
  exact ⟨dx, l, wh, os, eF, hR, hL, hO⟩
/-! ### read_into_value -/
/-- the value's turn of stepR -/
def valueR (s : Rd) (r : Bytes) : Option (Rd × Bytes) :=
  if r.head? = some 91 then (s.begin true).map fun s => (s, r.tail)
  else if r.head? = some 123 then (s.begin false).map fun s => (s, r.tail)
  else (singleR r).map fun x => (s.takeV x.1, x.2)
/-- what is asked of the two, and what is wanted of them -/
def spTwo (K : Frag) (CC CO CR CN : Addr) (g : Rd → Bytes → Option (Rd × Bytes)) (Ok : Rd → Bytes → Prop) (c a : Addr) (b r : Bytes) (rd : Addr) (s : Rd) (F : List Addr) (H : Hp) (Q : VK) (E : XK) : Prop :=
  Pr K CC CO CR H c a b r rd s F ∧ b.length ≤ 5000 ∧ Ok s r ∧ (g s r = none → Fl CN E) ∧ ∀ s' r', g s r = some (s', r') → ∀ H' F', Pr K CC CO CR H' c a b r' rd s' F' → FrC c F H H' → Gw F F' H → Q .non H'
def OkV (s : Rd) (r : Bytes) : Prop := r ≠ [] ∧ s.st.length ≤ 40 ∧ ∀ o S, s.st = o :: S → o.named ∧ o.cnt < 5001
def spReadInto (K : Frag) (CC CO CR CN : Addr) : Sp := fun vs H Q E => ∃ c a b r rd s F, vs = [.ref c, .ref rd] ∧ spTwo K CC CO CR CN valueR OkV c a b r rd s F H Q E
theorem scReadInto : FnScope ["cursor", "reading"] ["cursor", "reading"] (defScope sReadIntoValue) := ⟨rfl, rfl, rfl, by decide +kernel, rfl, by decide +kernel, by decide +kernel⟩
theorem rd_lk {x : Str} {a b c d : V} (h : (["opened", "whole", "wanted", "may_close"] : List Str).contains x = false) : List.lookup x [(("opened" : Str), a), (("whole" : Str), b), (("wanted" : Str), c), (("may_close" : Str), d)] = none := by
  simp only [List.contains_cons, List.contains_nil, Bool.or_false, Bool.or_eq_false_iff] at h
  exact rd_no h.1 h.2.1 h.2.2.1 h.2.2.2
theorem FrC.step {c : Addr} {F F' : List Addr} {H H1 H2 : Hp} (bt : But c H H1) (fr : Fr F H1 H2) : FrC c F H H2 := fun d u hd h1 h2 => fr d u (bt d u hd h1) h2
theorem ok_readInto {f : Addr} {fd : FuncData} (F : Fun K "read_into_value" "read_into_value" sReadIntoValue f fd) (T : Tx K mg CC CO CR CN bB bW) (dS : DefOk P w K mg base (L2.CX P w) 6 "read_single" ["cursor"] (spReadSingle K CC CN))
    (mB : MetOk P w K mg base (L2.CX P w) 3 CR "begin" ["self", "kind"] (spBegin CO CR CN)) (mV : MetOk P w K mg base CX0 2 CR "take_value" ["self", "value"] (spTakeValue CO CR))
    (mS : MetOk P w K mg base CX0 2 CC "sign" ["self"] (spSign K CC)) (mT : MetOk P w K mg base CX0 1 CC "step" ["self"] (spStep K CC)) :
    FnOk P w K mg base (L2.CX P w) 7 f fd ["cursor", "reading"] (spReadInto K CC CO CR CN) := by
  refine F.okX scReadInto (fun vs H Q E h => ?_) (fun cdv A outer s H vs Q E hr h => ?_)
  · obtain ⟨_, _, _, _, _, _, _, rfl, _⟩ := h
    rfl
  · obtain ⟨c, a, b, r, rd, t, Fp, rfl, pr, hl, ⟨hne, h40, hnm⟩, kE, kQ⟩ := h
    have hr1 : Room 1 _ := hr.mono (by decide)
    have hr2 : Room 2 _ := hr.mono (by decide)
    have hr3 : Room 3 _ := hr.mono (by decide)
    refine ⟨_, pss_one (ps_if (pt_cmpR op_eq (pe_met0 mS T.cC hr2 pass0 (pv 0)) (pe_const T.gLIST_START) (nomark _))
      (pss_cons (ps_expr (pe_met0 mT T.cC hr1 pass0 (pv 0))) (pss_one (ps_expr (pe_met mB T.cR hr3 (passes_call (takes_of rfl rfl rfl rfl) (fun _ _ _ _ h => h)) (pv 1) (pa_cons (pe_const T.gLIST) pa_nil)))))
      (pss_one (ps_if (pt_cmpR op_eq (pe_met0 mS T.cC hr2 pass0 (pv 0)) (pe_const T.gRECORD_START) (nomark _))
        (pss_cons (ps_expr (pe_met0 mT T.cC hr1 pass0 (pv 0))) (pss_one (ps_expr (pe_met mB T.cR hr3 (passes_call (takes_of rfl rfl rfl rfl) (fun _ _ _ _ h => h)) (pv 1) (pa_cons (pe_const T.gRECORD) pa_nil)))))
        (pss_one (ps_expr (pe_met mV T.cR hr2 pass0 (pv 1) (pa_cons (pe_def dS hr (passes_call (takes_of rfl rfl rfl rfl) (fun _ _ _ _ h => h)) (pa_cons (pv 0) pa_nil)) pa_nil))))))), ?_⟩
    have cu := pr.cu
    obtain ⟨dx, p, hc, hp, e⟩ := cu.ex
    refine ⟨_, rfl, c, dx, _, rfl, hc, cu_sign, c, a, b, r, rfl, cu, hl, rfl, _, rfl, ?_⟩
    unfold valueR at kE kQ
    -- one of the two beginnings
    have bg : ∀ (isL : Bool), (t.begin isL = none → Fl CN E) → (∀ s', t.begin isL = some s' → ∀ H' F', Pr K CC CO CR H' c a b r.tail rd s' F' → FrC c Fp H H' → Gw Fp F' H → Q .non H') →
        (∃ a1 dx1 fs, V.ref c = .ref a1 ∧ H a1 = some (.ins CC dx1 fs) ∧ fs.lookup ("step" : Str) = none ∧ spStep K CC (.ref c :: ([] ++ [])) H (fun _ H1 => ∃ v, ([some (V.ref c), some (V.ref rd)] : L2.St)[1]? = some (some v) ∧
          ∃ a2 dx2 fs2, v = .ref a2 ∧ H1 a2 = some (.ins CR dx2 fs2) ∧ fs2.lookup ("begin" : Str) = none ∧ spBegin CO CR CN (v :: ([.int (kdN isL)] ++ [])) H1 (fun _ H2 => Q .non H2) E) E0) := by
      intro isL k1 k2
      refine ⟨c, dx, _, rfl, hc, cu_step, c, a, b, r, rfl, cu, hne, fun H1 cu1 b1 => ?_⟩
      have pr1 := pr.cur cu1 b1
      obtain ⟨dxr, lr, whr, osr, eF, hR, hL, hO⟩ := pr1.rd.ins
      refine ⟨_, rfl, rd, dxr, _, rfl, hR, rd_lk (by decide +kernel), rd, t, Fp, isL, rfl, pr1.rd, h40, k1, fun s' hs' H2 F' rd2 fr2 gw2 => ?_⟩
      have gw' : Gw Fp F' H := fun x hx => by
        rcases gw2 x hx with y | y
        · exact .inl y
        · right
          cases hx2 : H x with
          | none => rfl
          | some u =>
            by_cases ec : x = c
            · obtain ⟨o1, ho1⟩ := cu1.get
              rw [ec, ho1] at y; cases y
            · rw [b1 x u hx2 ec] at y; cases y
      exact k2 s' hs' H2 F' (pr1.rds rd2 fr2 gw2) (FrC.step (F' := F') b1 fr2) gw'
    by_cases h91 : sgn r = (91 : Nat)
    · refine if_t (dV_t h91) ?_
      have hh := sgn_head.mp h91
      rw [if_pos hh] at kE kQ
      refine ⟨_, rfl, ?_⟩
      exact bg true (fun hn => kE (by rw [hn]; rfl)) fun s' hs' H' F' p1 p2 p3 => kQ s' r.tail (by rw [hs']; rfl) H' F' p1 p2 p3
    refine if_f (dV_f h91) ?_
    have hn91 : ¬ r.head? = some 91 := fun z => h91 (sgn_head.mpr z)
    rw [if_neg hn91] at kE kQ
    refine ⟨_, rfl, c, dx, _, rfl, hc, cu_sign, c, a, b, r, rfl, cu, hl, rfl, _, rfl, ?_⟩
    by_cases h123 : sgn r = (123 : Nat)
    · refine if_t (dV_t h123) ?_
      have hh := sgn_head.mp h123
      rw [if_pos hh] at kE kQ
      refine ⟨_, rfl, ?_⟩
      exact bg false (fun hn => kE (by rw [hn]; rfl)) fun s' hs' H' F' p1 p2 p3 => kQ s' r.tail (by rw [hs']; rfl) H' F' p1 p2 p3
    refine if_f (dV_f h123) ?_
    have hn123 : ¬ r.head? = some 123 := fun z => h123 (sgn_head.mpr z)
    rw [if_neg hn123] at kE kQ
    obtain ⟨dxr, lr, whr, osr, eF, hR, hL, hO⟩ := pr.rd.ins
    refine ⟨_, rfl, rd, dxr, _, rfl, hR, rd_lk (by decide +kernel), _, rfl, c, a, b, r, rfl, cu, hl, fun hn => kE (by rw [hn]; rfl), fun v q hv H1 x cu1 hx b1 => ?_⟩
    have pr1 := pr.cur cu1 b1
    refine ⟨rd, x, t, Fp, v, rfl, pr1.rd, hnm, hx, fun H2 rd2 fr2 => ?_⟩
    exact kQ _ q (by rw [hv]; rfl) H2 Fp (pr1.rds rd2 fr2 fun x hx => .inl hx) (FrC.step (F' := Fp) b1 fr2) fun x hx => .inl hx
end
end Vt

namespace Vt
open PySem PySem.Spec PyProof.Rows L2
open PySem.W (Frag)
open Kcs7 (Bytes)
section
variable {P : Program} {w : World} {K : Frag} {mg : Str → Option Value} {base : Heap} {CC CO CR CN bB bW : Addr}
/-! ### read_name -/
def nameR (s : Rd) (r : Bytes) : Option (Rd × Bytes) := (textR r).bind fun x => (s.putN x.1).map fun s => (s, x.2)
def OkN (s : Rd) (r : Bytes) : Prop := ∃ fs nm S, s.st = .rcd fs nm :: S
def spReadName (K : Frag) (CC CO CR CN : Addr) : Sp := fun vs H Q E => ∃ c a b r rd s F, vs = [.ref c, .ref rd] ∧ spTwo K CC CO CR CN nameR OkN c a b r rd s F H Q E
theorem scReadName : FnScope ["cursor", "reading"] ["cursor", "reading"] (defScope sReadName) := ⟨rfl, rfl, rfl, by decide +kernel, rfl, by decide +kernel, by decide +kernel⟩
theorem op_lk {x : Str} {a b c d : V} (h : (["kind", "listed", "fields", "name"] : List Str).contains x = false) : List.lookup x [(("kind" : Str), a), (("listed" : Str), b), (("fields" : Str), c), (("name" : Str), d)] = none := by
  simp only [List.contains_cons, List.contains_nil, Bool.or_false, Bool.or_eq_false_iff] at h
  exact op_no h.1 h.2.1 h.2.2.1 h.2.2.2
theorem ok_readName {f : Addr} {fd : FuncData} (F : Fun K "read_name" "read_name" sReadName f fd) (T : Tx K mg CC CO CR CN bB bW) (dT : DefOk P w K mg base (L2.CX P w) 4 "read_text" ["cursor"] (spReadText K CC CN))
    (mI : MetOk P w K mg base CX0 1 CR "innermost" ["self"] (spInnermost CR)) (mP : MetOk P w K mg base (L2.CX P w) 1 CO "put_name" ["self", "name"] (spPutName CO CN)) (mN : MetOk P w K mg base CX0 1 CR "now_want" ["self", "wanted", "may_close"] (spNowWant CR)) :
    FnOk P w K mg base (L2.CX P w) 5 f fd ["cursor", "reading"] (spReadName K CC CO CR CN) := by
  refine F.okX scReadName (fun vs H Q E h => ?_) (fun cdv A outer s H vs Q E hr h => ?_)
  · obtain ⟨_, _, _, _, _, _, _, rfl, _⟩ := h
    rfl
  · obtain ⟨c, a, b, r, rd, t, Fp, rfl, pr, hl, ⟨fs, nm, S, hst⟩, kE, kQ⟩ := h
    have hr1 : Room 1 _ := hr.mono (by decide)
    refine ⟨_, pss_cons (ps_expr (pe_met mP T.cO hr1 (passes_call (takes_of rfl rfl rfl rfl) (fun _ _ _ _ h => h)) (pe_met0 mI T.cR hr1 pass0 (pv 1)) (pa_cons (pe_def dT hr (passes_call (takes_of rfl rfl rfl rfl) (fun _ _ _ _ h => h)) (pa_cons (pv 0) pa_nil)) pa_nil)))
      (pss_one (ps_expr (pe_met mN T.cR hr1 pass0 (pv 1) (pa_cons (pe_const T.gWANTS_COLON) (pa_cons pe_bl pa_nil))))), ?_⟩
    obtain ⟨dx, l, wh, os, eF, nd, hR, hW, hL, hO⟩ := pr.rd.ex
    rw [hst] at hO
    cases hO with
    | @cons xo _ os' _ hA hO' =>
      have eL : (xo :: os').reverse.map (fun x => V.ref x.o) = os'.reverse.map (fun x => V.ref x.o) ++ [.ref xo.o] := by
        rw [List.reverse_cons, List.map_append]
        rfl
      rw [eL] at hL
      obtain ⟨dxo, nv, kvs, h1, h2, h3, h4, h5⟩ := hA
      refine ⟨_, rfl, rd, dx, _, rfl, hR, rd_lk (by decide +kernel), rd, dx, l, _, _, _, _, _, rfl, hR, hL, ?_⟩
      refine ⟨xo.o, dxo, _, rfl, h1, op_lk (by decide +kernel), ?_⟩
      unfold nameR at kE kQ
      refine ⟨_, rfl, c, a, b, r, rfl, pr.cu, hl, fun hn => kE (by rw [hn]; rfl), fun n q hx H1 tt cu1 htt b1 => ?_⟩
      have pr1 := pr.cur cu1 b1
      have nc := pr.nc
      have kp : ∀ d ∈ Fp, ∀ u, H d = some u → H1 d = some u := fun d hd u hu => b1 d u hu fun z => nc (by rw [← z]; exact hd)
      have mo : xo.o ∈ Fp := by rw [eF]; simp [fps, OA.all]
      have ml : xo.la ∈ Fp := by rw [eF]; simp [fps, OA.all]
      have md : xo.da ∈ Fp := by rw [eF]; simp [fps, OA.all]
      have mr : rd ∈ Fp := by rw [eF]; simp
      have mll : l ∈ Fp := by rw [eF]; simp
      obtain ⟨dxc, pc, hcc, _, _⟩ := pr.cu.ex
      have tk1 : Tk H H1 := fun d xs e => b1 d _ e (ne_of e hcc (fun z => nomatch z))
      have g1 := kp _ mo _ h1
      have g2 := kp _ ml _ h2
      have g3 := kp _ md _ h3
      have g4 := h4.mono tk1
      have hR1 := kp _ mr _ hR
      have hL1 := kp _ mll _ hL
      refine ⟨xo.o, dxo, 6, xo.la, xo.da, nv, tt, n, kvs, fs, rfl, g1, htt, g3, g4, fun hm => ?_, fun hm => ?_⟩
      · refine kE ?_
        rw [hx]
        show (t.putN n).map _ = none
        unfold Rd.putN
        rw [hst]
        show (if n ∈ fs.map Prod.fst then none else _ : Option Rd).map _ = none
        rw [if_pos hm]
        rfl
      · rw [eF] at nd
        have ndr : rd ∉ l :: fps (xo :: os') := (List.nodup_cons.mp nd).1
        have ndl : l ∉ fps (xo :: os') := (List.nodup_cons.mp (List.nodup_cons.mp nd).2).1
        have ndF : (fps (xo :: os')).Nodup := (List.nodup_cons.mp (List.nodup_cons.mp nd).2).2
        have e3 : fps (xo :: os') = xo.o :: xo.la :: xo.da :: fps os' := rfl
        rw [e3] at ndr ndl ndF
        simp only [List.nodup_cons, List.mem_cons, not_or] at ndr ndl ndF
        have nro : rd ≠ xo.o := ndr.2.1
        have nlo : l ≠ xo.o := ndl.1
        have nrl : rd ≠ l := ndr.1
        generalize hH2 : upd H1 xo.o (opO CO dxo 6 xo.la xo.da (.ref tt)) = H2
        have hR2 : H2 rd = some (rdO CR dx l wh t.wanted t.may) := by rw [← hH2, upd_ne nro]; exact hR1
        have tk2 : Tk H1 H2 := by rw [← hH2]; exact tk_upd g1 fun _ z => nomatch z
        refine ⟨_, rfl, rd, dx, _, rfl, hR2, rd_lk (by decide +kernel), rd, dx, l, _, _, _, _, _, rfl, hR2, ?_⟩
        have tk3 : Tk H2 (upd H2 rd (rdO CR dx l wh 2 false)) := tk_upd hR2 fun _ z => nomatch z
        have eput : t.putN n = some ⟨.rcd fs (some n) :: S, t.whole, 2, false⟩ := by
          unfold Rd.putN
          rw [hst]
          show (if n ∈ fs.map Prod.fst then none else _ : Option Rd) = _
          rw [if_neg hm]
        have rd3 : RdAt CO CR (upd H2 rd (rdO CR dx l wh 2 false)) rd ⟨.rcd fs (some n) :: S, t.whole, 2, false⟩ Fp := by
          refine ⟨dx, l, wh, xo :: os', eF, (by rw [eF]; exact nd), upd_same, ((hW.mono tk1).mono tk2).mono tk3, ?_, ?_⟩
          · rw [upd_ne (Ne.symm nrl), ← hH2, upd_ne nlo, hL1, eL]
          · refine .cons ⟨dxo, .ref tt, kvs, ?_, ?_, ?_, (g4.mono tk2).mono tk3, tt, rfl, tk3 _ _ (tk2 _ _ htt)⟩ ?_
            · rw [upd_ne (Ne.symm nro), ← hH2]
              exact upd_same
            · rw [upd_ne (Ne.symm ndr.2.2.1), ← hH2, upd_ne (fun z => ndF.1.1 z.symm)]
              exact g2
            · rw [upd_ne (Ne.symm ndr.2.2.2.1), ← hH2, upd_ne (fun z => ndF.1.2.1 z.symm)]
              exact g3
            · refine ((hO'.mono tk1 fun d hd u hu => kp d (by rw [eF]; simp only [List.mem_cons]; right; right; rw [e3]; simp only [List.mem_cons]; right; right; right; exact hd) u hu).mono tk2 fun d hd u hu => ?_).mono tk3 fun d hd u hu => ?_
              · rw [← hH2, upd_ne (fun z => ndF.1.2.2 (by rw [← z]; exact hd))]
                exact hu
              · rw [upd_ne (fun z => ndr.2.2.2.2 (by rw [← z]; exact hd))]
                exact hu
        have fr3 : Fr Fp H1 (upd H2 rd (rdO CR dx l wh 2 false)) := fun d u hd hn => by
          rw [upd_ne (fun z => hn (by rw [z]; exact mr)), ← hH2, upd_ne (fun z => hn (by rw [z]; exact mo))]
          exact hd
        refine kQ ⟨.rcd fs (some n) :: S, t.whole, 2, false⟩ q ?_ _ Fp (pr1.rds rd3 fr3 fun x hx => .inl hx) (FrC.step (F' := Fp) b1 fr3) fun x hx => .inl hx
        rw [hx]
        show (t.putN n).map _ = _
        rw [eput]
        rfl
/-! ### read_between -/
def spReadBetween (K : Frag) (CC CO CR CN : Addr) : Sp := fun vs H Q E => ∃ c a b r rd s F x wn, vs = [.ref c, .ref rd, .int (x : Nat), .int (wn : Nat)] ∧ Pr K CC CO CR H c a b r rd s F ∧ b.length ≤ 5000 ∧
  (¬ r.head? = some x → Fl CN E) ∧ (r.head? = some x → ∀ H', Pr K CC CO CR H' c a b r.tail rd ⟨s.st, s.whole, wn, false⟩ F → FrC c F H H' → Q .non H')
theorem scReadBetween : FnScope ["cursor", "reading", "sign", "wanted"] ["cursor", "reading", "sign", "wanted"] (defScope sReadBetween) := ⟨rfl, rfl, rfl, by decide +kernel, rfl, by decide +kernel, by decide +kernel⟩
theorem ok_readBetween {f : Addr} {fd : FuncData} (F : Fun K "read_between" "read_between" sReadBetween f fd) (T : Tx K mg CC CO CR CN bB bW) (mN : MetOk P w K mg base CX0 1 CR "now_want" ["self", "wanted", "may_close"] (spNowWant CR))
    (mS : MetOk P w K mg base CX0 2 CC "sign" ["self"] (spSign K CC)) (mT : MetOk P w K mg base CX0 1 CC "step" ["self"] (spStep K CC)) :
    FnOk P w K mg base (L2.CX P w) 3 f fd ["cursor", "reading", "sign", "wanted"] (spReadBetween K CC CO CR CN) := by
  refine F.okX scReadBetween (fun vs H Q E h => ?_) (fun cdv A outer s H vs Q E hr h => ?_)
  · obtain ⟨_, _, _, _, _, _, _, _, _, rfl, _⟩ := h
    rfl
  · obtain ⟨c, a, b, r, rd, t, Fp, x, wn, rfl, pr, hl, kE, kQ⟩ := h
    have hr1 : Room 1 _ := hr.mono (by decide)
    refine ⟨_, pss_cons (ps_if (pt_cmpR op_ne (pe_met0 mS T.cC hr pass0 (pv 0)) (pv 2) (nomark _)) (pss_one (ps_rn T (takes_of rfl rfl rfl rfl))) pss_nil)
      (pss_cons (ps_expr (pe_met0 mT T.cC hr1 pass0 (pv 0))) (pss_one (ps_expr (pe_met mN T.cR hr1 pass0 (pv 1) (pa_cons (pv 3) (pa_cons pe_bl pa_nil)))))), ?_⟩
    have cu := pr.cu
    obtain ⟨dx, p, hc, hp, e⟩ := cu.ex
    refine ⟨_, rfl, c, dx, _, rfl, hc, cu_sign, c, a, b, r, rfl, cu, hl, _, rfl, rfl, _, rfl, ?_⟩
    by_cases hs : sgn r = (x : Int)
    · refine if_f (nV_f hs) ?_
      have hh := sgn_head.mp hs
      obtain ⟨q, rfl⟩ := sgn_eq.mp hs
      refine ⟨_, rfl, c, dx, _, rfl, hc, cu_step, c, a, b, _, rfl, cu, (by simp), fun H1 cu1 b1 => ?_⟩
      have pr1 := pr.cur cu1 b1
      obtain ⟨dxr, l, wh, os, eF, nd, hR, hW, hL, hO⟩ := pr1.rd.ex
      refine ⟨_, rfl, rd, dxr, _, rfl, hR, rd_lk (by decide +kernel), _, rfl, rd, dxr, l, _, _, _, _, _, rfl, hR, ?_⟩
      have tk : Tk H1 (upd H1 rd (rdO CR dxr l wh (wn : Nat) false)) := tk_upd hR fun _ z => nomatch z
      rw [eF] at nd
      have nr : rd ∉ l :: fps os := (List.nodup_cons.mp nd).1
      have nrl : rd ≠ l := fun z => nr (by rw [z]; exact List.mem_cons_self)
      have rd2 : RdAt CO CR (upd H1 rd (rdO CR dxr l wh (wn : Nat) false)) rd ⟨t.st, t.whole, wn, false⟩ Fp := by
        refine ⟨dxr, l, wh, os, eF, (by rw [eF]; exact nd), upd_same, hW.mono tk, ?_, hO.mono tk fun d hd u hu => ?_⟩
        · rw [upd_ne (Ne.symm nrl)]; exact hL
        · rw [upd_ne (fun z => nr (by rw [← z]; exact List.mem_cons_of_mem _ hd))]; exact hu
      have fr2 : Fr Fp H1 (upd H1 rd (rdO CR dxr l wh (wn : Nat) false)) := fun d u hd hn => by
        rw [upd_ne (fun z => hn (by rw [z, eF]; exact List.mem_cons_self))]
        exact hd
      exact kQ hh _ (pr1.rds rd2 fr2 fun x hx => .inl hx) (FrC.step (F' := Fp) b1 fr2)
    · refine if_t (nV_t hs) ?_
      exact kE (fun z => hs (sgn_head.mpr z)) _
/-! ### read_next -/
def OkS (s : Rd) (r : Bytes) : Prop := s.Ok ∧ r ≠ [] ∧ r.length ≤ 5000 ∧ ∀ o ∈ s.st, o.cnt + r.length ≤ 5000
def spReadNext (K : Frag) (CC CO CR CN : Addr) : Sp := fun vs H Q E => ∃ c a b r rd s F, vs = [.ref c, .ref rd] ∧ spTwo K CC CO CR CN stepR OkS c a b r rd s F H Q E
theorem scReadNext : FnScope ["cursor", "reading"] ["cursor", "reading"] (defScope sReadNext) := ⟨rfl, rfl, rfl, by decide +kernel, rfl, by decide +kernel, by decide +kernel⟩
theorem opn_kind {H : Hp} {x : OA} {o : Opn} (h : OpnAt CO H x o) : ∃ dx k la da nm, H x.o = some (opO CO dx k la da nm) ∧ (if k = 5 then (93 : Int) else 125) = (o.endS : Nat) ∧ (if k = 5 then (0 : Int) else 1) = (o.first : Nat) := by
  cases o with
  | lst l =>
    obtain ⟨dx, xs, h1, _⟩ := h
    exact ⟨dx, 5, _, _, _, h1, rfl, rfl⟩
  | rcd fs nm =>
    obtain ⟨dx, nv, kvs, h1, _⟩ := h
    exact ⟨dx, 6, _, _, _, h1, rfl, rfl⟩
theorem ok_readNext {f : Addr} {fd : FuncData} (F : Fun K "read_next" "read_next" sReadNext f fd) (T : Tx K mg CC CO CR CN bB bW) (dV : DefOk P w K mg base (L2.CX P w) 7 "read_into_value" ["cursor", "reading"] (spReadInto K CC CO CR CN))
    (dN : DefOk P w K mg base (L2.CX P w) 5 "read_name" ["cursor", "reading"] (spReadName K CC CO CR CN)) (dB : DefOk P w K mg base (L2.CX P w) 3 "read_between" ["cursor", "reading", "sign", "wanted"] (spReadBetween K CC CO CR CN))
    (mC : MetOk P w K mg base CX0 3 CR "close_innermost" ["self"] (spClose CO CR)) (mI : MetOk P w K mg base CX0 1 CR "innermost" ["self"] (spInnermost CR)) (mE : MetOk P w K mg base CX0 1 CO "end_sign" ["self"] (spEndSign CO))
    (mF : MetOk P w K mg base CX0 1 CO "first_wanted" ["self"] (spFirstWanted CO)) (mS : MetOk P w K mg base CX0 2 CC "sign" ["self"] (spSign K CC)) (mT : MetOk P w K mg base CX0 1 CC "step" ["self"] (spStep K CC)) :
    FnOk P w K mg base (L2.CX P w) 8 f fd ["cursor", "reading"] (spReadNext K CC CO CR CN) := by
  refine F.okX scReadNext (fun vs H Q E h => ?_) (fun cdv A outer s H vs Q E hr h => ?_)
  · obtain ⟨_, _, _, _, _, _, _, rfl, _⟩ := h
    rfl
  · obtain ⟨c, a, b, r, rd, t, Fp, rfl, pr, hl, ⟨hok, hne, hr5, hcnt⟩, kE, kQ⟩ := h
    have hr1 : Room 1 _ := hr.mono (by decide)
    have hr2 : Room 2 _ := hr.mono (by decide)
    have hr3 : Room 3 _ := hr.mono (by decide)
    have hr5' : Room 5 _ := hr.mono (by decide)
    refine ⟨_, pss_one (ps_if (PW.pt (pw_and (pt_val (pe_fld (pv 1) rfl)) (pw_and1 (pt_cmpR op_eq (pe_met0 mS T.cC hr2 pass0 (pv 0)) (pe_met0 mE T.cO hr1 pass0 (pe_met0 mI T.cR hr1 pass0 (pv 1))) (nomark _)))))
      (pss_cons (ps_expr (pe_met0 mT T.cC hr1 pass0 (pv 0))) (pss_one (ps_expr (pe_met0 mC T.cR hr3 pass0 (pv 1)))))
      (pss_one (ps_if (pt_cmpR op_eq (pe_fld (pv 1) rfl) (pe_const T.gWANTS_VALUE) (nomark _)) (pss_one (ps_expr (pe_def dV hr (passes_call (takes_of rfl rfl rfl rfl) (fun _ _ _ _ h => h)) (pa_cons (pv 0) (pa_cons (pv 1) pa_nil)))))
      (pss_one (ps_if (pt_cmpR op_eq (pe_fld (pv 1) rfl) (pe_const T.gWANTS_NAME) (nomark _)) (pss_one (ps_expr (pe_def dN hr5' (passes_call (takes_of rfl rfl rfl rfl) (fun _ _ _ _ h => h)) (pa_cons (pv 0) (pa_cons (pv 1) pa_nil)))))
      (pss_one (ps_if (pt_cmpR op_eq (pe_fld (pv 1) rfl) (pe_const T.gWANTS_COLON) (nomark _)) (pss_one (ps_expr (pe_def dB hr3 (passes_call (takes_of rfl rfl rfl rfl) (fun _ _ _ _ h => h)) (pa_cons (pv 0) (pa_cons (pv 1) (pa_cons (pe_const T.gCOLON) (pa_cons (pe_const T.gWANTS_VALUE) pa_nil)))))))
      (pss_one (ps_if (pt_cmpR op_eq (pe_fld (pv 1) rfl) (pe_const T.gWANTS_COMMA) (nomark _)) (pss_one (ps_expr (pe_def dB hr3 (passes_call (takes_of rfl rfl rfl rfl) (fun _ _ _ _ h => h)) (pa_cons (pv 0) (pa_cons (pv 1) (pa_cons (pe_const T.gCOMMA) (pa_cons (pe_met0 mF T.cO hr1 pass0 (pe_met0 mI T.cR hr1 pass0 (pv 1))) pa_nil)))))))
      (pss_one (ps_rn T (takes_of rfl rfl rfl rfl)))))))))))), ?_⟩
    have cu := pr.cu
    obtain ⟨dx, p, hc, hp, e⟩ := cu.ex
    obtain ⟨dxr, l, wh, os, eF, hR, hL, hO⟩ := pr.rd.ins
    -- the innermost, where there is one
    have inn : ∀ o S, t.st = o :: S → ∃ (xs : List V) (xo : OA), H l = some (.lst (xs ++ [.ref xo.o])) ∧ OpnAt CO H xo o := by
      intro o S es
      rw [es] at hO
      cases hO with
      | @cons xo _ os' _ hA hO' =>
        refine ⟨os'.reverse.map (fun x => V.ref x.o), xo, ?_, hA⟩
        rw [hL, List.reverse_cons, List.map_append]
        rfl
    have two : ∀ (g : Rd → Bytes → Option (Rd × Bytes)), stepR t r = g t r → (g t r = none → Fl CN E) ∧ ∀ s' r', g t r = some (s', r') → ∀ H' F', Pr K CC CO CR H' c a b r' rd s' F' → FrC c Fp H H' → Gw Fp F' H → Q .non H' := by
      intro g eg
      rw [eg] at kE
      refine ⟨kE, fun s' r' h => kQ s' r' (eg.trans h)⟩
    -- behind the first test
    have rest : ¬ (t.may = true ∧ t.ends.isSome = true ∧ r.head? = t.ends) →
        (tIfS (tTest (tOp rEq (tFld K (tVar 1) "wanted") (tC (.int 0)))) (tDrop (tCall (spReadInto K CC CO CR CN) [] E (tCons (tVar 0) (tCons (tVar 1) tNil))))
        (tIfS (tTest (tOp rEq (tFld K (tVar 1) "wanted") (tC (.int 1)))) (tDrop (tCall (spReadName K CC CO CR CN) [] E (tCons (tVar 0) (tCons (tVar 1) tNil))))
        (tIfS (tTest (tOp rEq (tFld K (tVar 1) "wanted") (tC (.int 2)))) (tDrop (tCall (spReadBetween K CC CO CR CN) [] E (tCons (tVar 0) (tCons (tVar 1) (tCons (tC (.int 58)) (tCons (tC (.int 0)) tNil))))))
        (tIfS (tTest (tOp rEq (tFld K (tVar 1) "wanted") (tC (.int 3)))) (tDrop (tCall (spReadBetween K CC CO CR CN) [] E (tCons (tVar 0) (tCons (tVar 1) (tCons (tC (.int 44)) (tCons (tMeth CO "first_wanted" (spFirstWanted CO) [] E0 (tMeth CR "innermost" (spInnermost CR) [] E0 (tVar 1) tNil) tNil) tNil))))))
        (fun _ _ H => E (.ref CN) none H))))) { nx := fun _ H' => Q .non H', rt := Q } [some (.ref c), some (.ref rd)] H := by
      intro hno
      unfold stepR at two
      rw [if_neg hno] at two
      refine ⟨_, rfl, rd, CR, dxr, _, _, rfl, hR, T.cR, T.nWanted, rd_wanted, rfl, _, rfl, ?_⟩
      by_cases w0 : t.wanted = 0
      · refine if_t (dV_t (by rw [w0]; rfl)) ?_
        rw [if_pos w0] at two
        obtain ⟨k1, k2⟩ := two valueR rfl
        refine ⟨_, rfl, _, rfl, c, a, b, r, rd, t, Fp, rfl, pr, hl, ⟨hne, hok.deep, fun o S es => ⟨hok.head w0 o S es, ?_⟩⟩, k1, k2⟩
        have := hcnt o (by rw [es]; exact List.mem_cons_self)
        omega
      refine if_f (dV_f (by omega)) ?_
      rw [if_neg w0] at two
      refine ⟨_, rfl, rd, CR, dxr, _, _, rfl, hR, T.cR, T.nWanted, rd_wanted, rfl, _, rfl, ?_⟩
      by_cases w1 : t.wanted = 1
      · refine if_t (dV_t (by rw [w1]; rfl)) ?_
        rw [if_pos w1] at two
        obtain ⟨k1, k2⟩ := two nameR rfl
        exact ⟨_, rfl, _, rfl, c, a, b, r, rd, t, Fp, rfl, pr, hl, hok.name w1, k1, k2⟩
      refine if_f (dV_f (by omega)) ?_
      rw [if_neg w1] at two
      refine ⟨_, rfl, rd, CR, dxr, _, _, rfl, hR, T.cR, T.nWanted, rd_wanted, rfl, _, rfl, ?_⟩
      by_cases w2 : t.wanted = 2
      · refine if_t (dV_t (by rw [w2]; rfl)) ?_
        rw [if_pos w2] at two
        obtain ⟨k1, k2⟩ := two (fun s r => if r.head? = some 58 then some (⟨s.st, s.whole, 0, false⟩, r.tail) else none) rfl
        refine ⟨_, rfl, _, rfl, c, a, b, r, rd, t, Fp, 58, 0, rfl, pr, hl, fun hn => k1 (if_neg hn), fun hh H' pr' fr' => ?_⟩
        exact k2 _ _ (if_pos hh) H' Fp pr' fr' fun x hx => .inl hx
      refine if_f (dV_f (by omega)) ?_
      rw [if_neg w2] at two
      refine ⟨_, rfl, rd, CR, dxr, _, _, rfl, hR, T.cR, T.nWanted, rd_wanted, rfl, _, rfl, ?_⟩
      by_cases w3 : t.wanted = 3
      · refine if_t (dV_t (by rw [w3]; rfl)) ?_
        rw [if_pos w3] at two
        obtain ⟨k1, k2⟩ := two (fun s r => if r.head? = some 44 then some (⟨s.st, s.whole, s.firstW, false⟩, r.tail) else none) rfl
        cases es : t.st with
        | nil => exact absurd es (hok.comma w3)
        | cons o S =>
          obtain ⟨xs, xo, hLx, hA⟩ := inn o S es
          obtain ⟨dxo, k, la, da, nm, ho, _, hf⟩ := opn_kind hA
          have efw : t.firstW = o.first := by unfold Rd.firstW; rw [es]
          refine ⟨_, rfl, _, rfl, _, rfl, rd, dxr, _, rfl, hR, rd_lk (by decide +kernel), rd, dxr, l, _, _, _, _, _, rfl, hR, hLx, ?_⟩
          refine ⟨xo.o, dxo, _, rfl, ho, op_lk (by decide +kernel), xo.o, dxo, k, la, da, nm, rfl, ho, ?_⟩
          rw [hf]
          refine ⟨c, a, b, r, rd, t, Fp, 44, o.first, rfl, pr, hl, fun hn => k1 (if_neg hn), fun hh H' pr' fr' => ?_⟩
          rw [← efw] at pr'
          exact k2 _ _ (if_pos hh) H' Fp pr' fr' fun x hx => .inl hx
      refine if_f (dV_f (by omega)) ?_
      rw [if_neg w3] at two
      obtain ⟨k1, _⟩ := two (fun _ _ => none) rfl
      exact k1 rfl _
    refine ⟨_, rfl, rd, CR, dxr, _, _, rfl, hR, T.cR, T.nMay, rd_may, _, rfl, ?_⟩
    cases hm : t.may with
    | false =>
      refine if_f rfl ?_
      refine if_f rfl ?_
      exact rest fun z => by rw [hm] at z; cases z.1
    | true =>
      refine if_t rfl ?_
      cases es : t.st with
      | nil => exact absurd es (hok.may hm)
      | cons o S =>
        obtain ⟨xs, xo, hLx, hA⟩ := inn o S es
        obtain ⟨dxo, k, la, da, nm, ho, hend, _⟩ := opn_kind hA
        have een : t.ends = some o.endS := by unfold Rd.ends; rw [es]
        refine ⟨_, rfl, c, dx, _, rfl, hc, cu_sign, c, a, b, r, rfl, cu, hl, ?_⟩
        refine ⟨_, rfl, rd, dxr, _, rfl, hR, rd_lk (by decide +kernel), rd, dxr, l, _, _, _, _, _, rfl, hR, hLx, ?_⟩
        refine ⟨xo.o, dxo, _, rfl, ho, op_lk (by decide +kernel), xo.o, dxo, k, la, da, nm, rfl, ho, ?_⟩
        rw [hend]
        refine ⟨rfl, _, rfl, ?_⟩
        by_cases hs : sgn r = (o.endS : Nat)
        · refine if_t (dV_t hs) ?_
          have hh := sgn_head.mp hs
          have est : stepR t r = some (t.close, r.tail) := by
            unfold stepR
            rw [if_pos ⟨hm, by rw [een]; rfl, by rw [een]; exact hh⟩]
          refine ⟨_, rfl, c, dx, _, rfl, hc, cu_step, c, a, b, r, rfl, cu, hne, fun H1 cu1 b1 => ?_⟩
          have pr1 := pr.cur cu1 b1
          obtain ⟨dxr1, l1, wh1, os1, eF1, hR1, hL1, hO1⟩ := pr1.rd.ins
          refine ⟨_, rfl, rd, dxr1, _, rfl, hR1, rd_lk (by decide +kernel), rd, t, Fp, rfl, pr1.rd, (by rw [es]; exact fun z => nomatch z), fun o ho => ⟨hok.nd o ho, ?_⟩, hok.tail, fun H2 F' rd2 fr2 gw2 => ?_⟩
          · have := hcnt o ho
            omega
          · have gw' : Gw Fp F' H := fun x hx => by
              rcases gw2 x hx with y | y
              · exact .inl y
              · right
                cases hx2 : H x with
                | none => rfl
                | some u =>
                  by_cases ec : x = c
                  · obtain ⟨o1, ho1⟩ := cu1.get
                    rw [ec, ho1] at y; cases y
                  · rw [b1 x u hx2 ec] at y; cases y
            exact kQ _ _ est H2 F' (pr1.rds rd2 fr2 gw2) (FrC.step (F' := F') b1 fr2) gw'
        · refine if_f (dV_f hs) ?_
          exact rest fun z => hs (sgn_head.mpr (by rw [z.2.2, een]))
end
end Vt

namespace Vt
open PySem PySem.Spec PyProof.Rows L2
open PySem.W (Frag)
open Kcs7 (Bytes)
section
variable {P : Program} {w : World} {K : Frag} {mg : Str → Option Value} {base : Heap} {CC CO CR CN bB bW : Addr}
def spReadValue (K : Frag) (CN : Addr) : Sp := fun vs H Q E => ∃ a b, vs = [.ref a] ∧ SqL K H a (b.map fun z => V.int (z : Nat)) ∧ b.length ≤ 5000 ∧
  (readM b = none → Fl CN E) ∧ ∀ v, readM b = some v → ∀ H' x, VAt H' x v → Same H H' → Q x H'
theorem scReadValue : FnScope ["row", "cursor", "reading"] ["row"] (defScope sReadValue) := ⟨rfl, rfl, rfl, by decide +kernel, rfl, by decide +kernel, by decide +kernel⟩
theorem ok_readValue {f : Addr} {fd : FuncData} (F : Fun K "read_value" "read_value" sReadValue f fd) (T : Tx K mg CC CO CR CN bB bW) (dN : DefOk P w K mg base (L2.CX P w) 8 "read_next" ["cursor", "reading"] (spReadNext K CC CO CR CN))
    (dB : DefOk P w K mg base CX0 3 "skip_blanks" ["cursor"] (spSkipBlanks K CC)) (mA : MetOk P w K mg base CX0 1 CC "at_end" ["self"] (spAtEnd K CC)) (kC : MkOk P w K mg base 1 CC ["self", "row"] (spCInit CC)) (kR : MkOk P w K mg base 1 CR ["self"] (spRInit CR)) :
    FnOk P w K mg base (L2.CX P w) 9 f fd ["row"] (spReadValue K CN) := by
  refine F.okX scReadValue (fun vs H Q E h => ?_) (fun cdv A outer s H vs Q E hr h => ?_)
  · obtain ⟨_, _, rfl, _⟩ := h
    rfl
  · obtain ⟨a, b, rfl, hrow, hl, kE, kQ⟩ := h
    have hr1 : Room 1 _ := hr.mono (by decide)
    have hr2 : Room 2 _ := hr.mono (by decide)
    have hr3 : Room 3 _ := hr.mono (by decide)
    refine ⟨_, pss_cons (ps_if (pt_cmpR op_gt (pe_callB call_len_seq (by rfl) T.len PySem.boot_len (pa_cons (pv 0) pa_nil)) (pe_const T.gMOST_BYTES) (nomark _)) (pss_one (ps_rn T (takes_of rfl rfl rfl rfl))) pss_nil)
      (pss_cons (ps_set (i := 1) scReadValue.nd rfl (Or.inl rfl) (pe_mk kC hr2 T.gCC (pa_cons (pv 0) pa_nil)))
      (pss_cons (ps_set (i := 2) scReadValue.nd rfl (Or.inl rfl) (pe_mk0 kR hr2 T.gCR))
      (pss_cons (ps_expr (pe_def dB hr3 pass0 (pa_cons (pv 1) pa_nil)))
      (pss_cons (ps_while (passes_of rfl) (pt_not (pt_val (pe_met0 mA T.cC hr1 pass0 (pv 1)))) (pss_cons (ps_expr (pe_def dN hr (passes_call (takes_of rfl rfl rfl rfl) (fun _ _ _ _ h => h)) (pa_cons (pv 1) (pa_cons (pv 2) pa_nil)))) (pss_one (ps_expr (pe_def dB hr3 pass0 (pa_cons (pv 1) pa_nil))))))
      (pss_cons (ps_if (pt_cmpR op_ne (pe_fld (pv 2) rfl) (pe_const T.gWANTS_NOTHING) (nomark _)) (pss_one (ps_rn T (takes_of rfl rfl rfl rfl))) pss_nil)
      (pss_one (ps_ret (pe_fld (pv 2) rfl)))))))), ?_⟩
    refine ⟨_, rfl, a, _, rfl, .inl hrow, _, _, rfl, rfl, _, rfl, ?_⟩
    rw [List.length_map]
    unfold readM at kE kQ
    by_cases c1 : 4096 < b.length
    · refine if_t (decide_eq_true (by omega)) ?_
      refine kE ?_ _
      rw [if_pos c1]
    refine if_f (decide_eq_false (by omega)) ?_
    rw [if_neg c1] at kE kQ
    -- Cursor(row)
    refine ⟨_, rfl, fun c dxc hc0 hd0 ncd => ⟨c, dxc, a, rfl, upd_same, rfl, ?_⟩⟩
    rw [upd_upd]
    generalize hH1 : upd (upd H dxc (.own c)) c (cuO CC dxc a 0) = H1
    have s1 : Same H H1 := fun d u hd => by
      rw [← hH1, upd_ne (ne_of_none hd hc0), upd_ne (ne_of_none hd hd0)]
      exact hd
    have hc1 : H1 c = some (cuO CC dxc a 0) := by rw [← hH1]; exact upd_same
    have cu1 : CuAt K CC H1 c a b b := ⟨⟨dxc, 0, hc1, Nat.zero_le _, rfl⟩, s1.seq hrow⟩
    -- Reading()
    intro rd dxr hr0 hdr0 nrd
    refine ⟨rd, dxr, rfl, upd_same, fun H2 l hl0 hR2 hL2 bt => ⟨rfl, ?_⟩⟩
    have hl1 : l ≠ rd := by
      intro z; subst z
      rw [upd_same] at hl0; cases hl0
    rw [upd_ne hl1] at hl0
    have hl2 : l ≠ dxr := by
      intro z; subst z
      rw [upd_same] at hl0; cases hl0
    rw [upd_ne hl2] at hl0
    have s2 : Same H1 H2 := fun d u hd => by
      refine bt d u ?_ (ne_of_none hd hr0)
      rw [upd_ne (ne_of_none hd hr0), upd_ne (ne_of_none hd hdr0)]
      exact hd
    have cu2 := cu1.but s2
    have pr2 : Pr K CC CO CR H2 c a b b rd Rd.fresh [rd, l] := by
      refine ⟨cu2, ⟨dxr, l, .non, [], rfl, ?_, hR2, rfl, hL2, .nil⟩, ?_, ?_⟩
      · simp only [List.nodup_cons, List.mem_cons, List.not_mem_nil, or_false, not_false_eq_true, List.nodup_nil, and_true]
        exact Ne.symm hl1
      · simp only [List.mem_cons, List.not_mem_nil, or_false, not_or]
        exact ⟨ne_of_none hc1 hr0, ne_of_none hc1 hl0⟩
      · rcases hrow with q | q
        · left
          obtain ⟨o, ho⟩ := Rd.some q
          refine ⟨Rd.move q fun o' ho' => s2 _ _ (s1 _ _ ho'), ?_⟩
          simp only [List.mem_cons, List.not_mem_nil, or_false, not_or]
          exact ⟨ne_of_none (s1 _ _ ho) hr0, ne_of_none (s1 _ _ ho) hl0⟩
        · exact .inr q
    refine ⟨_, rfl, c, a, b, b, rfl, cu2, hl, fun H3 cu3 b3 => ?_⟩
    have pr3 := pr2.cur cu3 b3
    have s3 : Same H H3 := fun d u hd => b3 d u (s2 _ _ (s1 _ _ hd)) (ne_of_none hd hc0)
    have hsk := skipB_len b
    refine ⟨fun m σ H' => ∃ r t Fp n, m = r.length ∧ σ = [some (.ref a), some (.ref c), some (.ref rd)] ∧ Pr K CC CO CR H' c a b r rd t Fp ∧ t.Ok ∧ r.length ≤ 5000 ∧ (∀ o ∈ t.st, o.cnt + r.length ≤ 5000) ∧ Same H H' ∧ (∀ d ∈ Fp, H d = none) ∧
        r.length ≤ n ∧ runR n t r = runR b.length Rd.fresh (skipB b), ⟨_, skipB b, Rd.fresh, [rd, l], b.length, rfl, rfl, pr3, Rd.Ok.fresh, by omega, fun o ho => (nomatch ho), s3, ?_, hsk, rfl⟩, ?_⟩
    · intro d hd
      simp only [List.mem_cons, List.not_mem_nil, or_false] at hd
      rcases hd with z | z
      · rw [z]; exact s1.free hr0
      · rw [z]; exact s1.free hl0
    rintro m σ H4 ⟨r, t, Fp, n, rfl, rfl, pr, hok, hr5, hcnt, s4, hF, hn, hrun⟩
    have cu := pr.cu
    obtain ⟨dx, p, hc, hp, e⟩ := cu.ex
    refine ⟨_, rfl, c, dx, _, rfl, hc, cu_atEnd, c, a, b, r, rfl, cu, hl, _, rfl, ?_⟩
    cases r with
    | nil =>
      refine if_f (by rfl) ?_
      obtain ⟨dxr4, l4, wh4, os4, eF4, nd4, hR4, hW4, hL4, hO4⟩ := pr.rd.ex
      have hend : runR b.length Rd.fresh (skipB b) = endR t := by
        rw [← hrun]
        cases n <;> rfl
      rw [hend] at kE kQ
      unfold endR at kE kQ
      refine ⟨_, rfl, rd, CR, dxr4, _, _, rfl, hR4, T.cR, T.nWanted, rd_wanted, rfl, _, rfl, ?_⟩
      by_cases w4 : t.wanted = 4
      · refine if_f (nV_f (by rw [w4]; rfl)) ?_
        rw [if_pos w4] at kQ
        obtain ⟨v, hv⟩ := hok.done w4
        rw [hv] at hW4
        refine ⟨_, rfl, rd, CR, dxr4, _, _, rfl, hR4, T.cR, T.nWhole, rd_whole, ?_⟩
        exact kQ v hv H4 wh4 hW4 s4
      · refine if_t (nV_t (by omega)) ?_
        refine kE ?_ _
        rw [if_neg w4]
    | cons z q =>
      refine if_t (by rfl) ⟨fun σ' H' => σ' = [some (.ref a), some (.ref c), some (.ref rd)] ∧ ∃ t' r' F', stepR t (z :: q) = some (t', r') ∧ Pr K CC CO CR H' c a b (skipB r') rd t' F' ∧ Same H H' ∧ (∀ d ∈ F', H d = none), ?_, ?_⟩
      · rintro σ' H' ⟨rfl, t', r', F', hst, pr', s', hF'⟩
        obtain ⟨l1, l2⟩ := stepR_len (by simp) hst
        have l3 := skipB_len r'
        cases n with
        | zero => exact absurd hn (by simp)
        | succ n =>
          have hrun2 : runR (n + 1) t (z :: q) = runR n t' (skipB r') := by
            show (stepR t (z :: q)).bind _ = _
            rw [hst]
            rfl
          refine ⟨(skipB r').length, by omega, skipB r', t', F', n, rfl, rfl, pr', stepR_ok hok hst, by omega, fun o ho => ?_, s', hF', by simp at hn l1; omega, hrun2.symm.trans hrun⟩
          have := l2 5000 hr5 hcnt o ho
          omega
      · refine ⟨_, rfl, _, rfl, c, a, b, z :: q, rd, t, Fp, rfl, pr, hl, ⟨hok, by simp, hr5, hcnt⟩, fun hno => ?_, fun t' r' hst H5 F' pr5 fr5 gw5 => ?_⟩
        · refine kE ?_
          rw [← hrun]
          cases n with
          | zero => rfl
          | succ n =>
            show (stepR t (z :: q)).bind _ = none
            rw [hno]
            rfl
        · have s5 : Same H H5 := fun d u hd => fr5 d u (s4 _ _ hd) (ne_of_none hd hc0) fun y => by rw [hF d y] at hd; cases hd
          have hF5 : ∀ d ∈ F', H d = none := fun d hd => by
            rcases gw5 d hd with y | y
            · exact hF d y
            · exact s4.free y
          refine ⟨_, rfl, c, a, b, r', rfl, pr5.cu, hl, fun H6 cu6 b6 => ?_⟩
          refine ⟨rfl, t', r', F', hst, pr5.cur cu6 b6, fun d u hd => b6 d u (s5 _ _ hd) (ne_of_none hd hc0), hF5⟩
end
end Vt

namespace Vt
open Kcs7 (Bytes V Key Path bytesOrder insertNew readV readL readR fieldIn fieldOf get1 put put1 putField take1 takeAway there keyOf keysOf keyV same order orderL orderR rank size depth sizeL sizeR Change changeOf changesOf apply1)
/-! ### every record rises -/
mutual
def wf : V → Prop
  | .list l => wfL l
  | .record l => Rises l ∧ wfR l
  | _ => True
def wfL : List V → Prop
  | [] => True
  | x :: l => wf x ∧ wfL l
def wfR : List (Bytes × V) → Prop
  | [] => True
  | (_, x) :: l => wf x ∧ wfR l
end
theorem wfL_iff : ∀ {l : List V}, wfL l ↔ ∀ x ∈ l, wf x
  | [] => by simp [wfL]
  | x :: l => by simp only [wfL, wfL_iff (l := l), List.mem_cons, forall_eq_or_imp]
theorem wfR_iff : ∀ {l : List (Bytes × V)}, wfR l ↔ ∀ x ∈ l, wf x.2
  | [] => by simp [wfR]
  | (n, x) :: l => by simp only [wfR, wfR_iff (l := l), List.mem_cons, forall_eq_or_imp]
theorem wf_reads : ∀ f : Nat, (∀ d t v r, readV f d t = some (v, r) → wf v) ∧ (∀ d t v r, readL f d t = some (v, r) → wfL v) ∧
    (∀ d l t v r, readR f d l t = some (v, r) → Rises l → wfR l → Rises v ∧ wfR v) := by
  intro f
  induction f with
  | zero => exact ⟨fun _ _ _ _ h => by simp [readV] at h, fun _ _ _ _ h => by simp [readL] at h, fun _ _ _ _ _ h => by simp [readR] at h⟩
  | succ f ih =>
    obtain ⟨iV, iL, iR⟩ := ih
    refine ⟨fun d t v r h => ?_, fun d t v r h => ?_, fun d l t v r h hr hw => ?_⟩
    · unfold readV at h
      split at h
      · cases h; simp [wf]
      · split at h <;> cases h
        simp [wf]
      · cases h; simp [wf]
      · split at h
        · cases h; simp [wf]
        · split at h
          · cases h; simp [wf]
          · split at h <;> cases h
            simp [wf]
      · split at h <;> cases h
        simp [wf, wfL]
      · split at h
        · cases h
        · obtain ⟨x, hx, e⟩ := Option.map_eq_some_iff.mp h
          cases e
          simp only [wf]
          exact iL _ _ _ _ hx
      · split at h <;> cases h
        simp [wf, wfR, Rises]
      · split at h
        · cases h
        · obtain ⟨x, hx, e⟩ := Option.map_eq_some_iff.mp h
          cases e
          simp only [wf]
          exact iR _ _ _ _ _ hx List.Pairwise.nil (by simp [wfR])
      · cases h
    · unfold readL at h
      split at h
      · next x r' hx =>
        obtain ⟨y, hy, e⟩ := Option.map_eq_some_iff.mp h
        cases e
        simp only [wfL]
        exact ⟨iV _ _ _ _ hx, iL _ _ _ _ hy⟩
      · next x r' hx =>
        cases h
        simp only [wfL]
        exact ⟨iV _ _ _ _ hx, trivial⟩
      · cases h
    · unfold readR at h
      split at h
      · next n r' =>
        split at h
        · next x c r2 hx =>
          split at h
          · cases h
          · next m hm =>
            obtain ⟨r1, p1⟩ := insertNew_some hr hm
            have w1 : wfR m := wfR_iff.mpr fun z hz => by
              rcases List.mem_cons.mp (p1.mem_iff.mp hz) with e | e
              · rw [e]; exact iV _ _ _ _ hx
              · exact wfR_iff.mp hw z e
            split at h
            · exact iR _ _ _ _ _ h r1 w1
            · split at h <;> cases h
              exact ⟨r1, w1⟩
        · cases h
      · cases h
theorem readM_wf {b : Bytes} {v : V} (h : readM b = some v) : wf v := by
  rw [readM_is] at h
  unfold Kcs7.valueOf Kcs7.read at h
  split at h
  · cases h
  · cases ht : Kcs7.tokensOf b with
    | none => rw [ht] at h; cases h
    | some t =>
      rw [ht] at h
      dsimp only at h
      split at h
      · next w hx =>
        split at h
        · cases h
          exact (wf_reads _).1 _ _ _ _ hx
        · cases h
      · cases h
/-! ### what's there -/
def ent1 : V → Key → Option V
  | .record l, .name n => fieldIn l n
  | .list l, .place k => l[k]?
  | _, _ => none
def ent : V → Path → Option V
  | v, [] => some v
  | v, k :: p => match ent1 v k with
    | none => none
    | some w => ent w p
theorem there_ent : ∀ (p : Path) (v : V), there v p = (ent v p).isSome
  | [], v => by cases v <;> simp [there, ent]
  | k :: p, v => by
    cases v <;> cases k <;> simp only [there, ent, ent1, Option.isSome_none]
    · next l k =>
      cases h : l[k]? with
      | none => rfl
      | some x => exact there_ent p x
    · next l n =>
      unfold fieldIn
      cases h : l.find? (fun x => x.1 == n) with
      | none => rfl
      | some x => exact there_ent p x.2
theorem ent1_get1 {v w : V} {k : Key} (h : ent1 v k = some w) : get1 v k = some w := by
  cases v <;> cases k <;> simp only [ent1] at h <;> try cases h
  · next l k =>
    simp only [get1, List.getD_eq_getElem?_getD, h]
    rfl
  · next l n =>
    unfold fieldIn at h
    simp only [get1, fieldOf, h]
    rfl
theorem ent_get : ∀ {p : Path} {v w : V}, ent v p = some w → Kcs7.get v p = some w
  | [], v, w, h => by cases h; simp [Kcs7.get]
  | k :: p, v, w, h => by
    unfold ent at h
    cases e : ent1 v k with
    | none => rw [e] at h; cases h
    | some u =>
      rw [e] at h
      unfold Kcs7.get
      rw [ent1_get1 e]
      exact ent_get h
/-! ### the same -/
theorem cmp_eq {a b : Int} : compare a b = .eq ↔ a = b := Std.compare_eq_iff_eq
mutual
theorem order_eq : ∀ a b : V, order a b = .eq ↔ a = b
  | .null, b => by
    cases b with
    | bool y => cases y <;> simp [order, rank]
    | _ => simp [order, rank]
  | .bool x, b => by
    cases b with
    | bool y => cases x <;> cases y <;> simp [order, rank]
    | _ => cases x <;> simp [order, rank]
  | .num x, b => by
    cases b with
    | num y => simp only [order, cmp_eq, V.num.injEq]
    | bool y => cases y <;> simp [order, rank]
    | _ => simp [order, rank]
  | .text x, b => by
    cases b with
    | text y => simp only [order, bo_eq, V.text.injEq]
    | bool y => cases y <;> simp [order, rank]
    | _ => simp [order, rank]
  | .list x, b => by
    cases b with
    | list y => simp only [order, orderL_eq x y, V.list.injEq]
    | bool y => cases y <;> simp [order, rank]
    | _ => simp [order, rank]
  | .record x, b => by
    cases b with
    | record y => simp only [order, orderR_eq x y, V.record.injEq]
    | bool y => cases y <;> simp [order, rank]
    | _ => simp [order, rank]
theorem orderL_eq : ∀ x y : List V, orderL x y = .eq ↔ x = y
  | [], [] => by simp [orderL]
  | [], _ :: _ => by simp [orderL]
  | _ :: _, [] => by simp [orderL]
  | a :: x, b :: y => by
    unfold orderL
    cases h : order a b with
    | eq => simp only [orderL_eq x y, List.cons.injEq, (order_eq a b).mp h, true_and]
    | lt =>
      have : a ≠ b := fun e => by rw [(order_eq a b).mpr e] at h; cases h
      simp [this]
    | gt =>
      have : a ≠ b := fun e => by rw [(order_eq a b).mpr e] at h; cases h
      simp [this]
theorem orderR_eq : ∀ x y : List (Bytes × V), orderR x y = .eq ↔ x = y
  | [], [] => by simp [orderR]
  | [], _ :: _ => by simp [orderR]
  | _ :: _, [] => by simp [orderR]
  | (n, a) :: x, (m, b) :: y => by
    unfold orderR
    cases h0 : bytesOrder n m with
    | lt =>
      have : n ≠ m := fun e => by rw [bo_eq.mpr e] at h0; cases h0
      simp [this]
    | gt =>
      have : n ≠ m := fun e => by rw [bo_eq.mpr e] at h0; cases h0
      simp [this]
    | eq =>
      have e0 := bo_eq.mp h0
      cases h : order a b with
      | eq => simp only [orderR_eq x y, List.cons.injEq, Prod.mk.injEq, (order_eq a b).mp h, e0, true_and]
      | lt =>
        have : a ≠ b := fun e => by rw [(order_eq a b).mpr e] at h; cases h
        simp [this]
      | gt =>
        have : a ≠ b := fun e => by rw [(order_eq a b).mpr e] at h; cases h
        simp [this]
end
theorem same_iff {a b : V} : same a b = true ↔ a = b := by
  unfold same
  rw [beq_iff_eq]
  exact order_eq a b
theorem apply1_eq (v : V) (c : Change) : apply1 v c = open Classical in if ent v c.at_ = c.was then (match c.was, c.is_ with
    | none, none => none
    | none, some x => if ent v c.at_.dropLast = none then none else put v c.at_ x
    | some _, none => if c.at_ = [] then none else some (takeAway v c.at_)
    | some _, some x => put v c.at_ x) else none := by
  classical
  obtain ⟨p, w, x⟩ := c
  unfold apply1
  cases w with
  | none =>
    cases x with
    | none => simp
    | some x =>
      simp only [there_ent]
      cases h : ent v p with
      | some u => simp
      | none =>
        cases h2 : ent v p.dropLast with
        | some u => simp
        | none => simp
  | some w =>
    have key : (there v p && (Kcs7.get v p).any (same w)) = decide (ent v p = some w) := by
      rw [there_ent]
      cases h : ent v p with
      | none => simp
      | some u =>
        rw [ent_get h]
        simp only [Option.isSome_some, Bool.true_and, Option.any_some]
        rw [Bool.eq_iff_iff, same_iff, decide_eq_true_eq, Option.some.injEq]
        exact ⟨Eq.symm, Eq.symm⟩
    cases x with
    | none =>
      dsimp only
      rw [key]
      by_cases h : ent v p = some w
      · cases p with
        | nil => simp
        | cons k p => simp [h]
      · simp [h]
    | some x =>
      dsimp only
      rw [key]
      by_cases h : ent v p = some w
      · simp [h]
      · simp [h]
end Vt

namespace Vt
open Kcs7 (Bytes V Key Path bytesOrder fieldIn fieldOf get1 put put1 putField take1 takeAway there size sizeL sizeR)
/-! ### put, as the program puts -/
def canPut : V → Key → Bool
  | .record _, .name _ => true
  | .null, .name _ => true
  | .null, .place k => k == 0
  | .list l, .place k => decide (k ≤ l.length)
  | _, _ => false
def atK (v : V) (k : Key) : V := (ent1 v k).getD .null
def innerR : V → List (Bytes × V)
  | .record l => l
  | _ => []
def innerL : V → List V
  | .list l => l
  | _ => []
def withF (l : List (Bytes × V)) (n : Bytes) (x : V) : List (Bytes × V) := l.filter (fun f => bytesOrder f.1 n == .lt) ++ [(n, x)] ++ l.filter (fun f => bytesOrder n f.1 == .lt)
def putE (v : V) (k : Key) (x : V) : V := match k with
  | .name n => .record (withF (innerR v) n x)
  | .place k => .list ((innerL v).take k ++ [x] ++ (innerL v).drop (k + 1))
def woE (v : V) (k : Key) : V := match k with
  | .name n => .record ((innerR v).filter fun f => f.1 != n)
  | .place k => .list ((innerL v).take k ++ (innerL v).drop (k + 1))
theorem withF_put : ∀ {l : List (Bytes × V)} {n : Bytes} {x : V}, Rises l → withF l n x = putField n x l
  | [], n, x, _ => rfl
  | (m, y) :: l, n, x, h => by
    obtain ⟨h1, h2⟩ := List.pairwise_cons.mp h
    unfold putField
    cases e : bytesOrder n m with
    | lt =>
      dsimp only
      have a : ∀ f ∈ (m, y) :: l, bytesOrder n f.1 = .lt := fun f hf => by
        rcases List.mem_cons.mp hf with z | z
        · rw [z]; exact e
        · exact bo_trans e (h1 f z)
      unfold withF
      rw [List.filter_eq_nil_iff.mpr fun f hf => by
          have := a f hf
          rw [beq_iff_eq]
          intro z
          exact bo_irrefl (bo_trans z this), List.filter_eq_self.mpr fun f hf => by rw [a f hf]; rfl]
      rfl
    | eq =>
      dsimp only
      have e' := bo_eq.mp e
      subst e'
      have a : ∀ f ∈ l, bytesOrder n f.1 = .lt := fun f hf => h1 f hf
      unfold withF
      rw [List.filter_cons_of_neg (by simp [e]), List.filter_cons_of_neg (by simp [e]), List.filter_eq_nil_iff.mpr fun f hf => by
          have := a f hf
          rw [beq_iff_eq]
          intro z
          exact bo_irrefl (bo_trans z this), List.filter_eq_self.mpr fun f hf => by rw [a f hf]; rfl]
      rfl
    | gt =>
      dsimp only
      have e' := bo_gt.mp e
      rw [← withF_put h2]
      unfold withF
      rw [List.filter_cons_of_pos (by simp [e']), List.filter_cons_of_neg (by rw [e]; decide)]
      rfl
theorem putField_mem : ∀ {l : List (Bytes × V)} {n : Bytes} {x : V} {f : Bytes × V}, f ∈ putField n x l → f = (n, x) ∨ f ∈ l
  | [], n, x, f, h => by simp [putField] at h; exact .inl h
  | (m, y) :: l, n, x, f, h => by
    unfold putField at h
    split at h
    · rcases List.mem_cons.mp h with z | z
      · exact .inl z
      · exact .inr z
    · rcases List.mem_cons.mp h with z | z
      · exact .inl z
      · exact .inr (List.mem_cons_of_mem _ z)
    · rcases List.mem_cons.mp h with z | z
      · exact .inr (by rw [z]; exact List.mem_cons_self)
      · rcases putField_mem z with u | u
        · exact .inl u
        · exact .inr (List.mem_cons_of_mem _ u)
theorem putField_rises : ∀ {l : List (Bytes × V)} {n : Bytes} {x : V}, Rises l → Rises (putField n x l)
  | [], n, x, _ => by simp [putField]
  | (m, y) :: l, n, x, h => by
    obtain ⟨h1, h2⟩ := List.pairwise_cons.mp h
    unfold putField
    split
    · next e =>
      refine List.pairwise_cons.mpr ⟨fun f hf => ?_, h⟩
      rcases List.mem_cons.mp hf with z | z
      · rw [z]; exact e
      · exact bo_trans e (h1 f z)
    · next e =>
      have e' := bo_eq.mp e
      subst e'
      exact List.pairwise_cons.mpr ⟨h1, h2⟩
    · next e =>
      refine List.pairwise_cons.mpr ⟨fun f hf => ?_, putField_rises h2⟩
      rcases putField_mem hf with z | z
      · rw [z]; exact bo_gt.mp e
      · exact h1 f z
theorem take_set : ∀ {l : List V} {k : Nat} {x : V}, k < l.length → l.set k x = l.take k ++ [x] ++ l.drop (k + 1)
  | [], _, _, h => absurd h (by simp)
  | y :: l, 0, x, _ => rfl
  | y :: l, k + 1, x, h => by
    rw [List.set_cons_succ, take_set (by simpa using h)]
    rfl
theorem wf_R {v : V} (h : wf v) : Rises (innerR v) ∧ wfR (innerR v) := by
  cases v <;> simp only [innerR, wf] at * <;> first | exact h | exact ⟨List.Pairwise.nil, by simp [wfR]⟩
theorem wf_L {v : V} (h : wf v) : wfL (innerL v) := by
  cases v <;> simp only [innerL, wf] at * <;> first | exact h | simp [wfL]
theorem put1_eq {v : V} {k : Key} {x : V} (h : wf v) : put1 v k x = if canPut v k = true then some (putE v k x) else none := by
  have hr := (wf_R h).1
  cases k with
  | name n =>
    cases v <;> simp only [put1, canPut, putE, innerR, if_true, Bool.false_eq_true, if_false] at *
    · rfl
    · rw [withF_put hr]
  | place k =>
    cases v <;> simp only [put1, canPut, putE, innerL, Bool.false_eq_true, if_false, beq_iff_eq, decide_eq_true_eq]
    · by_cases e : k = 0
      · rw [if_pos e, if_pos e, e]; rfl
      · rw [if_neg e, if_neg e]
    · next l =>
      by_cases e : k < l.length
      · rw [if_pos e, if_pos (by omega), take_set e]
      · rw [if_neg e]
        by_cases e2 : k = l.length
        · rw [if_pos e2, if_pos (by omega), e2, List.take_length, List.drop_eq_nil_of_le (by omega), List.append_nil]
        · rw [if_neg e2, if_neg (by omega)]
theorem canPut_get1 {v : V} {k : Key} (h : canPut v k = true) : get1 v k = some (atK v k) := by
  unfold atK
  cases k with
  | name n =>
    cases v <;> simp only [canPut, Bool.false_eq_true] at h
    · rfl
    · rfl
  | place k =>
    cases v <;> simp only [canPut, Bool.false_eq_true] at h
    · rfl
    · simp only [get1, ent1, List.getD_eq_getElem?_getD]
theorem ent1_canPut {v w : V} {k : Key} (h : ent1 v k = some w) : canPut v k = true ∧ atK v k = w := by
  refine ⟨?_, by unfold atK; rw [h]; rfl⟩
  cases k <;> cases v <;> simp only [ent1, reduceCtorEq] at h <;> simp only [canPut]
  rw [decide_eq_true_eq]
  have := (List.getElem?_eq_some_iff.mp h).1
  omega
theorem fieldIn_mem {l : List (Bytes × V)} {n : Bytes} {x : V} (h : fieldIn l n = some x) : (n, x) ∈ l := by
  unfold fieldIn at h
  obtain ⟨f, hf, e⟩ := Option.map_eq_some_iff.mp h
  have h1 := List.mem_of_find?_eq_some hf
  have h2 := List.find?_some hf
  rw [beq_iff_eq] at h2
  rw [← h2, ← e]
  exact h1
theorem ent1_wf {v w : V} {k : Key} (hv : wf v) (h : ent1 v k = some w) : wf w := by
  cases k <;> cases v <;> simp only [ent1, reduceCtorEq] at h
  · next n l =>
    simp only [wf] at hv
    exact wfR_iff.mp hv.2 _ (fieldIn_mem h)
  · next k l =>
    simp only [wf] at hv
    exact wfL_iff.mp hv _ (List.mem_of_getElem? h)
theorem atK_wf {v : V} {k : Key} (hv : wf v) : wf (atK v k) := by
  unfold atK
  cases h : ent1 v k with
  | none => simp [wf]
  | some w => exact ent1_wf hv h
theorem putE_wf {v x : V} {k : Key} (hv : wf v) (hx : wf x) : wf (putE v k x) := by
  cases k with
  | name n =>
    obtain ⟨h1, h2⟩ := wf_R hv
    simp only [putE, wf]
    rw [withF_put h1]
    refine ⟨putField_rises h1, wfR_iff.mpr fun f hf => ?_⟩
    rcases putField_mem hf with z | z
    · rw [z]; exact hx
    · exact wfR_iff.mp h2 f z
  | place k =>
    simp only [putE, wf]
    refine wfL_iff.mpr fun y hy => ?_
    have hl := wfL_iff.mp (wf_L hv)
    rcases List.mem_append.mp hy with z | z
    · rcases List.mem_append.mp z with z | z
      · exact hl y (List.mem_of_mem_take z)
      · rw [List.mem_singleton.mp z]; exact hx
    · exact hl y (List.mem_of_mem_drop z)
theorem woE_wf {v : V} {k : Key} (hv : wf v) : wf (woE v k) := by
  cases k with
  | name n =>
    obtain ⟨h1, h2⟩ := wf_R hv
    simp only [woE, wf]
    exact ⟨h1.filter _, wfR_iff.mpr fun f hf => wfR_iff.mp h2 f (List.mem_filter.mp hf).1⟩
  | place k =>
    simp only [woE, wf]
    refine wfL_iff.mpr fun y hy => ?_
    have hl := wfL_iff.mp (wf_L hv)
    rcases List.mem_append.mp hy with z | z
    · exact hl y (List.mem_of_mem_take z)
    · exact hl y (List.mem_of_mem_drop z)
/-! ### the same of numbers -/
theorem nokL_iff : ∀ {l : List V}, nokL l ↔ ∀ x ∈ l, nok x
  | [] => by simp [nokL]
  | x :: l => by simp only [nokL, nokL_iff (l := l), List.mem_cons, forall_eq_or_imp]
theorem nokR_iff : ∀ {l : List (Bytes × V)}, nokR l ↔ ∀ x ∈ l, nok x.2
  | [] => by simp [nokR]
  | (n, x) :: l => by simp only [nokR, nokR_iff (l := l), List.mem_cons, forall_eq_or_imp]
theorem nok_R {v : V} (h : nok v) : nokR (innerR v) := by
  cases v <;> simp only [innerR, nok] at * <;> first | exact h | simp [nokR]
theorem nok_L {v : V} (h : nok v) : nokL (innerL v) := by
  cases v <;> simp only [innerL, nok] at * <;> first | exact h | simp [nokL]
theorem ent1_nok {v w : V} {k : Key} (hv : nok v) (h : ent1 v k = some w) : nok w := by
  cases k <;> cases v <;> simp only [ent1, reduceCtorEq] at h
  · next n l =>
    simp only [nok] at hv
    exact nokR_iff.mp hv _ (fieldIn_mem h)
  · next k l =>
    simp only [nok] at hv
    exact nokL_iff.mp hv _ (List.mem_of_getElem? h)
theorem atK_nok {v : V} {k : Key} (hv : nok v) : nok (atK v k) := by
  unfold atK
  cases h : ent1 v k with
  | none => simp [nok]
  | some w => exact ent1_nok hv h
theorem putE_nok {v x : V} {k : Key} (hv : nok v) (hx : nok x) : nok (putE v k x) := by
  cases k with
  | name n =>
    have h2 := nokR_iff.mp (nok_R hv)
    simp only [putE, nok]
    refine nokR_iff.mpr fun f hf => ?_
    unfold withF at hf
    rcases List.mem_append.mp hf with z | z
    · rcases List.mem_append.mp z with z | z
      · exact h2 f (List.mem_filter.mp z).1
      · rw [List.mem_singleton.mp z]; exact hx
    · exact h2 f (List.mem_filter.mp z).1
  | place k =>
    simp only [putE, nok]
    refine nokL_iff.mpr fun y hy => ?_
    have hl := nokL_iff.mp (nok_L hv)
    rcases List.mem_append.mp hy with z | z
    · rcases List.mem_append.mp z with z | z
      · exact hl y (List.mem_of_mem_take z)
      · rw [List.mem_singleton.mp z]; exact hx
    · exact hl y (List.mem_of_mem_drop z)
theorem woE_nok {v : V} {k : Key} (hv : nok v) : nok (woE v k) := by
  cases k with
  | name n =>
    have h2 := nokR_iff.mp (nok_R hv)
    simp only [woE, nok]
    exact nokR_iff.mpr fun f hf => h2 f (List.mem_filter.mp hf).1
  | place k =>
    simp only [woE, nok]
    refine nokL_iff.mpr fun y hy => ?_
    have hl := nokL_iff.mp (nok_L hv)
    rcases List.mem_append.mp hy with z | z
    · exact hl y (List.mem_of_mem_take z)
    · exact hl y (List.mem_of_mem_drop z)
/-! ### along a row of keys -/
def hs : V → Path → List V
  | _, [] => []
  | v, k :: p => v :: hs (atK v k) p
def atP : V → Path → V
  | v, [] => v
  | v, k :: p => atP (atK v k) p
def allPut : V → Path → Bool
  | _, [] => true
  | v, k :: p => canPut v k && allPut (atK v k) p
def bu : List V → Path → V → V
  | [], _, x => x
  | _ :: _, [], x => x
  | h :: hs, k :: ks, x => putE h k (bu hs ks x)
theorem hs_len : ∀ (p : Path) (v : V), (hs v p).length = p.length
  | [], _ => rfl
  | k :: p, v => congrArg (· + 1) (hs_len p (atK v k))
theorem bu_wf : ∀ (l : List V) (p : Path) {x : V}, (∀ h ∈ l, wf h) → wf x → wf (bu l p x)
  | [], _, _, _, hx => hx
  | _ :: _, [], _, _, hx => hx
  | h :: l, k :: p, x, hl, hx => putE_wf (hl h List.mem_cons_self) (bu_wf l p (fun y hy => hl y (List.mem_cons_of_mem _ hy)) hx)
theorem bu_nok : ∀ (l : List V) (p : Path) {x : V}, (∀ h ∈ l, nok h) → nok x → nok (bu l p x)
  | [], _, _, _, hx => hx
  | _ :: _, [], _, _, hx => hx
  | h :: l, k :: p, x, hl, hx => putE_nok (hl h List.mem_cons_self) (bu_nok l p (fun y hy => hl y (List.mem_cons_of_mem _ hy)) hx)
theorem hs_wf : ∀ (p : Path) {v : V}, wf v → ∀ h ∈ hs v p, wf h
  | [], _, _, h, hh => nomatch hh
  | k :: p, v, hv, h, hh => by
    rcases List.mem_cons.mp hh with z | z
    · rw [z]; exact hv
    · exact hs_wf p (atK_wf hv) h z
theorem hs_nok : ∀ (p : Path) {v : V}, nok v → ∀ h ∈ hs v p, nok h
  | [], _, _, h, hh => nomatch hh
  | k :: p, v, hv, h, hh => by
    rcases List.mem_cons.mp hh with z | z
    · rw [z]; exact hv
    · exact hs_nok p (atK_nok hv) h z
theorem put_bu : ∀ {p : Path} {v x : V}, wf v → put v p x = if allPut v p = true then some (bu (hs v p) p x) else none
  | [], v, x, _ => by simp [put, allPut, hs, bu]
  | k :: p, v, x, h => by
    unfold put allPut
    cases c : canPut v k with
    | true =>
      rw [canPut_get1 c]
      simp only [Option.bind_some, Bool.true_and]
      rw [put_bu (atK_wf h)]
      by_cases a : allPut (atK v k) p = true
      · rw [if_pos a, if_pos a]
        simp only [Option.bind_some]
        rw [put1_eq h, if_pos c]
        rfl
      · rw [if_neg a, if_neg a]
        rfl
    | false =>
      simp only [Bool.false_and, Bool.false_eq_true, if_false]
      cases g : get1 v k with
      | none => rfl
      | some w =>
        simp only [Option.bind_some]
        cases put w p x with
        | none => rfl
        | some y =>
          simp only [Option.bind_some]
          rw [put1_eq h, c]
          rfl
theorem ent_hs : ∀ {p : Path} {v w : V}, ent v p = some w → allPut v p = true ∧ atP v p = w
  | [], v, w, h => by cases h; exact ⟨rfl, rfl⟩
  | k :: p, v, w, h => by
    unfold ent at h
    cases e : ent1 v k with
    | none => rw [e] at h; cases h
    | some u =>
      rw [e] at h
      obtain ⟨c, a⟩ := ent1_canPut e
      unfold allPut atP
      rw [c, a]
      exact ent_hs h
/-- the last holder, the last key -/
theorem take_bu : ∀ {p : Path} {v w : V} {k : Key}, wf v → ent v (p ++ [k]) = some w → takeAway v (p ++ [k]) = bu (hs v p) (p ++ [k]) (woE (atP v p) k)
  | [], v, w, k, h, e => by
    have e' : ∃ u, ent1 v k = some u := by
      have e2 : ent v [k] = some w := e
      unfold ent at e2
      cases e3 : ent1 v k with
      | none => rw [e3] at e2; cases e2
      | some u => exact ⟨u, rfl⟩
    obtain ⟨u, e'⟩ := e'
    show takeAway v [k] = woE v k
    have t : takeAway v [k] = take1 v k := by
      cases v <;> simp [takeAway]
    rw [t]
    cases k <;> cases v <;> simp only [ent1, reduceCtorEq] at e'
    · rfl
    · next k l =>
      simp only [take1, woE, innerL]
      rw [List.eraseIdx_eq_take_drop_succ]
  | j :: p, v, w, k, h, e => by
    have e1 : ent v (j :: (p ++ [k])) = some w := e
    have th : there v (j :: (p ++ [k])) = true := by rw [there_ent, e1]; rfl
    unfold ent at e1
    cases e3 : ent1 v j with
    | none => rw [e3] at e1; cases e1
    | some u =>
      rw [e3] at e1
      obtain ⟨c, a⟩ := ent1_canPut e3
      have ih := take_bu (ent1_wf h e3) e1
      obtain ⟨l, q, hq⟩ : ∃ l q, p ++ [k] = l :: q := by
        cases p with
        | nil => exact ⟨k, [], rfl⟩
        | cons l p => exact ⟨l, p ++ [k], rfl⟩
      show takeAway v (j :: (p ++ [k])) = putE v j (bu (hs (atK v j) p) (p ++ [k]) (woE (atP (atK v j) p) k))
      rw [a, ← ih]
      rw [hq] at th ⊢
      conv => lhs; unfold takeAway
      rw [if_pos th, ent1_get1 e3]
      dsimp only
      rw [put1_eq h, if_pos c]
      rfl
end Vt

namespace Vt
open Kcs7 (Bytes V Key Path bytesOrder fieldIn put putField takeAway keyOf keysOf keyV size sizeL sizeR depth depthL depthR Change changeOf changesOf apply1)
/-! ### sizes -/
def kw : Key → Nat
  | .name n => 1 + n.length
  | .place _ => 1
def pwt (p : Path) : Nat := (p.map kw).sum
theorem size_pos (v : V) : 1 ≤ size v := by cases v <;> simp [size]
theorem sizeL_app : ∀ (a b : List V), sizeL (a ++ b) = sizeL a + sizeL b
  | [], b => by simp [sizeL]
  | x :: a, b => by simp only [List.cons_append, sizeL, sizeL_app a b]; omega
theorem fieldIn_nil {n : Bytes} : fieldIn [] n = none := rfl
theorem fieldIn_cons {m n : Bytes} {y : V} {l : List (Bytes × V)} : fieldIn ((m, y) :: l) n = if m = n then some y else fieldIn l n := by
  unfold fieldIn
  by_cases e : m = n
  · rw [List.find?_cons_of_pos (by simpa using e), if_pos e]; rfl
  · rw [List.find?_cons_of_neg (by simpa using e), if_neg e]
theorem fieldIn_none {n : Bytes} : ∀ {l : List (Bytes × V)}, (∀ f ∈ l, f.1 ≠ n) → fieldIn l n = none
  | [], _ => rfl
  | (m, y) :: l, h => by
    rw [fieldIn_cons, if_neg (h (m, y) List.mem_cons_self)]
    exact fieldIn_none fun f hf => h f (List.mem_cons_of_mem _ hf)
theorem sizeR_putField {n : Bytes} {x : V} : ∀ {l : List (Bytes × V)}, Rises l → sizeR (putField n x l) + size ((fieldIn l n).getD .null) ≤ sizeR l + size x + (1 + n.length)
  | [], _ => by simp only [putField, sizeR, fieldIn_nil, Option.getD_none, size]; omega
  | (m, y) :: l, h => by
    obtain ⟨h1, h2⟩ := List.pairwise_cons.mp h
    unfold putField
    rw [fieldIn_cons]
    cases e : bytesOrder n m with
    | lt =>
      have hne : m ≠ n := fun z => by rw [z] at e; exact bo_irrefl e
      rw [if_neg hne, fieldIn_none fun f hf z => by
        have := bo_trans e (h1 f hf)
        rw [z] at this
        exact bo_irrefl this]
      simp only [sizeR, Option.getD_none, size]
      omega
    | eq =>
      have e' := bo_eq.mp e
      rw [if_pos e'.symm]
      simp only [sizeR, Option.getD_some]
      omega
    | gt =>
      have hne : m ≠ n := fun z => by rw [z, bo_eq.mpr rfl] at e; cases e
      rw [if_neg hne]
      have ih := sizeR_putField (n := n) (x := x) h2
      simp only [sizeR]
      omega
theorem size_putE {v x : V} {k : Key} (hw : wf v) (c : canPut v k = true) : size (putE v k x) + size (atK v k) ≤ size v + size x + kw k := by
  cases k with
  | name n =>
    have h := sizeR_putField (n := n) (x := x) (wf_R hw).1
    simp only [putE, size, kw]
    rw [withF_put (wf_R hw).1]
    cases v <;> simp only [canPut, Bool.false_eq_true] at c
    · simp only [innerR, sizeR, fieldIn_nil, Option.getD_none, size, putField] at h
      simp only [innerR, putField, sizeR, atK, ent1, Option.getD_none, size]
      omega
    · next l =>
      simp only [innerR] at h ⊢
      simp only [atK, ent1, size]
      omega
  | place k =>
    simp only [putE, size, kw]
    cases v <;> simp only [canPut, Bool.false_eq_true] at c
    · simp only [innerL, sizeL_app, sizeL, atK, ent1, Option.getD_none, size, List.take_nil, List.drop_nil]
      omega
    · next l =>
      have c' := of_decide_eq_true c
      simp only [innerL, sizeL_app, sizeL, atK, ent1, size]
      by_cases e : k < l.length
      · have h1 : l = l.take k ++ l[k] :: l.drop (k + 1) := by
          rw [← List.drop_eq_getElem_cons e, List.take_append_drop]
        have h2 := congrArg sizeL h1
        rw [sizeL_app, sizeL] at h2
        rw [List.getElem?_eq_getElem e, Option.getD_some]
        omega
      · have e2 : k = l.length := by omega
        rw [List.getElem?_eq_none (by omega), List.take_of_length_le (by omega), List.drop_eq_nil_of_le (by omega)]
        simp only [sizeL, Option.getD_none, size]
        omega
theorem size_woE {v : V} {k : Key} : size (woE v k) ≤ size v := by
  have hp := size_pos v
  cases k with
  | name n =>
    have fl : ∀ l : List (Bytes × V), sizeR (l.filter fun f => f.1 != n) ≤ sizeR l := fun l => by
      induction l with
      | nil => exact Nat.le_refl _
      | cons f l ih =>
        obtain ⟨m, y⟩ := f
        rw [List.filter_cons]
        split
        · simp only [sizeR]; omega
        · simp only [sizeR]; omega
    cases v <;> simp only [woE, innerR, size, List.filter_nil, sizeR] at * <;> try omega
    next l =>
    have := fl l
    omega
  | place k =>
    cases v <;> simp only [woE, innerL, size, List.take_nil, List.drop_nil, List.append_nil, sizeL] at * <;> try omega
    next l =>
    rw [sizeL_app]
    have h1 := congrArg sizeL (List.take_append_drop k l)
    rw [sizeL_app] at h1
    have h2 : sizeL (l.drop (k + 1)) ≤ sizeL (l.drop k) := by
      rw [← List.drop_drop]
      cases l.drop k with
      | nil => exact Nat.le_refl _
      | cons x r => simp only [List.drop_one, List.tail_cons, sizeL]; omega
    omega
theorem size_bu {q : Path} {x : V} : ∀ {p : Path} {v : V}, wf v → allPut v p = true → size (bu (hs v p) (p ++ q) x) + size (atP v p) ≤ size v + size x + pwt p
  | [], v, _, _ => by simp [hs, bu, atP, pwt]; omega
  | k :: p, v, hv, ha => by
    unfold allPut at ha
    rw [Bool.and_eq_true] at ha
    have h1 := size_putE (x := bu (hs (atK v k) p) (p ++ q) x) hv ha.1
    have h2 := size_bu (q := q) (x := x) (p := p) (atK_wf (k := k) hv) ha.2
    have e1 : bu (hs v (k :: p)) (k :: p ++ q) x = putE v k (bu (hs (atK v k) p) (p ++ q) x) := rfl
    have e2 : pwt (k :: p) = kw k + pwt p := by simp [pwt]
    have e3 : atP v (k :: p) = atP (atK v k) p := rfl
    rw [e1, e2, e3]
    omega
/-! ### what a change is -/
def osz : Option V → Nat
  | none => 0
  | some v => size v
def cwt (c : Change) : Nat := pwt c.at_ + osz c.was + osz c.is_
def ook (o : Option V) : Prop := ∀ v, o = some v → wf v ∧ nok v ∧ depth v ≤ 40
def cok (c : Change) : Prop := ook c.was ∧ ook c.is_
theorem atP_wf : ∀ {p : Path} {v : V}, wf v → wf (atP v p)
  | [], _, h => h
  | k :: p, _, h => atP_wf (p := p) (atK_wf h)
theorem atP_nok : ∀ {p : Path} {v : V}, nok v → nok (atP v p)
  | [], _, h => h
  | k :: p, _, h => atP_nok (p := p) (atK_nok h)
theorem apply1_ok {v w : V} {c : Change} (hv : wf v) (hn : nok v) (hc : cok c) (h : apply1 v c = some w) : wf w ∧ nok w ∧ size w ≤ size v + cwt c := by
  have put_case : ∀ x, c.is_ = some x → put v c.at_ x = some w → wf w ∧ nok w ∧ size w ≤ size v + cwt c := by
    intro x hx hp
    obtain ⟨hx1, hx2, _⟩ := hc.2 x hx
    rw [put_bu hv] at hp
    split at hp
    · next a =>
      cases hp
      refine ⟨bu_wf _ _ (hs_wf _ hv) hx1, bu_nok _ _ (hs_nok _ hn) hx2, ?_⟩
      have := size_bu (q := []) (x := x) hv a
      rw [List.append_nil] at this
      unfold cwt
      rw [hx]
      simp only [osz]
      omega
    · cases hp
  classical
  rw [apply1_eq] at h
  split at h
  · next he =>
    cases hw : c.was with
    | none =>
      cases hi : c.is_ with
      | none => rw [hw, hi] at h; cases h
      | some x =>
        rw [hw, hi] at h
        dsimp only at h
        split at h
        · cases h
        · exact put_case x hi h
    | some u =>
      cases hi : c.is_ with
      | some x =>
        rw [hw, hi] at h
        exact put_case x hi h
      | none =>
        rw [hw, hi] at h
        dsimp only at h
        split at h
        · cases h
        · next hne =>
          cases h
          rw [hw] at he
          obtain ⟨p, k, hp⟩ : ∃ p k, c.at_ = p ++ [k] := by
            rcases List.eq_nil_or_concat c.at_ with z | ⟨p, k, z⟩
            · exact absurd z hne
            · exact ⟨p, k, by rw [z, List.concat_eq_append]⟩
          rw [hp] at he ⊢
          rw [take_bu hv he]
          refine ⟨bu_wf _ _ (hs_wf _ hv) (woE_wf (atP_wf hv)), bu_nok _ _ (hs_nok _ hn) (woE_nok (atP_nok hn)), ?_⟩
          have a := (ent_hs he).1
          have a' : allPut v p = true := by
            clear he hp hne hw hi put_case hn
            induction p generalizing v with
            | nil => rfl
            | cons j p ih =>
              have a2 : allPut v (j :: (p ++ [k])) = true := a
              unfold allPut at a2 ⊢
              rw [Bool.and_eq_true] at a2 ⊢
              exact ⟨a2.1, ih (atK_wf hv) a2.2⟩
          have := size_bu (q := [k]) (x := woE (atP v p) k) hv a'
          have h2 := size_woE (v := atP v p) (k := k)
          have h3 : pwt (p ++ [k]) = pwt p + kw k := by simp [pwt]
          unfold cwt
          rw [hp, h3]
          omega
  · cases h
/-! ### changes read off a value -/
theorem keysOf_size : ∀ {l : List V} {p : Path}, keysOf l = some p → pwt p = sizeL l ∧ l = p.map keyV
  | [], p, h => by cases h; exact ⟨rfl, rfl⟩
  | x :: l, p, h => by
    unfold keysOf at h
    cases hx : keyOf x with
    | none => rw [hx] at h; cases h
    | some k =>
      rw [hx] at h
      simp only [Option.bind_some] at h
      obtain ⟨q, hq, rfl⟩ := Option.map_eq_some_iff.mp h
      obtain ⟨a, b⟩ := keysOf_size hq
      have e : kw k = size x ∧ x = keyV k := by
        cases x <;> simp only [keyOf, reduceCtorEq] at hx
        · next n =>
          split at hx
          · cases hx
            refine ⟨by simp [kw, size], ?_⟩
            simp only [keyV]
            rw [Int.toNat_of_nonneg (by assumption)]
          · cases hx
        · cases hx
          exact ⟨by simp [kw, size], rfl⟩
      rw [List.map_cons, ← b, ← e.2]
      refine ⟨?_, rfl⟩
      simp only [pwt, List.map_cons, List.sum_cons, sizeL] at a ⊢
      omega
theorem three_sizes {a b c : Bytes} (h1 : a ≠ b) (h2 : a ≠ c) (h3 : b ≠ c) : ∀ l : List (Bytes × V), osz (fieldIn l a) + osz (fieldIn l b) + osz (fieldIn l c) ≤ sizeR l
  | [] => by simp [fieldIn_nil, osz, sizeR]
  | (m, y) :: l => by
    have ih := three_sizes h1 h2 h3 l
    rw [fieldIn_cons, fieldIn_cons, fieldIn_cons]
    simp only [sizeR]
    by_cases e1 : m = a
    · subst e1
      rw [if_pos rfl, if_neg h1, if_neg h2]
      simp only [osz] at ih ⊢
      omega
    · rw [if_neg e1]
      by_cases e2 : m = b
      · subst e2
        rw [if_pos rfl, if_neg h3]
        simp only [osz] at ih ⊢
        omega
      · rw [if_neg e2]
        by_cases e3 : m = c
        · rw [if_pos e3]
          simp only [osz] at ih ⊢
          omega
        · rw [if_neg e3]
          omega
theorem depthR_mem : ∀ {l : List (Bytes × V)} {f : Bytes × V}, f ∈ l → depth f.2 ≤ depthR l
  | (m, y) :: l, f, h => by
    simp only [depthR]
    rcases List.mem_cons.mp h with z | z
    · rw [z]; exact Nat.le_max_left _ _
    · exact Nat.le_trans (depthR_mem z) (Nat.le_max_right _ _)
theorem depthL_mem : ∀ {l : List V} {x : V}, x ∈ l → depth x ≤ depthL l
  | y :: l, x, h => by
    simp only [depthL]
    rcases List.mem_cons.mp h with z | z
    · rw [z]; exact Nat.le_max_left _ _
    · exact Nat.le_trans (depthL_mem z) (Nat.le_max_right _ _)
theorem changeOf_ok {u : V} {c : Change} (hw : wf u) (hn : nok u) (hd : depth u ≤ 40) (h : changeOf u = some c) : cok c ∧ cwt c ≤ size u := by
  cases u <;> simp only [changeOf, reduceCtorEq] at h
  next l =>
  split at h
  · next p hp =>
    split at h
    · obtain ⟨q, hq, rfl⟩ := Option.map_eq_some_iff.mp h
      have ok : ∀ n, ook (fieldIn l n) := fun n v hv => by
        have hm := fieldIn_mem hv
        simp only [wf] at hw
        simp only [nok] at hn
        simp only [depth] at hd
        have := depthR_mem hm
        exact ⟨wfR_iff.mp hw.2 _ hm, nokR_iff.mp hn _ hm, by show depth v ≤ 40; have : depth v ≤ depthR l := this; omega⟩
      refine ⟨⟨ok _, ok _⟩, ?_⟩
      have h3 := three_sizes (a := Kcs7.at_) (b := Kcs7.was) (c := Kcs7.is_) (by decide +kernel) (by decide +kernel) (by decide +kernel) l
      rw [hp] at h3
      have h4 := (keysOf_size hq).1
      simp only [cwt, osz, size] at h3 ⊢
      omega
    · cases h
  · cases h
theorem changesOf_ok : ∀ {l : List V} {cs : List Change}, wfL l → nokL l → (∀ x ∈ l, depth x ≤ 40) → changesOf l = some cs → (∀ c ∈ cs, cok c) ∧ (cs.map cwt).sum ≤ sizeL l ∧ cs.length = l.length
  | [], cs, _, _, _, h => by
    cases h
    exact ⟨fun c hc => (nomatch hc), by simp [sizeL], rfl⟩
  | x :: l, cs, hw, hn, hd, h => by
    unfold changesOf at h
    cases hx : changeOf x with
    | none => rw [hx] at h; cases h
    | some c =>
      rw [hx] at h
      simp only [Option.bind_some] at h
      obtain ⟨cs', hc, rfl⟩ := Option.map_eq_some_iff.mp h
      simp only [wfL] at hw
      simp only [nokL] at hn
      obtain ⟨a, b, d⟩ := changesOf_ok hw.2 hn.2 (fun y hy => hd y (List.mem_cons_of_mem _ hy)) hc
      obtain ⟨a1, b1⟩ := changeOf_ok hw.1 hn.1 (hd x List.mem_cons_self) hx
      refine ⟨fun z hz => ?_, ?_, by simp [d]⟩
      · rcases List.mem_cons.mp hz with e | e
        · rw [e]; exact a1
        · exact a z e
      · rw [List.map_cons, List.sum_cons]
        simp only [sizeL]
        omega
end Vt

namespace Vt
open Kcs7 (Bytes V Key Path bytesOrder fieldIn putField merge namesOf same size sizeL sizeR depth depthL depthR Change diff differences)
/-! ### what differs, part by part -/
theorem fm_congr {α β : Type} {f g : α → List β} : ∀ {l : List α}, (∀ x ∈ l, f x = g x) → l.flatMap f = l.flatMap g
  | [], _ => rfl
  | a :: l, h => by
    rw [List.flatMap_cons, List.flatMap_cons, h a List.mem_cons_self, fm_congr fun x hx => h x (List.mem_cons_of_mem _ hx)]
theorem diff_fuel : ∀ (f g : Nat) (p : Path) (a b : V), depth a < f → depth a < g → diff f p a b = diff g p a b
  | 0, _, _, _, _, h, _ => absurd h (Nat.not_lt_zero _)
  | _ + 1, 0, _, _, _, _, h => absurd h (Nat.not_lt_zero _)
  | f + 1, g + 1, p, a, b, hf, hg => by
    unfold diff
    by_cases hs : same a b = true
    · rw [if_pos hs, if_pos hs]
    rw [if_neg hs, if_neg hs]
    cases a with
    | record x =>
      cases b with
      | record y =>
        dsimp only
        refine congrArg (fun h => List.flatMap h (namesOf x y)) (funext fun n => ?_)
        cases hx : x.find? (fun z => z.1 == n) with
        | none => cases y.find? (fun z => z.1 == n) <;> rfl
        | some u =>
          cases y.find? (fun z => z.1 == n) with
          | none => rfl
          | some v =>
            dsimp only
            have := depthR_mem (List.mem_of_find?_eq_some hx)
            simp only [depth] at hf hg
            exact diff_fuel f g _ _ _ (by omega) (by omega)
      | _ => rfl
    | list x =>
      cases b with
      | list y =>
        dsimp only
        refine congrArg (fun z => z ++ _ ++ _) ?_
        refine congrArg (fun h => List.flatMap h _) (funext fun k => ?_)
        have hd : depth (x.getD k .null) ≤ depthL x := by
          rw [List.getD_eq_getElem?_getD]
          cases hk : x[k]? with
          | none => simp [depth]
          | some u => exact depthL_mem (List.mem_of_getElem? hk)
        simp only [depth] at hf hg
        exact diff_fuel f g _ _ _ (by omega) (by omega)
      | _ => rfl
    | _ => cases b <;> rfl
abbrev It := Path × Option V × Option V
def outI : It → List Change
  | (p, some a, some b) => diff (depth a + depth b + 2) p a b
  | (p, some a, none) => [⟨p, some a, none⟩]
  | (p, none, some b) => [⟨p, none, some b⟩]
  | (_, none, none) => []
def recKids (p : Path) (x y : List (Bytes × V)) : List It := (namesOf x y).map fun n => (p ++ [.name n], fieldIn x n, fieldIn y n)
def lstKids (p : Path) (x y : List V) : List It :=
  ((List.range (min x.length y.length)).map fun k => (p ++ [Key.place k], x[k]?, y[k]?)) ++
  ((List.range (x.length - y.length)).map fun k => (p ++ [Key.place (x.length - 1 - k)], x[x.length - 1 - k]?, none)) ++
  ((List.range (y.length - x.length)).map fun k => (p ++ [Key.place (x.length + k)], none, y[x.length + k]?))
theorem out_same {p : Path} {a b : V} (h : a = b) : outI (p, some a, some b) = [] := by
  show diff (depth a + depth b + 1 + 1) p a b = []
  unfold diff
  rw [if_pos (same_iff.mpr h)]
theorem out_rec {p : Path} {x y : List (Bytes × V)} (h : x ≠ y) : outI (p, some (.record x), some (.record y)) = (recKids p x y).flatMap outI := by
  have hs : ¬ same (.record x) (.record y) = true := fun z => h (V.record.inj (same_iff.mp z))
  show diff (depth (.record x) + depth (.record y) + 1 + 1) p (.record x) (.record y) = _
  unfold diff
  rw [if_neg hs]
  dsimp only
  unfold recKids
  rw [List.flatMap_map]
  refine congrArg (fun h => List.flatMap h (namesOf x y)) (funext fun n => ?_)
  unfold fieldIn
  cases hx : x.find? (fun z => z.1 == n) with
  | none =>
    cases y.find? (fun z => z.1 == n) with
    | none => rfl
    | some v => rfl
  | some u =>
    cases hy : y.find? (fun z => z.1 == n) with
    | none => rfl
    | some v =>
      have h1 := depthR_mem (List.mem_of_find?_eq_some hx)
      refine diff_fuel _ _ _ _ _ ?_ ?_
      · simp only [depth]; omega
      · omega
theorem out_lst {p : Path} {x y : List V} (h : x ≠ y) : outI (p, some (.list x), some (.list y)) = (lstKids p x y).flatMap outI := by
  have hs : ¬ same (.list x) (.list y) = true := fun z => h (V.list.inj (same_iff.mp z))
  show diff (depth (.list x) + depth (.list y) + 1 + 1) p (.list x) (.list y) = _
  unfold diff
  rw [if_neg hs]
  dsimp only
  unfold lstKids
  rw [List.flatMap_append, List.flatMap_append, List.flatMap_map, List.flatMap_map, List.flatMap_map]
  have one : ∀ (n : Nat) (g : Nat → Change) (k : Nat → List Change), (∀ i, i < n → k i = [g i]) → (List.range n).map g = (List.range n).flatMap k := fun n g k hk => by
    rw [List.map_eq_flatMap]
    refine fm_congr fun i hi => ?_
    rw [hk i (List.mem_range.mp hi)]
  refine congr (congrArg HAppend.hAppend (congr (congrArg HAppend.hAppend ?_) ?_)) ?_
  · refine fm_congr fun k hk => ?_
    have hk' := List.mem_range.mp hk
    obtain ⟨u, hu⟩ : ∃ u, x[k]? = some u := ⟨_, List.getElem?_eq_getElem (by omega)⟩
    obtain ⟨v, hv⟩ : ∃ v, y[k]? = some v := ⟨_, List.getElem?_eq_getElem (by omega)⟩
    rw [List.getD_eq_getElem?_getD, List.getD_eq_getElem?_getD, hu, hv]
    have h1 := depthL_mem (List.mem_of_getElem? hu)
    refine diff_fuel _ _ _ _ _ ?_ ?_
    · simp only [depth, Option.getD_some]; omega
    · simp only [Option.getD_some]; omega
  · refine one _ _ _ fun k hk => ?_
    obtain ⟨u, hu⟩ : ∃ u, x[x.length - 1 - k]? = some u := ⟨_, List.getElem?_eq_getElem (by omega)⟩
    rw [List.getD_eq_getElem?_getD, hu]
    rfl
  · refine one _ _ _ fun k hk => ?_
    obtain ⟨v, hv⟩ : ∃ v, y[x.length + k]? = some v := ⟨_, List.getElem?_eq_getElem (by omega)⟩
    rw [List.getD_eq_getElem?_getD, hv]
    rfl
theorem out_other {p : Path} {a b : V} (h : a ≠ b) (h1 : ∀ x y, ¬ (a = .record x ∧ b = .record y)) (h2 : ∀ x y, ¬ (a = .list x ∧ b = .list y)) : outI (p, some a, some b) = [⟨p, some a, some b⟩] := by
  have hs : ¬ same a b = true := fun z => h (same_iff.mp z)
  show diff (depth a + depth b + 1 + 1) p a b = _
  unfold diff
  rw [if_neg hs]
  cases a <;> cases b <;> first | rfl | exact absurd ⟨rfl, rfl⟩ (h1 _ _) | exact absurd ⟨rfl, rfl⟩ (h2 _ _)
theorem differences_out (a b : V) : differences a b = outI ([], some a, some b) := rfl
/-! ### the names of both, in order -/
theorem merge_rises : ∀ (y x : List (Bytes × V)), Rises x → Rises (merge x y)
  | [], x, h => h
  | (n, v) :: y, x, h => merge_rises y (putField n v x) (putField_rises h)
theorem putField_names {n : Bytes} {v : V} : ∀ {l : List (Bytes × V)} {m : Bytes}, m ∈ (putField n v l).map Prod.fst ↔ m = n ∨ m ∈ l.map Prod.fst
  | [], m => by simp [putField]
  | (k, u) :: l, m => by
    unfold putField
    split
    · simp
    · next e =>
      have := bo_eq.mp e
      simp [this]
    · rw [List.map_cons, List.mem_cons, putField_names (l := l), List.map_cons, List.mem_cons]
      constructor
      · rintro (z | z | z)
        · exact .inr (.inl z)
        · exact .inl z
        · exact .inr (.inr z)
      · rintro (z | z | z)
        · exact .inr (.inl z)
        · exact .inl z
        · exact .inr (.inr z)
theorem merge_names : ∀ (y x : List (Bytes × V)) (m : Bytes), m ∈ namesOf x y ↔ m ∈ x.map Prod.fst ∨ m ∈ y.map Prod.fst
  | [], x, m => by simp [namesOf, merge]
  | (n, v) :: y, x, m => by
    have ih := merge_names y (putField n v x) m
    have e : namesOf x ((n, v) :: y) = namesOf (putField n v x) y := rfl
    rw [e, ih, putField_names, List.map_cons, List.mem_cons]
    constructor
    · rintro ((z | z) | z)
      · exact .inr (.inl z)
      · exact .inl z
      · exact .inr (.inr z)
    · rintro (z | z | z)
      · exact .inl (.inr z)
      · exact .inl (.inl z)
      · exact .inr z
def Up (l : List Bytes) : Prop := l.Pairwise fun a b => bytesOrder a b = .lt
theorem namesOf_up {x y : List (Bytes × V)} (h : Rises x) : Up (namesOf x y) := by
  have := merge_rises y x h
  unfold Up namesOf
  exact List.pairwise_map.mpr this
theorem up_uniq : ∀ {a b : List Bytes}, Up a → Up b → (∀ m, m ∈ a ↔ m ∈ b) → a = b
  | [], [], _, _, _ => rfl
  | [], m :: b, _, _, h => absurd ((h m).mpr List.mem_cons_self) (by simp)
  | m :: a, [], _, _, h => absurd ((h m).mp List.mem_cons_self) (by simp)
  | m :: a, n :: b, ha, hb, h => by
    obtain ⟨a1, a2⟩ := List.pairwise_cons.mp ha
    obtain ⟨b1, b2⟩ := List.pairwise_cons.mp hb
    have e : m = n := by
      rcases List.mem_cons.mp ((h m).mp List.mem_cons_self) with z | z
      · exact z
      · rcases List.mem_cons.mp ((h n).mpr List.mem_cons_self) with z2 | z2
        · exact z2.symm
        · exact absurd (bo_trans (b1 m z) (a1 n z2)) bo_irrefl
    subst e
    refine congrArg (m :: ·) (up_uniq a2 b2 fun k => ⟨fun hk => ?_, fun hk => ?_⟩)
    · rcases List.mem_cons.mp ((h k).mp (List.mem_cons_of_mem _ hk)) with z | z
      · exact absurd (a1 k hk) (by rw [z]; exact bo_irrefl)
      · exact z
    · rcases List.mem_cons.mp ((h k).mpr (List.mem_cons_of_mem _ hk)) with z | z
      · exact absurd (b1 k hk) (by rw [z]; exact bo_irrefl)
      · exact z
end Vt

namespace Vt
open Kcs7 (Bytes V Tok blank digit letter word textAt value tokens tokensOf readV readL readR insertNew bytesOrder size quoted digits write writeL writeR numOf str)
/-! ### a form is no longer than what was read -/
def tw : Tok → Nat
  | .num n => (digits n).length
  | .text b => (quoted b).length
  | .name b => b.length
  | .field b => b.length + 1
  | .var b => b.length + 1
  | .sign s => s.length
def tws (t : List Tok) : Nat := (t.map tw).sum
theorem tws_cons (x : Tok) (t : List Tok) : tws (x :: t) = tw x + tws t := by simp [tws]
def qb (b : Bytes) : Nat := (b.flatMap fun c => if c = 34 ∨ c = 92 then [92, c] else [c]).length
theorem quoted_qb (b : Bytes) : (quoted b).length = qb b + 2 := by
  unfold quoted qb
  simp only [List.cons_append, List.length_cons, List.length_append, List.length_nil]
theorem qb_cons (c : Nat) (b : Bytes) : qb (c :: b) = (if c = 34 ∨ c = 92 then 2 else 1) + qb b := by
  unfold qb
  rw [List.flatMap_cons, List.length_append]
  split <;> rfl
theorem textAt_qb : ∀ (n : Nat) (r : Bytes) (x : Bytes × Bytes), r.length ≤ n → textAt r = some x → qb x.1 + 1 + x.2.length ≤ r.length := by
  intro n
  induction n with
  | zero =>
    intro r x hl h
    cases r with
    | nil => simp [textAt] at h
    | cons c r => simp at hl
  | succ n ih =>
    intro r x hl h
    match r, h with
    | [], h => simp [textAt] at h
    | c :: r, h =>
      unfold textAt at h
      split at h
      · next e =>
        cases e
        cases h
        simp [qb]
        omega
      · next c' r' e =>
        cases e
        split at h
        · next hc =>
          obtain ⟨y, hy, rfl⟩ := Option.map_eq_some_iff.mp h
          have := ih r' y (by simp at hl; omega) hy
          rw [qb_cons, if_pos hc]
          simp only [List.length_cons]
          omega
        · cases h
      · next c' r' q1 q2 q3 =>
        cases q3
        split at h
        · next hc =>
          obtain ⟨y, hy, rfl⟩ := Option.map_eq_some_iff.mp h
          have := ih _ y (by simpa using hl) hy
          rw [qb_cons]
          have h34 : c ≠ 34 := by intro z; first | exact q1 z | (subst z; exact q1 rfl)
          rw [if_neg (by rintro (z | z); exact h34 z; exact hc.2.2 z)]
          simp only [List.length_cons]
          omega
        · cases h
      · next e => cases e
theorem value_lt10 : ∀ (d : Bytes), (∀ x ∈ d, digit x = true) → value d < 10 ^ d.length := by
  intro d
  induction d using snoc_ind with
  | h0 => intro _; decide
  | h1 d x ih =>
    intro hd
    have h1 := ih fun y hy => hd y (List.mem_append.mpr (.inl hy))
    have h2 : 48 ≤ x ∧ x ≤ 57 := digit_facts (hd x (by simp))
    have e : value (d ++ [x]) = 10 * value d + (x - 48) := by
      unfold value
      rw [List.foldl_append]
      rfl
    rw [e, List.length_append, Nat.pow_add]
    show _ < 10 ^ d.length * 10 ^ 1
    omega
theorem tw_all {α : Type} {p : α → Bool} : ∀ {l : List α} {x : α}, x ∈ l.takeWhile p → p x = true
  | [], x, h => by simp at h
  | a :: l, x, h => by
    by_cases e : p a = true
    · rw [List.takeWhile_cons_of_pos e] at h
      rcases List.mem_cons.mp h with z | z
      · rw [z]; exact e
      · exact tw_all z
    · rw [List.takeWhile_cons_of_neg e] at h
      cases h
theorem tw_le {α : Type} (p : α → Bool) : ∀ l : List α, (l.takeWhile p).length ≤ l.length
  | [] => by simp
  | a :: l => by
    by_cases e : p a = true
    · rw [List.takeWhile_cons_of_pos e, List.length_cons, List.length_cons]
      have := tw_le p l
      omega
    · rw [List.takeWhile_cons_of_neg e]
      simp
theorem digits_run {d : Bytes} (h : ∀ x ∈ d, digit x = true) (h1 : 1 ≤ d.length) : (digits (value d)).length ≤ d.length := by
  unfold digits
  rw [List.length_map]
  exact (Nat.length_toDigits_le_iff (b := 10) (n := value d) (k := d.length) (by decide) (by omega)).mpr (value_lt10 d h)
theorem tws_tokens : ∀ (n : Nat) (b : Bytes) (t : List Tok), b.length ≤ n → tokensOf b = some t → tws t ≤ b.length := by
  intro n
  induction n with
  | zero =>
    intro b t h e
    have : b = [] := List.eq_nil_of_length_eq_zero (by omega)
    subst this
    cases e
    simp [tws]
  | succ n ih =>
    intro b t h e
    match b, h, e with
    | [], _, e => cases e; simp [tws]
    | c :: r, h, e =>
      have h' : r.length ≤ n := by simpa using h
      have key : ∀ (x : Tok) (q : Bytes), tw x + q.length ≤ (c :: r).length → q.length ≤ n → (tokensOf q).map (x :: ·) = some t → tws t ≤ (c :: r).length := by
        intro x q h1 h2 e
        obtain ⟨t', ht, rfl⟩ := Option.map_eq_some_iff.mp e
        have := ih q t' h2 ht
        rw [tws_cons]
        omega
      rw [tokensOf_cons] at e
      split at e
      · have := ih r t h' e
        simp
        omega
      · split at e
        · next hd =>
          dsimp only at e
          split at e
          · cases e
          · have hp := takeWhile_pos (r := r) hd
            have hdl := digits_run (d := (c :: r).takeWhile digit) (fun x hx => tw_all hx) hp
            have hle := tw_le digit (c :: r)
            refine key _ _ ?_ ?_ e <;> rw [List.length_drop]
            · simp only [tw]; omega
            · simp only [List.length_cons] at hle ⊢; omega
        · split at e
          · obtain ⟨x, hx, e⟩ := Option.bind_eq_some_iff.mp e
            have := textAt_qb _ r x (Nat.le_refl _) hx
            refine key _ _ ?_ (by omega) e
            simp only [tw, quoted_qb, List.length_cons]
            omega
          · split at e
            · next hl =>
              dsimp only at e
              split at e
              · cases e
              · have hp := takeWhile_pos (p := word) (r := r) (c := c) (by unfold word; rw [hl]; rfl)
                have hle := tw_le word (c :: r)
                refine key _ _ ?_ ?_ e <;> rw [List.length_drop]
                · simp only [tw]; omega
                · simp only [List.length_cons] at hle ⊢; omega
            · split at e
              · dsimp only at e
                split at e
                · cases e
                · have hle := tw_le word r
                  refine key _ _ ?_ ?_ e <;> rw [List.length_drop]
                  · simp only [tw, List.length_cons]; omega
                  · omega
              · split at e
                · dsimp only at e
                  split at e
                  · cases e
                  · have hle := tw_le word r
                    refine key _ _ ?_ ?_ e <;> rw [List.length_drop]
                    · simp only [tw, List.length_cons]; omega
                    · omega
                · split at e
                  · next hs2 =>
                    have h2 : ((c :: r).take 2).length = 2 ∧ 1 ≤ r.length := by
                      have : ((c :: r).take 2).length = 2 := by
                        have hm := List.contains_iff_mem.mp hs2
                        unfold Kcs7.signs2 at hm
                        simp only [List.mem_cons, List.not_mem_nil, or_false] at hm
                        rcases hm with z | z | z | z | z | z <;> rw [z] <;> rfl
                      refine ⟨this, ?_⟩
                      rw [List.length_take, List.length_cons] at this
                      omega
                    refine key _ _ ?_ ?_ e <;> rw [List.length_drop]
                    · simp only [tw, List.length_cons, h2.1]; omega
                    · omega
                  · split at e
                    · exact key _ _ (by simp only [tw, List.length_cons, List.length_nil]; omega) h' e
                    · cases e
theorem wr_insert : ∀ {l m : List (Bytes × V)} {n : Bytes} {x : V}, insertNew n x l = some m → m ≠ [] ∧ (writeR m).length = (writeR l).length + (if l = [] then 0 else 1) + (quoted n).length + 1 + (write x).length
  | [], m, n, x, e => by
    cases e
    refine ⟨by simp, ?_⟩
    simp only [writeR, List.length_append, List.length_cons, List.length_nil, if_pos]
    omega
  | (k, y) :: l, m, n, x, e => by
    unfold insertNew at e
    split at e
    · cases e
      refine ⟨by simp, ?_⟩
      cases l with
      | nil => simp only [writeR, List.length_append, List.length_cons, reduceCtorEq, if_neg, not_false_eq_true, if_false]; omega
      | cons z l => simp only [writeR, List.length_append, List.length_cons, reduceCtorEq, if_false]; omega
    · cases e
    · obtain ⟨m', hm, rfl⟩ := Option.map_eq_some_iff.mp e
      obtain ⟨hne, ih⟩ := wr_insert hm
      refine ⟨by simp, ?_⟩
      cases m' with
      | nil => exact absurd rfl hne
      | cons z m' =>
        cases l with
        | nil =>
          simp only [writeR, List.length_append, List.length_cons, List.length_nil, reduceCtorEq, if_false, if_true] at ih ⊢
          omega
        | cons z2 l =>
          simp only [writeR, List.length_append, List.length_cons, reduceCtorEq, if_false] at ih ⊢
          omega
theorem writeL_cons (x : V) (l : List V) : (writeL (x :: l)).length ≤ (write x).length + 1 + (writeL l).length := by
  cases l with
  | nil => simp only [writeL]; omega
  | cons y l => simp only [writeL, List.length_append, List.length_cons]; omega
theorem wbounds : ∀ f : Nat, (∀ d t v r, readV f d t = some (v, r) → (write v).length + tws r ≤ tws t) ∧ (∀ d t v r, readL f d t = some (v, r) → (writeL v).length + 1 + tws r ≤ tws t) ∧
    (∀ d l t v r, readR f d l t = some (v, r) → (writeR v).length + 1 + tws r ≤ tws t + (writeR l).length + (if l = [] then 0 else 1)) := by
  intro f
  induction f with
  | zero => exact ⟨fun _ _ _ _ h => by simp [readV] at h, fun _ _ _ _ h => by simp [readL] at h, fun _ _ _ _ _ h => by simp [readR] at h⟩
  | succ f ih =>
    obtain ⟨iV, iL, iR⟩ := ih
    refine ⟨fun d t v r h => ?_, fun d t v r h => ?_, fun d l t v r h => ?_⟩
    · unfold readV at h
      split at h
      · next n r' =>
        cases h
        simp only [tws_cons, tw, write, numOf]
        rw [if_neg (by omega)]
        simp
      · next n r' =>
        split at h <;> cases h
        simp only [tws_cons, tw, write, numOf]
        split
        · simp only [List.length_cons, List.length_nil, Int.natAbs_neg, Int.natAbs_natCast]; omega
        · simp only [List.length_cons, List.length_nil, Int.natAbs_neg, Int.natAbs_natCast]; omega
      · cases h
        simp only [tws_cons, tw, write]
        omega
      · next b r' =>
        split at h
        · next e => cases h; subst e; simp only [tws_cons, tw, write]; show 4 + _ ≤ 4 + _; omega
        · split at h
          · next e => cases h; subst e; simp only [tws_cons, tw, write]; show 4 + _ ≤ 4 + _; omega
          · split at h <;> cases h
            next e => subst e; simp only [tws_cons, tw, write]; show 5 + _ ≤ 5 + _; omega
      · split at h <;> cases h
        simp only [tws_cons, tw, write, writeL, List.length_cons, List.length_nil, List.length_append]
        omega
      · split at h
        · cases h
        · obtain ⟨x, hx, e⟩ := Option.map_eq_some_iff.mp h
          cases e
          have := iL _ _ _ _ hx
          simp only [tws_cons, tw, write, List.length_cons, List.length_nil, List.length_append]
          omega
      · split at h <;> cases h
        simp only [tws_cons, tw, write, writeR, List.length_cons, List.length_nil, List.length_append]
        omega
      · split at h
        · cases h
        · obtain ⟨x, hx, e⟩ := Option.map_eq_some_iff.mp h
          cases e
          have := iR _ _ _ _ _ hx
          simp only [writeR, List.length_nil, if_true] at this
          simp only [tws_cons, tw, write, List.length_cons, List.length_nil, List.length_append]
          omega
      · cases h
    · unfold readL at h
      split at h
      · next x r' hx =>
        obtain ⟨y, hy, e⟩ := Option.map_eq_some_iff.mp h
        cases e
        have a1 := iV _ _ _ _ hx
        have b1 := iL _ _ _ _ hy
        have c1 := writeL_cons x y.1
        rw [tws_cons] at a1
        have e44 : tw (.sign [44]) = 1 := rfl
        omega
      · next x r' hx =>
        cases h
        have a1 := iV _ _ _ _ hx
        rw [tws_cons] at a1
        have e93 : tw (.sign [93]) = 1 := rfl
        simp only [writeL]
        omega
      · cases h
    · unfold readR at h
      split at h
      · next n r' =>
        split at h
        · next x c r2 hx =>
          have a1 := iV _ _ _ _ hx
          rw [tws_cons] at a1
          split at h
          · cases h
          · next m hm =>
            obtain ⟨hne, hwm⟩ := wr_insert hm
            have w58 : tw (.sign [58]) = 1 := rfl
            have wtx : tw (.text n) = (quoted n).length := rfl
            rw [tws_cons, tws_cons]
            split at h
            · next hc =>
              have b1 := iR _ _ _ _ _ h
              rw [if_neg hne] at b1
              have wc : tw c = 1 := by
                have : c = .sign [44] := by simpa [Kcs7.isSign] using hc
                rw [this]; rfl
              omega
            · split at h <;> cases h
              next hc =>
              have wc : tw c = 1 := by
                have : c = .sign [125] := by simpa [Kcs7.isSign] using hc
                rw [this]; rfl
              omega
        · cases h
      · cases h
theorem readM_bytes {b : Bytes} {v : V} (h : readM b = some v) : (write v).length ≤ 4096 := by
  rw [readM_is] at h
  unfold Kcs7.valueOf Kcs7.read at h
  split at h
  · cases h
  · next hl =>
    have hl' : b.length ≤ 4096 := by
      have hV : Kcs7.VALUE = 4096 := rfl
      omega
    cases ht : tokensOf b with
    | none => rw [ht] at h; cases h
    | some t =>
      rw [ht] at h
      dsimp only at h
      split at h
      · next w hx =>
        split at h
        · cases h
          have b1 := (wbounds _).1 _ _ _ _ hx
          have b2 := tws_tokens _ b t (Nat.le_refl _) ht
          omega
        · cases h
      · cases h
end Vt

namespace Vt
open Kcs7 (Bytes V Key Path fieldIn namesOf size sizeL sizeR depth depthL depthR Change diff differences quoted digits write writeL writeR changeV keyV)
theorem sizeR_mem' : ∀ {l : List (Bytes × V)} {x : Bytes × V}, x ∈ l → x.1.length + size x.2 ≤ sizeR l
  | (n, y) :: l, x, hx => by
    simp only [sizeR]
    rcases List.mem_cons.mp hx with e | e
    · rw [e]; show n.length + size y ≤ _; omega
    · have := sizeR_mem' e; omega
theorem sizeL_mem' : ∀ {l : List V} {x : V}, x ∈ l → size x ≤ sizeL l
  | y :: l, x, hx => by
    simp only [sizeL]
    rcases List.mem_cons.mp hx with e | e
    · rw [e]; omega
    · have := sizeL_mem' e; omega
/-! ### how much it can be -/
def bl (v : V) : Nat := (write v).length
def ob : Option V → Nat
  | none => 0
  | some v => bl v
def kn1 : Key → Nat
  | .name n => (quoted n).length + 1
  | .place _ => 0
def kn (p : Path) : Nat := (p.map kn1).sum
theorem kn_snoc (p : Path) (k : Key) : kn (p ++ [k]) = kn p + kn1 k := by simp [kn]
theorem bl_pos : ∀ v : V, 1 ≤ bl v
  | .null => by decide
  | .bool true => by decide
  | .bool false => by decide
  | .num n => by
    unfold bl
    simp only [write, Kcs7.numOf]
    have : 1 ≤ (digits n.natAbs).length := by
      unfold digits
      rw [List.length_map]
      exact Nat.length_toDigits_pos
    split
    · simp
    · exact this
  | .text b => by unfold bl; simp only [write, quoted_qb]; omega
  | .list l => by unfold bl; simp only [write, List.length_cons, List.length_append]; omega
  | .record l => by unfold bl; simp only [write, List.length_cons, List.length_append]; omega
def sT (O : List Change) : Nat := (O.map fun c => kn c.at_).sum
def sS (O : List Change) : Nat := (O.map fun c => ob c.was + ob c.is_).sum
theorem sT_app (a b : List Change) : sT (a ++ b) = sT a + sT b := by simp [sT]
theorem sS_app (a b : List Change) : sS (a ++ b) = sS a + sS b := by simp [sS]
structure Good (P B : Nat) (O : List Change) : Prop where
  n : O.length ≤ B
  s : sS O ≤ B
  t : ∀ M, B - O.length ≤ M → 2 * sT O ≤ 2 * (O.length * P) + O.length * M + 2 * B
theorem Good.weak {P B B' : Nat} {O : List Change} (h : Good P B O) (hb : B ≤ B') : Good P B' O :=
  ⟨Nat.le_trans h.n hb, Nat.le_trans h.s hb, fun M hM => by have := h.t M (by omega); omega⟩
theorem Good.nil {P : Nat} : Good P 0 [] := ⟨Nat.le_refl _, Nat.le_refl _, fun M _ => by simp [sT]⟩
theorem Good.two {P A k : Nat} {O : List Change} (h : Good (P + k) A O) : Good P (A + 2 * k) O := by
  refine ⟨by have := h.n; omega, by have := h.s; omega, fun M hM => ?_⟩
  have hn := h.n
  obtain ⟨M', rfl⟩ : ∃ M', M = M' + 2 * k := ⟨M - 2 * k, by omega⟩
  have := h.t M' (by omega)
  have e1 : O.length * (P + k) = O.length * P + O.length * k := Nat.mul_add _ _ _
  have e2 : O.length * (M' + 2 * k) = O.length * M' + 2 * (O.length * k) := by rw [Nat.mul_add, Nat.mul_left_comm]
  rw [e1] at this
  rw [e2]
  omega
theorem Good.app {P B1 B2 : Nat} {O1 O2 : List Change} (h1 : Good P B1 O1) (h2 : Good P B2 O2) : Good P (B1 + B2) (O1 ++ O2) := by
  have n1 := h1.n
  have n2 := h2.n
  refine ⟨by rw [List.length_append]; omega, by rw [sS_app]; have := h1.s; have := h2.s; omega, fun M hM => ?_⟩
  rw [List.length_append] at hM
  have a := h1.t M (by omega)
  have b := h2.t M (by omega)
  rw [sT_app, List.length_append, Nat.add_mul, Nat.add_mul]
  omega
theorem Good.one {p : Path} {w i : Option V} {P k : Nat} (hk : kn p = P + k) (hp : 1 ≤ ob w + ob i) : Good P (ob w + ob i + k) [⟨p, w, i⟩] := by
  refine ⟨by simp; omega, by simp [sS], fun M hM => ?_⟩
  simp only [sT, List.map_cons, List.map_nil, List.sum_cons, List.sum_nil, List.length_cons, List.length_nil, hk]
  omega
theorem Good.fm {α : Type} {P : Nat} {f : α → List Change} {B : α → Nat} : ∀ {l : List α}, (∀ x ∈ l, Good P (B x) (f x)) → Good P (l.map B).sum (l.flatMap f)
  | [], _ => by simpa using Good.nil
  | a :: l, h => by
    rw [List.flatMap_cons, List.map_cons, List.sum_cons]
    exact (h a List.mem_cons_self).app (Good.fm fun x hx => h x (List.mem_cons_of_mem _ hx))
/-! the parts of a record, of a list -/
def cxB (x : List (Bytes × V)) (n : Bytes) : Nat := match fieldIn x n with
  | none => 0
  | some v => kn1 (.name n) + bl v
theorem writeR_cons (n : Bytes) (v : V) (l : List (Bytes × V)) : kn1 (.name n) + bl v + (writeR l).length ≤ (writeR ((n, v) :: l)).length := by
  unfold kn1 bl
  cases l with
  | nil => simp only [writeR, List.length_append, List.length_cons, List.length_nil]; omega
  | cons y l => simp only [writeR, List.length_append, List.length_cons]; omega
theorem sum_one {m : Bytes} {c : Nat} {g : Bytes → Nat} : ∀ {ns : List Bytes}, ns.Nodup → (ns.map fun n => if m = n then c else g n).sum ≤ c + (ns.map g).sum
  | [], _ => by simp
  | n :: ns, h => by
    obtain ⟨h1, h2⟩ := List.nodup_cons.mp h
    rw [List.map_cons, List.map_cons, List.sum_cons, List.sum_cons]
    by_cases e : m = n
    · subst e
      rw [if_pos rfl]
      have : (ns.map fun n => if m = n then c else g n) = ns.map g := List.map_congr_left fun k hk => if_neg fun z => h1 (by rw [z]; exact hk)
      rw [this]
      omega
    · rw [if_neg e]
      have := sum_one (m := m) (c := c) (g := g) h2
      omega
theorem cx_sum {ns : List Bytes} (hn : ns.Nodup) : ∀ x : List (Bytes × V), (ns.map (cxB x)).sum ≤ (writeR x).length
  | [] => by
    have : ns.map (cxB []) = ns.map fun _ => 0 := List.map_congr_left fun n _ => rfl
    rw [this]
    have h0 : ∀ l : List Bytes, (l.map fun _ => 0).sum = 0 := fun l => by induction l <;> simp_all
    rw [h0]
    exact Nat.zero_le _
  | (m, v) :: l => by
    have ih := cx_sum hn l
    have e : ns.map (cxB ((m, v) :: l)) = ns.map fun n => if m = n then kn1 (.name m) + bl v else cxB l n := List.map_congr_left fun n _ => by
      unfold cxB
      rw [fieldIn_cons]
      by_cases z : m = n
      · rw [if_pos z, if_pos z, z]
      · rw [if_neg z, if_neg z]
    rw [e]
    have h1 := sum_one (m := m) (c := kn1 (.name m) + bl v) (g := cxB l) hn
    have h2 := writeR_cons m v l
    omega
theorem sum_add {α : Type} (f g : α → Nat) : ∀ l : List α, (l.map fun x => f x + g x).sum = (l.map f).sum + (l.map g).sum
  | [] => rfl
  | a :: l => by rw [List.map_cons, List.map_cons, List.map_cons, List.sum_cons, List.sum_cons, List.sum_cons, sum_add f g l]; omega
theorem blL_sum : ∀ l : List V, (l.map bl).sum ≤ (writeL l).length
  | [] => Nat.zero_le _
  | [x] => by simp [writeL, bl]
  | x :: y :: l => by
    have ih := blL_sum (y :: l)
    rw [List.map_cons, List.sum_cons]
    simp only [writeL, List.length_append, List.length_cons]
    unfold bl at *
    omega
theorem range_take {g : Option V → Nat} (h0 : g none = 0) (l : List V) : ∀ n, ((List.range n).map fun k => g l[k]?).sum = ((l.take n).map fun v => g (some v)).sum
  | 0 => by simp
  | n + 1 => by
    rw [List.range_succ, List.map_append, List.sum_append, range_take h0 l n, List.take_add_one, List.map_append, List.sum_append]
    congr 1
    cases h : l[n]? with
    | none => simp [h, h0]
    | some v => simp [h]
theorem range_back {g : Option V → Nat} (l : List V) : ∀ n, n ≤ l.length → ((List.range n).map fun k => g l[l.length - 1 - k]?).sum = ((l.drop (l.length - n)).map fun v => g (some v)).sum
  | 0, _ => by simp
  | n + 1, h => by
    rw [List.range_succ, List.map_append, List.sum_append, range_back l n (by omega)]
    obtain ⟨v, hv⟩ : ∃ v, l[l.length - 1 - n]? = some v := ⟨_, List.getElem?_eq_getElem (by omega)⟩
    have e : l.drop (l.length - (n + 1)) = v :: l.drop (l.length - n) := by
      obtain ⟨h1, h2⟩ := List.getElem?_eq_some_iff.mp hv
      have e0 : l.length - (n + 1) = l.length - 1 - n := by omega
      rw [e0, List.drop_eq_getElem_cons h1, h2]
      congr 2
      omega
    rw [e, List.map_cons, List.sum_cons, List.map_cons, List.map_nil, List.sum_cons, List.sum_nil, hv]
    omega
theorem range_front {g : Option V → Nat} (h0 : g none = 0) (l : List V) (s : Nat) : ∀ n, ((List.range n).map fun k => g l[s + k]?).sum = (((l.drop s).take n).map fun v => g (some v)).sum := fun n => by
  have := range_take h0 (l.drop s) n
  rw [← this]
  congr 1
  refine List.map_congr_left fun k _ => ?_
  rw [List.getElem?_drop]
theorem good : ∀ (N : Nat) (p : Path) (a b : Option V), (∀ v, a = some v → wf v) → (∀ v, b = some v → wf v) → osz a + osz b ≤ N → Good (kn p) (ob a + ob b) (outI (p, a, b)) := by
  intro N
  induction N with
  | zero =>
    intro p a b _ _ h
    cases a with
    | none =>
      cases b with
      | none => exact Good.nil
      | some v => have := size_pos v; simp only [osz] at h; omega
    | some v => have := size_pos v; simp only [osz] at h; omega
  | succ N ih =>
    intro p a b ha hb h
    cases a with
    | none =>
      cases b with
      | none => exact Good.nil
      | some v => exact Good.one (w := none) (i := some v) (k := 0) rfl (by have := bl_pos v; simp only [ob]; omega)
    | some u =>
      cases b with
      | none => exact Good.one (w := some u) (i := none) (k := 0) rfl (by have := bl_pos u; simp only [ob]; omega)
      | some v =>
        have wu := ha u rfl
        have wv := hb v rfl
        by_cases e : u = v
        · rw [out_same e]
          exact Good.nil.weak (Nat.zero_le _)
        by_cases hr : ∃ x y, u = .record x ∧ v = .record y
        · obtain ⟨x, y, rfl, rfl⟩ := hr
          rw [out_rec (fun z => e (by rw [z]))]
          unfold recKids
          rw [List.flatMap_map]
          simp only [wf] at wu wv
          have nd : (namesOf x y).Nodup := (namesOf_up (y := y) wu.1).imp fun h z => by rw [z] at h; exact bo_irrefl h
          have g : Good (kn p) ((namesOf x y).map fun n => cxB x n + cxB y n).sum ((namesOf x y).flatMap fun n => outI (p ++ [.name n], fieldIn x n, fieldIn y n)) := by
            refine Good.fm fun n hn => ?_
            unfold cxB
            have sx : ∀ w, fieldIn x n = some w → size w < size (.record x) := fun w hw => by
              have := sizeR_mem' (fieldIn_mem hw)
              simp only [size]
              have h2 : n.length + size w ≤ sizeR x := this
              omega
            have sy : ∀ w, fieldIn y n = some w → size w < size (.record y) := fun w hw => by
              have := sizeR_mem' (fieldIn_mem hw)
              simp only [size]
              have h2 : n.length + size w ≤ sizeR y := this
              omega
            cases hx : fieldIn x n with
            | none =>
              cases hy : fieldIn y n with
              | none => exact Good.nil
              | some w2 =>
                have := Good.one (p := p ++ [.name n]) (w := none) (i := some w2) (kn_snoc p (.name n)) (by have := bl_pos w2; simp only [ob]; omega)
                exact this.weak (by simp only [ob]; omega)
            | some w1 =>
              cases hy : fieldIn y n with
              | none =>
                have := Good.one (p := p ++ [.name n]) (w := some w1) (i := none) (kn_snoc p (.name n)) (by have := bl_pos w1; simp only [ob]; omega)
                exact this.weak (by simp only [ob]; omega)
              | some w2 =>
                have := ih (p ++ [.name n]) (some w1) (some w2) (fun w hw => by cases hw; exact wfR_iff.mp wu.2 _ (fieldIn_mem hx)) (fun w hw => by cases hw; exact wfR_iff.mp wv.2 _ (fieldIn_mem hy)) (by
                  have := sx w1 hx
                  have := sy w2 hy
                  simp only [osz] at h ⊢
                  omega)
                rw [kn_snoc] at this
                exact this.two.weak (by simp only [ob]; omega)
          refine g.weak ?_
          rw [sum_add]
          have h1 := cx_sum nd x
          have h2 := cx_sum nd y
          simp only [ob, bl, write, List.length_cons, List.length_append]
          omega
        by_cases hl : ∃ x y, u = .list x ∧ v = .list y
        · obtain ⟨x, y, rfl, rfl⟩ := hl
          rw [out_lst (fun z => e (by rw [z]))]
          unfold lstKids
          rw [List.flatMap_append, List.flatMap_append, List.flatMap_map, List.flatMap_map, List.flatMap_map]
          simp only [wf] at wu wv
          have kp : ∀ k : Nat, kn (p ++ [Key.place k]) = kn p + 0 := fun k => kn_snoc p (.place k)
          have g1 : Good (kn p) ((List.range (min x.length y.length)).map fun k => ob x[k]? + ob y[k]?).sum ((List.range (min x.length y.length)).flatMap fun k => outI (p ++ [Key.place k], x[k]?, y[k]?)) := by
            refine Good.fm fun k hk => ?_
            have := ih (p ++ [Key.place k]) x[k]? y[k]? (fun w hw => wfL_iff.mp wu _ (List.mem_of_getElem? hw)) (fun w hw => wfL_iff.mp wv _ (List.mem_of_getElem? hw)) (by
              have h1 : osz x[k]? ≤ sizeL x := by
                cases hx : x[k]? with
                | none => exact Nat.zero_le _
                | some w => exact sizeL_mem' (List.mem_of_getElem? hx)
              have h2 : osz y[k]? ≤ sizeL y := by
                cases hx : y[k]? with
                | none => exact Nat.zero_le _
                | some w => exact sizeL_mem' (List.mem_of_getElem? hx)
              simp only [osz, size] at h
              omega)
            rw [kp] at this
            exact this
          have g2 : Good (kn p) ((List.range (x.length - y.length)).map fun k => ob x[x.length - 1 - k]?).sum ((List.range (x.length - y.length)).flatMap fun k => outI (p ++ [Key.place (x.length - 1 - k)], x[x.length - 1 - k]?, none)) := by
            refine Good.fm fun k hk => ?_
            have hk' := List.mem_range.mp hk
            obtain ⟨w, hw⟩ : ∃ w, x[x.length - 1 - k]? = some w := ⟨_, List.getElem?_eq_getElem (by omega)⟩
            rw [hw]
            exact (Good.one (p := p ++ [Key.place (x.length - 1 - k)]) (w := some w) (i := none) (kp _) (by have := bl_pos w; simp only [ob]; omega)).weak (by simp only [ob]; omega)
          have g3 : Good (kn p) ((List.range (y.length - x.length)).map fun k => ob y[x.length + k]?).sum ((List.range (y.length - x.length)).flatMap fun k => outI (p ++ [Key.place (x.length + k)], none, y[x.length + k]?)) := by
            refine Good.fm fun k hk => ?_
            have hk' := List.mem_range.mp hk
            obtain ⟨w, hw⟩ : ∃ w, y[x.length + k]? = some w := ⟨_, List.getElem?_eq_getElem (by omega)⟩
            rw [hw]
            exact (Good.one (p := p ++ [Key.place (x.length + k)]) (w := none) (i := some w) (kp _) (by have := bl_pos w; simp only [ob]; omega)).weak (by simp only [ob]; omega)
          refine ((g1.app g2).app g3).weak ?_
          have hs : ∀ l : List V, (l.map fun v => ob (some v)).sum ≤ (writeL l).length := blL_sum
          have split : ∀ (l : List V) (n : Nat), ((l.take n).map fun v => ob (some v)).sum + ((l.drop n).map fun v => ob (some v)).sum ≤ (writeL l).length := fun l n => by
            have := hs l
            rw [← List.take_append_drop n l, List.map_append, List.sum_append] at this
            rw [List.take_append_drop n l] at this
            exact this
          rw [sum_add, range_take rfl x, range_take rfl y, range_back x _ (by omega), range_front rfl y]
          have e1 : x.length - (x.length - y.length) = min x.length y.length := by omega
          rw [e1]
          have h1 := split x (min x.length y.length)
          have h2 := split y (min x.length y.length)
          have h3 : (((y.drop x.length).take (y.length - x.length)).map fun v => ob (some v)).sum ≤ ((y.drop (min x.length y.length)).map fun v => ob (some v)).sum := by
            rw [List.take_of_length_le (by rw [List.length_drop]; exact Nat.le_refl _)]
            by_cases hxy : x.length ≤ y.length
            · rw [Nat.min_eq_left hxy]; exact Nat.le_refl _
            · rw [List.drop_eq_nil_of_le (by omega)]
              exact Nat.zero_le _
          simp only [ob, bl, write, List.length_cons, List.length_append] at *
          omega
        · rw [out_other e (fun x y z => hr ⟨x, y, z⟩) (fun x y z => hl ⟨x, y, z⟩)]
          exact Good.one (k := 0) rfl (by have := bl_pos u; simp only [ob]; omega)
end Vt

namespace Vt
open Kcs7 (Bytes V Key Path fieldIn namesOf size sizeL sizeR depth depthL depthR Change diff differences quoted digits write writeL writeR changeV keyV)
/-! ### values whose parts are short -/
mutual
def short : V → Prop
  | .text b => b.length ≤ 4096
  | .list l => l.length ≤ 10000 ∧ shortL l
  | .record l => l.length ≤ 5000 ∧ shortR l
  | _ => True
def shortL : List V → Prop
  | [] => True
  | x :: l => short x ∧ shortL l
def shortR : List (Bytes × V) → Prop
  | [] => True
  | (n, x) :: l => n.length ≤ 4096 ∧ short x ∧ shortR l
end
theorem shortL_mem : ∀ {l : List V}, shortL l → ∀ x ∈ l, short x
  | y :: l, h, x, hx => by
    simp only [shortL] at h
    rcases List.mem_cons.mp hx with e | e
    · rw [e]; exact h.1
    · exact shortL_mem h.2 x e
theorem shortL_of : ∀ {l : List V}, (∀ x ∈ l, short x) → shortL l
  | [], _ => trivial
  | y :: l, h => ⟨h y List.mem_cons_self, shortL_of fun x hx => h x (List.mem_cons_of_mem _ hx)⟩
theorem shortR_mem : ∀ {l : List (Bytes × V)}, shortR l → ∀ x ∈ l, x.1.length ≤ 4096 ∧ short x.2
  | (n, y) :: l, h, x, hx => by
    simp only [shortR] at h
    rcases List.mem_cons.mp hx with e | e
    · rw [e]; exact ⟨h.1, h.2.1⟩
    · exact shortR_mem h.2.2 x e
theorem lenL_size : ∀ l : List V, l.length ≤ sizeL l
  | [] => Nat.le_refl _
  | x :: l => by
    have := lenL_size l
    have := size_pos x
    simp only [sizeL, List.length_cons]
    omega
theorem lenR_size : ∀ l : List (Bytes × V), l.length ≤ sizeR l
  | [] => Nat.le_refl _
  | (n, x) :: l => by
    have := lenR_size l
    have := size_pos x
    simp only [sizeR, List.length_cons]
    omega
mutual
theorem short_size : ∀ v : V, size v ≤ 4096 → short v
  | .null, _ => by simp [short]
  | .bool _, _ => by simp [short]
  | .num _, _ => by simp [short]
  | .text b, h => by simp only [size] at h; simp only [short]; omega
  | .list l, h => by
    simp only [size] at h
    have := lenL_size l
    exact ⟨by omega, shortL_size l (by omega)⟩
  | .record l, h => by
    simp only [size] at h
    have := lenR_size l
    exact ⟨by omega, shortR_size l (by omega)⟩
theorem shortL_size : ∀ l : List V, sizeL l ≤ 4096 → shortL l
  | [], _ => trivial
  | x :: l, h => by
    simp only [sizeL] at h
    exact ⟨short_size x (by omega), shortL_size l (by omega)⟩
theorem shortR_size : ∀ l : List (Bytes × V), sizeR l ≤ 4096 → shortR l
  | [], _ => trivial
  | (n, x) :: l, h => by
    simp only [sizeR] at h
    exact ⟨by omega, short_size x (by omega), shortR_size l (by omega)⟩
end
/-! ### what has to be compared -/
def okK : Key → Prop
  | .name b => b.length ≤ 4096
  | .place n => n < 9007199254740992
theorem blR_mem : ∀ {l : List (Bytes × V)} {f : Bytes × V}, f ∈ l → bl f.2 ≤ (writeR l).length
  | (n, v) :: l, f, h => by
    have c := writeR_cons n v l
    rcases List.mem_cons.mp h with e | e
    · rw [e]; show bl v ≤ _; omega
    · have := blR_mem e; omega
theorem blL_mem {l : List V} {v : V} (h : v ∈ l) : bl v ≤ (writeL l).length := by
  have := blL_sum l
  have mem : ∀ {m : List Nat} {x : Nat}, x ∈ m → x ≤ m.sum := by
    intro m
    induction m with
    | nil => intro x h; cases h
    | cons y m ih =>
      intro x h
      rw [List.sum_cons]
      rcases List.mem_cons.mp h with e | e
      · omega
      · have := ih e; omega
  exact Nat.le_trans (mem (List.mem_map.mpr ⟨v, h, rfl⟩)) this
theorem lenR_bl : ∀ l : List (Bytes × V), 4 * l.length ≤ (writeR l).length
  | [] => Nat.le_refl _
  | (n, v) :: l => by
    have c := writeR_cons n v l
    have d : 3 ≤ kn1 (.name n) := by simp only [kn1, quoted, List.length_cons, List.length_append, List.length_nil]; omega
    have := bl_pos v
    have := lenR_bl l
    rw [List.length_cons]
    omega
def okO (o : Option V) : Prop := ∀ v, o = some v → wf v ∧ nok v ∧ size v ≤ 4096 ∧ bl v ≤ 4096
def odp : Option V → Nat
  | none => 0
  | some v => depth v
structure OkI (i : It) : Prop where
  len : i.1.length + max (odp i.2.1) (odp i.2.2) ≤ 40
  keys : ∀ k ∈ i.1, okK k
  a : okO i.2.1
  b : okO i.2.2
  pos : 1 ≤ osz i.2.1 + osz i.2.2
def wIt (i : It) : Nat := osz i.2.1 + osz i.2.2
theorem fieldIn_some : ∀ {x : List (Bytes × V)} {n : Bytes}, n ∈ x.map Prod.fst → ∃ v, fieldIn x n = some v
  | (m, y) :: l, n, h => by
    rw [fieldIn_cons]
    by_cases e : m = n
    · exact ⟨y, if_pos e⟩
    · rw [if_neg e]
      rw [List.map_cons] at h
      rcases List.mem_cons.mp h with z | z
      · exact absurd z.symm e
      · exact fieldIn_some z
theorem okO_field {x : List (Bytes × V)} (h : okO (some (.record x))) (n : Bytes) : okO (fieldIn x n) := fun v hv => by
  obtain ⟨h1, h2, h3, h4⟩ := h _ rfl
  simp only [wf, nok, size] at h1 h2 h3
  simp only [bl, write, List.length_cons, List.length_append, List.length_nil] at h4
  have hm := fieldIn_mem hv
  have := sizeR_mem' hm
  have e : (n, v).1.length + size (n, v).2 = n.length + size v := rfl
  have hb := blR_mem hm
  exact ⟨wfR_iff.mp h1.2 _ hm, nokR_iff.mp h2 _ hm, by omega, by have e' : bl (n, v).2 = bl v := rfl; omega⟩
theorem odp_field (x : List (Bytes × V)) (n : Bytes) : odp (fieldIn x n) + 1 ≤ odp (some (.record x)) := by
  cases e : fieldIn x n with
  | none => simp only [odp, depth]; omega
  | some v =>
    have := depthR_mem (fieldIn_mem e)
    have e' : depth (n, v).2 = depth v := rfl
    simp only [odp, depth]
    omega
theorem okO_item {x : List V} (h : okO (some (.list x))) (k : Nat) : okO x[k]? := fun v hv => by
  obtain ⟨h1, h2, h3, h4⟩ := h _ rfl
  simp only [wf, nok, size] at h1 h2 h3
  simp only [bl, write, List.length_cons, List.length_append, List.length_nil] at h4
  have hm := List.mem_of_getElem? hv
  have := sizeL_mem' hm
  have hb := blL_mem hm
  exact ⟨wfL_iff.mp h1 _ hm, nokL_iff.mp h2 _ hm, by omega, by omega⟩
theorem odp_item (x : List V) (k : Nat) : odp x[k]? + 1 ≤ odp (some (.list x)) := by
  cases e : x[k]? with
  | none => simp only [odp, depth]; omega
  | some v =>
    have := depthL_mem (List.mem_of_getElem? e)
    simp only [odp, depth]
    omega
theorem recKids_ok {p : Path} {x y : List (Bytes × V)} (h : OkI (p, some (.record x), some (.record y))) : ∀ k ∈ recKids p x y, OkI k := by
  intro k hk
  obtain ⟨n, hn, rfl⟩ := List.mem_map.mp hk
  have h1 := odp_field x n
  have h2 := odp_field y n
  have hl := h.len
  have hnl : n.length ≤ 4096 := by
    rcases (merge_names y x n).mp hn with z | z
    · obtain ⟨v, hv⟩ := fieldIn_some z
      have := sizeR_mem' (fieldIn_mem hv)
      have e : (n, v).1.length + size (n, v).2 = n.length + size v := rfl
      have := (h.a _ rfl).2.2.1
      simp only [size] at this
      omega
    · obtain ⟨v, hv⟩ := fieldIn_some z
      have := sizeR_mem' (fieldIn_mem hv)
      have e : (n, v).1.length + size (n, v).2 = n.length + size v := rfl
      have := (h.b _ rfl).2.2.1
      simp only [size] at this
      omega
  refine ⟨?_, fun k hk => ?_, okO_field h.a n, okO_field h.b n, ?_⟩
  · show (p ++ [Key.name n]).length + max (odp (fieldIn x n)) (odp (fieldIn y n)) ≤ 40
    have hl' : p.length + max (odp (some (.record x))) (odp (some (.record y))) ≤ 40 := hl
    rw [List.length_append, List.length_singleton]
    omega
  · rcases List.mem_append.mp hk with z | z
    · exact h.keys k z
    · rw [List.mem_singleton.mp z]; exact hnl
  · show 1 ≤ osz (fieldIn x n) + osz (fieldIn y n)
    rcases (merge_names y x n).mp hn with z | z
    · obtain ⟨v, hv⟩ := fieldIn_some z
      have := size_pos v
      rw [hv]
      simp only [osz]
      omega
    · obtain ⟨v, hv⟩ := fieldIn_some z
      have := size_pos v
      rw [hv]
      simp only [osz]
      omega
theorem lstKids_ok {p : Path} {x y : List V} (h : OkI (p, some (.list x), some (.list y))) : ∀ k ∈ lstKids p x y, OkI k := by
  have hx := lenL_size x
  have hy := lenL_size y
  have hxs := (h.a _ rfl).2.2.1
  have hys := (h.b _ rfl).2.2.1
  simp only [size] at hxs hys
  have hl : p.length + max (odp (some (.list x))) (odp (some (.list y))) ≤ 40 := h.len
  have one : ∀ (n : Nat) (u v : Option V), n ≤ 5000 → odp u + 1 ≤ max (odp (some (.list x))) (odp (some (.list y))) → odp v + 1 ≤ max (odp (some (.list x))) (odp (some (.list y))) → okO u → okO v → 1 ≤ osz u + osz v → OkI (p ++ [Key.place n], u, v) := fun n u v hn hu hv ou ov hp => by
    refine ⟨?_, fun k hk => ?_, ou, ov, hp⟩
    · show (p ++ [Key.place n]).length + max (odp u) (odp v) ≤ 40
      rw [List.length_append, List.length_singleton]
      omega
    · rcases List.mem_append.mp hk with z | z
      · exact h.keys k z
      · rw [List.mem_singleton.mp z]
        show n < 9007199254740992
        omega
  have dx : ∀ k, odp x[k]? + 1 ≤ max (odp (some (.list x))) (odp (some (.list y))) := fun k => Nat.le_trans (odp_item x k) (Nat.le_max_left _ _)
  have dy : ∀ k, odp y[k]? + 1 ≤ max (odp (some (.list x))) (odp (some (.list y))) := fun k => Nat.le_trans (odp_item y k) (Nat.le_max_right _ _)
  have d0 : odp none + 1 ≤ max (odp (some (.list x))) (odp (some (.list y))) := by
    show 0 + 1 ≤ _
    have := odp_item x 0
    omega
  have o0 : okO none := fun v hv => nomatch hv
  have px : ∀ k, k < x.length → 1 ≤ osz x[k]? := fun k hk => by
    rw [List.getElem?_eq_getElem hk]
    exact size_pos _
  have py : ∀ k, k < y.length → 1 ≤ osz y[k]? := fun k hk => by
    rw [List.getElem?_eq_getElem hk]
    exact size_pos _
  intro k hk
  unfold lstKids at hk
  rcases List.mem_append.mp hk with z | z
  · rcases List.mem_append.mp z with z | z
    · obtain ⟨n, hn, rfl⟩ := List.mem_map.mp z
      have hn' := List.mem_range.mp hn
      have := px n (by omega)
      exact one n _ _ (by omega) (dx n) (dy n) (okO_item h.a n) (okO_item h.b n) (by omega)
    · obtain ⟨n, hn, rfl⟩ := List.mem_map.mp z
      have hn' := List.mem_range.mp hn
      have := px (x.length - 1 - n) (by omega)
      exact one _ _ _ (by omega) (dx _) d0 (okO_item h.a _) o0 (by omega)
  · obtain ⟨n, hn, rfl⟩ := List.mem_map.mp z
    have hn' := List.mem_range.mp hn
    have := py (x.length + n) (by omega)
    exact one _ _ _ (by omega) d0 (dy _) o0 (okO_item h.b _) (by omega)
/-! the parts weigh less than the whole -/
theorem szF_sum {ns : List Bytes} (hn : ns.Nodup) : ∀ x : List (Bytes × V), (ns.map fun n => osz (fieldIn x n)).sum ≤ sizeR x
  | [] => by
    have : (ns.map fun n => osz (fieldIn [] n)) = ns.map fun _ => 0 := List.map_congr_left fun n _ => rfl
    rw [this]
    have h0 : ∀ l : List Bytes, (l.map fun _ => 0).sum = 0 := fun l => by induction l <;> simp_all
    rw [h0]
    exact Nat.zero_le _
  | (m, v) :: l => by
    have ih := szF_sum hn l
    have e : (ns.map fun n => osz (fieldIn ((m, v) :: l) n)) = ns.map fun n => if m = n then size v else osz (fieldIn l n) := List.map_congr_left fun n _ => by
      rw [fieldIn_cons]
      by_cases z : m = n
      · rw [if_pos z, if_pos z]; rfl
      · rw [if_neg z, if_neg z]
    rw [e]
    have h1 := sum_one (m := m) (c := size v) (g := fun n => osz (fieldIn l n)) hn
    simp only [sizeR]
    omega
theorem recKids_w {p : Path} {x y : List (Bytes × V)} (hx : Rises x) : ((recKids p x y).map wIt).sum ≤ sizeR x + sizeR y := by
  have nd : (namesOf x y).Nodup := (namesOf_up (y := y) hx).imp fun h z => by rw [z] at h; exact bo_irrefl h
  unfold recKids
  rw [List.map_map]
  show ((namesOf x y).map fun n => osz (fieldIn x n) + osz (fieldIn y n)).sum ≤ _
  rw [sum_add]
  have := szF_sum nd x
  have := szF_sum nd y
  omega
theorem szL_sum : ∀ l : List V, (l.map fun v => osz (some v)).sum = sizeL l
  | [] => rfl
  | x :: l => by
    rw [List.map_cons, List.sum_cons, szL_sum l]
    rfl
theorem lstKids_w {p : Path} {x y : List V} : ((lstKids p x y).map wIt).sum ≤ sizeL x + sizeL y := by
  unfold lstKids
  rw [List.map_append, List.map_append, List.sum_append, List.sum_append, List.map_map, List.map_map, List.map_map]
  show ((List.range (min x.length y.length)).map fun k => osz x[k]? + osz y[k]?).sum + ((List.range (x.length - y.length)).map fun k => osz x[x.length - 1 - k]? + osz none).sum + ((List.range (y.length - x.length)).map fun k => osz none + osz y[x.length + k]?).sum ≤ _
  have e1 : ((List.range (x.length - y.length)).map fun k => osz x[x.length - 1 - k]? + osz none) = (List.range (x.length - y.length)).map fun k => osz x[x.length - 1 - k]? := List.map_congr_left fun k _ => Nat.add_zero _
  have e2 : ((List.range (y.length - x.length)).map fun k => osz none + osz y[x.length + k]?) = (List.range (y.length - x.length)).map fun k => osz y[x.length + k]? := List.map_congr_left fun k _ => Nat.zero_add _
  rw [e1, e2, sum_add, range_take rfl x, range_take rfl y, range_back x _ (by omega), range_front rfl y]
  have e3 : x.length - (x.length - y.length) = min x.length y.length := by omega
  rw [e3]
  have split : ∀ (l : List V) (n : Nat), ((l.take n).map fun v => osz (some v)).sum + ((l.drop n).map fun v => osz (some v)).sum = sizeL l := fun l n => by
    rw [← List.sum_append, ← List.map_append, List.take_append_drop, szL_sum]
  have h1 := split x (min x.length y.length)
  have h2 := split y (min x.length y.length)
  have h3 : (((y.drop x.length).take (y.length - x.length)).map fun v => osz (some v)).sum ≤ ((y.drop (min x.length y.length)).map fun v => osz (some v)).sum := by
    rw [List.take_of_length_le (by rw [List.length_drop]; exact Nat.le_refl _)]
    by_cases hxy : x.length ≤ y.length
    · rw [Nat.min_eq_left hxy]; exact Nat.le_refl _
    · rw [List.drop_eq_nil_of_le (by omega)]
      exact Nat.zero_le _
  omega
/-! ### how long the answer is -/
mutual
theorem pw_bl : ∀ v : V, pw v ≤ 2 * bl v
  | .null => by decide
  | .bool true => by decide
  | .bool false => by decide
  | .num n => by have := bl_pos (.num n); simp only [pw]; omega
  | .text b => by have := bl_pos (.text b); simp only [pw]; omega
  | .list l => by
    have := pwL_bl l
    simp only [pw, bl, write, List.length_cons, List.length_append, List.length_nil]
    omega
  | .record l => by
    have := pwR_bl l
    simp only [pw, bl, write, List.length_cons, List.length_append, List.length_nil]
    omega
theorem pwL_bl : ∀ l : List V, pwL l ≤ 2 * (writeL l).length + 1
  | [] => by simp [pwL]
  | [x] => by
    have := pw_bl x
    unfold bl at this
    simp only [pwL, writeL]
    omega
  | x :: y :: l => by
    have a := pw_bl x
    have b := pwL_bl (y :: l)
    unfold bl at a
    rw [pwL]
    simp only [writeL, List.length_append, List.length_cons] at b ⊢
    omega
theorem pwR_bl : ∀ l : List (Bytes × V), pwR l ≤ 2 * (writeR l).length
  | [] => by simp [pwR]
  | (n, x) :: l => by
    have a := pw_bl x
    have b := pwR_bl l
    have c := writeR_cons n x l
    have d : 2 ≤ kn1 (.name n) := by simp only [kn1, quoted, List.length_cons, List.length_append]; omega
    simp only [pwR]
    omega
end
theorem writeL_up : ∀ l : List V, (writeL l).length ≤ (l.map fun v => bl v + 1).sum
  | [] => Nat.zero_le _
  | [x] => by simp [writeL, bl]
  | x :: y :: l => by
    have := writeL_up (y :: l)
    rw [List.map_cons, List.sum_cons]
    simp only [writeL, List.length_append, List.length_cons]
    unfold bl at *
    omega
theorem writeR_up : ∀ (n : Bytes) (v : V) (l : List (Bytes × V)), (writeR ((n, v) :: l)).length ≤ kn1 (.name n) + bl v + 1 + (writeR l).length
  | n, v, [] => by simp only [writeR, kn1, bl, List.length_append, List.length_cons, List.length_nil]; omega
  | n, v, y :: l => by simp only [writeR, kn1, bl, List.length_append, List.length_cons]; omega
theorem keyV_bl {k : Key} (h : okK k) : bl (keyV k) + 1 ≤ kn1 k + 18 ∧ pw (keyV k) = 1 := by
  cases k with
  | name b => exact ⟨by simp only [keyV, bl, write, kn1]; omega, by simp [keyV, pw]⟩
  | place n =>
    have hn : n < 9007199254740992 := h
    have := digits_len (n := (n : Int).natAbs) (by omega)
    have := digits_len (n := n) hn
    refine ⟨?_, by simp [keyV, pw]⟩
    simp only [keyV, bl, write, kn1, Kcs7.numOf]
    split <;> simp <;> omega
theorem keys_bl : ∀ {p : Path}, (∀ k ∈ p, okK k) → ((p.map keyV).map fun v => bl v + 1).sum ≤ kn p + 18 * p.length ∧ pwL (p.map keyV) = 2 * p.length
  | [], _ => ⟨Nat.le_refl _, rfl⟩
  | k :: p, h => by
    obtain ⟨a, b⟩ := keys_bl (p := p) fun j hj => h j (List.mem_cons_of_mem _ hj)
    obtain ⟨c, d⟩ := keyV_bl (h k List.mem_cons_self)
    simp only [List.map_cons, List.sum_cons, kn, pwL, List.length_cons] at a b ⊢
    omega
def itC (c : Change) : It := (c.at_, c.was, c.is_)
theorem opt_one {n : Bytes} (o : Option V) : (writeR (o.map fun v => (n, v)).toList).length ≤ kn1 (.name n) + ob o + 1 ∧ pwR (o.map fun v => (n, v)).toList ≤ 3 + 2 * ob o := by
  cases o with
  | none => exact ⟨Nat.zero_le _, Nat.zero_le _⟩
  | some v =>
    have a1 := writeR_up n v []
    have a2 := pw_bl v
    have a3 : (writeR []).length = 0 := rfl
    show (writeR [(n, v)]).length ≤ kn1 (.name n) + bl v + 1 ∧ 3 + pw v + 0 ≤ 3 + 2 * bl v
    omega
theorem changeV_bl {c : Change} (h : OkI (itC c)) : bl (changeV c) ≤ 780 + kn c.at_ + ob c.was + ob c.is_ ∧ pw (changeV c) ≤ 110 + 2 * (ob c.was + ob c.is_) := by
  have hl : c.at_.length ≤ 40 := by
    have : c.at_.length + max (odp c.was) (odp c.is_) ≤ 40 := h.len
    omega
  obtain ⟨k1, k2⟩ := keys_bl (p := c.at_) h.keys
  have kl := writeL_up (c.at_.map keyV)
  have key : changeV c = .record ((Kcs7.at_, .list (c.at_.map keyV)) :: ((c.is_.map fun v => (Kcs7.is_, v)).toList ++ (c.was.map fun v => (Kcs7.was, v)).toList)) := rfl
  have app : ∀ l m : List (Bytes × V), (writeR (l ++ m)).length ≤ (writeR l).length + 1 + (writeR m).length ∧ pwR (l ++ m) = pwR l + pwR m := by
    intro l
    induction l with
    | nil => intro m; exact ⟨by rw [List.nil_append]; omega, by simp [pwR]⟩
    | cons x l ih =>
      obtain ⟨n, v⟩ := x
      intro m
      refine ⟨?_, by rw [List.cons_append, pwR, pwR, (ih m).2]; omega⟩
      cases l with
      | nil =>
        have := writeR_up n v m
        have e : (writeR [(n, v)]).length = kn1 (.name n) + bl v := by simp only [writeR, kn1, bl, List.length_append, List.length_cons]; omega
        show (writeR ((n, v) :: m)).length ≤ _
        omega
      | cons y l =>
        have := (ih m).1
        have e1 : (writeR ((n, v) :: y :: l)).length = kn1 (.name n) + bl v + 1 + (writeR (y :: l)).length := by simp only [writeR, kn1, bl, List.length_append, List.length_cons]; omega
        have e2 : (writeR ((n, v) :: y :: l ++ m)).length = kn1 (.name n) + bl v + 1 + (writeR (y :: l ++ m)).length := by simp only [List.cons_append, writeR, kn1, bl, List.length_append, List.length_cons]; omega
        omega
  obtain ⟨a1, a2⟩ := app (c.is_.map fun v => (Kcs7.is_, v)).toList (c.was.map fun v => (Kcs7.was, v)).toList
  obtain ⟨i1, i2⟩ := opt_one (n := Kcs7.is_) c.is_
  obtain ⟨w1, w2⟩ := opt_one (n := Kcs7.was) c.was
  have n1 : kn1 (.name Kcs7.at_) = 5 := by decide
  have n2 : kn1 (.name Kcs7.is_) = 5 := by decide
  have n3 : kn1 (.name Kcs7.was) = 6 := by decide
  rw [key]
  generalize (c.is_.map fun v => (Kcs7.is_, v)).toList ++ (c.was.map fun v => (Kcs7.was, v)).toList = rest at a1 a2
  have u := writeR_up Kcs7.at_ (.list (c.at_.map keyV)) rest
  constructor
  · have bL : bl (.list (c.at_.map keyV)) = 2 + (writeL (c.at_.map keyV)).length := by simp only [bl, write, List.length_cons, List.length_append, List.length_nil]; omega
    have bR : bl (.record ((Kcs7.at_, .list (c.at_.map keyV)) :: rest)) = 2 + (writeR ((Kcs7.at_, .list (c.at_.map keyV)) :: rest)).length := by simp only [bl, write, List.length_cons, List.length_append, List.length_nil]; omega
    omega
  · simp only [pw, pwR]
    omega
theorem changes_bl : ∀ {C : List Change}, (∀ c ∈ C, OkI (itC c)) → ((C.map changeV).map fun v => bl v + 1).sum ≤ 781 * C.length + sT C + sS C ∧ pwL (C.map changeV) ≤ 111 * C.length + 2 * sS C
  | [], _ => ⟨Nat.le_refl _, Nat.le_refl _⟩
  | c :: C, h => by
    obtain ⟨a, b⟩ := changes_bl (C := C) fun d hd => h d (List.mem_cons_of_mem _ hd)
    obtain ⟨e, f⟩ := changeV_bl (h c List.mem_cons_self)
    simp only [List.map_cons, List.sum_cons, sT, sS, pwL, List.length_cons] at a b ⊢
    omega
theorem half_sq : ∀ n, n ≤ 8192 → n * (8192 - n) ≤ 16777216 := by
  intro n hn
  have key : ∀ e d : Nat, e + d = 4096 → e * (e + 2 * d) ≤ 16777216 := fun e d h => by
    have h2 : (e + d) * (e + d) = 16777216 := by rw [h]
    have h3 : e * (2 * d) = 2 * (e * d) := Nat.mul_left_comm _ _ _
    have h4 : d * e = e * d := Nat.mul_comm _ _
    have h5 : (e + d) * (e + d) = e * e + e * d + (d * e + d * d) := by rw [Nat.add_mul, Nat.mul_add, Nat.mul_add]
    rw [Nat.mul_add, h3]
    omega
  by_cases c : n ≤ 4096
  · have := key n (4096 - n) (by omega)
    rw [show n + 2 * (4096 - n) = 8192 - n by omega] at this
    exact this
  · have := key (8192 - n) (n - 4096) (by omega)
    rw [show 8192 - n + 2 * (n - 4096) = n by omega, Nat.mul_comm] at this
    exact this
/-- the whole answer -/
theorem answer_len {a b : V} (ha : wf a ∧ (write a).length ≤ 4096) (hb : wf b ∧ (write b).length ≤ 4096) (h : ∀ c ∈ differences a b, OkI (itC c)) :
    (write (.list ((differences a b).map changeV))).length ≤ 15000000 ∧ pw (.list ((differences a b).map changeV)) ≤ 15000000 ∧ (differences a b).length ≤ 8192 := by
  have g := good (osz (some a) + osz (some b)) [] (some a) (some b) (fun v hv => by cases hv; exact ha.1) (fun v hv => by cases hv; exact hb.1) (Nat.le_refl _)
  rw [← differences_out] at g
  have g2 := g.weak (B' := 8192) (by simp only [ob, bl]; have := ha.2; have := hb.2; omega)
  obtain ⟨n1, s1, t1⟩ := g2
  have t2 := t1 (8192 - (differences a b).length) (Nat.le_refl _)
  have hh := half_sq _ n1
  have k0 : kn [] = 0 := rfl
  rw [k0, Nat.mul_zero] at t2
  obtain ⟨c1, c2⟩ := changes_bl h
  have c3 := writeL_up ((differences a b).map changeV)
  refine ⟨?_, ?_, n1⟩
  · simp only [write, List.length_cons, List.length_append, List.length_nil]
    omega
  · simp only [pw]
    omega
/-! ### what is written -/
theorem changeV_short {c : Change} (h : OkI (itC c)) : short (changeV c) ∧ nok (changeV c) := by
  have hl : c.at_.length ≤ 40 := by
    have : c.at_.length + max (odp c.was) (odp c.is_) ≤ 40 := h.len
    omega
  have hk : ∀ k ∈ c.at_, okK k := h.keys
  have kk : ∀ x ∈ c.at_.map keyV, short x ∧ nok x := fun x hx => by
    obtain ⟨k, hk', rfl⟩ := List.mem_map.mp hx
    have := hk k hk'
    cases k with
    | name b => exact ⟨this, by simp [keyV, nok]⟩
    | place n =>
      have hn : n < 9007199254740992 := this
      exact ⟨by simp [keyV, short], by simp only [keyV, nok]; omega⟩
  have fl : ∀ f ∈ [(Kcs7.at_, V.list (c.at_.map keyV))] ++ (c.is_.map fun v => (Kcs7.is_, v)).toList ++ (c.was.map fun v => (Kcs7.was, v)).toList, f.1.length ≤ 4096 ∧ short f.2 ∧ nok f.2 := fun f hf => by
    simp only [List.mem_append, List.mem_singleton, Option.mem_toList, Option.map_eq_some_iff] at hf
    rcases hf with (rfl | ⟨v, hv, rfl⟩) | ⟨v, hv, rfl⟩
    · exact ⟨by show Kcs7.at_.length ≤ 4096; decide, ⟨by rw [List.length_map]; omega, shortL_of fun x hx => (kk x hx).1⟩, by simp only [nok]; exact nokL_iff.mpr fun x hx => (kk x hx).2⟩
    · obtain ⟨_, h2, h3, _⟩ := h.b v hv
      exact ⟨by show Kcs7.is_.length ≤ 4096; decide, short_size v h3, h2⟩
    · obtain ⟨_, h2, h3, _⟩ := h.a v hv
      exact ⟨by show Kcs7.was.length ≤ 4096; decide, short_size v h3, h2⟩
  have len3 : ([(Kcs7.at_, V.list (c.at_.map keyV))] ++ (c.is_.map fun v => (Kcs7.is_, v)).toList ++ (c.was.map fun v => (Kcs7.was, v)).toList).length ≤ 3 := by
    cases c.is_ <;> cases c.was <;> simp
  have sR : ∀ l : List (Bytes × V), (∀ f ∈ l, f.1.length ≤ 4096 ∧ short f.2 ∧ nok f.2) → shortR l ∧ nokR l := by
    intro l
    induction l with
    | nil => intro _; exact ⟨trivial, trivial⟩
    | cons f l ih =>
      intro hf
      obtain ⟨n, v⟩ := f
      have a := hf (n, v) List.mem_cons_self
      have b := ih fun g hg => hf g (List.mem_cons_of_mem _ hg)
      exact ⟨⟨a.1, a.2.1, b.1⟩, ⟨a.2.2, b.2⟩⟩
  obtain ⟨r1, r2⟩ := sR _ fl
  unfold changeV
  exact ⟨⟨by omega, r1⟩, r2⟩
theorem changes_short {C : List Change} (h : ∀ c ∈ C, OkI (itC c)) (hl : C.length ≤ 8192) : short (.list (C.map changeV)) ∧ nok (.list (C.map changeV)) := by
  refine ⟨⟨by rw [List.length_map]; omega, shortL_of fun x hx => ?_⟩, ?_⟩
  · obtain ⟨c, hc, rfl⟩ := List.mem_map.mp hx
    exact (changeV_short (h c hc)).1
  · simp only [nok]
    refine nokL_iff.mpr fun x hx => ?_
    obtain ⟨c, hc, rfl⟩ := List.mem_map.mp hx
    exact (changeV_short (h c hc)).2
end Vt

namespace Vt
open PySem PySem.Spec PyProof.Rows L2
open PySem.W (Frag)
open Kcs7 (Bytes quoted write)
/-! ### numbers as texts -/
theorem num_codes (i : Int) : (Str.ofString (toString i)).cps.toList = Kcs7.numOf i := by
  rw [Str.ofString_eq_toList]
  show (toString i).toList.map Char.toNat = Kcs7.numOf i
  have nat : ∀ n : Nat, (toString n).toList.map Char.toNat = Kcs7.digits n := fun n => by
    show (Nat.repr n).toList.map Char.toNat = (Nat.toDigits 10 n).map Char.toNat
    unfold Nat.repr
    rw [String.toList_ofList]
  unfold Kcs7.numOf
  cases i with
  | ofNat n =>
    rw [if_neg (by have : (0 : Int) ≤ Int.ofNat n := Int.natCast_nonneg n; omega)]
    exact nat n
  | negSucc n =>
    rw [if_pos (Int.negSucc_lt_zero n)]
    show ("-" ++ toString (n + 1)).toList.map Char.toNat = 45 :: Kcs7.digits (n + 1)
    rw [String.toList_append, List.map_append, nat]
    rfl
/-! ### what waits -/
def PcAt (H : Hp) (x : V) : Pc → Prop
  | .raw b => ∃ t q, x = .ref t ∧ H t = some (.tup [.int 7, .ref q]) ∧ H q = some (.tup (bys b))
  | .val v => VAt H x v ∨ ∃ t q b, v = .text b ∧ x = .ref t ∧ H t = some (.tup [.int 4, .ref q]) ∧ H q = some (.tup (bys b))
inductive PcsAt (H : Hp) : List V → List Pc → Prop where
  | nil : PcsAt H [] []
  | cons {x : V} {p : Pc} {xs : List V} {ps : List Pc} : PcAt H x p → PcsAt H xs ps → PcsAt H (x :: xs) (p :: ps)
theorem PcAt.mono {H H' : Hp} {x : V} {p : Pc} (h : PcAt H x p) (k : Tk H H') : PcAt H' x p := by
  cases p with
  | raw b =>
    obtain ⟨t, q, e, h1, h2⟩ := h
    exact ⟨t, q, e, k _ _ h1, k _ _ h2⟩
  | val v =>
    rcases h with h | ⟨t, q, b, e1, e2, h1, h2⟩
    · exact .inl (VAt.mono k h)
    · exact .inr ⟨t, q, b, e1, e2, k _ _ h1, k _ _ h2⟩
theorem PcsAt.mono {H H' : Hp} {xs : List V} {ps : List Pc} (h : PcsAt H xs ps) (k : Tk H H') : PcsAt H' xs ps := by
  induction h with
  | nil => exact .nil
  | cons a _ ih => exact .cons (a.mono k) ih
theorem PcsAt.app {H : Hp} {xs ys : List V} {ps qs : List Pc} (h : PcsAt H xs ps) (h' : PcsAt H ys qs) : PcsAt H (xs ++ ys) (ps ++ qs) := by
  induction h with
  | nil => exact h'
  | cons a _ ih => exact .cons a ih
theorem PcsAt.rev {H : Hp} {xs : List V} {ps : List Pc} (h : PcsAt H xs ps) : PcsAt H xs.reverse ps.reverse := by
  induction h with
  | nil => exact .nil
  | cons a _ ih =>
    rw [List.reverse_cons, List.reverse_cons]
    exact ih.app (.cons a .nil)
theorem PcsAt.len {H : Hp} {xs : List V} {ps : List Pc} (h : PcsAt H xs ps) : xs.length = ps.length := by
  induction h with
  | nil => rfl
  | cons a _ ih => exact congrArg (· + 1) ih
theorem PcsAt.last {H : Hp} {xs : List V} {ps : List Pc} {p : Pc} (h : PcsAt H xs (ps ++ [p])) : ∃ xs' x, xs = xs' ++ [x] ∧ PcsAt H xs' ps ∧ PcAt H x p := by
  have h' := h.rev
  rw [List.reverse_append] at h'
  cases hx : xs.reverse with
  | nil => rw [hx] at h'; cases h'
  | cons x r =>
    rw [hx] at h'
    cases h' with
    | cons a t =>
      have e : xs = r.reverse ++ [x] := by
        have := congrArg List.reverse hx
        rw [List.reverse_reverse, List.reverse_cons] at this
        exact this
      refine ⟨r.reverse, x, e, ?_, a⟩
      have t' := PcsAt.rev (show PcsAt H r ps.reverse from t)
      rw [List.reverse_reverse] at t'
      exact t'
def Pc.ok : Pc → Prop
  | .raw b => b.length ≤ 5000
  | .val v => nok v ∧ short v
section
variable {P : Program} {w : World} {K : Frag} {mg : Str → Option Value} {base : Heap} {CC CO CR CN bB bW : Addr}
theorem bys_app (a b : Bytes) : bys (a ++ b) = bys a ++ bys b := by unfold bys; rw [List.map_append]
theorem bys_len (a : Bytes) : (bys a).length = a.length := by unfold bys; rw [List.length_map]
/-- a list's own write, new since H -/
theorem Same.set {H H' : Hp} {l : Addr} {o : HO} (s : Same H H') (hl : H l = none) : Same H (upd H' l o) := fun d u hd => by rw [upd_ne (ne_of_none hd hl)]; exact s d u hd
/-! ### written_text -/
def esc (c : Nat) : Bytes := if c = 34 ∨ c = 92 then [92, c] else [c]
theorem quoted_esc (b : Bytes) : quoted b = 34 :: b.flatMap esc ++ [34] := rfl
theorem esc_len (b : Bytes) : (b.flatMap esc).length ≤ 2 * b.length := by
  have := quoted_len b
  rw [quoted_esc] at this
  simp only [List.cons_append, List.length_cons, List.length_append, List.length_nil] at this
  omega
def spWrittenText : Sp := fun vs H Q _ => ∃ t b, vs = [.ref t] ∧ H t = some (.tup (bys b)) ∧ b.length ≤ 5000 ∧ ∀ H' p, H p = none → Same H H' → H' p = some (.lst (bys (quoted b))) → Q (.ref p) H'
theorem scWrittenText : FnScope ["text", "row", "sign"] ["text"] (defScope sWrittenText) := ⟨rfl, rfl, rfl, by decide +kernel, rfl, by decide +kernel, by decide +kernel⟩
theorem ok_writtenText {f : Addr} {fd : FuncData} (F : Fun K "written_text" "written_text" sWrittenText f fd) (T : Tx K mg CC CO CR CN bB bW) : FnOk P w K mg base CX0 1 f fd ["text"] spWrittenText := by
  refine F.ok scWrittenText (fun vs H Q E h => ?_) (fun cdv A outer s H vs Q E hr h => ?_)
  · obtain ⟨_, _, rfl, _⟩ := h
    rfl
  · obtain ⟨t, b, rfl, ht, hb, q⟩ := h
    refine ⟨_, pss_cons (ps_set (i := 1) scWrittenText.nd rfl (Or.inl rfl) (pe_lst (pa_cons (pe_const T.gQUOTE) pa_nil)))
      (pss_cons (ps_for PassesOwn.never rfl (pi_tup (pv 0)) (pg_name (i := 2) scWrittenText.nd rfl (Or.inl rfl))
        (pss_cons (ps_if (PW.pt (pw_or (pt_cmpR op_eq (pv 2) (pe_const T.gQUOTE) (nomark _)) (pw_or1 (pt_cmpR op_eq (pv 2) (pe_const T.gBACKSLASH) (nomark _)))))
          (pss_one (ps_expr (pe_bm PySem.F.plainAttrs_list PySem.F.slot_list_append PySem.F.type_list_append mt_append (pv 1) (pa_cons (pe_const T.gBACKSLASH) pa_nil)))) pss_nil)
        (pss_one (ps_expr (pe_bm PySem.F.plainAttrs_list PySem.F.slot_list_append PySem.F.type_list_append mt_append (pv 1) (pa_cons (pv 2) pa_nil))))))
      (pss_cons (ps_expr (pe_bm PySem.F.plainAttrs_list PySem.F.slot_list_append PySem.F.type_list_append mt_append (pv 1) (pa_cons (pe_const T.gQUOTE) pa_nil)))
      (pss_one (ps_ret (pv 1))))), ?_⟩
    refine ⟨(by show 1 ≤ sizeLine; decide), fun l hl => ?_⟩
    have s0 : Same H (upd H l (.lst [.int 34])) := Same.new hl
    have h5 : 20000 < sizeLine := by decide
    refine ⟨_, rfl, t, rfl, ⟨_, SqT.of (s0 _ _ ht)⟩, ?_⟩
    refine for_tup (K := K) (a := t) (xs := bys b) (fun i σ H' => (∃ v, σ = [some (.ref t), some (.ref l), v]) ∧ Same H H' ∧ H' l = some (.lst (bys (34 :: (b.take i).flatMap esc)))) ⟨⟨none, rfl⟩, s0, upd_same⟩ (fun i σ H' _ ⟨_, s1, _⟩ => SqT.of (s1 _ _ ht)) ?_ ?_
    · rintro i y σ H1 hi ⟨⟨v, rfl⟩, s1, h1⟩
      obtain ⟨c, hc, rfl⟩ : ∃ c : Nat, b[i]? = some c ∧ y = V.int (c : Int) := by
        unfold bys at hi
        rw [List.getElem?_map] at hi
        obtain ⟨c, hc, e⟩ := Option.map_eq_some_iff.mp hi
        exact ⟨c, hc, e.symm⟩
      have ilt := (List.getElem?_eq_some_iff.mp hc).1
      have elen := esc_len (b.take i)
      rw [List.length_take] at elen
      have hlen : (bys (34 :: (b.take i).flatMap esc)).length < sizeLine := by
        rw [bys_len, List.length_cons]
        omega
      have etk : (b.take (i + 1)).flatMap esc = (b.take i).flatMap esc ++ esc c := by
        rw [List.take_add_one, hc, List.flatMap_append]
        simp
      -- the second append
      have fin : ∀ (ys : Bytes) (H2 : Hp), ys.length < 20000 → Same H H2 → H2 l = some (.lst (bys ys)) → ys ++ [c] = 34 :: (b.take (i + 1)).flatMap esc →
          (tDrop (tBM K "list" rAppend (tVar 1) (tCons (tVar 2) tNil))) { nx := fun σ' H' => (∃ v, σ' = [some (.ref t), some (.ref l), v]) ∧ Same H H' ∧ H' l = some (.lst (bys (34 :: (b.take (i + 1)).flatMap esc))), rt := Q, bk := fun _ _ => True, ct := fun _ _ => True } [some (.ref t), some (.ref l), some (.int (c : Int))] H2 := by
        intro ys H2 hy s2 h2 ey
        refine ⟨_, rfl, .inl ⟨rfl, _, SqL.of h2⟩, _, rfl, l, _, _, rfl, rfl, h2, by rw [bys_len]; omega, ⟨_, rfl⟩, Same.set s2 hl, ?_⟩
        rw [upd_same, ← ey, bys_app]
        rfl
      refine ⟨_, rfl, rfl, _, rfl, ?_⟩
      by_cases c1 : c = 34
      · refine if_t (dV_t (by omega)) ?_
        refine if_t rfl ?_
        refine ⟨_, rfl, .inl ⟨rfl, _, SqL.of h1⟩, l, _, _, rfl, rfl, h1, hlen, ?_⟩
        refine fin (34 :: (b.take i).flatMap esc ++ [92]) _ ?_ (Same.set s1 hl) (by rw [upd_same, bys_app]; rfl) ?_
        · simp only [List.cons_append, List.length_cons, List.length_append, List.length_nil]; omega
        · rw [etk]; unfold esc; rw [if_pos (.inl c1)]; simp
      refine if_f (dV_f (by omega)) ?_
      refine ⟨_, rfl, rfl, _, rfl, ?_⟩
      by_cases c2 : c = 92
      · refine if_t (dV_t (by omega)) ?_
        refine ⟨_, rfl, .inl ⟨rfl, _, SqL.of h1⟩, l, _, _, rfl, rfl, h1, hlen, ?_⟩
        refine fin (34 :: (b.take i).flatMap esc ++ [92]) _ ?_ (Same.set s1 hl) (by rw [upd_same, bys_app]; rfl) ?_
        · simp only [List.cons_append, List.length_cons, List.length_append, List.length_nil]; omega
        · rw [etk]; unfold esc; rw [if_pos (.inr c2)]; simp
      refine if_f (dV_f (by omega)) ?_
      refine fin (34 :: (b.take i).flatMap esc) _ ?_ s1 h1 ?_
      · simp only [List.length_cons]; omega
      · rw [etk]
        have : esc c = [c] := by unfold esc; rw [if_neg (by omega)]
        rw [this]
        rfl
    · rintro σ H1 ⟨⟨v, rfl⟩, s1, h1⟩
      have et : b.take (bys b).length = b := List.take_of_length_le (by rw [bys_len]; exact Nat.le_refl _)
      rw [et] at h1
      have elen := esc_len b
      refine ⟨_, rfl, .inl ⟨rfl, _, SqL.of h1⟩, l, _, _, rfl, rfl, h1, by rw [bys_len, List.length_cons]; omega, _, rfl, ?_⟩
      refine q _ l hl (Same.set s1 hl) ?_
      rw [upd_same, quoted_esc, bys_app]
      rfl
end
end Vt

namespace Vt
open PySem PySem.Spec PyProof.Rows L2
open PySem.W (Frag)
open Kcs7 (Bytes quoted write)
theorem VsAt.get {H : Hp} : ∀ {xs : List V} {l : List Kcs7.V} {i : Nat} {x : V}, VsAt H xs l → xs[i]? = some x → ∃ v, l[i]? = some v ∧ VAt H x v
  | _, _, 0, _, .cons a _, h => by cases h; exact ⟨_, rfl, a⟩
  | _, _, i + 1, _, .cons _ r, h => by
    obtain ⟨v, h1, h2⟩ := VsAt.get (i := i) r (by simpa using h)
    exact ⟨v, by simpa using h1, h2⟩
theorem FsAt.get {H : Hp} : ∀ {xs : List V} {l : List (Bytes × Kcs7.V)} {i : Nat} {x : V}, FsAt H xs l → xs[i]? = some x → ∃ f n y name v, l[i]? = some (name, v) ∧ x = .ref f ∧ H f = some (.tup [.ref n, y]) ∧ H n = some (.tup (bys name)) ∧ VAt H y v
  | _, _, 0, _, .cons h1 h2 h3 _, h => by cases h; exact ⟨_, _, _, _, _, rfl, rfl, h1, h2, h3⟩
  | _, _, i + 1, _, .cons _ _ _ r, h => by
    obtain ⟨f, n, y, name, v, h0, h1, h2, h3, h4⟩ := FsAt.get (i := i) r (by simpa using h)
    exact ⟨f, n, y, name, v, by simpa using h0, h1, h2, h3, h4⟩
theorem midL_len (l : List Kcs7.V) : (midL l).length ≤ 2 * l.length := by
  cases l with
  | nil => simp [midL]
  | cons x r =>
    have : ∀ r : List Kcs7.V, (r.flatMap fun y => [Pc.raw [44], Pc.val y]).length = 2 * r.length := by
      intro r
      induction r with
      | nil => rfl
      | cons y r ih => rw [List.flatMap_cons, List.length_append, ih]; simp; omega
    show (Pc.val x :: _).length ≤ _
    rw [List.length_cons, this]
    simp
    omega
theorem midR_len (l : List (Bytes × Kcs7.V)) : (midR l).length ≤ 4 * l.length := by
  cases l with
  | nil => simp [midR]
  | cons x r =>
    have : ∀ r : List (Bytes × Kcs7.V), (r.flatMap fun y => Pc.raw [44] :: fieldP y).length = 4 * r.length := by
      intro r
      induction r with
      | nil => rfl
      | cons y r ih => rw [List.flatMap_cons, List.length_append, ih]; simp [fieldP]; omega
    show (fieldP x ++ _).length ≤ _
    rw [List.length_append, this]
    simp [fieldP]
    omega
section
variable {P : Program} {w : World} {K : Frag} {mg : Str → Option Value} {base : Heap} {CC CO CR CN bB bW : Addr}
/-- (AS_IT_IS, (c,)): two new tuples -/
theorem raw_new {H : Hp} {q t : Addr} {c : Nat} (hq : H q = none) (ht : upd H q (.tup [.int (c : Int)]) t = none) :
    Same H (upd (upd H q (.tup [.int (c : Int)])) t (.tup [.int 7, .ref q])) ∧ PcAt (upd (upd H q (.tup [.int (c : Int)])) t (.tup [.int 7, .ref q])) (.ref t) (.raw [c]) := by
  have s1 : Same H (upd H q (.tup [.int (c : Int)])) := Same.new hq
  have s2 : Same (upd H q (.tup [.int (c : Int)])) (upd (upd H q (.tup [.int (c : Int)])) t (.tup [.int 7, .ref q])) := Same.new ht
  exact ⟨s1.trans s2, t, q, rfl, upd_same, s2 _ _ upd_same⟩
/-- one piece more -/
theorem app_pc {H H2 : Hp} {p : Addr} {ys : List V} {x : V} {ws : List Pc} {pc : Pc} (hp0 : H p = none) (s : Same H H2) (hys : H2 p = some (.lst ys)) (hpc : PcsAt H2 ys ws) (hx : PcAt H2 x pc) :
    Same H (upd H2 p (.lst (ys ++ [x]))) ∧ PcsAt (upd H2 p (.lst (ys ++ [x]))) (ys ++ [x]) (ws ++ [pc]) := by
  have tk : Tk H2 (upd H2 p (.lst (ys ++ [x]))) := tk_upd hys fun _ z => nomatch z
  exact ⟨Same.set s hp0, (hpc.mono tk).app (.cons (hx.mono tk) .nil)⟩
/-! ### pieces_of_list -/
def spPiecesL : Sp := fun vs H Q _ => ∃ t xs l, vs = [.ref t] ∧ H t = some (.tup xs) ∧ VsAt H xs l ∧ l.length ≤ 10000 ∧ ∀ H' p ps, H p = none → Same H H' → H' p = some (.lst ps) → PcsAt H' ps (piecesL l) → Q (.ref p) H'
theorem scPiecesL : FnScope ["listed", "pieces", "place", "value"] ["listed"] (defScope sPiecesOfList) := ⟨rfl, rfl, rfl, by decide +kernel, rfl, by decide +kernel, by decide +kernel⟩
theorem ok_piecesL {f : Addr} {fd : FuncData} (F : Fun K "pieces_of_list" "pieces_of_list" sPiecesOfList f fd) (T : Tx K mg CC CO CR CN bB bW) : FnOk P w K mg base CX0 1 f fd ["listed"] spPiecesL := by
  refine F.ok scPiecesL (fun vs H Q E h => ?_) (fun cdv A outer s H vs Q E hr h => ?_)
  · obtain ⟨_, _, _, rfl, _⟩ := h
    rfl
  · obtain ⟨t, xs, l, rfl, ht, hv, hl, q⟩ := h
    refine ⟨_, pss_cons (ps_set (i := 1) scPiecesL.nd rfl (Or.inl rfl) (pe_lst (pa_cons (pe_tup (pa_cons (pe_const T.gAS_IT_IS) (pa_cons (pe_tup (pa_cons (pe_const T.gLIST_START) pa_nil)) pa_nil))) pa_nil)))
      (pss_cons (ps_for PassesOwn.never rfl (pi_enumT (by rfl) T.enm (pa_cons (pv 0) pa_nil)) (pg_tup rfl (pgs_cons (pg_name (i := 2) scPiecesL.nd rfl (Or.inl rfl)) (pgs_cons (pg_name (i := 3) scPiecesL.nd rfl (Or.inl rfl)) pgs_nil)))
        (pss_cons (ps_if (pt_cmpR op_gt (pv 2) pe_int (nomark _)) (pss_one (ps_expr (pe_bm PySem.F.plainAttrs_list PySem.F.slot_list_append PySem.F.type_list_append mt_append (pv 1) (pa_cons (pe_tup (pa_cons (pe_const T.gAS_IT_IS) (pa_cons (pe_tup (pa_cons (pe_const T.gCOMMA) pa_nil)) pa_nil))) pa_nil)))) pss_nil)
        (pss_one (ps_expr (pe_bm PySem.F.plainAttrs_list PySem.F.slot_list_append PySem.F.type_list_append mt_append (pv 1) (pa_cons (pv 3) pa_nil))))))
      (pss_cons (ps_expr (pe_bm PySem.F.plainAttrs_list PySem.F.slot_list_append PySem.F.type_list_append mt_append (pv 1) (pa_cons (pe_tup (pa_cons (pe_const T.gAS_IT_IS) (pa_cons (pe_tup (pa_cons (pe_const T.gLIST_END) pa_nil)) pa_nil))) pa_nil)))
      (pss_one (ps_ret (pv 1))))), ?_⟩
    have h5 : 40000 < sizeLine := by decide
    have hxl := hv.len
    refine ⟨(by show 1 ≤ sizeLine; decide), fun q1 hq1 => ⟨(by show 2 ≤ sizeLine; decide), fun t1 ht1 => ⟨(by show 1 ≤ sizeLine; decide), fun p hp => ?_⟩⟩⟩
    obtain ⟨s1, pc1⟩ := raw_new (c := 91) hq1 ht1
    have hp0 : H p = none := s1.free hp
    have s2 := Same.set (o := .lst [.ref t1]) s1 hp0
    have tkp : Tk _ (upd _ p (.lst [.ref t1])) := Same.tk (Same.new hp)
    refine ⟨_, rfl, t, xs, rfl, SqT.of (s2 _ _ ht), ?_⟩
    refine for_it (walk_enumT (K := K) (a := t) (xs := xs)) (fun i σ H' => (∃ v1 v2, σ = [some (.ref t), some (.ref p), v1, v2]) ∧ Same H H' ∧ ∃ ys, H' p = some (.lst ys) ∧ PcsAt H' ys (.raw [91] :: midL (l.take i))) ⟨⟨none, none, rfl⟩, s2, _, upd_same, .cons (pc1.mono tkp) .nil⟩ (fun _ _ H' _ ⟨_, s3, _⟩ => SqT.of (s3 _ _ ht)) ?_ ?_
    · rintro i y σ H1 H2 hi ⟨⟨v1, v2, rfl⟩, s3, ys, hys, hpc⟩ ⟨tt, x1, x2, rfl, hfree, rfl, ex1, ex2⟩
      cases ex1
      obtain ⟨v, hvi, hva⟩ := hv.get ex2
      have s4 : Same H1 (upd H1 tt (.tup [.int (i : Nat), x2])) := Same.new hfree
      have hlt := (List.getElem?_eq_some_iff.mp hvi).1
      have hy2 := s4 _ _ hys
      have hp2 := hpc.mono (Same.tk s4)
      have s5 := s3.trans s4
      have hml := midL_len (l.take i)
      rw [List.length_take] at hml
      have hyl := hpc.len
      rw [List.length_cons] at hyl
      have etk : midL (l.take (i + 1)) = midL (l.take i) ++ ((if 0 < i then [.raw [44]] else []) ++ [.val v]) := by
        rw [List.take_add_one, hvi]
        show midL (l.take i ++ [v]) = _
        rw [midL_snoc, List.length_take, show min i l.length = i by omega]
      refine ⟨tt, _, rfl, SqT.of upd_same, rfl, _, _, rfl, _, _, rfl, rfl, ?_⟩
      generalize upd H1 tt (.tup [.int (i : Nat), x2]) = H3 at s4 hy2 hp2 s5
      refine ⟨_, rfl, _, _, rfl, rfl, _, rfl, ?_⟩
      by_cases hi0 : 0 < i
      · refine if_t (decide_eq_true (by omega)) ?_
        refine ⟨_, rfl, .inl ⟨rfl, _, SqL.of hy2⟩, (by show 1 ≤ sizeLine; decide), fun q2 hq2 => ⟨(by show 2 ≤ sizeLine; decide), fun t2 ht2 => ?_⟩⟩
        obtain ⟨s6, pc6⟩ := raw_new (c := 44) hq2 ht2
        have hy6 := s6 _ _ hy2
        refine ⟨p, _, _, rfl, rfl, hy6, by omega, ?_⟩
        obtain ⟨s7, pc7⟩ := app_pc hp0 (s5.trans s6) hy6 (hp2.mono (Same.tk s6)) pc6
        refine ⟨_, rfl, .inl ⟨rfl, _, SqL.of upd_same⟩, _, rfl, p, _, _, rfl, rfl, upd_same, by rw [List.length_append]; simp; omega, ?_⟩
        obtain ⟨s8, pc8⟩ := app_pc (x := x2) (pc := .val v) hp0 s7 upd_same pc7 (.inl (hva.mono (Same.tk s7)))
        refine ⟨⟨_, _, rfl⟩, s8, _, upd_same, ?_⟩
        rw [etk, if_pos hi0]
        simpa using pc8
      · refine if_f (decide_eq_false (by omega)) ?_
        refine ⟨_, rfl, .inl ⟨rfl, _, SqL.of hy2⟩, _, rfl, p, _, _, rfl, rfl, hy2, by omega, ?_⟩
        obtain ⟨s8, pc8⟩ := app_pc (x := x2) (pc := .val v) hp0 s5 hy2 hp2 (.inl (hva.mono (Same.tk s5)))
        refine ⟨⟨_, _, rfl⟩, s8, _, upd_same, ?_⟩
        rw [etk, if_neg hi0]
        simpa using pc8
    · rintro σ H1 ⟨⟨v1, v2, rfl⟩, s3, ys, hys, hpc⟩
      rw [hxl, List.take_length] at hpc
      have hml := midL_len l
      have hyl := hpc.len
      rw [List.length_cons] at hyl
      refine ⟨_, rfl, .inl ⟨rfl, _, SqL.of hys⟩, (by show 1 ≤ sizeLine; decide), fun q2 hq2 => ⟨(by show 2 ≤ sizeLine; decide), fun t2 ht2 => ?_⟩⟩
      obtain ⟨s6, pc6⟩ := raw_new (c := 93) hq2 ht2
      have hy6 := s6 _ _ hys
      refine ⟨p, _, _, rfl, rfl, hy6, by omega, ?_⟩
      obtain ⟨s7, pc7⟩ := app_pc hp0 (s3.trans s6) hy6 (hpc.mono (Same.tk s6)) pc6
      exact ⟨_, rfl, q _ p _ hp0 s7 upd_same pc7⟩
/-! ### pieces_of_record -/
def spPiecesR : Sp := fun vs H Q _ => ∃ t xs l, vs = [.ref t] ∧ H t = some (.tup xs) ∧ FsAt H xs l ∧ l.length ≤ 5000 ∧ ∀ H' p ps, H p = none → Same H H' → H' p = some (.lst ps) → PcsAt H' ps (piecesR l) → Q (.ref p) H'
theorem scPiecesR : FnScope ["fields", "pieces", "place", "field"] ["fields"] (defScope sPiecesOfRecord) := ⟨rfl, rfl, rfl, by decide +kernel, rfl, by decide +kernel, by decide +kernel⟩
theorem ok_piecesR {f : Addr} {fd : FuncData} (F : Fun K "pieces_of_record" "pieces_of_record" sPiecesOfRecord f fd) (T : Tx K mg CC CO CR CN bB bW) : FnOk P w K mg base CX0 1 f fd ["fields"] spPiecesR := by
  refine F.ok scPiecesR (fun vs H Q E h => ?_) (fun cdv A outer s H vs Q E hr h => ?_)
  · obtain ⟨_, _, _, rfl, _⟩ := h
    rfl
  · obtain ⟨t, xs, l, rfl, ht, hv, hl, q⟩ := h
    refine ⟨_, pss_cons (ps_set (i := 1) scPiecesR.nd rfl (Or.inl rfl) (pe_lst (pa_cons (pe_tup (pa_cons (pe_const T.gAS_IT_IS) (pa_cons (pe_tup (pa_cons (pe_const T.gRECORD_START) pa_nil)) pa_nil))) pa_nil)))
      (pss_cons (ps_for PassesOwn.never rfl (pi_enumT (by rfl) T.enm (pa_cons (pv 0) pa_nil)) (pg_tup rfl (pgs_cons (pg_name (i := 2) scPiecesR.nd rfl (Or.inl rfl)) (pgs_cons (pg_name (i := 3) scPiecesR.nd rfl (Or.inl rfl)) pgs_nil)))
        (pss_cons (ps_if (pt_cmpR op_gt (pv 2) pe_int (nomark _)) (pss_one (ps_expr (pe_bm PySem.F.plainAttrs_list PySem.F.slot_list_append PySem.F.type_list_append mt_append (pv 1) (pa_cons (pe_tup (pa_cons (pe_const T.gAS_IT_IS) (pa_cons (pe_tup (pa_cons (pe_const T.gCOMMA) pa_nil)) pa_nil))) pa_nil)))) pss_nil)
        (pss_cons (ps_expr (pe_bm PySem.F.plainAttrs_list PySem.F.slot_list_append PySem.F.type_list_append mt_append (pv 1) (pa_cons (pe_tup (pa_cons (pe_const T.gTEXT) (pa_cons (pe_ix ix_tup (pv 3) pe_int (fun _ _ => rfl)) pa_nil))) pa_nil)))
        (pss_cons (ps_expr (pe_bm PySem.F.plainAttrs_list PySem.F.slot_list_append PySem.F.type_list_append mt_append (pv 1) (pa_cons (pe_tup (pa_cons (pe_const T.gAS_IT_IS) (pa_cons (pe_tup (pa_cons (pe_const T.gCOLON) pa_nil)) pa_nil))) pa_nil)))
        (pss_one (ps_expr (pe_bm PySem.F.plainAttrs_list PySem.F.slot_list_append PySem.F.type_list_append mt_append (pv 1) (pa_cons (pe_ix ix_tup (pv 3) pe_int (fun _ _ => rfl)) pa_nil))))))))
      (pss_cons (ps_expr (pe_bm PySem.F.plainAttrs_list PySem.F.slot_list_append PySem.F.type_list_append mt_append (pv 1) (pa_cons (pe_tup (pa_cons (pe_const T.gAS_IT_IS) (pa_cons (pe_tup (pa_cons (pe_const T.gRECORD_END) pa_nil)) pa_nil))) pa_nil)))
      (pss_one (ps_ret (pv 1))))), ?_⟩
    have h5 : 40000 < sizeLine := by decide
    have hxl := hv.len
    refine ⟨(by show 1 ≤ sizeLine; decide), fun q1 hq1 => ⟨(by show 2 ≤ sizeLine; decide), fun t1 ht1 => ⟨(by show 1 ≤ sizeLine; decide), fun p hp => ?_⟩⟩⟩
    obtain ⟨s1, pc1⟩ := raw_new (c := 123) hq1 ht1
    have hp0 : H p = none := s1.free hp
    have s2 := Same.set (o := .lst [.ref t1]) s1 hp0
    have tkp : Tk _ (upd _ p (.lst [.ref t1])) := Same.tk (Same.new hp)
    refine ⟨_, rfl, t, xs, rfl, SqT.of (s2 _ _ ht), ?_⟩
    refine for_it (walk_enumT (K := K) (a := t) (xs := xs)) (fun i σ H' => (∃ v1 v2, σ = [some (.ref t), some (.ref p), v1, v2]) ∧ Same H H' ∧ ∃ ys, H' p = some (.lst ys) ∧ PcsAt H' ys (.raw [123] :: midR (l.take i))) ⟨⟨none, none, rfl⟩, s2, _, upd_same, .cons (pc1.mono tkp) .nil⟩ (fun _ _ H' _ ⟨_, s3, _⟩ => SqT.of (s3 _ _ ht)) ?_ ?_
    · rintro i y σ H1 H2 hi ⟨⟨v1, v2, rfl⟩, s3, ys, hys, hpc⟩ ⟨tt, x1, x2, rfl, hfree, rfl, ex1, ex2⟩
      cases ex1
      obtain ⟨fa, na, yv, name, v, hvi, rfl, hfa, hna, hva⟩ := hv.get ex2
      have s4 : Same H1 (upd H1 tt (.tup [.int (i : Nat), .ref fa])) := Same.new hfree
      have hlt := (List.getElem?_eq_some_iff.mp hvi).1
      have hy2 := s4 _ _ hys
      have hp2 := hpc.mono (Same.tk s4)
      have s5 := s3.trans s4
      have hml := midR_len (l.take i)
      rw [List.length_take] at hml
      have hyl := hpc.len
      rw [List.length_cons] at hyl
      have etk : midR (l.take (i + 1)) = midR (l.take i) ++ ((if 0 < i then [.raw [44]] else []) ++ fieldP (name, v)) := by
        rw [List.take_add_one, hvi]
        show midR (l.take i ++ [(name, v)]) = _
        rw [midR_snoc, List.length_take, show min i l.length = i by omega]
      refine ⟨tt, _, rfl, SqT.of upd_same, rfl, _, _, rfl, _, _, rfl, rfl, ?_⟩
      generalize upd H1 tt (.tup [.int (i : Nat), .ref fa]) = H3 at s4 hy2 hp2 s5
      -- the three pieces of a field
      have fin : ∀ (zs : List V) (ws : List Pc) (H4 : Hp), Same H H4 → H4 p = some (.lst zs) → PcsAt H4 zs ws → zs.length < 30000 → ws ++ fieldP (name, v) = .raw [123] :: midR (l.take (i + 1)) →
          (tSeq (tDrop (tBM K "list" rAppend (tVar 1) (tCons (tTup (tCons (tC (.int 4)) (tCons (tOp (rIxT K) (tVar 3) (tC (.int 0))) tNil))) tNil)))
          (tSeq (tDrop (tBM K "list" rAppend (tVar 1) (tCons (tTup (tCons (tC (.int 7)) (tCons (tTup (tCons (tC (.int 58)) tNil)) tNil))) tNil)))
          (tDrop (tBM K "list" rAppend (tVar 1) (tCons (tOp (rIxT K) (tVar 3) (tC (.int 1))) tNil))))) { nx := fun σ' H' => (∃ v1 v2, σ' = [some (.ref t), some (.ref p), v1, v2]) ∧ Same H H' ∧ ∃ ys, H' p = some (.lst ys) ∧ PcsAt H' ys (.raw [123] :: midR (l.take (i + 1))), rt := Q, bk := fun _ _ => True, ct := fun _ _ => True }
          [some (.ref t), some (.ref p), some (.int (i : Nat)), some (.ref fa)] H4 := by
        intro zs ws H4 s10 hz hpz hzl ews
        refine ⟨_, rfl, .inl ⟨rfl, _, SqL.of hz⟩, _, rfl, fa, _, 0, .ref na, rfl, rfl, SqT.of (s10 _ _ hfa), atI_nat (j := 0) rfl, (by show 2 ≤ sizeLine; decide), fun t3 ht3 => ?_⟩
        have s11 : Same H4 (upd H4 t3 (.tup [.int 4, .ref na])) := Same.new ht3
        refine ⟨p, _, _, rfl, rfl, s11 _ _ hz, by omega, ?_⟩
        obtain ⟨s12, pc12⟩ := app_pc (x := .ref t3) (pc := .val (.text name)) hp0 (s10.trans s11) (s11 _ _ hz) (hpz.mono (Same.tk s11)) (show PcAt _ (.ref t3) (.val (.text name)) from .inr ⟨t3, na, name, rfl, rfl, upd_same, s11 _ _ (s10 _ _ hna)⟩)
        refine ⟨_, rfl, .inl ⟨rfl, _, SqL.of upd_same⟩, (by show 1 ≤ sizeLine; decide), fun q2 hq2 => ⟨(by show 2 ≤ sizeLine; decide), fun t2 ht2 => ?_⟩⟩
        obtain ⟨s13, pc13⟩ := raw_new (c := 58) hq2 ht2
        have hy13 := s13 _ _ upd_same
        refine ⟨p, _, _, rfl, rfl, hy13, by rw [List.length_append]; simp; omega, ?_⟩
        obtain ⟨s14, pc14⟩ := app_pc hp0 (s12.trans s13) hy13 (pc12.mono (Same.tk s13)) pc13
        refine ⟨_, rfl, .inl ⟨rfl, _, SqL.of upd_same⟩, _, rfl, fa, _, 1, yv, rfl, rfl, SqT.of (s14 _ _ hfa), atI_nat (j := 1) rfl, p, _, _, rfl, rfl, upd_same, by rw [List.length_append, List.length_append]; simp; omega, ?_⟩
        obtain ⟨s15, pc15⟩ := app_pc (x := yv) (pc := .val v) hp0 s14 upd_same pc14 (.inl (hva.mono (Same.tk s14)))
        refine ⟨⟨_, _, rfl⟩, s15, _, upd_same, ?_⟩
        rw [← ews]
        simpa [fieldP] using pc15
      refine ⟨_, rfl, _, _, rfl, rfl, _, rfl, ?_⟩
      by_cases hi0 : 0 < i
      · refine if_t (decide_eq_true (by omega)) ?_
        refine ⟨_, rfl, .inl ⟨rfl, _, SqL.of hy2⟩, (by show 1 ≤ sizeLine; decide), fun q2 hq2 => ⟨(by show 2 ≤ sizeLine; decide), fun t2 ht2 => ?_⟩⟩
        obtain ⟨s6, pc6⟩ := raw_new (c := 44) hq2 ht2
        have hy6 := s6 _ _ hy2
        refine ⟨p, _, _, rfl, rfl, hy6, by omega, ?_⟩
        obtain ⟨s7, pc7⟩ := app_pc hp0 (s5.trans s6) hy6 (hp2.mono (Same.tk s6)) pc6
        refine fin _ _ _ s7 upd_same pc7 (by rw [List.length_append]; simp; omega) ?_
        rw [etk, if_pos hi0]
        simp
      · refine if_f (decide_eq_false (by omega)) ?_
        refine fin _ _ _ s5 hy2 hp2 (by omega) ?_
        rw [etk, if_neg hi0]
        simp
    · rintro σ H1 ⟨⟨v1, v2, rfl⟩, s3, ys, hys, hpc⟩
      rw [hxl, List.take_length] at hpc
      have hml := midR_len l
      have hyl := hpc.len
      rw [List.length_cons] at hyl
      refine ⟨_, rfl, .inl ⟨rfl, _, SqL.of hys⟩, (by show 1 ≤ sizeLine; decide), fun q2 hq2 => ⟨(by show 2 ≤ sizeLine; decide), fun t2 ht2 => ?_⟩⟩
      obtain ⟨s6, pc6⟩ := raw_new (c := 125) hq2 ht2
      have hy6 := s6 _ _ hys
      refine ⟨p, _, _, rfl, rfl, hy6, by omega, ?_⟩
      obtain ⟨s7, pc7⟩ := app_pc hp0 (s3.trans s6) hy6 (hpc.mono (Same.tk s6)) pc6
      exact ⟨_, rfl, q _ p _ hp0 s7 upd_same pc7⟩
end
end Vt

namespace Vt
open PySem PySem.Spec PyProof.Rows L2
open PySem.W (Frag)
open Kcs7 (Bytes quoted write size sizeL sizeR)
/-- a piece that is no list and no record, by its two parts -/
def SgAt (H : Hp) (k : Int) (hv : V) : Pc → Prop
  | .raw b => k = 7 ∧ ∃ q, hv = .ref q ∧ H q = some (.tup (bys b))
  | .val (.text b) => k = 4 ∧ ∃ q, hv = .ref q ∧ H q = some (.tup (bys b))
  | .val (.num n) => k = 3 ∧ hv = .int n
  | .val .null => k = 0
  | .val (.bool false) => k = 1
  | .val (.bool true) => k = 2
  | _ => False
theorem nokL_mem : ∀ {l : List Kcs7.V}, nokL l → ∀ x ∈ l, nok x
  | [], _, x, h => nomatch h
  | y :: l, h, x, hx => by
    simp only [nokL] at h
    rcases List.mem_cons.mp hx with e | e
    · rw [e]; exact h.1
    · exact nokL_mem h.2 x e
theorem nokR_mem : ∀ {l : List (Bytes × Kcs7.V)}, nokR l → ∀ x ∈ l, nok x.2
  | [], _, x, h => nomatch h
  | (n, y) :: l, h, x, hx => by
    simp only [nokR] at h
    rcases List.mem_cons.mp hx with e | e
    · rw [e]; exact h.1
    · exact nokR_mem h.2 x e
theorem sizeL_mem : ∀ {l : List Kcs7.V}, ∀ x ∈ l, size x ≤ sizeL l
  | [], x, h => nomatch h
  | y :: l, x, hx => by
    simp only [sizeL]
    rcases List.mem_cons.mp hx with e | e
    · rw [e]; omega
    · have := sizeL_mem x e; omega
theorem sizeR_mem : ∀ {l : List (Bytes × Kcs7.V)}, ∀ x ∈ l, x.1.length + size x.2 ≤ sizeR l
  | [], x, h => nomatch h
  | (n, y) :: l, x, hx => by
    simp only [sizeR]
    rcases List.mem_cons.mp hx with e | e
    · rw [e]; show n.length + size y ≤ _; omega
    · have := sizeR_mem x e; omega
theorem sizeL_len : ∀ l : List Kcs7.V, l.length ≤ sizeL l
  | [] => Nat.le_refl _
  | x :: l => by
    have := sizeL_len l
    have h1 : 1 ≤ size x := by cases x <;> simp only [size] <;> omega
    simp only [sizeL, List.length_cons]
    omega
theorem sizeR_len : ∀ l : List (Bytes × Kcs7.V), l.length ≤ sizeR l
  | [] => Nat.le_refl _
  | (n, x) :: l => by
    have := sizeR_len l
    have h1 : 1 ≤ size x := by cases x <;> simp only [size] <;> omega
    simp only [sizeR, List.length_cons]
    omega
theorem piecesL_ok {l : List Kcs7.V} (h : (Pc.val (.list l)).ok) : ∀ p ∈ piecesL l, p.ok := by
  obtain ⟨h1, h2⟩ := h
  simp only [nok, short] at h1 h2
  have hx : ∀ x ∈ l, (Pc.val x).ok := fun x hx => ⟨nokL_mem h1 x hx, shortL_mem h2.2 x hx⟩
  intro p hp
  unfold piecesL at hp
  simp only [List.cons_append, List.mem_cons, List.mem_append, List.not_mem_nil, or_false] at hp
  rcases hp with z | z | z
  · rw [z]; show (1 : Nat) ≤ 5000; decide
  · cases l with
    | nil => cases z
    | cons y r =>
      have z' : p ∈ Pc.val y :: r.flatMap fun y => [Pc.raw [44], Pc.val y] := z
      rcases List.mem_cons.mp z' with e | e
      · rw [e]; exact hx y List.mem_cons_self
      · obtain ⟨a, ha, hp2⟩ := List.mem_flatMap.mp e
        simp only [List.mem_cons, List.not_mem_nil, or_false] at hp2
        rcases hp2 with e2 | e2
        · rw [e2]; show (1 : Nat) ≤ 5000; decide
        · rw [e2]; exact hx a (List.mem_cons_of_mem _ ha)
  · rw [z]; show (1 : Nat) ≤ 5000; decide
theorem piecesR_ok {l : List (Bytes × Kcs7.V)} (h : (Pc.val (.record l)).ok) : ∀ p ∈ piecesR l, p.ok := by
  obtain ⟨h1, h2⟩ := h
  simp only [nok, short] at h1 h2
  have hf : ∀ x ∈ l, ∀ p ∈ fieldP x, p.ok := fun x hx p hp => by
    have h3 := shortR_mem h2.2 x hx
    simp only [fieldP, List.mem_cons, List.not_mem_nil, or_false] at hp
    rcases hp with e | e | e
    · rw [e]
      exact ⟨by simp [nok], h3.1⟩
    · rw [e]; show (1 : Nat) ≤ 5000; decide
    · rw [e]
      exact ⟨nokR_mem h1 x hx, h3.2⟩
  intro p hp
  unfold piecesR at hp
  simp only [List.cons_append, List.mem_cons, List.mem_append, List.not_mem_nil, or_false] at hp
  rcases hp with z | z | z
  · rw [z]; show (1 : Nat) ≤ 5000; decide
  · cases l with
    | nil => cases z
    | cons y r =>
      have z' : p ∈ fieldP y ++ r.flatMap fun g => Pc.raw [44] :: fieldP g := z
      rcases List.mem_append.mp z' with e | e
      · exact hf y List.mem_cons_self p e
      · obtain ⟨a, ha, hp2⟩ := List.mem_flatMap.mp e
        rcases List.mem_cons.mp hp2 with e2 | e2
        · rw [e2]; show (1 : Nat) ≤ 5000; decide
        · exact hf a (List.mem_cons_of_mem _ ha) p e2
  · rw [z]; show (1 : Nat) ≤ 5000; decide
section
variable {P : Program} {w : World} {K : Frag} {mg : Str → Option Value} {base : Heap} {CC CO CR CN bB bW : Addr}
/-! ### written_single -/
def spWrittenSingle : Sp := fun vs H Q _ => ∃ k hv p, vs = [.int k, hv] ∧ SgAt H k hv p ∧ p.ok ∧ ∀ H' l, H l = none → Same H H' → H' l = some (.lst (bys p.wr)) → Q (.ref l) H'
theorem scWrittenSingle : FnScope ["kind", "held"] ["kind", "held"] (defScope sWrittenSingle) := ⟨rfl, rfl, rfl, by decide +kernel, rfl, by decide +kernel, by decide +kernel⟩
theorem codes_bys {z : Str} {b : Bytes} (h : z.cps.toList = b) : codes z = bys b := by
  unfold codes bys
  rw [h]
theorem ok_writtenSingle {f : Addr} {fd : FuncData} (F : Fun K "written_single" "written_single" sWrittenSingle f fd) (T : Tx K mg CC CO CR CN bB bW) (dB : DefOk P w K mg base CX0 1 "bytes_of" ["text"] spBytesOf) (dT : DefOk P w K mg base CX0 1 "written_text" ["text"] spWrittenText) :
    FnOk P w K mg base CX0 2 f fd ["kind", "held"] spWrittenSingle := by
  refine F.ok scWrittenSingle (fun vs H Q E h => ?_) (fun cdv A outer s H vs Q E hr h => ?_)
  · obtain ⟨_, _, _, rfl, _⟩ := h
    rfl
  · obtain ⟨k, hv, p, rfl, sg, ok, q⟩ := h
    refine ⟨_, pss_cons (ps_if (pt_cmpR op_eq (pv 0) (pe_const T.gAS_IT_IS) (nomark _)) (pss_one (ps_ret (pe_callTy call_list_of (by rfl) T.lst (by decide +kernel) (pa_cons (pv 1) pa_nil)))) pss_nil)
      (pss_cons (ps_if (pt_cmpR op_eq (pv 0) (pe_const T.gTEXT) (nomark _)) (pss_one (ps_ret (pe_def dT hr pass0 (pa_cons (pv 1) pa_nil)))) pss_nil)
      (pss_cons (ps_if (pt_cmpR op_eq (pv 0) (pe_const T.gNUMBER) (nomark _)) (pss_one (ps_ret (pe_def dB hr pass0 (pa_cons (pe_callTy call_str_int (by rfl) T.str (by decide +kernel) (pa_cons (pv 1) pa_nil)) pa_nil)))) pss_nil)
      (pss_one (ps_ret (pe_def dB hr pass0 (pa_cons (pe_ix ix_tup (pe_const T.gWORDS) (pv 0) (fun _ _ => rfl)) pa_nil)))))), ?_⟩
    refine ⟨_, rfl, rfl, _, rfl, ?_⟩
    -- one of the three words
    have word : ∀ j : Nat, j < 3 → k = (j : Int) → Kcs7.write (vI j) = wI j → p = .val (vI j) →
        (tSeq (tIfS (tTest (tOp rEq (tVar 0) (tC (.int 4)))) (tRet (tCall spWrittenText [] E0 (tCons (tVar 1) tNil))) tNext)
        (tSeq (tIfS (tTest (tOp rEq (tVar 0) (tC (.int 3)))) (tRet (tCall spBytesOf [] E0 (tCons (tCB (fun xs H Q => ∃ i, xs = [V.int i] ∧ i.natAbs.log2 < 1920 ∧ Q (.str (toString i)) H) (tCons (tVar 1) tNil)) tNil))) tNext)
        (tRet (tCall spBytesOf [] E0 (tCons (tOp (rIxT K) (tC (.ref bW)) (tVar 0)) tNil))))) { nx := fun _ H' => Q .non H', rt := Q } [some (.int k), some hv] H := by
      intro j hj ek ew ep
      refine ⟨_, rfl, rfl, _, rfl, if_f (dV_f (by omega)) ?_⟩
      refine ⟨_, rfl, rfl, _, rfl, if_f (dV_f (by omega)) ?_⟩
      have hw : wordsV[j]? = some (.str (zI j)) := by
        match j, hj with
        | 0, _ => rfl
        | 1, _ => rfl
        | 2, _ => rfl
      refine ⟨_, rfl, bW, wordsV, k, .str (zI j), rfl, rfl, T.tWORDS.sq _, by rw [ek]; exact atI_nat hw, zI j, rfl, zI_size j, fun H' l hl0 s1 h1 => ?_⟩
      refine q H' l hl0 s1 ?_
      rw [h1, codes_bys (zI_cps j), ep, ← ew]
      rfl
    cases p with
    | raw b =>
      obtain ⟨ek, q1, rfl, hq1⟩ := sg
      refine if_t (dV_t (by rw [ek])) ?_
      exact ⟨_, rfl, q1, _, rfl, .inr (SqT.of hq1), fun l hl0 => q _ l hl0 (Same.new hl0) upd_same⟩
    | val v0 =>
      cases v0 with
      | text b =>
        obtain ⟨ek, q1, rfl, hq1⟩ := sg
        refine if_f (dV_f (by omega)) ?_
        refine ⟨_, rfl, rfl, _, rfl, if_t (dV_t (by rw [ek])) ?_⟩
        refine ⟨_, rfl, q1, b, rfl, hq1, ?_, q⟩
        have := ok.2
        simp only [short] at this
        omega
      | num n =>
        obtain ⟨ek, rfl⟩ := sg
        refine if_f (dV_f (by omega)) ?_
        refine ⟨_, rfl, rfl, _, rfl, if_f (dV_f (by omega)) ?_⟩
        refine ⟨_, rfl, rfl, _, rfl, if_t (dV_t (by rw [ek])) ?_⟩
        have hn := ok.1
        simp only [nok] at hn
        have hnc := num_codes n
        refine ⟨_, rfl, n, rfl, ?_, Str.ofString (toString n), rfl, ?_, fun H' l hl0 s1 h1 => ?_⟩
        · have hlog : n.natAbs.log2 < 53 := by
            by_cases h0 : n.natAbs = 0
            · rw [h0]; decide
            · exact (Nat.log2_lt h0).mpr (by omega)
          omega
        · have h1 := congrArg List.length hnc
          rw [Array.length_toList] at h1
          rw [h1]
          have h2 := write_len (.num n) ok.1
          simp only [write, size] at h2
          omega
        · refine q H' l hl0 s1 ?_
          rw [h1, codes_bys hnc]
          rfl
      | null =>
        refine if_f (dV_f (by have : k = 0 := sg; omega)) ?_
        exact word 0 (by decide) sg rfl rfl
      | bool b =>
        cases b with
        | false =>
          refine if_f (dV_f (by have : k = 1 := sg; omega)) ?_
          exact word 1 (by decide) sg rfl rfl
        | true =>
          refine if_f (dV_f (by have : k = 2 := sg; omega)) ?_
          exact word 2 (by decide) sg rfl rfl
      | list l => exact sg.elim
      | record l => exact sg.elim
/-! ### written -/
def spWritten : Sp := fun vs H Q _ => ∃ x v, vs = [x] ∧ VAt H x v ∧ nok v ∧ short v ∧ (write v).length ≤ 15000000 ∧ pw v ≤ 15000000 ∧ ∀ H' p, H p = none → Same H H' → H' p = some (.lst (bys (write v))) → Q (.ref p) H'
theorem scWritten : FnScope ["value", "row", "waiting", "piece"] ["value"] (defScope sWritten) := ⟨rfl, rfl, rfl, by decide +kernel, rfl, by decide +kernel, by decide +kernel⟩
/-- what a piece is in the heap: a list, a record, or a single one -/
theorem pc_cases {H : Hp} {x : V} {p : Pc} (h : PcAt H x p) : (∃ t q xs l, p = .val (.list l) ∧ x = .ref t ∧ (∃ r, H t = some (.tup (.int 5 :: .ref q :: r))) ∧ H q = some (.tup xs) ∧ VsAt H xs l) ∨
    (∃ t q xs l, p = .val (.record l) ∧ x = .ref t ∧ (∃ r, H t = some (.tup (.int 6 :: .ref q :: r))) ∧ H q = some (.tup xs) ∧ FsAt H xs l) ∨ (∃ t k hv, x = .ref t ∧ (∃ r, H t = some (.tup (.int k :: hv :: r))) ∧ SgAt H k hv p ∧ k ≠ 5 ∧ k ≠ 6) := by
  cases p with
  | raw b =>
    obtain ⟨t, q, e, h1, h2⟩ := h
    exact .inr (.inr ⟨t, 7, .ref q, e, ⟨_, h1⟩, ⟨rfl, q, rfl, h2⟩, by decide, by decide⟩)
  | val v =>
    rcases h with h | ⟨t, q, b, rfl, rfl, g, g2⟩
    rotate_left
    · exact .inr (.inr ⟨_, 4, _, rfl, ⟨_, g⟩, ⟨rfl, _, rfl, g2⟩, by decide, by decide⟩)
    cases (show VAt H x v from h) with
    | null g => exact .inr (.inr ⟨_, 0, .non, rfl, ⟨_, g⟩, rfl, by decide, by decide⟩)
    | fal g => exact .inr (.inr ⟨_, 1, .non, rfl, ⟨_, g⟩, rfl, by decide, by decide⟩)
    | tru g => exact .inr (.inr ⟨_, 2, .non, rfl, ⟨_, g⟩, rfl, by decide, by decide⟩)
    | num g => exact .inr (.inr ⟨_, 3, _, rfl, ⟨_, g⟩, ⟨rfl, rfl⟩, by decide, by decide⟩)
    | text g g2 => exact .inr (.inr ⟨_, 4, _, rfl, ⟨_, g⟩, ⟨rfl, _, rfl, g2⟩, by decide, by decide⟩)
    | list g g2 g3 => exact .inl ⟨_, _, _, _, rfl, rfl, ⟨_, g⟩, g2, g3⟩
    | record g g2 g3 => exact .inr (.inl ⟨_, _, _, _, rfl, rfl, ⟨_, g⟩, g2, g3⟩)
theorem ok_written {f : Addr} {fd : FuncData} (F : Fun K "written" "written" sWritten f fd) (T : Tx K mg CC CO CR CN bB bW) (dL : DefOk P w K mg base CX0 1 "pieces_of_list" ["listed"] spPiecesL) (dR : DefOk P w K mg base CX0 1 "pieces_of_record" ["fields"] spPiecesR)
    (dS : DefOk P w K mg base CX0 2 "written_single" ["kind", "held"] spWrittenSingle) : FnOk P w K mg base CX0 3 f fd ["value"] spWritten := by
  refine F.ok scWritten (fun vs H Q E h => ?_) (fun cdv A outer s H vs Q E hr h => ?_)
  · obtain ⟨_, _, rfl, _⟩ := h
    rfl
  · obtain ⟨x, v, rfl, hv, hno, hsz, hwl, hpw, q⟩ := h
    have hr1 : Room 1 _ := hr.mono (by decide)
    refine ⟨_, pss_cons (ps_set (i := 1) scWritten.nd rfl (Or.inl rfl) (pe_lst pa_nil))
      (pss_cons (ps_set (i := 2) scWritten.nd rfl (Or.inl rfl) (pe_lst (pa_cons (pv 0) pa_nil)))
      (pss_cons (ps_while PassesOwn.never (pt_cmpR op_gt (pe_callB call_len_seq (by rfl) T.len PySem.boot_len (pa_cons (pv 2) pa_nil)) pe_int (nomark _))
        (pss_cons (ps_set (i := 3) scWritten.nd rfl (Or.inl rfl) (pe_bm0 PySem.F.plainAttrs_list PySem.F.slot_list_pop PySem.F.type_list_pop mt_pop (pv 2)))
        (pss_one (ps_if (pt_cmpR op_eq (pe_ix ix_tup (pv 3) pe_int (fun _ _ => rfl)) (pe_const T.gLIST) (nomark _))
          (pss_one (ps_expr (pe_bm PySem.F.plainAttrs_list PySem.F.slot_list_extend PySem.F.type_list_extend mt_extend (pv 2) (pa_cons (pe_lstRev rfl (by rfl) T.lst (by rfl) T.rev (pe_def dL hr1 pass0 (pa_cons (pe_ix ix_tup (pv 3) pe_int (fun _ _ => rfl)) pa_nil))) pa_nil))))
          (pss_one (ps_if (pt_cmpR op_eq (pe_ix ix_tup (pv 3) pe_int (fun _ _ => rfl)) (pe_const T.gRECORD) (nomark _))
            (pss_one (ps_expr (pe_bm PySem.F.plainAttrs_list PySem.F.slot_list_extend PySem.F.type_list_extend mt_extend (pv 2) (pa_cons (pe_lstRev rfl (by rfl) T.lst (by rfl) T.rev (pe_def dR hr1 pass0 (pa_cons (pe_ix ix_tup (pv 3) pe_int (fun _ _ => rfl)) pa_nil))) pa_nil))))
            (pss_one (ps_expr (pe_bm PySem.F.plainAttrs_list PySem.F.slot_list_extend PySem.F.type_list_extend mt_extend (pv 1) (pa_cons (pe_def dS hr pass0 (pa_cons (pe_ix ix_tup (pv 3) pe_int (fun _ _ => rfl)) (pa_cons (pe_ix ix_tup (pv 3) pe_int (fun _ _ => rfl)) pa_nil))) pa_nil))))))))))
      (pss_one (ps_ret (pv 1))))), ?_⟩
    refine ⟨(by show 0 ≤ sizeLine; exact Nat.zero_le _), fun ra hra => ?_⟩
    refine ⟨_, rfl, (by show 1 ≤ sizeLine; decide), fun wa hwa => ?_⟩
    have s1 : Same H (upd H ra (.lst [])) := Same.new hra
    have hwa0 : H wa = none := s1.free hwa
    have nrw : ra ≠ wa := by
      intro z; subst z
      rw [upd_same] at hwa; cases hwa
    have s2 := Same.set (o := .lst [x]) s1 hwa0
    have h5 : 16000000 < sizeLine := by decide
    have e1 : wrs [Pc.val v].reverse = write v := by simp [wrs, Pc.wr]
    refine ⟨fun m σ H' => ∃ out ws xs, m = pws ws ∧ (∃ y, σ = [some x, some (.ref ra), some (.ref wa), y]) ∧ Same H H' ∧ H' ra = some (.lst (bys out)) ∧ H' wa = some (.lst xs) ∧ PcsAt H' xs ws ∧ (∀ p ∈ ws, p.ok) ∧ out ++ wrs ws.reverse = write v ∧ pws ws ≤ pw v,
      ⟨_, [], [.val v], [x], rfl, ⟨none, rfl⟩, s2, by rw [upd_ne nrw]; exact upd_same, upd_same, .cons (.inl (hv.mono (Same.tk s2))) .nil, ?_, e1, by simp [pws, Pc.w]⟩, ?_⟩
    · intro p hp
      rw [List.mem_singleton.mp hp]
      exact ⟨hno, hsz⟩
    rintro m σ H1 ⟨out, ws, xs, rfl, ⟨y, rfl⟩, s3, hro, hwx, hpc, hok, heq, hle⟩
    have hxl := hpc.len
    have hwsl := len_pws ws
    refine ⟨_, rfl, wa, _, rfl, .inl (SqL.of hwx), _, _, rfl, rfl, _, rfl, ?_⟩
    rcases List.eq_nil_or_concat ws with ew | ⟨ws0, p, ew⟩
    · subst ew
      refine if_f (decide_eq_false (by rw [hxl]; decide)) ?_
      refine ⟨_, rfl, q H1 ra hra s3 ?_⟩
      rw [hro, ← heq]
      show some (HO.lst (bys out)) = some (HO.lst (bys (out ++ [])))
      rw [List.append_nil]
    · rw [List.concat_eq_append] at ew
      subst ew
      obtain ⟨xs0, xp, rfl, hpc0, hpp⟩ := hpc.last
      refine if_t (decide_eq_true (by rw [List.length_append]; simp)) ?_
      have hokp := hok p (by simp)
      have hok0 : ∀ p ∈ ws0, p.ok := fun p hp => hok p (List.mem_append.mpr (.inl hp))
      rw [pws_app] at hle
      have hpwp : pws [p] = p.w := by simp [pws]
      have hwp := w_pos p
      have hrev : wrs (ws0 ++ [p]).reverse = p.wr ++ wrs ws0.reverse := by
        rw [List.reverse_append]
        simp [wrs]
      rw [hrev] at heq
      refine ⟨fun σ' H' => ∃ out ws xs, pws ws < pws (ws0 ++ [p]) ∧ (∃ y, σ' = [some x, some (.ref ra), some (.ref wa), y]) ∧ Same H H' ∧ H' ra = some (.lst (bys out)) ∧ H' wa = some (.lst xs) ∧ PcsAt H' xs ws ∧ (∀ p ∈ ws, p.ok) ∧ out ++ wrs ws.reverse = write v ∧ pws ws ≤ pw v, ?_, ?_⟩
      · rintro σ' H' ⟨out', ws', xs', h1, h2, h3, h4, h6, h7, h8, h9, h10⟩
        exact ⟨_, h1, out', ws', xs', rfl, h2, h3, h4, h6, h7, h8, h9, h10⟩
      refine ⟨_, rfl, .inl ⟨rfl, _, SqL.of hwx⟩, wa, _, xp, rfl, rfl, hwx, by rw [List.length_append]; simp, ?_⟩
      rw [List.dropLast_concat]
      generalize hH2 : upd H1 wa (.lst xs0) = H2
      have s4 : Same H H2 := by rw [← hH2]; exact Same.set s3 hwa0
      have tk2 : Tk H1 H2 := by rw [← hH2]; exact tk_upd hwx fun _ z => nomatch z
      have hro2 : H2 ra = some (.lst (bys out)) := by rw [← hH2, upd_ne nrw]; exact hro
      have hwx2 : H2 wa = some (.lst xs0) := by rw [← hH2]; exact upd_same
      have hpc2 := hpc0.mono tk2
      have hpp2 := hpp.mono tk2
      have h0l := hpc0.len
      have hw0l := len_pws ws0
      -- a list's or a record's pieces are put
      have many : ∀ (pcs : List Pc) (ps : List V) (H3 : Hp) (la : Addr), Same H2 H3 → H3 la = some (.lst ps.reverse) → PcsAt H3 ps pcs → (∀ p ∈ pcs, p.ok) → wrs pcs = p.wr → pws pcs < p.w →
          rExtend (.ref wa) [.ref la] H3 (fun _ H4 => ∃ out ws xs, pws ws < pws (ws0 ++ [p]) ∧ (∃ y, ([some x, some (.ref ra), some (.ref wa), some xp] : L2.St) = [some x, some (.ref ra), some (.ref wa), y]) ∧ Same H H4 ∧ H4 ra = some (.lst (bys out)) ∧ H4 wa = some (.lst xs) ∧ PcsAt H4 xs ws ∧ (∀ p ∈ ws, p.ok) ∧ out ++ wrs ws.reverse = write v ∧ pws ws ≤ pw v) := by
        intro pcs ps H3 la s5 hla hps hokp hwr hlt
        have hpl := hps.len
        have hpcl := len_pws pcs
        refine ⟨wa, la, _, _, rfl, rfl, s5 _ _ hwx2, hla, by rw [List.length_reverse]; omega, ?_⟩
        have tk5 : Tk H3 (upd H3 wa (.lst (xs0 ++ ps.reverse))) := tk_upd (s5 _ _ hwx2) fun _ z => nomatch z
        refine ⟨out, ws0 ++ pcs.reverse, _, ?_, ⟨_, rfl⟩, Same.set (s4.trans s5) hwa0, by rw [upd_ne nrw]; exact s5 _ _ hro2, upd_same, ((hpc2.mono (Same.tk s5)).mono tk5).app ((hps.mono tk5).rev), ?_, ?_, ?_⟩
        · have : pws pcs.reverse = pws pcs := by unfold pws; rw [List.map_reverse, List.sum_reverse]
          rw [pws_app, pws_app, this, hpwp]
          omega
        · intro p hp
          rcases List.mem_append.mp hp with z | z
          · exact hok0 p z
          · exact hokp p (List.mem_reverse.mp z)
        · rw [List.reverse_append, List.reverse_reverse, wrs_app, hwr]
          exact heq
        · have : pws pcs.reverse = pws pcs := by unfold pws; rw [List.map_reverse, List.sum_reverse]
          rw [pws_app, this]
          omega
      rcases pc_cases hpp2 with ⟨t, q1, ys, l, rfl, rfl, ⟨rr, ht⟩, hq1, hvs⟩ | ⟨t, q1, ys, l, rfl, rfl, ⟨rr, ht⟩, hq1, hvs⟩ | ⟨t, k, hv1, rfl, ⟨rr, ht⟩, hsg, n5, n6⟩
      · refine ⟨_, rfl, t, _, 0, .int 5, rfl, rfl, SqT.of ht, atI_nat (j := 0) rfl, rfl, _, rfl, ?_⟩
        refine if_t (dV_t rfl) ?_
        have hll : l.length ≤ 10000 := by
          have h6 := hokp.2
          simp only [short] at h6
          exact h6.1
        refine ⟨_, rfl, .inl ⟨rfl, _, SqL.of hwx2⟩, _, rfl, t, _, 1, .ref q1, rfl, rfl, SqT.of ht, atI_nat (j := 1) rfl, q1, ys, l, rfl, hq1, hvs, hll, fun H3 pa ps hpa s5 hpa3 hps => ?_⟩
        refine ⟨pa, ps, rfl, SqL.of hpa3, fun la hla => ?_⟩
        have s6 : Same H3 (upd H3 la (.lst ps.reverse)) := Same.new hla
        exact many (piecesL l) ps _ la (s5.trans s6) upd_same (hps.mono (Same.tk s6)) (piecesL_ok hokp) (wrs_piecesL l) (pws_piecesL l)
      · refine ⟨_, rfl, t, _, 0, .int 6, rfl, rfl, SqT.of ht, atI_nat (j := 0) rfl, rfl, _, rfl, ?_⟩
        refine if_f (dV_f (by decide)) ?_
        refine ⟨_, rfl, t, _, 0, .int 6, rfl, rfl, SqT.of ht, atI_nat (j := 0) rfl, rfl, _, rfl, ?_⟩
        refine if_t (dV_t rfl) ?_
        have hll : l.length ≤ 5000 := by
          have h6 := hokp.2
          simp only [short] at h6
          exact h6.1
        refine ⟨_, rfl, .inl ⟨rfl, _, SqL.of hwx2⟩, _, rfl, t, _, 1, .ref q1, rfl, rfl, SqT.of ht, atI_nat (j := 1) rfl, q1, ys, l, rfl, hq1, hvs, hll, fun H3 pa ps hpa s5 hpa3 hps => ?_⟩
        refine ⟨pa, ps, rfl, SqL.of hpa3, fun la hla => ?_⟩
        have s6 : Same H3 (upd H3 la (.lst ps.reverse)) := Same.new hla
        exact many (piecesR l) ps _ la (s5.trans s6) upd_same (hps.mono (Same.tk s6)) (piecesR_ok hokp) (wrs_piecesR l) (pws_piecesR l)
      · refine ⟨_, rfl, t, _, 0, .int k, rfl, rfl, SqT.of ht, atI_nat (j := 0) rfl, rfl, _, rfl, ?_⟩
        refine if_f (dV_f n5) ?_
        refine ⟨_, rfl, t, _, 0, .int k, rfl, rfl, SqT.of ht, atI_nat (j := 0) rfl, rfl, _, rfl, ?_⟩
        refine if_f (dV_f n6) ?_
        refine ⟨_, rfl, .inl ⟨rfl, _, SqL.of hro2⟩, _, rfl, t, _, 0, .int k, rfl, rfl, SqT.of ht, atI_nat (j := 0) rfl, _, rfl, t, _, 1, hv1, rfl, rfl, SqT.of ht, atI_nat (j := 1) rfl, k, hv1, p, rfl, hsg, hokp, fun H3 la hla s5 hla3 => ?_⟩
        have hlen := congrArg List.length heq
        rw [List.length_append, List.length_append] at hlen
        refine ⟨ra, la, _, _, rfl, rfl, s5 _ _ hro2, hla3, by rw [bys_len, bys_len]; omega, ?_⟩
        have tk5 : Tk H3 (upd H3 ra (.lst (bys out ++ bys p.wr))) := tk_upd (s5 _ _ hro2) fun _ z => nomatch z
        refine ⟨out ++ p.wr, ws0, xs0, ?_, ⟨_, rfl⟩, Same.set (s4.trans s5) hra, by rw [upd_same, bys_app], by rw [upd_ne (Ne.symm nrw)]; exact s5 _ _ hwx2, (hpc2.mono (Same.tk s5)).mono tk5, hok0, ?_, by omega⟩
        · rw [pws_app, hpwp]
          omega
        · rw [List.append_assoc]
          exact heq
end
end Vt

namespace Vt
open PySem PySem.Spec PyProof.Rows L2
open PySem.W (Frag)
/-- a def as the top has written it -/
structure DefIn (K : Frag) (x : Str) (st : Stmt) : Prop where
  ex : ∃ f fd, PySem.W.nsIn K mainGlobals x = some (some (.ref f)) ∧ Fun K x x st f fd
theorem DefIn.of {K : Frag} {x : Str} {st : Stmt} {f : Addr} {oc : Value} {od an : Option Addr} {sl : Array (Option Value)} {kV dc pm cd ct : Value} (a : PySem.W.nsIn K mainGlobals x = some (some (.ref f)))
    (l : K.lookup f = some ⟨oc, od, .func (PySem.W.fnOf x x (defArgs st) (defBody st) (defScope st) .none kV dc pm an cd ct), sl⟩) (c : PySem.W.codeIn K cd x = true) (k : PySem.W.keepIn K (.ref f) = true) : DefIn K x st := ⟨⟨f, _, a, fun_mk l c k⟩⟩
/-- a method as the top has written it -/
structure MetIn (K : Frag) (C : Addr) (m qual : Str) (st : Stmt) : Prop where
  ex : ∃ f fd, PySem.W.findIn K (.ref C) m = some (some (.ref f)) ∧ PySem.W.isFn K (.ref f) = true ∧ Fun K m qual st f fd
theorem MetIn.of {K : Frag} {C : Addr} {m qual : Str} {st : Stmt} {f : Addr} {oc : Value} {od an : Option Addr} {sl : Array (Option Value)} {kV dc pm cd ct : Value} (a : PySem.W.findIn K (.ref C) m = some (some (.ref f))) (i : PySem.W.isFn K (.ref f) = true)
    (l : K.lookup f = some ⟨oc, od, .func (PySem.W.fnOf m qual (defArgs st) (defBody st) (defScope st) .none kV dc pm an cd ct), sl⟩) (c : PySem.W.codeIn K cd qual = true) (k : PySem.W.keepIn K (.ref f) = true) : MetIn K C m qual st := ⟨⟨f, _, a, i, fun_mk l c k⟩⟩
/-- a class of the program: what its making, its attributes ask -/
structure ClsIn (K : Frag) (x : Str) (C : Addr) : Prop where
  a : PySem.W.nsIn K mainGlobals x = some (some (.ref C))
  cl : Cls K C
  mks : PySem.W.makesIn K C = true
  kc : PySem.W.keepIn K (.ref C) = true
theorem ClsIn.of {K : Frag} {x : Str} {C : Addr} (a : PySem.W.nsIn K mainGlobals x = some (some (.ref C))) (pg : PySem.W.plainGet K C Str.empty = true) (hd : PySem.W.hasDictIn K C = true) (po : PySem.W.plainOver K C = true)
    (sa : PySem.W.findIn K (.ref C) "__setattr__" = some (some (.builtin "object.__setattr__"))) (mk : PySem.W.makesIn K C = true) (kc : PySem.W.keepIn K (.ref C) = true) : ClsIn K x C := ⟨a, ⟨pg, hd, po, sa⟩, mk, kc⟩
/-- a number of the module -/
def IntIn (K : Frag) (x : Str) (i : Int) : Prop := ∃ t, PySem.W.nsIn K mainGlobals x = some (some (.int i t))
theorem IntIn.of {K : Frag} {x : Str} {i : Int} {t : Tok} (h : PySem.W.nsIn K mainGlobals x = some (some (.int i t))) : IntIn K x i := ⟨t, h⟩
section
variable {P : Program} {w : World} {K : Frag} {mg : Str → Option Value} {base : Heap} {h : Heap}
theorem IntIn.gc {x : Str} {i : Int} (d : IntIn K x i) (X : K.In h) (G : h.Ns mainGlobals mg) : GC mg x (.int i) := by
  obtain ⟨t, e⟩ := d
  exact ⟨_, PySem.W.mg_of X G e, t, rfl⟩
theorem DefIn.ok {x : Str} {st : Stmt} {C : CXT} {k : Nat} {ps : List Str} {sp : Sp} (d : DefIn K x st) (X : K.In h) (G : h.Ns mainGlobals mg) (b : ∀ f fd, Fun K x x st f fd → Binds K fd ps [])
    (g : ∀ f fd, Fun K x x st f fd → FnOk P w K mg base C k f fd ps sp) : DefOk P w K mg base C k x ps sp := by
  obtain ⟨f, fd, a, F⟩ := d.ex
  exact ⟨f, fd, PySem.W.mg_of X G a, F.kp, b f fd F, g f fd F⟩
theorem MetIn.ok {cl : Addr} {m qual : Str} {st : Stmt} {C : CXT} {k : Nat} {ps : List Str} {sp : Sp} (d : MetIn K cl m qual st) (b : ∀ f fd, Fun K m qual st f fd → Binds K fd ps [])
    (g : ∀ f fd, Fun K m qual st f fd → FnOk P w K mg base C k f fd ps sp) : MetOk P w K mg base C k cl m ps sp := by
  obtain ⟨f, fd, a, i, F⟩ := d.ex
  exact ⟨f, fd, ⟨a, i, F.kp⟩, b f fd F, g f fd F⟩
theorem MetIn.maker {cl : Addr} {x qual : Str} {st : Stmt} {k : Nat} {ps : List Str} {sp : Sp} (d : MetIn K cl "__init__" qual st) (c : ClsIn K x cl) (b : ∀ f fd, Fun K "__init__" qual st f fd → Binds K fd ps [])
    (g : ∀ f fd, Fun K "__init__" qual st f fd → FnOk P w K mg base CX0 k f fd ps sp) : MkOk P w K mg base k cl ps sp := by
  obtain ⟨f, fd, a, i, F⟩ := d.ex
  exact ⟨f, fd, ⟨c.mks, a, i, c.kc⟩, b f fd F, g f fd F⟩
end
/-- an error of the class at S is what «except S» names -/
theorem exm_self {K : Frag} {S : Addr} (h1 : PySem.W.subIn K (.ref S) (.type "BaseException") = some true) (h2 : PySem.W.isClsIn K S = true) (h3 : PySem.W.typeIn K (.ref S) = some (.type "type")) (h4 : PySem.W.subIn K (.ref S) (.ref S) = some true) :
    PySem.W.exmOne K (.ref S) (.ref S) = some true := by
  have e1 : (PySem.W.subIn K (.ref S) (.type "BaseException") == some true) = true := by rw [h1] <;> rfl
  have e2 : ((PySem.W.clsIn K S).isSome && PySem.W.typeIn K (.ref S) == some (.type "type")) = true := by
    have h2' : (PySem.W.clsIn K S).isSome = true := h2
    rw [h2', h3] <;> rfl
  show (if (PySem.W.subIn K (.ref S) (.type "BaseException") == some true) = true then (if ((PySem.W.clsIn K S).isSome && PySem.W.typeIn K (.ref S) == some (.type "type")) = true then PySem.W.subIn K (.ref S) (.ref S) else none) else none) = some true
  rw [if_pos e1, if_pos e2]
  exact h4
theorem exm_gen {K : Frag} {S : Addr} {cls : Value} {b : Bool} (h1 : PySem.W.subIn K (.ref S) (.type "BaseException") = some true) (h2 : PySem.W.isClsIn K S = true) (h3 : PySem.W.typeIn K (.ref S) = some (.type "type")) (h4 : PySem.W.subIn K cls (.ref S) = some b) :
    PySem.W.exmOne K cls (.ref S) = some b := by
  have e1 : (PySem.W.subIn K (.ref S) (.type "BaseException") == some true) = true := by rw [h1] <;> rfl
  have e2 : ((PySem.W.clsIn K S).isSome && PySem.W.typeIn K (.ref S) == some (.type "type")) = true := by
    have h2' : (PySem.W.clsIn K S).isSome = true := h2
    rw [h2', h3] <;> rfl
  show (if (PySem.W.subIn K (.ref S) (.type "BaseException") == some true) = true then (if ((PySem.W.clsIn K S).isSome && PySem.W.typeIn K (.ref S) == some (.type "type")) = true then PySem.W.subIn K cls (.ref S) else none) else none) = some b
  rw [if_pos e1, if_pos e2]
  exact h4
end Vt

namespace Vt
open PySem PySem.Spec PyProof.Rows L2
open PySem.W (Frag)
open Kcs7 (Bytes Key Path keyV)
/-- what the top has written besides -/
structure Ty (K : Frag) (mg : Str → Option Value) (CH XW XP XC XA : Addr) : Prop where
  gNULL : GC mg "NULL" (.int 0)
  gMOST_SIZE : GC mg "MOST_SIZE" (.int 4096)
  gNO2 : GC mg "NO_SECOND_VALUE" (.int (-3))
  gCANNOT : GC mg "CANNOT_CHANGE" (.int (-16))
  gTOOL : GC mg "TOO_LARGE" (.int (-28))
  al : mg "all" = none
  an : mg "any" = none
  rng : mg "range" = none
  cH : Cls K CH
  hRow : NoAttr K CH "row"
  hOld : NoAttr K CH "old"
  hNew : NoAttr K CH "new"
  gCH : mg "Change" = some (.ref CH)
  gCW : mg "WrongKind" = some (.ref XW)
  xW : PySem.W.excIn K XW [.type "Exception", .type "BaseException", .type "object"] "Exception.__new__" = true
  kW : PySem.W.keepIn K (.ref XW) = true
  bW : PySem.W.subIn K (.ref XW) (.type "BaseException") = some true
  tW : PySem.W.typeIn K (.ref XW) = some (.type "type")
  eW : PySem.W.exmOne K (.ref XW) (.ref XW) = some true
  gCP : mg "CannotPut" = some (.ref XP)
  xP : PySem.W.excIn K XP [.type "Exception", .type "BaseException", .type "object"] "Exception.__new__" = true
  kP : PySem.W.keepIn K (.ref XP) = true
  bP : PySem.W.subIn K (.ref XP) (.type "BaseException") = some true
  tP : PySem.W.typeIn K (.ref XP) = some (.type "type")
  eP : PySem.W.exmOne K (.ref XP) (.ref XP) = some true
  gCC : mg "NoChanges" = some (.ref XC)
  xC : PySem.W.excIn K XC [.type "Exception", .type "BaseException", .type "object"] "Exception.__new__" = true
  kC : PySem.W.keepIn K (.ref XC) = true
  bC : PySem.W.subIn K (.ref XC) (.type "BaseException") = some true
  tC : PySem.W.typeIn K (.ref XC) = some (.type "type")
  eC : PySem.W.exmOne K (.ref XC) (.ref XC) = some true
  gCA : mg "CannotApply" = some (.ref XA)
  xA : PySem.W.excIn K XA [.type "Exception", .type "BaseException", .type "object"] "Exception.__new__" = true
  kA : PySem.W.keepIn K (.ref XA) = true
  bA : PySem.W.subIn K (.ref XA) (.type "BaseException") = some true
  tA : PySem.W.typeIn K (.ref XA) = some (.type "type")
  eA : PySem.W.exmOne K (.ref XA) (.ref XA) = some true
theorem ps_rx {X : Cx} {W : WX} {C : Addr} {x : Str} {p pos pos' : Pos} (xN : PySem.W.excIn X.K C [.type "Exception", .type "BaseException", .type "object"] "Exception.__new__" = true) (gC : X.mg x = some (.ref C)) (kN : PySem.W.keepIn X.K (.ref C) = true)
    (bN : PySem.W.subIn X.K (.ref C) (.type "BaseException") = some true) (tN : PySem.W.typeIn X.K (.ref C) = some (.type "type")) (tk : Takes X W) (hc : X.calm = true := by rfl) (hg : Gl X x := by rfl) (hdb : (x == ("__debug__" : Str)) = false := by decide) :
    PS X (.Raise (some (.Call (.Name x p) [] [] pos)) none pos') (fun _ σ H => W (.ref C) none σ H) :=
  ps_raise hc tk (pmk_own0 PySem.F.excBase_Exception xN gC kN (raises_own bN tN) hg hdb)
/-! ### errors whose context is told -/
theorem pmk5_own0 {X : Cx} {C : Addr} {bmB : List Value} {B newId initId : String} {x : Str} {p pos : Pos} (F : ExcBaseFacts B newId initId bmB) (q : PySem.W.excIn X.K C bmB newId = true) (gC : X.mg x = some (.ref C)) (kC : PySem.W.keepIn X.K (.ref C) = true)
    (r : Raises X (.ref C)) (hg : Gl X x) (hdb : (x == ("__debug__" : Str)) = false := by decide) : L2H.PMk5 X (.Call (.Name x p) [] [] pos) (fun _ H Q => Q (.ref C) none H) := by
  intro pins s σ H Q I hq
  refine wpAny_Call_Name_kw (ld_glob I hg gC ?_ hdb)
  refine PySem.W.callWith_K0 I.kIn kC ?_
  obtain ⟨v1, v2, v3, v4, v5, v6, v7, v8, v9, v10, v11, v12, v13, v14, v15, v16, v17, gc, gn, gi, gt⟩ := exc_obj I.kIn q
  exact wpAny_call_exc_subT F gt gc gn gi (fun h' e mk => L2H.mk_of5 I mk r hq (I.hok.gone mk.new)) (Nat.zero_le _)
theorem ps_rxN {X : Cx} {W : WX} {C : Addr} {x : Str} {p pos pos' : Pos} (xN : PySem.W.excIn X.K C [.type "Exception", .type "BaseException", .type "object"] "Exception.__new__" = true) (gC : X.mg x = some (.ref C)) (kN : PySem.W.keepIn X.K (.ref C) = true)
    (bN : PySem.W.subIn X.K (.ref C) (.type "BaseException") = some true) (tN : PySem.W.typeIn X.K (.ref C) = some (.type "type")) (tk : L2N.Takes X W) (hc : X.calm = true := by rfl) (hg : Gl X x := by rfl) (hdb : (x == ("__debug__" : Str)) = false := by decide) :
    PS X (.Raise (some (.Call (.Name x p) [] [] pos)) none pos') (fun _ σ H => W (.ref C) none σ H) :=
  L2N.ps_raise hc tk (pmk5_own0 PySem.F.excBase_Exception xN gC kN (raises_own bN tN) hg hdb).pmk
theorem okXN {P : Program} {w : World} {K : Frag} {mg : Str → Option Value} {base : Heap} {x qual : Str} {st : Stmt} {f : Addr} {fd : FuncData} {N ps : List Str} {k : Nat} {sp : Sp} (F : Fun K x qual st f fd) (S : FnScope N ps (defScope st)) (len : ∀ vs H Q E, sp vs H Q E → vs.length = ps.length)
    (walk : ∀ (cd : Value) (A : Around) (out : List Env) (s : Shared) (H : Hp) (vs : List V) (Q : VK) (E : XK), Room k (A.deeper (envOfC qual (defScope st) s.heap.objs.size f cd)) → sp vs H Q E →
      ∃ t, PSs (cxOf (L2N.CX P w) P w K mg base N qual (defScope st) f cd A out s H E) (defBody st) t ∧ t { nx := fun _ H' => Q .non H', rt := Q } (start N vs) H) : FnOk P w K mg base (L2N.CX P w) (k + 1) f fd ps sp := by
  obtain ⟨_, _, _, _, _, _, cd, _, _, rfl, lk, hcd⟩ := F.ex
  exact fn_of lk hcd S len fun A out s H vs Q E hr h => walk cd A out s H vs Q E hr h
/-! ### equality, however deep -/
def rEqB (K : Frag) : R2 := fun x y H Q => ∃ d e, Dp K H x d ∧ Dp K H y e ∧ d.canLay0 = true ∧ e.canLay0 = true ∧ min d.depth e.depth ≤ 190 ∧ Q (.bl (PyData.eqv d e)) H
def rNeB (K : Frag) : R2 := fun x y H Q => ∃ d e, Dp K H x d ∧ Dp K H y e ∧ d.canLay0 = true ∧ e.canLay0 = true ∧ min d.depth e.depth ≤ 190 ∧ Q (.bl (!PyData.eqv d e)) H
theorem op_eqB {X : Cx} (hu : X.A.units + 200 < cLine) : OpR X (compareOp .Eq) (rEqB X.K) := by
  intro pins s σ H x y v u Q I rx ry h
  obtain ⟨d, e, hd, he, sd, se, hm, q⟩ := h
  obtain ⟨as, r1⟩ := Dp.reads I d x v hd rx
  obtain ⟨bs, r2⟩ := Dp.reads I e y u he ry
  exact SeqAt.compareEq_reads r1 r2 sd se (by omega) ⟨.bl _, H, I, rfl, q⟩
theorem op_neB {X : Cx} (hu : X.A.units + 200 < cLine) : OpR X (compareOp .NotEq) (rNeB X.K) := by
  intro pins s σ H x y v u Q I rx ry h
  obtain ⟨d, e, hd, he, sd, se, hm, q⟩ := h
  obtain ⟨as, r1⟩ := Dp.reads I d x v hd rx
  obtain ⟨bs, r2⟩ := Dp.reads I e y u he ry
  exact SeqAt.compareNe_reads r1 r2 sd se (by omega) ⟨.bl _, H, I, rfl, q⟩
theorem un2 {k : Nat} {A : Around} (r : Room k A) : A.units + 200 < cLine := by have := r.un; omega
/-! values as data -/
def tD (k : Int) (h : PyData) (v : Kcs7.V) : PyData := .tuple [.int k, h, .int (Kcs7.size v : Nat), .int (Kcs7.depth v : Nat)]
def bD (b : Bytes) : PyData := .tuple (b.map fun c : Nat => .int (c : Nat))
mutual
def toD : Kcs7.V → PyData
  | .null => tD 0 .none .null
  | .bool false => tD 1 .none (.bool false)
  | .bool true => tD 2 .none (.bool true)
  | .num n => tD 3 (.int n) (.num n)
  | .text b => tD 4 (bD b) (.text b)
  | .list l => tD 5 (.tuple (toDL l)) (.list l)
  | .record l => tD 6 (.tuple (toDR l)) (.record l)
def toDL : List Kcs7.V → List PyData
  | [] => []
  | x :: l => toD x :: toDL l
def toDR : List (Bytes × Kcs7.V) → List PyData
  | [] => []
  | (n, x) :: l => .tuple [bD n, toD x] :: toDR l
end
theorem bys_dp {K : Frag} {H : Hp} : ∀ (b : Bytes), DpAll K H (bys b) (b.map fun c : Nat => .int (c : Nat))
  | [] => .nil
  | c :: b => .cons (.int _) (bys_dp b)
theorem bD_dp {K : Frag} {H : Hp} {q : Addr} {b : Bytes} (h : H q = some (.tup (bys b))) : Dp K H (.ref q) (bD b) := .tup (SqT.of h) (bys_dp b)
theorem vt_dp {K : Frag} {H : Hp} {t : Addr} {k : Int} {hv : V} {d : PyData} {v : Kcs7.V} (h : H t = some (vt k hv v)) (hd : Dp K H hv d) : Dp K H (.ref t) (tD k d v) :=
  .tup (SqT.of h) (.cons (.int _) (.cons hd (.cons (.int _) (.cons (.int _) .nil))))
mutual
theorem VAt.dp {K : Frag} {H : Hp} : ∀ {x : V} {v : Kcs7.V}, VAt H x v → Dp K H x (toD v)
  | _, _, .null h => by unfold toD; exact vt_dp h .non
  | _, _, .fal h => by unfold toD; exact vt_dp h .non
  | _, _, .tru h => by unfold toD; exact vt_dp h .non
  | _, _, .num h => by unfold toD; exact vt_dp h (.int _)
  | _, _, .text h q => by unfold toD; exact vt_dp h (bD_dp q)
  | _, _, .list h q r => by unfold toD; exact vt_dp h (.tup (SqT.of q) (VsAt.dp r))
  | _, _, .record h q r => by unfold toD; exact vt_dp h (.tup (SqT.of q) (FsAt.dp r))
theorem VsAt.dp {K : Frag} {H : Hp} : ∀ {xs : List V} {l : List Kcs7.V}, VsAt H xs l → DpAll K H xs (toDL l)
  | _, _, .nil => by unfold toDL; exact .nil
  | _, _, .cons h r => by unfold toDL; exact .cons (VAt.dp h) (VsAt.dp r)
theorem FsAt.dp {K : Frag} {H : Hp} : ∀ {xs : List V} {l : List (Bytes × Kcs7.V)}, FsAt H xs l → DpAll K H xs (toDR l)
  | _, _, .nil => by unfold toDR; exact .nil
  | _, _, .cons h n v r => by unfold toDR; exact .cons (.tup (SqT.of h) (.cons (bD_dp n) (.cons (VAt.dp v) .nil))) (FsAt.dp r)
end
theorem bL_can : ∀ b : Bytes, PyData.canLayAll0 (b.map fun c : Nat => .int (c : Nat)) = true
  | [] => rfl
  | c :: b => by rw [List.map_cons, PyData.canLayAll0, bL_can b]; rfl
theorem bD_can (b : Bytes) : (bD b).canLay0 = true := by unfold bD; rw [PyData.canLay0]; exact bL_can b
theorem tD_can {k : Int} {h : PyData} {v : Kcs7.V} (hh : h.canLay0 = true) : (tD k h v).canLay0 = true := by
  unfold tD
  simp only [PyData.canLay0, PyData.canLayAll0, hh, Bool.and_true]
mutual
theorem toD_can : ∀ v : Kcs7.V, (toD v).canLay0 = true
  | .null => by unfold toD; exact tD_can rfl
  | .bool false => by unfold toD; exact tD_can rfl
  | .bool true => by unfold toD; exact tD_can rfl
  | .num n => by unfold toD; exact tD_can rfl
  | .text b => by unfold toD; exact tD_can (bD_can b)
  | .list l => by unfold toD; exact tD_can (by rw [PyData.canLay0]; exact toDL_can l)
  | .record l => by unfold toD; exact tD_can (by rw [PyData.canLay0]; exact toDR_can l)
theorem toDL_can : ∀ l : List Kcs7.V, PyData.canLayAll0 (toDL l) = true
  | [] => by unfold toDL; rfl
  | x :: l => by unfold toDL; rw [PyData.canLayAll0, toD_can x, toDL_can l]; rfl
theorem toDR_can : ∀ l : List (Bytes × Kcs7.V), PyData.canLayAll0 (toDR l) = true
  | [] => by unfold toDR; rfl
  | (n, x) :: l => by
    unfold toDR
    rw [PyData.canLayAll0, toDR_can l]
    simp only [PyData.canLay0, PyData.canLayAll0, bD_can n, toD_can x, Bool.and_true]
end
theorem bL_depth : ∀ b : Bytes, PyData.depthAll (b.map fun c : Nat => .int (c : Nat)) = 0
  | [] => rfl
  | c :: b => by rw [List.map_cons, PyData.depthAll, bL_depth b]; rfl
theorem bD_depth (b : Bytes) : (bD b).depth = 1 := by unfold bD; rw [PyData.depth, bL_depth b]
theorem tD_depth {k : Int} {h : PyData} {v : Kcs7.V} : (tD k h v).depth = h.depth + 1 := by
  unfold tD
  simp only [PyData.depth, PyData.depthAll]
  omega
mutual
theorem toD_depth : ∀ v : Kcs7.V, (toD v).depth ≤ 3 * Kcs7.depth v + 2
  | .null => by unfold toD; rw [tD_depth]; simp only [PyData.depth]; omega
  | .bool false => by unfold toD; rw [tD_depth]; simp only [PyData.depth]; omega
  | .bool true => by unfold toD; rw [tD_depth]; simp only [PyData.depth]; omega
  | .num n => by unfold toD; rw [tD_depth]; simp only [PyData.depth]; omega
  | .text b => by unfold toD; rw [tD_depth, bD_depth]; omega
  | .list l => by
    have := toDL_depth l
    unfold toD; rw [tD_depth]; simp only [PyData.depth, Kcs7.depth]; omega
  | .record l => by
    have := toDR_depth l
    unfold toD; rw [tD_depth]; simp only [PyData.depth, Kcs7.depth]; omega
theorem toDL_depth : ∀ l : List Kcs7.V, PyData.depthAll (toDL l) ≤ 3 * Kcs7.depthL l + 2
  | [] => by unfold toDL; simp only [PyData.depthAll]; omega
  | x :: l => by
    have h1 := toD_depth x
    have h2 := toDL_depth l
    unfold toDL; simp only [PyData.depthAll, Kcs7.depthL]; omega
theorem toDR_depth : ∀ l : List (Bytes × Kcs7.V), PyData.depthAll (toDR l) ≤ 3 * Kcs7.depthR l + 3
  | [] => by unfold toDR; simp only [PyData.depthAll]; omega
  | (n, x) :: l => by
    have h1 := toD_depth x
    have h2 := toDR_depth l
    have h3 := bD_depth n
    unfold toDR; simp only [PyData.depthAll, PyData.depth, Kcs7.depthR]; omega
end
theorem bL_eqv : ∀ a b : Bytes, PyData.eqvAll (a.map fun c : Nat => .int (c : Nat)) (b.map fun c : Nat => .int (c : Nat)) = decide (a = b)
  | [], [] => by simp [PyData.eqvAll]
  | [], _ :: _ => by simp [PyData.eqvAll]
  | _ :: _, [] => by simp [PyData.eqvAll]
  | x :: a, y :: b => by
    rw [List.map_cons, List.map_cons, PyData.eqvAll, bL_eqv a b]
    simp only [PyData.eqv]
    rw [Bool.eq_iff_iff, Bool.and_eq_true, beq_iff_eq, decide_eq_true_eq, decide_eq_true_eq, List.cons.injEq]
    constructor
    · rintro ⟨h, e⟩; exact ⟨by omega, e⟩
    · rintro ⟨h, e⟩; exact ⟨by omega, e⟩
theorem bD_eqv (a b : Bytes) : PyData.eqv (bD a) (bD b) = decide (a = b) := by
  unfold bD
  rw [PyData.eqv]
  exact bL_eqv a b
theorem tD_eqv {k k' : Int} {h h' : PyData} {v v' : Kcs7.V} (e : PyData.eqv (tD k h v) (tD k' h' v') = true) : k = k' ∧ PyData.eqv h h' = true := by
  unfold tD at e
  simp only [PyData.eqv, PyData.eqvAll, Bool.and_eq_true, beq_iff_eq] at e
  exact ⟨e.1, e.2.1⟩
mutual
theorem toD_inj : ∀ (a b : Kcs7.V), PyData.eqv (toD a) (toD b) = true → a = b
  | .null, b => by
    cases b with
    | null => intro _; rfl
    | bool z => cases z <;> (unfold toD; intro e; exact absurd (tD_eqv e).1 (by decide))
    | _ => unfold toD; intro e; exact absurd (tD_eqv e).1 (by decide)
  | .bool x, b => by
    cases x <;> cases b with
    | bool z => cases z <;> (unfold toD; intro e; first | rfl | exact absurd (tD_eqv e).1 (by decide))
    | _ => unfold toD; intro e; exact absurd (tD_eqv e).1 (by decide)
  | .num n, b => by
    cases b with
    | num m =>
      unfold toD
      intro e
      have := (tD_eqv e).2
      simp only [PyData.eqv, beq_iff_eq] at this
      rw [this]
    | bool z => cases z <;> (unfold toD; intro e; exact absurd (tD_eqv e).1 (by decide))
    | _ => unfold toD; intro e; exact absurd (tD_eqv e).1 (by decide)
  | .text n, b => by
    cases b with
    | text m =>
      unfold toD
      intro e
      have := (tD_eqv e).2
      rw [bD_eqv, decide_eq_true_eq] at this
      rw [this]
    | bool z => cases z <;> (unfold toD; intro e; exact absurd (tD_eqv e).1 (by decide))
    | _ => unfold toD; intro e; exact absurd (tD_eqv e).1 (by decide)
  | .list n, b => by
    cases b with
    | list m =>
      unfold toD
      intro e
      have := (tD_eqv e).2
      rw [PyData.eqv] at this
      rw [toDL_inj n m this]
    | bool z => cases z <;> (unfold toD; intro e; exact absurd (tD_eqv e).1 (by decide))
    | _ => unfold toD; intro e; exact absurd (tD_eqv e).1 (by decide)
  | .record n, b => by
    cases b with
    | record m =>
      unfold toD
      intro e
      have := (tD_eqv e).2
      rw [PyData.eqv] at this
      rw [toDR_inj n m this]
    | bool z => cases z <;> (unfold toD; intro e; exact absurd (tD_eqv e).1 (by decide))
    | _ => unfold toD; intro e; exact absurd (tD_eqv e).1 (by decide)
theorem toDL_inj : ∀ (a b : List Kcs7.V), PyData.eqvAll (toDL a) (toDL b) = true → a = b
  | [], [] => fun _ => rfl
  | [], _ :: _ => by unfold toDL; simp [PyData.eqvAll]
  | _ :: _, [] => by unfold toDL; simp [PyData.eqvAll]
  | x :: a, y :: b => by
    unfold toDL
    rw [PyData.eqvAll, Bool.and_eq_true]
    rintro ⟨e1, e2⟩
    rw [toD_inj x y e1, toDL_inj a b e2]
theorem toDR_inj : ∀ (a b : List (Bytes × Kcs7.V)), PyData.eqvAll (toDR a) (toDR b) = true → a = b
  | [], [] => fun _ => rfl
  | [], _ :: _ => by unfold toDR; simp [PyData.eqvAll]
  | _ :: _, [] => by unfold toDR; simp [PyData.eqvAll]
  | (n, x) :: a, (m, y) :: b => by
    unfold toDR
    rw [PyData.eqvAll, Bool.and_eq_true]
    rintro ⟨e1, e2⟩
    simp only [PyData.eqv, PyData.eqvAll, Bool.and_eq_true, Bool.and_true] at e1
    have e3 := e1.1
    rw [bD_eqv, decide_eq_true_eq] at e3
    rw [e3, toD_inj x y e1.2, toDR_inj a b e2]
end
/-- there or not -/
def OAt (H : Hp) (x : V) : Option Kcs7.V → Prop
  | none => x = .non
  | some v => VAt H x v
def oD : Option Kcs7.V → PyData
  | none => .none
  | some v => toD v
theorem OAt.mono {H H' : Hp} {x : V} {o : Option Kcs7.V} (h : OAt H x o) (k : Tk H H') : OAt H' x o := by
  cases o with
  | none => exact h
  | some v => exact VAt.mono k h
theorem OAt.dp {K : Frag} {H : Hp} {x : V} {o : Option Kcs7.V} (h : OAt H x o) : Dp K H x (oD o) := by
  cases o with
  | none => cases h; exact .non
  | some v => exact VAt.dp h
theorem oD_can (o : Option Kcs7.V) : (oD o).canLay0 = true := by
  cases o with
  | none => rfl
  | some v => exact toD_can v
theorem oD_eqv (a b : Option Kcs7.V) : PyData.eqv (oD a) (oD b) = true ↔ a = b := by
  constructor
  · cases a with
    | none =>
      cases b with
      | none => intro _; rfl
      | some v =>
        intro e
        cases v with
        | bool z => cases z <;> (simp only [oD, toD, tD, PyData.eqv] at e; cases e)
        | _ => simp only [oD, toD, tD, PyData.eqv] at e; cases e
    | some u =>
      cases b with
      | none =>
        intro e
        cases u with
        | bool z => cases z <;> (simp only [oD, toD, tD, PyData.eqv] at e; cases e)
        | _ => simp only [oD, toD, tD, PyData.eqv] at e; cases e
      | some v => intro e; rw [toD_inj u v e]
  · rintro rfl
    exact SeqAt.eqv_refl _ (oD_can a)
end Vt

namespace Vt
open PySem PySem.Spec PyProof.Rows L2
/-! ### i -> 5 i + 1 has the full period over every power of two -/
def q5 : Nat → Nat
  | 0 => 0
  | n + 1 => q5 n * 5 + 1
theorem q5_lcg (m : Nat) : ∀ n, lcgN m n = q5 n % (m + 1)
  | 0 => (Nat.zero_mod _).symm
  | n + 1 => by
    show (lcgN m n * 5 + 1) % (m + 1) = (q5 n * 5 + 1) % (m + 1)
    rw [q5_lcg m n, Nat.add_mod, Nat.mod_mul_mod, ← Nat.add_mod]
theorem q5_add (b : Nat) : ∀ a, q5 (a + b) = 5 ^ a * q5 b + q5 a
  | 0 => by rw [Nat.zero_add, Nat.pow_zero, Nat.one_mul]; rfl
  | a + 1 => by
    have e : a + 1 + b = (a + b) + 1 := by omega
    rw [e]
    show q5 (a + b) * 5 + 1 = 5 ^ (a + 1) * q5 b + (q5 a * 5 + 1)
    rw [q5_add b a, Nat.pow_succ, Nat.mul_assoc, Nat.mul_comm 5 (q5 b), ← Nat.mul_assoc]
    omega
theorem q5_pow : ∀ n, 5 ^ n = 4 * q5 n + 1
  | 0 => rfl
  | n + 1 => by
    rw [Nat.pow_succ, q5_pow n]
    show _ = 4 * (q5 n * 5 + 1) + 1
    omega
theorem q5_twice (n : Nat) : q5 (n + n) = 2 * (q5 n * (2 * q5 n + 1)) := by
  rw [q5_add, q5_pow, Nat.add_mul, Nat.mul_add, Nat.mul_add, Nat.mul_assoc]
  have e : q5 n * (2 * q5 n) = 2 * (q5 n * q5 n) := by
    rw [Nat.mul_comm (q5 n) (2 * q5 n), Nat.mul_assoc]
  rw [e]
  omega
theorem q5_par : ∀ n, q5 n % 2 = n % 2
  | 0 => rfl
  | n + 1 => by
    have h := q5_par n
    show (q5 n * 5 + 1) % 2 = (n + 1) % 2
    omega
theorem odd_out (c : Nat) : ∀ (k a : Nat), 2 ^ k ∣ a * (2 * c + 1) → 2 ^ k ∣ a
  | 0, a, _ => ⟨a, (Nat.one_mul a).symm⟩
  | k + 1, a, h => by
    obtain ⟨d, hd⟩ := h
    have ev : a % 2 = 0 := by
      have e1 : (a * (2 * c + 1)) % 2 = 0 := by
        rw [hd, Nat.pow_succ, Nat.mul_comm (2 ^ k) 2, Nat.mul_assoc]
        exact Nat.mul_mod_right 2 _
      rw [Nat.mul_mod] at e1
      have e2 : (2 * c + 1) % 2 = 1 := by omega
      rw [e2] at e1
      omega
    obtain ⟨b, hb⟩ : ∃ b, a = 2 * b := ⟨a / 2, by omega⟩
    rw [hb, Nat.mul_assoc, Nat.pow_succ, Nat.mul_comm (2 ^ k) 2, Nat.mul_assoc] at hd
    obtain ⟨e, he⟩ := odd_out c k b ⟨d, Nat.eq_of_mul_eq_mul_left (by decide) hd⟩
    exact ⟨e, by rw [hb, he, Nat.pow_succ, Nat.mul_comm (2 ^ k) 2, Nat.mul_assoc]⟩
theorem q5_div : ∀ (k n : Nat), 2 ^ k ∣ q5 n → 2 ^ k ∣ n
  | 0, n, _ => ⟨n, (Nat.one_mul n).symm⟩
  | k + 1, n, h => by
    obtain ⟨d, hd⟩ := h
    have ev : n % 2 = 0 := by
      rw [← q5_par, hd, Nat.pow_succ, Nat.mul_comm (2 ^ k) 2, Nat.mul_assoc]
      exact Nat.mul_mod_right 2 _
    obtain ⟨b, hb⟩ : ∃ b, n = b + b := ⟨n / 2, by omega⟩
    rw [hb, q5_twice, Nat.pow_succ, Nat.mul_comm (2 ^ k) 2, Nat.mul_assoc] at hd
    obtain ⟨e, he⟩ := q5_div k b (odd_out (q5 b) k (q5 b) ⟨d, Nat.eq_of_mul_eq_mul_left (by decide) hd⟩)
    refine ⟨e, ?_⟩
    rw [Nat.pow_succ, Nat.mul_comm (2 ^ k) 2, Nat.mul_assoc, ← he]
    omega
theorem q5_full : ∀ k, 2 ^ k ∣ q5 (2 ^ k)
  | 0 => ⟨1, rfl⟩
  | k + 1 => by
    obtain ⟨d, hd⟩ := q5_full k
    have e : 2 ^ (k + 1) = 2 ^ k + 2 ^ k := by rw [Nat.pow_succ]; omega
    refine ⟨d * (2 * q5 (2 ^ k) + 1), ?_⟩
    rw [e, q5_twice]
    conv => lhs; rw [show q5 (2 ^ k) * (2 * q5 (2 ^ k) + 1) = 2 ^ k * d * (2 * q5 (2 ^ k) + 1) from by rw [← hd]]
    rw [Nat.mul_assoc (2 ^ k) d, Nat.add_mul]
    omega
/-- masks: one less than a power of two -/
def Two (m : Nat) : Prop := ∃ k, 3 ≤ k ∧ k ≤ 13 ∧ m + 1 = 2 ^ k
theorem Two.odd {m : Nat} (h : Two m) : m % 2 = 1 := by
  obtain ⟨k, h1, _, h3⟩ := h
  obtain ⟨j, rfl⟩ : ∃ j, k = j + 1 := ⟨k - 1, by omega⟩
  rw [Nat.pow_succ] at h3
  omega
theorem Two.top {m : Nat} (h : Two m) : m ≤ 8191 := by
  obtain ⟨k, _, h2, h3⟩ := h
  have := Nat.pow_le_pow_right (n := 2) (by decide) h2
  have e : (2 : Nat) ^ 13 = 8192 := by decide
  omega
theorem Two.apart {m a b : Nat} (h : Two m) (hab : a < b) (hb : b ≤ m) : lcgN m a ≠ lcgN m b := by
  obtain ⟨k, _, _, h3⟩ := h
  intro e
  rw [q5_lcg, q5_lcg] at e
  have e0 : b = a + (b - a) := by omega
  have hle : q5 a ≤ q5 b := by
    rw [e0, q5_add]
    exact Nat.le_add_left _ _
  have hd : (m + 1) ∣ q5 b - q5 a := Nat.dvd_of_mod_eq_zero (Nat.sub_mod_eq_zero_of_mod_eq e.symm)
  have hq : q5 b - q5 a = q5 (b - a) * (2 * (2 * q5 a) + 1) := by
    conv => lhs; rw [e0]
    rw [q5_add, Nat.add_sub_cancel, q5_pow, Nat.mul_comm]
    congr 1
    omega
  rw [hq, h3] at hd
  obtain ⟨c, hc⟩ := q5_div k _ (odd_out _ k _ hd)
  have : 0 < c := by
    rcases Nat.eq_zero_or_pos c with z | z
    · rw [z, Nat.mul_zero] at hc; omega
    · exact z
  have : 2 ^ k ≤ b - a := by rw [hc]; exact Nat.le_mul_of_pos_right _ this
  omega
theorem Two.hit {m j : Nat} (h : Two m) (hj : j ≤ m) : ∃ b, b ≤ m ∧ lcgN m b = j := by
  rcases Classical.em (∃ b, b ≤ m ∧ lcgN m b = j) with c | c
  · exact c
  exfalso
  have nd : ((List.range (m + 1)).map (lcgN m)).Nodup := by
    refine List.pairwise_map.mpr (List.Pairwise.imp_of_mem (fun {a b} ha hb hab => ?_) (List.pairwise_lt_range (n := m + 1)))
    exact h.apart hab (Nat.le_of_lt_succ (List.mem_range.mp hb))
  have sub : ∀ x ∈ (List.range (m + 1)).map (lcgN m), x ∈ (List.range (m + 1)).erase j := fun x hx => by
    obtain ⟨b, hb, rfl⟩ := List.mem_map.mp hx
    have hb' := Nat.le_of_lt_succ (List.mem_range.mp hb)
    refine (List.mem_erase_of_ne fun e => c ⟨b, hb', e⟩).mpr (List.mem_range.mpr ?_)
    rw [q5_lcg]
    exact Nat.mod_lt _ (Nat.succ_pos _)
  have l := nat_nodup_len _ _ nd sub
  rw [List.length_erase_of_mem (List.mem_range.mpr (Nat.lt_succ_of_le hj)), List.length_map, List.length_range] at l
  omega
theorem Two.back {m : Nat} (h : Two m) : ∀ n, lcgN m (m + 1 + n) = lcgN m n := by
  obtain ⟨k, _, _, h3⟩ := h
  intro n
  have z : (m + 1) ∣ q5 (m + 1) := by rw [h3]; exact q5_full k
  rw [q5_lcg, q5_lcg, Nat.add_comm (m + 1) n, q5_add]
  obtain ⟨d, hd⟩ := z
  rw [hd, ← Nat.mul_assoc, Nat.mul_comm (5 ^ n) (m + 1), Nat.mul_assoc, Nat.mul_add_mod]
/-- from i to j -/
theorem Two.trip {m i j : Nat} (h : Two m) (hi : i ≤ m) (hj : j ≤ m) : ∃ n, n ≤ m ∧ lcgI m i n = j := by
  obtain ⟨x, hx, ex⟩ := h.hit hi
  obtain ⟨y, hy, ey⟩ := h.hit hj
  by_cases c : x ≤ y
  · exact ⟨y - x, by omega, by rw [← ex, lcgN_add, show x + (y - x) = y by omega, ey]⟩
  · exact ⟨m + 1 + y - x, by omega, by rw [← ex, lcgN_add, show x + (m + 1 + y - x) = m + 1 + y by omega, h.back, ey]⟩
/-! ### where a way ends -/
theorem stay (m : Nat) (x : Int) (k : Nat) : way m x k ≤ m := by
  have b : SetTable.bits x % (m + 1) ≤ m := Nat.le_of_lt_succ (Nat.mod_lt _ (Nat.succ_pos _))
  have e := runEnd_bd b
  have q := nth_in (m := m) k (runAt m (SetTable.bits x % (m + 1)) (SetTable.bits x)) (by
    show SetTable.bits x % (m + 1) + (SetTable.runEnd m (SetTable.bits x % (m + 1)) - SetTable.bits x % (m + 1)) ≤ m
    omega)
  exact Nat.le_trans (Nat.le_add_right _ _) q
theorem off_le (m : Nat) : ∀ (n i b : Nat), off m i b n ≤ 10 * n
  | 0, _, _ => Nat.le_refl _
  | n + 1, i, b => by
    have h := off_le m n (SetTable.leap m i b).1 (SetTable.leap m i b).2
    have e : SetTable.runEnd m i - i ≤ 9 := by
      unfold SetTable.runEnd
      split <;> omega
    show (SetTable.runEnd m i - i + 1) + off m (SetTable.leap m i b).1 (SetTable.leap m i b).2 n ≤ 10 * (n + 1)
    omega
def Ends (fr : Nat → Prop) (m : Nat) (x : Int) (K : Nat) : Prop := fr (way m x K) ∧ ∀ k, k < K → ¬ fr (way m x k)
theorem Two.ends {m : Nat} (h : Two m) (x : Int) {fr : Nat → Prop} {j : Nat} (hj : j ≤ m) (hf : fr j) :
    ∃ K n, Ends fr m x K ∧ n < SetTable.turns m ∧ K ≤ off m (SetTable.bits x % (m + 1)) (SetTable.bits x) n ∧ K < 10 * SetTable.turns m := by
  obtain ⟨r, hr, er⟩ := h.trip (runI_le m (SetTable.bits x) 12) hj
  have ei : runI m (SetTable.bits x) (12 + r) = j := (runI_tail (bits_lt x) r).trans er
  have ew : way m x (off m (SetTable.bits x % (m + 1)) (SetTable.bits x) (12 + r)) = j := by
    show (nth m (runAt m (SetTable.bits x % (m + 1)) (SetTable.bits x)) (off m _ _ (12 + r))).j = j
    rw [nth_off, itL_run, ← ei] <;> rfl
  obtain ⟨K, k1, k2, k3⟩ := st_least (p := fun k => fr (way m x k)) _ (show fr (way m x (off m (SetTable.bits x % (m + 1)) (SetTable.bits x) (12 + r))) by rw [ew]; exact hf)
  have ho := off_le m (12 + r) (SetTable.bits x % (m + 1)) (SetTable.bits x)
  exact ⟨K, 12 + r, ⟨k2, k3⟩, by unfold SetTable.turns; omega, k1, by unfold SetTable.turns; omega⟩
/-! ### the rows of a table: slot, address, key -/
abbrev Zr : Type := Nat × Addr × List Int
/-- each row is met from its hash before an empty slot -/
def Met (ha : List Int → Int) (m : Nat) (Z : List Zr) : Prop := ∀ z ∈ Z, ∃ K, way m (ha z.2.2) K = z.1 ∧ ∀ k, k < K → way m (ha z.2.2) k ∈ Z.map (·.1)
structure Tz (ha : List Int → Int) (t : SetTable) (Z : List Zr) : Prop where
  up : Ris t.place.toList
  no : t.dummies = #[]
  at_ : t.place.toList = Z.map (·.1)
  two : Two t.mask
  inn : ∀ z ∈ Z, z.1 ≤ t.mask
  met : Met ha t.mask Z
theorem Tz.len {ha : List Int → Int} {t : SetTable} {Z : List Zr} (T : Tz ha t Z) : t.place.size = Z.length := by
  have := congrArg List.length T.at_
  rw [List.length_map, Array.length_toList] at this
  exact this
/-- there is room: the way has an end -/
theorem Tz.ends {ha : List Int → Int} {t : SetTable} {Z : List Zr} (T : Tz ha t Z) (hl : Z.length ≤ t.mask) (x : Int) : ∃ K, Ends (· ∉ Z.map (·.1)) t.mask x K ∧ K < 10 * SetTable.turns t.mask := by
  obtain ⟨j, hj, hn⟩ := st_missing (Z.map (·.1)) (t.mask + 1) (by rw [List.length_map]; omega)
  obtain ⟨K, _, a, _, _, b⟩ := T.two.ends x (fr := (· ∉ Z.map (·.1))) (Nat.le_of_lt_succ hj) hn
  exact ⟨K, a, b⟩
theorem Tz.before {ha : List Int → Int} {t : SetTable} {Z : List Zr} (T : Tz ha t Z) {z : Zr} (hz : z ∈ Z) {K : Nat} (hE : Ends (· ∉ Z.map (·.1)) t.mask (ha z.2.2) K) : ∃ c, c < K ∧ way t.mask (ha z.2.2) c = z.1 := by
  obtain ⟨c, e, hb⟩ := T.met z hz
  refine ⟨c, Nat.lt_of_not_le fun hc => ?_, e⟩
  rcases Nat.lt_or_eq_of_le hc with q | q
  · exact hE.1 (hb K q)
  · exact hE.1 (by rw [q, e]; exact List.mem_map.mpr ⟨z, hz, rfl⟩)
theorem midMem {α : Type} {l : List α} {p : Nat} {x y : α} : y ∈ l.take p ++ x :: l.drop p ↔ y = x ∨ y ∈ l := mem_ins
/-- one more -/
theorem Tz.put {ha : List Int → Int} {t : SetTable} {Z : List Zr} (T : Tz ha t Z) {b : Addr} {k : List Int} {K : Nat} (hE : Ends (· ∉ Z.map (·.1)) t.mask (ha k) K) {p : Nat} (hp : p = SetTable.below t.place (way t.mask (ha k) K)) :
    p ≤ Z.length ∧ Tz ha (t.put (way t.mask (ha k) K)).1 (Z.take p ++ (way t.mask (ha k) K, b, k) :: Z.drop p) ∧ (t.put (way t.mask (ha k) K)).1.fill = Z.length + 1 := by
  have hw := stay t.mask (ha k) K
  have hnot : way t.mask (ha k) K ∉ t.place.toList := by rw [T.at_]; exact hE.1
  have hmet := hE.2
  revert hw hnot hp
  generalize hj : way t.mask (ha k) K = j
  intro hp hw hnot
  have hps : p ≤ Z.length := by
    rw [← T.len, hp]
    exact (below_cut T.up j).1
  have hpl : (t.put j).1.place.toList = (Z.take p ++ (j, b, k) :: Z.drop p).map (·.1) := by
    rw [put_place, T.at_, ← hp, List.map_append, List.map_cons, List.map_take, List.map_drop]
  have tk : ∀ {y}, y ∈ Z.map (·.1) → y ∈ (Z.take p ++ (j, b, k) :: Z.drop p).map (·.1) := fun {y} hy => by
    obtain ⟨z, hz, e⟩ := List.mem_map.mp hy
    exact List.mem_map.mpr ⟨z, midMem.mpr (.inr hz), e⟩
  refine ⟨hps, ⟨?_, put_dm T.no j, hpl, T.two, fun z hz => ?_, fun z hz => ?_⟩, ?_⟩
  · exact ris_insert T.up fun e => hnot (List.mem_of_getElem? (by rw [Array.getElem?_toList]; exact e))
  · rcases midMem.mp hz with e | e
    · rw [e]; exact hw
    · exact T.inn z e
  · show ∃ K, way t.mask (ha z.2.2) K = z.1 ∧ _
    rcases midMem.mp hz with e | e
    · rw [e]
      refine ⟨K, hj, fun c hc => tk ?_⟩
      exact Classical.byContradiction fun q => hmet c hc q
    · obtain ⟨c, a1, a2⟩ := T.met z e
      exact ⟨c, a1, fun c' h' => tk (a2 c' h')⟩
  · show (t.put j).1.place.size + (t.put j).1.dummies.size = Z.length + 1
    rw [put_dm T.no j, ← Array.length_toList, hpl, List.length_map, len_ins Z hps]
    rfl
/-! ### all anew -/
theorem Two.free {m : Nat} (h : Two m) (owner : Array (Option Nat)) (x : Int) {j : Nat} (hj : j ≤ m) (hf : oAt owner j = none) :
    ∃ K, SetTable.layClean.free m owner (SetTable.turns m) (SetTable.bits x % (m + 1)) (SetTable.bits x) = some (way m x K) ∧ Ends (fun i => oAt owner i = none) m x K := by
  obtain ⟨K, n, hE, hn, hK, _⟩ := h.ends x (fr := fun i => oAt owner i = none) hj hf
  refine ⟨K, free_spec m owner (SetTable.turns m) n _ _ K hn hK (fun k hk => ?_) ?_, hE⟩
  · have q := hE.2 k hk
    have q' : oAt owner (nth m (runAt m (SetTable.bits x % (m + 1)) (SetTable.bits x)) k).j ≠ none := q
    revert q'
    generalize oAt owner (nth m (runAt m (SetTable.bits x % (m + 1)) (SetTable.bits x)) k).j = z
    intro q'
    cases z with
    | none => exact absurd rfl q'
    | some _ => rfl
  · have q : oAt owner (nth m (runAt m (SetTable.bits x % (m + 1)) (SetTable.bits x)) K).j = none := hE.1
    rw [q] <;> rfl
/-- who was laid so far: by place in the row of hashes -/
structure Ow (m : Nat) (xs : List Int) (owner : Array (Option Nat)) (D : List (Nat × Nat)) : Prop where
  sz : owner.size = m + 1
  ix : D.map (·.2) = List.range xs.length
  nd : (D.map (·.1)).Nodup
  iff : ∀ j i, j ≤ m → (oAt owner j = some i ↔ (j, i) ∈ D)
  inn : ∀ d ∈ D, d.1 ≤ m
  met : ∀ d ∈ D, ∃ x K, xs[d.2]? = some x ∧ way m x K = d.1 ∧ ∀ k, k < K → oAt owner (way m x k) ≠ none
theorem Ow.step {m : Nat} (h : Two m) {xs : List Int} {owner : Array (Option Nat)} {D : List (Nat × Nat)} (W : Ow m xs owner D) (hl : xs.length ≤ m) (x : Int) :
    ∃ j, stepF m (some (owner, xs.length)) x = some (owner.setIfInBounds j (some xs.length), xs.length + 1) ∧ Ow m (xs ++ [x]) (owner.setIfInBounds j (some xs.length)) (D ++ [(j, xs.length)]) := by
  have hlen : D.length = xs.length := by
    have := congrArg List.length W.ix
    rw [List.length_map, List.length_range] at this
    exact this
  obtain ⟨j0, h0, n0⟩ := st_missing (D.map (·.1)) (m + 1) (by rw [List.length_map]; omega)
  have f0 : oAt owner j0 = none := by
    cases z : oAt owner j0 with
    | none => rfl
    | some i => exact absurd (List.mem_map.mpr ⟨(j0, i), (W.iff j0 i (Nat.le_of_lt_succ h0)).mp z, rfl⟩) n0
  obtain ⟨K, e, hE⟩ := h.free owner x (Nat.le_of_lt_succ h0) f0
  have hw := stay m x K
  refine ⟨way m x K, stepF_some e, ?_⟩
  have hE1 : oAt owner (way m x K) = none := hE.1
  have hE2 := hE.2
  generalize hj : way m x K = j at hw hE1 ⊢
  have hjs : j < owner.size := by rw [W.sz]; omega
  have self := oAt_set_self (some xs.length) hjs
  have grow : ∀ i, oAt owner i ≠ none → oAt (owner.setIfInBounds j (some xs.length)) i ≠ none := fun i hi => by
    by_cases c : i = j
    · rw [c, self]; exact fun z => nomatch z
    · rw [oAt_set_ne _ c]; exact hi
  have out : ∀ i, (j, i) ∉ D := fun i hi => by
    have := (W.iff j i hw).mpr hi
    rw [hE1] at this
    cases this
  refine ⟨by rw [Array.size_setIfInBounds]; exact W.sz, ?_, ?_, fun j' i hj' => ?_, fun d hd => ?_, fun d hd => ?_⟩
  · rw [List.map_append, W.ix, List.length_append, List.map_cons]
    show List.range xs.length ++ [xs.length] = List.range (xs.length + 1)
    rw [List.range_succ]
  · rw [List.map_append]
    refine List.nodup_append.mpr ⟨W.nd, List.nodup_cons.mpr ⟨List.not_mem_nil, List.nodup_nil⟩, fun a ha b hb e => ?_⟩
    obtain ⟨d, hd, e1⟩ := List.mem_map.mp ha
    have e2 : b = j := List.mem_singleton.mp hb
    obtain ⟨d1, d2⟩ := d
    exact out d2 (by rw [← e2, ← e, ← e1]; exact hd)
  · by_cases c : j' = j
    · rw [c, self]
      constructor
      · intro q
        have : xs.length = i := Option.some.inj q
        rw [← this]
        exact List.mem_append_right _ (List.mem_singleton.mpr rfl)
      · intro q
        rcases List.mem_append.mp q with z | z
        · exact absurd z (out i)
        · have := List.mem_singleton.mp z
          rw [(Prod.mk.inj this).2]
    · rw [oAt_set_ne _ c, W.iff j' i hj', List.mem_append]
      constructor
      · exact .inl
      · intro q
        rcases q with z | z
        · exact z
        · exact absurd (Prod.mk.inj (List.mem_singleton.mp z)).1 c
  · rcases List.mem_append.mp hd with z | z
    · exact W.inn d z
    · rw [List.mem_singleton.mp z]; exact hw
  · rcases List.mem_append.mp hd with z | z
    · obtain ⟨x', K', a1, a2, a3⟩ := W.met d z
      refine ⟨x', K', ?_, a2, fun k hk => grow _ (a3 k hk)⟩
      rw [List.getElem?_append_left (List.getElem?_eq_some_iff.mp a1).1]
      exact a1
    · rw [List.mem_singleton.mp z]
      exact ⟨x, K, by rw [List.getElem?_append_right (Nat.le_refl _), Nat.sub_self] <;> rfl, hj, fun k hk => grow _ (hE2 k hk)⟩
theorem Ow.all {m : Nat} (h : Two m) : ∀ (more xs : List Int) (owner : Array (Option Nat)) (D : List (Nat × Nat)), Ow m xs owner D → xs.length + more.length ≤ m →
    ∃ owner' D', more.foldl (stepF m) (some (owner, xs.length)) = some (owner', xs.length + more.length) ∧ Ow m (xs ++ more) owner' D'
  | [], xs, owner, D, W, _ => ⟨owner, D, rfl, by rw [List.append_nil]; exact W⟩
  | x :: more, xs, owner, D, W, hl => by
    rw [List.length_cons] at hl
    obtain ⟨j, e, W1⟩ := W.step h (by omega) x
    have el : (xs ++ [x]).length = xs.length + 1 := by rw [List.length_append]; rfl
    obtain ⟨o2, D2, e2, W2⟩ := Ow.all h more (xs ++ [x]) _ _ W1 (by rw [el]; omega)
    rw [el] at e2
    refine ⟨o2, D2, ?_, by rw [List.append_assoc] at W2; exact W2⟩
    rw [List.foldl_cons, e, e2, List.length_cons]
    congr 2
    omega
theorem layAll {m : Nat} (h : Two m) {hs : Array Int} (hn : hs.size ≤ m) : ∃ owner D, SetTable.layClean m hs = some owner ∧ Ow m hs.toList owner D := by
  have W0 : Ow m [] (Array.replicate (m + 1) none) [] := ⟨by simp, rfl, List.nodup_nil, fun j i hj => by rw [oAt_init hj]; simp, fun d hd => (nomatch hd), fun d hd => (nomatch hd)⟩
  obtain ⟨o, D, e, W⟩ := Ow.all h hs.toList [] _ _ W0 (by rw [Array.length_toList]; simpa using hn)
  rw [List.nil_append] at W
  refine ⟨o, D, ?_, W⟩
  rw [layClean_eq]
  have e' : hs.toList.foldl (stepF m) (some (Array.replicate (m + 1) none, 0)) = some (o, ([] : List Int).length + hs.toList.length) := e
  rw [e'] <;> rfl
/-- the table laid anew for the rows of L: some order of them, with new slots -/
theorem relaidZ (ha : List Int → Int) (t : SetTable) (L : List (Addr × List Int)) {hs : Array Int} (hh : hs.toList = L.map fun p => ha p.2) {wanted M : Nat} (hw : SetTable.sizeAbove wanted - 1 = M) (hM : Two M) (hn : L.length ≤ M) :
    ∃ t' order Z, t.relaid hs wanted = some (t', order) ∧ Tz ha t' Z ∧ order.toList.map (fun i => L[i]?) = Z.map (fun z => some z.2) ∧ (Z.map (·.2)).Perm L ∧ t'.mask = M ∧ t'.led = t.led ∧ t'.plain = t.plain := by
  have hsz : hs.size = L.length := by
    have := congrArg List.length hh
    rw [List.length_map, Array.length_toList] at this
    exact this
  obtain ⟨owner, D, e, W⟩ := layAll hM (hs := hs) (by omega)
  have hr : t.relaid hs wanted = some (tabOf t M owner, ((liveOf M owner).map (·.2)).toArray) := by rw [relaid_eq, hw, e] <;> rfl
  have ris := ris_live (fun j => owner.getD j none) (List.range (M + 1)) (by
    unfold Ris
    exact List.pairwise_lt_range)
  have r1 : Ris ((liveOf M owner).map (·.1)) := ris.1
  have memL : ∀ d : Nat × Nat, d ∈ liveOf M owner ↔ d ∈ D := fun d => by
    obtain ⟨j, i⟩ := d
    rw [mem_live W.sz]
    constructor
    · exact fun q => (W.iff j i q.1).mp q.2
    · exact fun q => ⟨W.inn _ q, (W.iff j i (W.inn _ q)).mpr q⟩
  have nL : (liveOf M owner).Nodup := nodup_of_map (f := fun d : Nat × Nat => d.1) (List.Pairwise.imp (fun {a b} (h : a < b) => Nat.ne_of_lt h) r1)
  have pD : (liveOf M owner).Perm D := (List.perm_ext_iff_of_nodup nL (nodup_of_map W.nd)).mpr memL
  have lt : ∀ d ∈ liveOf M owner, d.2 < L.length := fun d hd => by
    have q : d.2 ∈ D.map (·.2) := List.mem_map.mpr ⟨d, (memL d).mp hd, rfl⟩
    rw [W.ix, Array.length_toList, hsz] at q
    exact List.mem_range.mp q
  -- the rows
  let row : Nat × Nat → Zr := fun d => (d.1, L.getD d.2 (0, []))
  have rowAt : ∀ d ∈ liveOf M owner, L[d.2]? = some (row d).2 := fun d hd => by
    have hl := lt d hd
    show L[d.2]? = some (L.getD d.2 (0, []))
    rw [List.getD_eq_getElem?_getD, List.getElem?_eq_getElem hl] <;> rfl
  have slots : ((liveOf M owner).map row).map (·.1) = (liveOf M owner).map (·.1) := by
    rw [List.map_map] <;> rfl
  refine ⟨_, _, (liveOf M owner).map row, hr, ⟨r1, rfl, ?_, hM, fun z hz => ?_, fun z hz => ?_⟩, ?_, ?_, rfl, rfl, rfl⟩
  · show (liveOf M owner).map (·.1) = _
    exact slots.symm
  · obtain ⟨d, hd, rfl⟩ := List.mem_map.mp hz
    exact W.inn d ((memL d).mp hd)
  · obtain ⟨d, hd, rfl⟩ := List.mem_map.mp hz
    obtain ⟨x, K, a1, a2, a3⟩ := W.met d ((memL d).mp hd)
    have ex : x = ha (row d).2.2 := by
      rw [hh, List.getElem?_map, rowAt d hd] at a1
      exact (Option.some.inj a1).symm
    rw [← ex]
    refine ⟨K, a2, fun k hk => ?_⟩
    show way M x k ∈ _
    rw [slots]
    cases z : oAt owner (way M x k) with
    | none => exact absurd z (a3 k hk)
    | some i => exact List.mem_map.mpr ⟨(way M x k, i), (mem_live W.sz).mpr ⟨stay M x k, z⟩, rfl⟩
  · show ((liveOf M owner).map (·.2)).map (fun i => L[i]?) = _
    rw [List.map_map, List.map_map]
    exact List.map_congr_left fun d hd => rowAt d hd
  · rw [List.map_map]
    have p1 : ((liveOf M owner).map ((·.2) ∘ row)).Perm (D.map ((·.2) ∘ row)) := pD.map _
    have e1 : D.map ((·.2) ∘ row) = (D.map (·.2)).map fun i => L.getD i (0, []) := by
      rw [List.map_map] <;> rfl
    rw [e1, W.ix, Array.length_toList, hsz] at p1
    have e2 : (List.range L.length).map (fun i => L.getD i (0, [])) = L := by
      apply List.ext_getElem?
      intro i
      rw [List.getElem?_map]
      by_cases c : i < L.length
      · rw [List.getElem?_range c, List.getElem?_eq_getElem c]
        show some (L.getD i (0, [])) = _
        rw [List.getD_eq_getElem?_getD, List.getElem?_eq_getElem c] <;> rfl
      · rw [List.getElem?_eq_none (by rw [List.length_range]; omega), List.getElem?_eq_none (by omega)] <;> rfl
    rw [e2] at p1
    exact p1
end Vt

namespace Vt
open PySem PySem.Spec PyProof.Rows L2
/-- how large it grows -/
theorem sz_32 : SetTable.sizeAbove (SetTable.grown 5) = 32 := by decide +kernel
theorem sz_128 : SetTable.sizeAbove (SetTable.grown 19) = 128 := by decide +kernel
theorem sz_512 : SetTable.sizeAbove (SetTable.grown 77) = 512 := by decide +kernel
theorem sz_2048 : SetTable.sizeAbove (SetTable.grown 307) = 2048 := by decide +kernel
theorem sz_8192 : SetTable.sizeAbove (SetTable.grown 1229) = 8192 := by decide +kernel
/-- the masks that come: the powers of two with an odd number -/
def Msk (m : Nat) : Prop := m = 7 ∨ m = 31 ∨ m = 127 ∨ m = 511 ∨ m = 2047 ∨ m = 8191
theorem Msk.two {m : Nat} (h : Msk m) : Two m := by
  rcases h with rfl | rfl | rfl | rfl | rfl | rfl
  · exact ⟨3, by decide⟩
  · exact ⟨5, by decide⟩
  · exact ⟨7, by decide⟩
  · exact ⟨9, by decide⟩
  · exact ⟨11, by decide⟩
  · exact ⟨13, by decide⟩
theorem Msk.next {m n : Nat} (h : Msk m) (h1 : n * 5 < m * 3) (h2 : (n + 1) * 5 ≥ m * 3) (h3 : n < 4000) : ∃ M, SetTable.sizeAbove (SetTable.grown (n + 1)) - 1 = M ∧ Msk M ∧ (n + 1) * 5 < M * 3 ∧ n + 1 ≤ m := by
  rcases h with rfl | rfl | rfl | rfl | rfl | rfl
  · obtain rfl : n = 4 := by omega
    exact ⟨31, by rw [sz_32], by unfold Msk; decide, by decide, by decide⟩
  · obtain rfl : n = 18 := by omega
    exact ⟨127, by rw [sz_128], by unfold Msk; decide, by decide, by decide⟩
  · obtain rfl : n = 76 := by omega
    exact ⟨511, by rw [sz_512], by unfold Msk; decide, by decide, by decide⟩
  · obtain rfl : n = 306 := by omega
    exact ⟨2047, by rw [sz_2048], by unfold Msk; decide, by decide, by decide⟩
  · obtain rfl : n = 1228 := by omega
    exact ⟨8191, by rw [sz_8192], by unfold Msk; decide, by decide, by decide⟩
  · omega
section
variable {P : Program} {w : World} {A : Around} {E : Value → Shared → Prop} {s : Shared}
def zrow (P : Program) (w : World) (z : Zr) : Int × Value := (thash P w z.2.2, Value.ref z.2.1)
/-- a set of tuples of ints at a, its rows in the order of their slots -/
structure Sz (P : Program) (w : World) (h : Heap) (a : Addr) (Z : List Zr) (es : Array (Int × Value)) (ep : Nat) (t : SetTable) : Prop where
  ob : ∃ o, h.get? a = some o ∧ o.ExactSet ∧ o.data = .set es ep t
  rows : es.toList = Z.map (zrow P w)
  tb : Tz (thash P w) t Z
  nd : (Z.map fun z => z.2.2).Nodup
  tup : ∀ z ∈ Z, IsT P w h z.2.2 z.2.1
  pl : t.plain = true
  ld : w.params.followText "set-order" = true ∨ t.led = true
  room : Z.length * 5 < t.mask * 3
  msk : Msk t.mask
variable {a : Addr} {Z : List Zr} {es : Array (Int × Value)} {ep : Nat} {t : SetTable} {h : Heap}
theorem rows_size {es : Array (Int × Value)} {Z : List Zr} (e : es.toList = Z.map (zrow P w)) : es.size = Z.length := by
  have q := congrArg List.length e
  rw [List.length_map, Array.length_toList] at q
  exact q
theorem rows_at {es : Array (Int × Value)} {Z : List Zr} (e : es.toList = Z.map (zrow P w)) {i : Nat} {z : Zr} (hz : Z[i]? = some z) : es[i]? = some (zrow P w z) := by
  rw [← Array.getElem?_toList, e, List.getElem?_map, hz] <;> rfl
theorem Tz.fits {ha : List Int → Int} (T : Tz ha t Z) {n : Nat} (hn : n = Z.length) (hl : Z.length ≤ t.mask) : t.fits n = true := by
  unfold SetTable.fits SetTable.fill
  rw [T.no, T.len, hn]
  simpa using hl
theorem Sz.fits (B : Sz P w h a Z es ep t) : t.fits es.size = true := B.tb.fits (rows_size B.rows) (by have := B.room; omega)
/-- THE SEARCH, from the c-th step on -/
theorem Sz.look (B : Sz P w s.heap a Z es ep t) {x : Addr} {k : List Int} (hx : IsT P w s.heap k x) (hu : A.units < cLine) {K : Nat} (hE : Ends (· ∉ Z.map (·.1)) t.mask (thash P w k) K) (hK : K < 10 * SetTable.turns t.mask)
    {Q : SetFound → Shared → Prop} (yes : (∃ z ∈ Z, z.2.2 = k) → Q (.there none) s) (no : (∀ z ∈ Z, z.2.2 ≠ k) → Q (.free (way t.mask (thash P w k) K) false) s) :
    ∀ (f c : Nat) (stand : Option SetTable.Probe), stand.getD (t.probeStart (thash P w k)) = nth t.mask (runAt t.mask (SetTable.bits (thash P w k) % (t.mask + 1)) (SetTable.bits (thash P w k))) c → c ≤ K → K < c + f →
      (∀ z ∈ Z, z.2.2 = k → ∃ c', c ≤ c' ∧ c' < K ∧ way t.mask (thash P w k) c' = z.1) →
      wpAny (model P w) A (setSearchFrom a (.ref x) (thash P w k) true f stand) Q E s := by
  obtain ⟨o, ho, hex, hd⟩ := B.ob
  have hpl := B.tb.at_
  have ix : ∀ z ∈ Z, ∃ i : Nat, Z[i]? = some z ∧ t.place.toList[i]? = some z.1 ∧ (es[i]?.map (·.1)).getD 0 = thash P w z.2.2 := fun z hz => by
    obtain ⟨i, hi, e⟩ := List.getElem_of_mem hz
    have e2 : Z[i]? = some z := by rw [List.getElem?_eq_getElem hi, e]
    refine ⟨i, e2, by rw [hpl, List.getElem?_map, e2] <;> rfl, by rw [rows_at B.rows e2] <;> rfl⟩
  generalize hst : runAt t.mask (SetTable.bits (thash P w k) % (t.mask + 1)) (SetTable.bits (thash P w k)) = st
  have ew : ∀ n, (nth t.mask st n).j = way t.mask (thash P w k) n := fun n => by rw [← hst]
  have edm : ∀ n, (nth t.mask st n).dummy = none := by
    intro n
    induction n with
    | zero => rw [← hst] <;> rfl
    | succ n ih =>
      rw [nth_succ]
      unfold adv
      split <;> exact ih
  intro f
  induction f with
  | zero => intro c _ _ h1 h2; omega
  | succ f ih =>
    intro c stand hs hc hf hre
    rw [setSearchFrom_succ]
    refine wpAny_bind (wpAny_setState_of ho hd B.fits ?_)
    dsimp only
    refine wp_if_neg (by unfold SetTable.gaveWay; rw [B.tb.two.odd]; decide) ?_
    try refine wpAny_bind (wpAny_pure ?_)
    have sh : ∀ n, nth t.mask (nth t.mask st c) n = nth t.mask st (c + n) := fun n => (nth_add t.mask c st n).symm
    rw [hs]
    rcases go_spec t B.tb.up B.tb.no (fun i => (es[i]?.map (·.1)).getD 0) (thash P w k) (10 * SetTable.turns t.mask) (K - c) (nth t.mask st c) (edm c) (by omega)
      (fun n hn => by rw [sh, ew, hpl]; exact Classical.byContradiction fun q => hE.2 (c + n) (by omega) q)
      (by rw [sh, ew, hpl, show c + (K - c) = K by omega]; exact hE.1) with ⟨q, i, hq, hi, hh, hno, hgo⟩ | ⟨hno, hgo⟩
    · -- one of the same hash
      have hgo' : t.probe (fun i => (es[i]?.map (·.1)).getD 0) (thash P w k) (nth t.mask st c) = some (.candidate (nth t.mask (nth t.mask st c) q).j i (nth t.mask (nth t.mask st c) (q + 1))) := hgo
      rw [hgo']
      dsimp only
      rw [sh, ew] at hi
      rw [sh, sh, ew]
      obtain ⟨z, hz, ez⟩ : ∃ z, Z[i]? = some z ∧ z.1 = way t.mask (thash P w k) (c + q) := by
        have hi' := hi
        rw [hpl, List.getElem?_map] at hi'
        obtain ⟨z, h1, h2⟩ := Option.map_eq_some_iff.mp hi'
        exact ⟨z, h1, h2⟩
      have hzm : z ∈ Z := List.mem_of_getElem? hz
      have hent := rows_at B.rows hz
      have hslot := slot_live B.tb.up hi
      -- behind the question whether the search could be seen
      have rest : wpAny (model P w) A (searchRest a (.ref x) (thash P w k) true f es t (way t.mask (thash P w k) (c + q)) i (nth t.mask st (c + (q + 1)))) Q E s := by
        unfold searchRest
        rw [hent]
        unfold zrow
        dsimp only
        refine wpAny_bind (wpAny_holding (wpAny_eqBool_tuple hu (B.tup z hzm) hx ?_))
        refine wpAny_bind (wpAny_setState_of ho hd B.fits ?_)
        dsimp only
        by_cases same : z.2.2 = k
        · refine wp_if_pos (by simp [same]) ?_
          exact wpAny_pure (yes ⟨z, hzm, same⟩)
        · refine wp_if_neg (by simp [same]) ?_
          try refine wpAny_bind (wpAny_pure ?_)
          rw [sameMem]
          dsimp only
          simp only [if_true, hslot, hent]
          unfold zrow
          refine wpAny_bind (wpAny_isSame_ref_self (wpAny_bind (wpAny_pure ?_)))
          simp only [if_true]
          refine wp_if_neg (by simp [same]) ?_
          refine ih (c + (q + 1)) _ rfl (by omega) (by omega) fun z' hz' ek => ?_
          obtain ⟨c', b1, b2, b3⟩ := hre z' hz' ek
          obtain ⟨i', g1, g2, g3⟩ := ix z' hz'
          refine ⟨c', Nat.lt_of_not_le fun hle => ?_, b2, b3⟩
          rcases Nat.lt_or_eq_of_le hle with y | y
          · have y' : c' < c + q := y
            exact hno (c' - c) i' (by omega) (by rw [sh, ew, show c + (c' - c) = c' by omega, b3]; exact g2) (by rw [g3, ek])
          · have y' : c' = c + q := y
            have hs' := slot_live B.tb.up g2
            rw [← b3, y', hslot] at hs'
            injection hs' with hs'
            rw [← hs', hz] at g1
            exact same (by rw [Option.some.inj g1]; exact ek)
      by_cases hl : t.led = true
      · refine wp_if_neg (by simp [hl]) ?_
        try refine wpAny_bind (wpAny_pure ?_)
        exact rest
      · refine wp_if_pos (by simp [hl]) ?_
        refine wpAny_bind (seen_tup hx (fun y hy => ?_) ?_)
        · obtain ⟨e, he, rfl⟩ := List.mem_map.mp hy
          have he' : e ∈ es.toList := by
            have := (show e ∈ es ∧ e.1 = thash P w k by simpa using he).1
            simpa using this
          rw [B.rows] at he'
          obtain ⟨z', hz', rfl⟩ := List.mem_map.mp he'
          exact ⟨z'.2.2, z'.2.1, rfl, B.tup z' hz'⟩
        · refine wp_if_neg (by decide) ?_
          try refine wpAny_bind (wpAny_pure ?_)
          exact rest
    · -- none, up to the empty slot
      have hgo' : t.probe (fun i => (es[i]?.map (·.1)).getD 0) (thash P w k) (nth t.mask st c) = some (.empty (nth t.mask (nth t.mask st c) (K - c)).j none) := hgo
      rw [hgo', sh, ew, show c + (K - c) = K by omega]
      dsimp only
      refine wpAny_pure (no fun z hz ek => ?_)
      obtain ⟨c', b1, b2, b3⟩ := hre z hz ek
      obtain ⟨i, g1, g2, g3⟩ := ix z hz
      exact hno (c' - c) i (by omega) (by rw [sh, ew, show c + (c' - c) = c' by omega, b3]; exact g2) (by rw [g3, ek])
theorem Sz.search (B : Sz P w s.heap a Z es ep t) {x : Addr} {k : List Int} (hx : IsT P w s.heap k x) (hu : A.units < cLine) {Q : SetFound → Shared → Prop}
    (yes : (∃ z ∈ Z, z.2.2 = k) → Q (.there none) s) (no : ∀ K, (∀ z ∈ Z, z.2.2 ≠ k) → Ends (· ∉ Z.map (·.1)) t.mask (thash P w k) K → Q (.free (way t.mask (thash P w k) K) false) s) :
    wpAny (model P w) A (setSearch a (.ref x) (thash P w k) true) Q E s := by
  have hr := B.room
  have ht := B.tb.two.top
  obtain ⟨K, hE, hK⟩ := B.tb.ends (by omega) (thash P w k)
  unfold setSearch
  refine B.look hx hu hE hK yes (fun n => no K n hE) 100000 0 none rfl (Nat.zero_le _) (by unfold SetTable.turns at hK; omega) fun z hz ek => ?_
  subst ek
  obtain ⟨c, h1, h2⟩ := B.tb.before hz hE
  exact ⟨c, Nat.zero_le _, h1, h2⟩
/-! ### laying anew, and adding -/
theorem filterMap_get {α β : Type} (f : α → Option β) : ∀ (l : List α) (m : List β), l.map f = m.map some → l.filterMap f = m
  | [], [], _ => rfl
  | [], _ :: _, e => nomatch e
  | _ :: _, [], e => nomatch e
  | x :: l, y :: m, e => by
    rw [List.map_cons, List.map_cons] at e
    obtain ⟨e1, e2⟩ := List.cons.inj e
    rw [List.filterMap_cons_some e1, filterMap_get f l m e2]
theorem Sz.relay {o : Obj} (ho : s.heap.get? a = some o) (hex : o.ExactSet) (hd : o.data = .set es ep t) (hrows : es.toList = Z.map (zrow P w)) (T : Tz (thash P w) t Z) (hfl : Z.length ≤ t.mask)
    (nd : (Z.map fun z => z.2.2).Nodup) (tup : ∀ z ∈ Z, IsT P w s.heap z.2.2 z.2.1) (pl : t.plain = true) (ld : w.params.followText "set-order" = true ∨ t.led = true) {wanted M : Nat}
    (hw : SetTable.sizeAbove wanted - 1 = M) (hM : Msk M) (hn : Z.length * 5 < M * 3) {Q : Unit → Shared → Prop}
    (hQ : ∀ h' Z' es' ep' t', Heap.SameBut a s.heap h' → Sz P w h' a Z' es' ep' t' → (Z'.map (·.2)).Perm (Z.map (·.2)) → Q () { s with heap := h' }) : wpAny (model P w) A (setRelay a wanted) Q E s := by
  have hsz := rows_size hrows
  have hMt := hM.two.top
  obtain ⟨t', order, Z', e, T', eo, pm, em, el, epl⟩ := relaidZ (thash P w) t (Z.map (·.2)) (hs := es.map (·.1)) (by
    rw [Array.toList_map, hrows, List.map_map, List.map_map] <;> rfl) hw hM.two (by rw [List.length_map]; omega)
  have hes : (order.filterMap (es[·]?)).toList = Z'.map (zrow P w) := by
    rw [Array.toList_filterMap]
    refine filterMap_get _ _ _ ?_
    rw [List.map_map]
    have q := congrArg (List.map (Option.map fun p : Addr × List Int => (thash P w p.2, Value.ref p.1))) eo
    rw [List.map_map, List.map_map] at q
    refine Eq.trans (List.map_congr_left fun i _ => ?_) q
    show es[i]? = Option.map (fun p : Addr × List Int => (thash P w p.2, Value.ref p.1)) (Z.map (·.2))[i]?
    rw [← Array.getElem?_toList, hrows, List.getElem?_map, List.getElem?_map]
    cases Z[i]? <;> rfl
  have hl : Z'.length = Z.length := by
    have := pm.length_eq
    rw [List.length_map, List.length_map] at this
    exact this
  have hs2 : (order.filterMap (es[·]?)).size = Z.length := by rw [rows_size hes, hl]
  rw [setRelay_eq]
  refine wpAny_bind (wpAny_setState_of ho hd (T.fits hsz hfl) ?_)
  dsimp only
  refine wp_if_neg (by rw [sizeLine_eq]; omega) ?_
  try refine wpAny_bind (wpAny_pure ?_)
  rw [e]
  dsimp only
  refine wpAny_bind ?_
  refine wp_if_neg (by rw [hs2, hsz]; simp) ?_
  try refine wpAny_bind (wpAny_pure ?_)
  refine wpAny_pure ?_
  dsimp only
  refine wpAny_storeSet_of ho hd ?_ (by rw [hs2, sizeLine_eq]; omega)
  have sb : Heap.SameBut a s.heap (s.heap.update a (Obj.putSet (order.filterMap (es[·]?)) t')) := Heap.SameBut.update ..
  have mem : ∀ z ∈ Z', ∃ y ∈ Z, y.2 = z.2 := fun z hz => by
    obtain ⟨y, hy, e⟩ := List.mem_map.mp (pm.mem_iff.mp (List.mem_map.mpr ⟨z, hz, rfl⟩))
    exact ⟨y, hy, e⟩
  refine hQ _ Z' (order.filterMap (es[·]?)) (ep + 1) t' sb ⟨⟨_, store_at ho hd, ⟨hex.1, hex.2.1, hex.2.2⟩, rfl⟩, hes, T', ?_, fun z hz => ?_, by rw [epl]; exact pl, by rw [el]; exact ld, by rw [hl, em]; exact hn, by rw [em]; exact hM⟩ pm
  · have q := pm.map (·.2)
    rw [List.map_map, List.map_map] at q
    exact q.nodup_iff.mpr nd
  · obtain ⟨y, hy, e⟩ := mem z hz
    rw [← e]
    exact isT_same (tup y hy) ho hd sb
/-- ADDING -/
theorem Sz.add (B : Sz P w s.heap a Z es ep t) {x : Addr} {k : List Int} (hx : IsT P w s.heap k x) (hu : A.units < cLine) (few : Z.length < 4000) {Q : Bool → Shared → Prop}
    (old : (∃ z ∈ Z, z.2.2 = k) → Q false s)
    (new : (∀ z ∈ Z, z.2.2 ≠ k) → ∀ h' Z' es' ep' t', Heap.SameBut a s.heap h' → Sz P w h' a Z' es' ep' t' → (Z'.map (·.2)).Perm ((x, k) :: Z.map (·.2)) → Q true { s with heap := h' }) :
    wpAny (model P w) A (setAddHashed a (.ref x) (thash P w k)) Q E s := by
  obtain ⟨o, ho, hex, hd⟩ := B.ob
  have hsl := rows_size B.rows
  have hroom := B.room
  unfold setAddHashed
  refine wpAny_holding ?_
  rw [show (100000 : Nat) = 99999 + 1 from rfl, setAddHashedIn_succ]
  refine wpAny_bind (wpAny_setState_of ho hd B.fits ?_)
  dsimp only
  refine wp_if_neg (by simp [byScan, Value.scannable]) ?_
  try refine wpAny_bind (wpAny_pure ?_)
  refine wpAny_bind (B.search hx hu (fun hm => wpAny_pure (old hm)) fun K hm hE => ?_)
  dsimp only
  refine wpAny_bind (wpAny_setState_of ho hd B.fits ?_)
  dsimp only
  have hput := B.tb.put (b := x) hE rfl
  have e2 : (t.put (way t.mask (thash P w k) K)).2 = SetTable.below t.place (way t.mask (thash P w k) K) := rfl
  have epl : (t.put (way t.mask (thash P w k) K)).1.plain = true := B.pl
  have eld : (t.put (way t.mask (thash P w k) K)).1.led = t.led := rfl
  have emk : (t.put (way t.mask (thash P w k) K)).1.mask = t.mask := rfl
  revert hput e2 epl eld emk
  generalize SetTable.below t.place (way t.mask (thash P w k) K) = p
  generalize way t.mask (thash P w k) K = j
  generalize t.put j = pt
  obtain ⟨t1, p1⟩ := pt
  dsimp only
  rintro ⟨hp, T1, hfill⟩ rfl epl eld emk
  first
    | (refine wpAny_bind ?_; refine wp_if_pos epl ?_; refine hashBy_tup hx ?_)
    | refine wp_if_pos epl (wpAny_bind (hashBy_tup hx ?_))
  simp only [if_true]
  have hrows : (SetTable.insertAt es p1 (thash P w k, Value.ref x)).toList = (Z.take p1 ++ (j, x, k) :: Z.drop p1).map (zrow P w) := by
    rw [SetTable.toList_insertAt, B.rows, List.map_append, List.map_cons, List.map_take, List.map_drop] <;> rfl
  have pm : (Z.take p1 ++ (j, x, k) :: Z.drop p1).Perm ((j, x, k) :: Z) := put_perm Z p1 _
  generalize SetTable.insertAt es p1 (thash P w k, Value.ref x) = es1 at hrows ⊢
  generalize Z.take p1 ++ (j, x, k) :: Z.drop p1 = Z1 at hrows pm T1
  have hl1 : Z1.length = Z.length + 1 := pm.length_eq
  have hs1 := rows_size hrows
  have nd1 : (Z1.map fun z => z.2.2).Nodup := by
    refine (pm.map fun z => z.2.2).nodup_iff.mpr ?_
    rw [List.map_cons]
    refine List.nodup_cons.mpr ⟨fun q => ?_, B.nd⟩
    obtain ⟨z, hz, e⟩ := List.mem_map.mp q
    exact hm z hz e
  refine wpAny_bind (wpAny_storeSet_of ho hd ?_ (by rw [hs1, hl1, sizeLine_eq]; omega))
  have sb : Heap.SameBut a s.heap (s.heap.update a (Obj.putSet es1 t1)) := Heap.SameBut.update ..
  have ho1 := store_at (es' := es1) (t' := t1) ho hd
  generalize s.heap.update a (Obj.putSet es1 t1) = h1 at sb ho1 ⊢
  have tup1 : ∀ z ∈ Z1, IsT P w h1 z.2.2 z.2.1 := fun z hz => by
    rcases List.mem_cons.mp (pm.mem_iff.mp hz) with e | e
    · rw [e]; exact isT_same hx ho hd sb
    · exact isT_same (B.tup z e) ho hd sb
  have pm2 : (Z1.map (·.2)).Perm ((x, k) :: Z.map (·.2)) := pm.map (·.2)
  have ld1 : w.params.followText "set-order" = true ∨ t1.led = true := by rw [eld]; exact B.ld
  by_cases full : t1.tooFull = true
  · first
      | (refine wpAny_bind ?_; refine wp_if_pos (by simp [full]) ?_)
      | (refine wp_if_pos (by simp [full]) ?_; refine wpAny_bind ?_)
    have hfull : (Z.length + 1) * 5 ≥ t.mask * 3 := by
      have q := full
      unfold SetTable.tooFull at q
      rw [decide_eq_true_eq, hfill, emk] at q
      exact q
    obtain ⟨M, m1, m2, m3, m4⟩ := B.msk.next hroom hfull few
    rw [hsl]
    refine Sz.relay (s := { s with heap := h1 }) ho1 ⟨hex.1, hex.2.1, hex.2.2⟩ rfl hrows T1 (by rw [hl1, emk]; exact m4) nd1 tup1 epl ld1 m1 m2 (by rw [hl1]; exact m3) ?_
    intro h2 Z2 es2 ep2 t2 sb2 B2 pm3
    exact wpAny_pure (new hm h2 Z2 es2 ep2 t2 (sb.trans sb2) B2 (pm3.trans pm2))
  · first
      | refine wp_if_neg (by simp [full]) ?_
      | (refine wpAny_bind ?_; refine wp_if_neg (by simp [full]) ?_; refine wpAny_pure ?_)
    have hroom1 : Z1.length * 5 < t1.mask * 3 := by
      have q := full
      unfold SetTable.tooFull at q
      rw [decide_eq_true_eq, hfill] at q
      omega
    exact wpAny_pure (new hm h1 Z1 es1 (ep + 1) t1 sb ⟨⟨_, ho1, ⟨hex.1, hex.2.1, hex.2.2⟩, rfl⟩, hrows, T1, nd1, tup1, epl, ld1, hroom1, by rw [emk]; exact B.msk⟩ pm2)
end
end Vt

namespace Vt
open PySem PySem.Spec PyProof.Rows L2
section
variable {P : Program} {w : World} {A : Around} {E : Value → Shared → Prop}
/-- the set at S when i of the tuples ks were put in; h0 is the heap ahead of it -/
structure Fill (P : Program) (w : World) (h0 : Heap) (S : Addr) (ks : List (Addr × List Int)) (i : Nat) (h : Heap) : Prop where
  old : ∀ b o, h0.get? b = some o → h.get? b = some o
  ex : ∃ Z es ep t, Sz P w h S Z es ep t ∧ (∀ z ∈ Z, z.2 ∈ ks.take i) ∧ (∀ p ∈ ks.take i, ∃ z ∈ Z, z.2.2 = p.2) ∧ Z.length ≤ i
variable {h0 : Heap} {S : Addr} {ks : List (Addr × List Int)}
/-- nothing but what is written to W changes -/
theorem Fill.stay {i : Nat} {h h' : Heap} (F : Fill P w h0 S ks i h) (hk : ∀ p ∈ ks, IsT P w h0 p.2 p.1) {W : Addr → Prop} (hS : ¬ W S) (h0W : ∀ b o, h0.get? b = some o → ¬ W b)
    (same : ∀ b o, ¬ W b → h.get? b = some o → h'.get? b = some o) : Fill P w h0 S ks i h' := by
  have old' : ∀ b o, h0.get? b = some o → h'.get? b = some o := fun b o e => same b o (h0W b o e) (F.old b o e)
  obtain ⟨Z, es, ep, t, B, f1, f2, f3⟩ := F.ex
  obtain ⟨o, ho, r⟩ := B.ob
  exact ⟨old', Z, es, ep, t, ⟨⟨o, same S o hS ho, r⟩, B.rows, B.tb, B.nd, fun z hz => isT_keep (hk z.2 (List.mem_of_mem_take (f1 z hz))) old', B.pl, B.ld, B.room, B.msk⟩, f1, f2, f3⟩
theorem Fill.put {i : Nat} {s : Shared} (F : Fill P w h0 S ks i s.heap) (hk : ∀ p ∈ ks, IsT P w h0 p.2 p.1) (hS : h0.get? S = none) {p : Addr × List Int} (hp : ks[i]? = some p) (hu : A.units < cLine) (few : ks.length < 4000)
    {Q : Bool → Shared → Prop} (hQ : ∀ b h' tk, s.toks ≤ tk → Heap.SameBut S s.heap h' → Fill P w h0 S ks (i + 1) h' → Q b { s with heap := h', toks := tk }) : wpAny (model P w) A (setAdd S (.ref p.1)) Q E s := by
  obtain ⟨Z, es, ep, t, B, f1, f2, f3⟩ := F.ex
  have hx : IsT P w s.heap p.2 p.1 := isT_keep (hk p (List.mem_of_getElem? hp)) F.old
  have hi : i < ks.length := (List.getElem?_eq_some_iff.mp hp).1
  have tn : ks.take (i + 1) = ks.take i ++ [p] := by rw [List.take_succ, hp] <;> rfl
  unfold setAdd
  refine wpAny_holding (wpAny_bind (wpAny_pyHash_tuple hu hx ?_))
  refine Sz.add (s := { s with toks := s.toks + (p.2.length + 1) }) B hx hu (by omega) (fun hm => ?_) fun hm h' Z' es' ep' t' sb B' pm => ?_
  · refine hQ false s.heap _ (Nat.le_add_right _ _) (Heap.SameBut.refl S s.heap) ⟨F.old, Z, es, ep, t, B, fun z hz => ?_, fun r hr => ?_, Nat.le_succ_of_le f3⟩
    · rw [tn]; exact List.mem_append_left _ (f1 z hz)
    · rw [tn] at hr
      rcases List.mem_append.mp hr with e | e
      · exact f2 r e
      · rw [List.mem_singleton.mp e]; exact hm
  · refine hQ true h' _ (Nat.le_add_right _ _) sb ⟨fun b o e => ?_, Z', es', ep', t', B', fun z hz => ?_, fun r hr => ?_, ?_⟩
    · rw [← F.old b o e]
      exact sb.2 b fun c => by rw [c, hS] at e; cases e
    · rw [tn]
      rcases List.mem_cons.mp (pm.mem_iff.mp (List.mem_map.mpr ⟨z, hz, rfl⟩)) with e | e
      · exact List.mem_append_right _ (List.mem_singleton.mpr e)
      · obtain ⟨y, hy, e2⟩ := List.mem_map.mp e
        rw [← e2]
        exact List.mem_append_left _ (f1 y hy)
    · have back : ∀ q : Addr × List Int, q ∈ (p.1, p.2) :: Z.map (·.2) → ∃ z ∈ Z', z.2.2 = q.2 := fun q hq => by
        obtain ⟨z, hz, e⟩ := List.mem_map.mp (pm.mem_iff.mpr hq)
        exact ⟨z, hz, by rw [← e]⟩
      rw [tn] at hr
      rcases List.mem_append.mp hr with e | e
      · obtain ⟨y, hy, ey⟩ := f2 r e
        obtain ⟨z, hz, ez⟩ := back y.2 (List.mem_cons_of_mem _ (List.mem_map.mpr ⟨y, hy, rfl⟩))
        exact ⟨z, hz, ez.trans ey⟩
      · rw [List.mem_singleton.mp e]
        exact back p List.mem_cons_self
    · have := pm.length_eq
      rw [List.length_map, List.length_cons, List.length_map] at this
      omega
/-- the loop of set.update, whatever is known of the set -/
theorem loopSet {I : Addr} {fp wr : List Addr} {G : Array GenState → Array GenState → Prop} {n : Nat} {Pv : Nat → Value → Prop} {St : Nat → Shared → Prop} {R : Result → Shared → Prop} (W : WalksS P w A.in1 I fp wr G n Pv St) (hSf : S ∉ fp)
    (J : Nat → Heap → Prop) (stab : ∀ i h h', J i h → (∀ b o, b ∉ wr → h.get? b = some o → h'.get? b = some o) → J i h')
    (step : ∀ i v (s : Shared) (E : Value → Shared → Prop) (Q : Bool → Shared → Prop), i < n → Pv i v → J i s.heap → (∀ b h' tk, s.toks ≤ tk → Heap.SameBut S s.heap h' → J (i + 1) h' → Q b { s with heap := h', toks := tk }) → wpAny (model P w) A.in1 (setAdd S v) Q E s) :
    ∀ (r i : Nat) (s : Shared), i + r = n → St i s → J i s.heap → (∀ s', Moved (S :: wr) G s s' → J n s'.heap → R (.ok (.ret .none)) s') → codeAny (model P w) A (.builtin "set.update.loop" ⟨[.ref S, .ref I], []⟩) R s
  | 0, i, s, hr, hst, hJ, hR => by
    obtain rfl : i = n := by omega
    refine codeAny_builtin F.entry_set_update_loop ?_
    rw [Around.under_plainId F.plain_set_update_loop _]
    refine wpAny_bind (W.done s _ _ hst fun s' hm => ?_)
    exact wpAny_pure (hR s' (hm.mono fun b hb => List.mem_cons_of_mem _ hb) (stab i _ _ hJ fun b o hb e => hm.heap b o hb e))
  | r + 1, i, s, hr, hst, hJ, hR => by
    refine codeAny_builtin F.entry_set_update_loop ?_
    rw [Around.under_plainId F.plain_set_update_loop _]
    refine wpAny_bind (W.item i s _ _ (by omega) hst fun v s1 hP hst1 hm => ?_)
    have J1 := stab i _ _ hJ fun b o hb e => hm.heap b o hb e
    refine wpAny_bind (wpAny_holding (step i v s1 _ _ (by omega) hP J1 fun b h' tk htk sb J2 => ?_))
    refine wpAny_pure ⟨plainId_quiet F.plain_set_update_loop _, loopSet W hSf J stab step r (i + 1) _ (by omega) (W.frame _ s1 h' tk hst1 htk fun c hc o e => ?_) J2 fun s2 hm2 J3 => hR s2 ?_ J3⟩
    · rw [sb.2 c fun z => hSf (z ▸ hc)]
      exact e
    · refine Moved.trans W.gtrans (Moved.then_heap (hm.mono fun b hb => List.mem_cons_of_mem _ hb) htk fun c o hc e => ?_) hm2
      rw [sb.2 c fun z => hc (z ▸ List.mem_cons_self)]
      exact e
abbrev freshSet (w : World) : Obj := { cls := .type "set", dict := none, data := .set #[] 0 (.fresh 0 0 (!w.params.followText "set-order")) }
theorem Fill.zero {h : Heap} (keep : ∀ b o, h0.get? b = some o → h.get? b = some o) (hS : h.get? S = some (freshSet w)) : Fill P w h0 S ks 0 h := by
  refine ⟨keep, [], #[], 0, _, ⟨⟨_, hS, ⟨rfl, rfl, rfl⟩, rfl⟩, rfl, ⟨List.Pairwise.nil, rfl, rfl, ⟨3, by decide, by decide, rfl⟩, fun z hz => (nomatch hz), fun z hz => (nomatch hz)⟩, List.nodup_nil, fun z hz => (nomatch hz), rfl, ?_, ?_, .inl rfl⟩,
    fun z hz => (nomatch hz), fun p hp => ?_, Nat.le_refl _⟩
  · show _ ∨ (!w.params.followText "set-order") = true
    cases w.params.followText "set-order"
    · exact .inr rfl
    · exact .inl rfl
  · show 0 * 5 < 7 * 3
    decide
  · rw [List.take_zero] at hp
    exact nomatch hp
/-- set(l), whatever is known of what its items make of it -/
theorem callSet {s : Shared} {l : Addr} {items : Array Value} {Q : Value → Shared → Prop} (hh : A.handled = none) (hl : s.heap.IsList l items) (hu : A.units + 3 < cLine) (J : Nat → Heap → Prop)
    (zero : ∀ h, (∀ b o, s.heap.get? b = some o → h.get? b = some o) → h.get? s.heap.objs.size = some (freshSet w) → J 0 h)
    (stab : ∀ i h h', J i h → (∀ b o, b ≠ s.heap.objs.size + 1 → h.get? b = some o → h'.get? b = some o) → J i h')
    (step : ∀ (A' : Around) i v (s' : Shared) (E : Value → Shared → Prop) (Q : Bool → Shared → Prop), A'.units < cLine → items[i]? = some v → J i s'.heap →
      (∀ b h' tk, s'.toks ≤ tk → Heap.SameBut s.heap.objs.size s'.heap h' → J (i + 1) h' → Q b { s' with heap := h', toks := tk }) → wpAny (model P w) A' (setAdd s.heap.objs.size v) Q E s')
    (fin : ∀ h' tk, J items.size h' → Q (.ref s.heap.objs.size) { s with heap := h', toks := tk }) :
    wpAny (model P w) A (call (.type "set") [.ref l]) Q E s := by
  obtain ⟨c, tl, hmro⟩ := F.called_set.mro
  have hmade := F.called_set.made
  have hsub := F.called_set.sub
  refine wpAny_call (codeAny_of_tree ?_)
  show wpAny _ _ (callAny (.type "set") _) _ _ _
  refine wpAny_pure ⟨Code.quiet_builtin _ (by decide +kernel), codeAny_builtin F.entry_type_call ?_⟩
  rw [Around.under_plain (weight_type_call_type "set" [.ref l] []) rfl]
  have n1 := F.called_set.notType
  have n2 := F.called_set.canCreate
  have n3 := F.typeCall_set_1 (.ref l)
  repeat (any_goals (first | assumption | wp_step))
  refine codeAny_mono (code_set_led1 (.ref l) (E := E) (Q₁ := fun obj s₁ => obj = .ref s.heap.objs.size ∧ s₁ = { s with heap := s.heap.push (freshSet w) }) ⟨rfl, rfl⟩) fun r s₁ hr => ?_
  cases r with
  | error e => exact hr
  | ok fl =>
    cases fl with
    | ret obj =>
      obtain ⟨rfl, rfl⟩ := hr
      have hS : (s.heap.push (freshSet w)).get? s.heap.objs.size = some (freshSet w) := Heap.get?_push_size _ rfl
      have hT : Shared.TypeIs { s with heap := s.heap.push (freshSet w) } (.ref s.heap.objs.size) "set" := ⟨_, hS, rfl⟩
      have m1 := F.called_set.init.lookup
      have m2 := F.called_set.init.bind (.ref s.heap.objs.size)
      repeat (any_goals (first | assumption | wp_step))
      refine codeAny_mono (codeAny_call_builtin (R := wants (fun r s₂ => r = .none ∧ ∃ h' tk, s₂ = { s with heap := h', toks := tk } ∧ J items.size h') E) F.called_set.init.plain F.entry_set_init (check_set_init_1 hT ?_)) fun r₂ s₂ hr₂ => ?_
      · obtain ⟨⟨ocls, odict, odata, oslots⟩, hol, hcl, nl, hdl⟩ := hl
        simp only at hcl hdl
        subst hcl; subst hdl
        have hol' : (s.heap.push (freshSet w)).get? l = some { cls := .type "list", dict := odict, data := .seq items nl, slots := oslots } := Heap.get?_push_of_some _ hol
        have g1 := F.sub_list_set
        have g2 := F.sub_list_frozenset
        have g3 : (Value.type "list" == Value.type "dict") = false := by decide
        have hl1 : (s.heap.push (freshSet w)).IsList l items := ⟨_, hol', rfl, nl, rfl⟩
        unfold Builtin.«set.__init__» noKeywords Builtin.Frozenset.updateFrom
        generalize hPI : pyIter = PI
        wp_walk
        subst hPI
        refine wpAny_pyIter_list hl1 (wpAny_bind (wpAny_runValue ?_))
        have hlS : l < s.heap.objs.size := Heap.lt_size hol
        have ez : (s.heap.push (freshSet w)).objs.size = s.heap.objs.size + 1 := Heap.size_push ..
        have h3 : A.in1.in1.in1.handled = none := by simp [hh]
        refine loopSet (Walks.list h3 _ l (by rw [ez]; exact Nat.ne_of_lt (Nat.lt_succ_of_lt hlS)) items).toS (S := s.heap.objs.size) (by rw [ez]; simp only [List.mem_cons, List.not_mem_nil, or_false, not_or]; exact ⟨Nat.ne_of_lt (Nat.lt_succ_self _), Nat.ne_of_gt hlS⟩) J
          (fun i h h' hJ same => stab i h h' hJ fun b o hb e => same b o (by rw [ez]; simp only [List.mem_cons, List.not_mem_nil, or_false]; exact hb) e)
          (fun i v s' E Q hi hv hJ hq => step _ i v s' E Q hu hv hJ hq) items.size 0 _ (by omega)
          ⟨⟨_, Heap.get?_push_size _ rfl, rfl, rfl⟩, hl1.push _⟩ (zero _ (fun b o e => Heap.get?_push_of_some _ (Heap.get?_push_of_some _ e)) (Heap.get?_push_of_some _ hS)) fun s' hm hJ => ?_
        obtain ⟨h', g2', d', tk', os'⟩ := s'
        obtain rfl : g2' = s.gens := hm.gens
        obtain rfl : d' = s.drawn := hm.drawn
        obtain rfl : os' = s.os := hm.os
        show wpAny _ _ _ _ _ _
        refine wpAny_pure ?_
        show wpAny _ _ (ret Value.none) _ _ _
        exact wpAny_pure ⟨rfl, h', tk', rfl, hJ⟩
      · cases r₂ with
        | error e => exact hr₂
        | ok fl₂ =>
          cases fl₂ with
          | ret r =>
            obtain ⟨rfl, h', tk, rfl, hJ⟩ := hr₂
            repeat (any_goals (first | assumption | wp_step))
            exact fin _ _ hJ
          | _ => exact hr₂.elim
    | _ => exact hr.elim
end
end Vt

namespace Vt
open PySem PySem.Spec PyProof.Rows L2
open PySem.W (Frag)
/-- the set at a, its tuples aside -/
def S0 (P : Program) (w : World) (a : Addr) (Z : List Zr) (h : Heap) : Prop := ∃ (es : Array (Int × Value)) (ep : Nat) (t : SetTable), (∃ o, h.get? a = some o ∧ o.ExactSet ∧ o.data = .set es ep t) ∧
  es.toList = Z.map (zrow P w) ∧ Tz (thash P w) t Z ∧ t.plain = true ∧ (w.params.followText "set-order" = true ∨ t.led = true) ∧ Z.length * 5 < t.mask * 3
def SzO (P : Program) (w : World) (a : Addr) (Z : List Zr) : HO := .ext fun h => S0 P w a Z h
theorem szO_ok {P : Program} {w : World} {H : Hp} {h : Heap} {a : Addr} {Z : List Zr} (R : S0 P w a Z h) : ObjOk P w H h a (SzO P w a Z) := by
  have ⟨es, ep, t, ⟨o, ho, r⟩, q⟩ := R
  exact ⟨R, ⟨o, ho⟩, fun h1 h2 ⟨es', ep', t', ⟨o', ho', r'⟩, q'⟩ k => ⟨es', ep', t', ⟨o', k o' ho', r'⟩, q'⟩⟩
section
variable {X : Cx}
/-- set(l), l a list of tuples of ints -/
def rSetZ (P : Program) (w : World) : List V → Hp → VK → Prop := fun vs H Q => ∃ (l : Addr) (ks : List (Addr × List Int)), vs = [V.ref l] ∧ H l = some (.lst (ks.map fun p => V.ref p.1)) ∧ (∀ p ∈ ks, H p.1 = some (.tup (p.2.map V.int))) ∧ ks.length < 4000 ∧
  ∀ a Z, H a = none → (∀ z ∈ Z, z.2 ∈ ks) → (∀ p ∈ ks, ∃ z ∈ Z, z.2.2 = p.2) → (Z.map fun z => z.2.2).Nodup → Z.length < 4000 → Q (.ref a) (upd H a (SzO P w a Z))
theorem cr_setZ (hc : X.calm = true) (hu : X.A.units + 64 < cLine) : CallR X (.type "set") (rSetZ X.prog X.w) := by
  intro pins s σ H xs us Q I r h
  obtain ⟨l, ks, rfl, hl, hk, hf, q⟩ := h
  rw [Vals.ref1 r]
  obtain ⟨its, rv, pl, hz⟩ := I.list (SqL.of (K := X.K) hl)
  have hn : H s.heap.objs.size = none := I.hok.fresh (Nat.le_refl _)
  have isT : ∀ p ∈ ks, IsT X.prog X.w s.heap p.2 p.1 := fun p hp => I.isT (SqT.of (hk p hp))
  have hus : its = ks.map fun p => Value.ref p.1 := refs_of_vals rv
  have none_of : ∀ b, s.heap.objs.size ≤ b → s.heap.get? b = none := fun b hb => by
    cases e : s.heap.get? b with
    | none => rfl
    | some o => exact absurd (Nat.lt_of_lt_of_le (Heap.lt_size e) hb) (Nat.lt_irrefl _)
  have hsz : its.toArray.size = ks.length := by rw [List.size_toArray, hus, List.length_map]
  refine callSet (P := X.prog) (w := X.w) (I.ok.hd hc) pl.isList (by omega) (fun i h => Fill X.prog X.w s.heap s.heap.objs.size ks i h) (fun h k e => Fill.zero k e)
    (fun i h h' F same => F.stay isT (W := fun b => b = s.heap.objs.size + 1) (fun z => absurd z (Nat.ne_of_lt (Nat.lt_succ_self _))) (fun b o e z => ?_) fun b o hb e => same b o hb e)
    (fun A' i v s' E Q' hu' hv F hq => ?_) fun h' tk F => ?_
  · rw [z, none_of _ (Nat.le_succ _)] at e
    cases e
  · have hv' : its[i]? = some v := by simpa using hv
    rw [hus, List.getElem?_map] at hv'
    obtain ⟨p, hp, rfl⟩ := Option.map_eq_some_iff.mp hv'
    exact F.put isT (none_of _ (Nat.le_refl _)) hp hu' hf hq
  · rw [hsz] at F
    obtain ⟨Z, es, ep, t, B, f1, f2, f3⟩ := F.ex
    rw [List.take_length] at f1 f2
    exact ⟨.ref s.heap.objs.size, upd H s.heap.objs.size (SzO X.prog X.w s.heap.objs.size Z), I.laid (t' := tk) F.old (Nat.le_refl _) (szO_ok ⟨es, ep, t, B.ob, B.rows, B.tb, B.pl, B.ld, B.room⟩), rfl, q _ Z hn f1 f2 B.nd (by omega)⟩
/-- sorted(s), s such a set -/
def rSortZ (P : Program) (w : World) : List V → Hp → VK → Prop := fun vs H Q => ∃ (a : Addr) (Z : List Zr), vs = [V.ref a] ∧ H a = some (SzO P w a Z) ∧ (∀ z ∈ Z, H z.2.1 = some (.tup (z.2.2.map V.int))) ∧ Z.length < 4000 ∧
  ∀ (bs : List Addr) (p : Addr), (bs.map (kfA H)).Perm (Z.map fun z => z.2.2) → (bs.map (kfA H)).Pairwise (fun x y => HT.lexLt y x = false) → (∀ b ∈ bs, H b = some (.tup ((kfA H b).map V.int))) → H p = none → Q (.ref p) (upd H p (.lst (bs.map V.ref)))
theorem cr_sortZ (hc : X.calm = true) (hu : X.A.units + 64 < cLine) : CallR X (.builtin "sorted") (rSortZ X.prog X.w) := by
  intro pins s σ H vs us Q I r h
  obtain ⟨a, Z, rfl, ha, hk, few, q⟩ := h
  rw [Vals.ref1 r]
  obtain ⟨es, ep, t, ⟨o, ho, hex, hd⟩, rows, tb, pl, ld, room⟩ := (show S0 X.prog X.w a Z s.heap from (I.hok a _ ha).1)
  have hsz := rows_size rows
  refine Calls.call_function_entry PyProof.Rows.kind_sorted PyProof.Rows.plain_sorted PyProof.Rows.entry_sorted (PyProof.Rows.args_sorted1 _) ?_
  unfold Builtin.«sorted»
  refine wpAny_bind (m := checkCount "sorted" 1 1 _) (wpAny_pure ?_)
  refine wpAny_bind (collect_set (A := X.A.in1) (I.ok.hd hc) ⟨o, ho, hex.1, hd⟩ (tb.fits hsz (by omega)) (by unfold scanBound; omega) tb.up ld fun s1 vs k1 hz1 g1 o1 pm => ?_)
  have evs : es.toList.map (·.2) = (Z.map fun z => z.2.1).map Value.ref := by
    rw [rows, List.map_map, List.map_map] <;> rfl
  rw [evs] at pm
  have keyOf : ∀ z ∈ Z, kfA H z.2.1 = z.2.2 := fun z hz => kfA_of (hk z hz)
  -- the addresses, in the order in which they came
  have hout0 : ∀ v ∈ vs, ∃ z ∈ Z, v = Value.ref z.2.1 := fun v hv => by
    obtain ⟨b, hb, e⟩ := List.mem_map.mp (pm.mem_iff.mp hv)
    obtain ⟨z, hz, e2⟩ := List.mem_map.mp hb
    exact ⟨z, hz, by rw [← e, e2]⟩
  have evs2 : vs = (vs.map adr).map Value.ref := by
    rw [List.map_map]
    conv => lhs; rw [← List.map_id vs]
    refine List.map_congr_left fun v hv => ?_
    obtain ⟨z, _, rfl⟩ := hout0 v hv
    rfl
  have pbs : (vs.map adr).Perm (Z.map fun z => z.2.1) := by
    have p1 := pm.map adr
    rw [List.map_map (g := adr)] at p1
    have e5 : (Z.map fun z => z.2.1).map (adr ∘ Value.ref) = Z.map fun z => z.2.1 := by
      conv => rhs; rw [← List.map_id (Z.map fun z => z.2.1)]
      rfl
    rw [e5] at p1
    exact p1
  generalize hbs : vs.map adr = bs at evs2 pbs
  have hmem : ∀ b ∈ bs, H b = some (.tup ((kfA H b).map V.int)) := fun b hb => by
    obtain ⟨z, hz, e⟩ := List.mem_map.mp (pbs.mem_iff.mp hb)
    rw [← e, keyOf z hz]
    exact hk z hz
  have hlen : vs.length ≤ sizeLine := by
    rw [evs2, List.length_map, pbs.length_eq, List.length_map, sizeLine_eq]
    omega
  refine wpAny_bind (wpAny_newList ?_ hlen)
  have hoL : (s1.heap.push (seqObj "list" vs.toArray 0)).get? s1.heap.objs.size = some (seqObj "list" vs.toArray 0) := Heap.get?_push_size _ rfl
  have ti : ∀ b ∈ bs, IsTI (s1.heap.push (seqObj "list" vs.toArray 0)) (.ref b) (kfA H b) := fun b hb => by
    obtain ⟨_, its, rv, ⟨ob, hob, hcl, nn, hdt⟩⟩ := (show ObjOk X.prog X.w H s.heap b (.tup ((kfA H b).map V.int)) from I.hok b _ (hmem b hb))
    have x : IsTI s1.heap (.ref b) (kfA H b) := ⟨b, its.toArray, rfl, ⟨ob, k1 b ob hob, hcl, nn, hdt⟩, rv.ints⟩
    exact x.keep fun c o' e' _ => Heap.get?_push_of_some _ e'
  have swo : SrtO.Swo (fun v u : Value => HT.lexLt (kfA H (adr v)) (kfA H (adr u))) := ⟨fun x y h => lexLt_asym h, fun x y w h1 h2 => lexLt_tr h1 h2⟩
  refine wpAny_bind (wpAny_holding (wpAny_call_entry PyProof.Rows.slot_list_sort ⟨_, hoL, rfl⟩ PyProof.Rows.entry_list_sort
    (SrtO.list_sort_ord (s := { s1 with heap := s1.heap.push (seqObj "list" vs.toArray 0) }) swo hoL hlen (fun h2 => sortTI (ks := bs.map (kfA H)) ?hu h2 ?hp ?hlt ?ha) fun out g2 g3 => ⟨_, rfl, ?_⟩) (PyProof.Rows.args_list_sort _)))
  case hu =>
    simp only [Around.in1_units]
    omega
  case hp =>
    have := ti_pairs ti
    rw [← evs2] at this
    exact this
  case hlt =>
    intro v hv u hu'
    rw [evs2] at hv hu'
    obtain ⟨b, hb, rfl⟩ := List.mem_map.mp hv
    obtain ⟨c, hc', rfl⟩ := List.mem_map.mp hu'
    exact ⟨_, _, ti b hb, ti c hc', rfl⟩
  case ha =>
    intro o' e'
    have e2 : some o' = some (seqObj "list" vs.toArray 0) := e'.symm.trans hoL
    cases e2
    intro cc
    exact absurd (Value.type.inj cc) (by decide)
  · have hout : ∀ v ∈ out, ∃ b ∈ bs, v = Value.ref b := fun v hv => by
      have hv' := g3.perm.mem_iff.mp hv
      rw [evs2] at hv'
      obtain ⟨b, hb, e⟩ := List.mem_map.mp hv'
      exact ⟨b, hb, e.symm⟩
    have eo : out = (out.map adr).map Value.ref := by
      rw [List.map_map]
      conv => lhs; rw [← List.map_id out]
      refine List.map_congr_left fun v hv => ?_
      obtain ⟨b, _, rfl⟩ := hout v hv
      rfl
    have pb : (out.map adr).Perm bs := by
      have p1 := g3.perm.map adr
      rw [hbs] at p1
      exact p1
    have srt : ((out.map adr).map (kfA H)).Pairwise (fun x y => HT.lexLt y x = false) := by
      rw [List.map_map]
      exact List.pairwise_map.mpr g2
    obtain ⟨e', he'⟩ := PyProof.Rows.sortedHeap_at (vs := vs) (out := out.toArray) hoL
    have hz2 : ((out.map adr).map V.ref).length ≤ sizeLine := by
      rw [List.length_map, pb.length_eq, ← hbs, List.length_map]
      exact hlen
    have rv2 : Vals ((out.map adr).map V.ref) out := by
      have := vals_refsV (out.map adr)
      rw [← eo] at this
      exact this
    have keep : ∀ b u, s.heap.get? b = some u → (sortedHeap (s1.heap.push (seqObj "list" vs.toArray 0)) s1.heap.objs.size vs out.toArray).get? b = some u := fun b u e => by
      have e1 := k1 b u e
      have hb : b < s1.heap.objs.size := Heap.lt_size e1
      rw [PyProof.Rows.sortedHeap_old (Nat.ne_of_lt hb) (by rw [size_push']; exact Nat.lt_succ_of_lt hb)]
      exact Heap.get?_push_of_some _ e1
    have hn : H s1.heap.objs.size = none := I.hok.fresh hz1
    have J := I.call' (s' := { s1 with heap := sortedHeap (s1.heap.push (seqObj "list" vs.toArray 0)) s1.heap.objs.size vs out.toArray }) (ch := []) o1 (Un.laid keep hz1 hn)
      (I.hok.laid keep hz1 (show ObjOk X.prog X.w _ _ _ (.lst ((out.map adr).map V.ref)) from ⟨hz2, out, e', rv2, he'⟩)) (by show AllBare s1.gens; rw [g1]; exact I.bare) (fun _ z => nomatch z)
    refine wpAny_pure ⟨_, rfl, .ref s1.heap.objs.size, upd H s1.heap.objs.size (.lst ((out.map adr).map V.ref)), J, rfl, q _ _ ?_ srt (fun b hb => hmem b (pb.mem_iff.mp hb)) hn⟩
    have p2 := (pb.trans pbs).map (kfA H)
    rw [List.map_map (l := Z)] at p2
    have e6 : Z.map (kfA H ∘ fun z => z.2.1) = Z.map fun z => z.2.2 := List.map_congr_left fun z hz => keyOf z hz
    rw [e6] at p2
    exact p2
end
end Vt

namespace Vt
open PySem PySem.Spec PyProof.Rows L2
open PySem.W (Frag)
open Kcs7 (Bytes Path keyV fieldIn size sizeL sizeR)
abbrev KKey := Kcs7.Key
/-- what differ's top has written besides -/
structure Td (K : Frag) (mg : Str → Option Value) (CH CD : Addr) : Prop where
  gNO2 : GC mg "NO_SECOND_VALUE" (.int (-3))
  gTOOL : GC mg "TOO_LARGE" (.int (-28))
  gMBA : GC mg "MOST_BYTES_ANSWERED" (.int 65536)
  st : mg "set" = none
  mn : mg "min" = none
  rng : mg "range" = none
  cH : Cls K CH
  hRow : NoAttr K CH "row"
  hOld : NoAttr K CH "old"
  hNew : NoAttr K CH "new"
  gCH : mg "Change" = some (.ref CH)
  cD : Cls K CD
  dRow : NoAttr K CD "row"
  dOld : NoAttr K CD "old"
  dNew : NoAttr K CD "new"
  gCD : mg "Compared" = some (.ref CD)
def kd : Kcs7.V → Nat
  | .null => 0
  | .bool false => 1
  | .bool true => 2
  | .num _ => 3
  | .text _ => 4
  | .list _ => 5
  | .record _ => 6
theorem VAt.kd {H : Hp} {x : V} {v : Kcs7.V} (h : VAt H x v) : ∃ t hv, x = .ref t ∧ H t = some (vt (kd v : Nat) hv v) := by
  cases h with
  | null h => exact ⟨_, _, rfl, h⟩
  | fal h => exact ⟨_, _, rfl, h⟩
  | tru h => exact ⟨_, _, rfl, h⟩
  | num h => exact ⟨_, _, rfl, h⟩
  | text h _ => exact ⟨_, _, rfl, h⟩
  | list h _ _ => exact ⟨_, _, rfl, h⟩
  | record h _ _ => exact ⟨_, _, rfl, h⟩
theorem VAt.lst {H : Hp} {x : V} {l : List Kcs7.V} (h : VAt H x (.list l)) : ∃ t q xs, x = .ref t ∧ H t = some (vt 5 (.ref q) (.list l)) ∧ H q = some (.tup xs) ∧ VsAt H xs l := by
  cases h with
  | list h q r => exact ⟨_, _, _, rfl, h, q, r⟩
theorem VAt.rcd {H : Hp} {x : V} {l : List (Bytes × Kcs7.V)} (h : VAt H x (.record l)) : ∃ t q xs, x = .ref t ∧ H t = some (vt 6 (.ref q) (.record l)) ∧ H q = some (.tup xs) ∧ FsAt H xs l := by
  cases h with
  | record h q r => exact ⟨_, _, _, rfl, h, q, r⟩
def RowAt (H : Hp) (r : Addr) (p : Path) : Prop := ∃ xs, H r = some (.tup xs) ∧ VsAt H xs (p.map keyV)
theorem RowAt.mono {H H' : Hp} {r : Addr} {p : Path} (h : RowAt H r p) (k : Tk H H') : RowAt H' r p := by
  obtain ⟨xs, h1, h2⟩ := h
  exact ⟨xs, k _ _ h1, h2.mono k⟩
theorem un65 {k : Nat} {A : Around} (r : Room k A) : A.units + 65 < cLine := by have := r.un; omega
abbrev chO (CH dx : Addr) (r o n : V) : HO := .ins CH dx [("row", r), ("old", o), ("new", n)]
def ChAt (CH : Addr) (H : Hp) (c : Addr) (ch : Kcs7.Change) : Prop := ∃ dx r xo xn, H c = some (chO CH dx (.ref r) xo xn) ∧ RowAt H r ch.at_ ∧ OAt H xo ch.was ∧ OAt H xn ch.is_
theorem ChAt.same {CH : Addr} {H H' : Hp} {c : Addr} {ch : Kcs7.Change} (h : ChAt CH H c ch) (s : Same H H') : ChAt CH H' c ch := by
  obtain ⟨dx, r, xo, xn, h1, h2, h3, h4⟩ := h
  exact ⟨dx, r, xo, xn, s _ _ h1, h2.mono (Same.tk s), h3.mono (Same.tk s), h4.mono (Same.tk s)⟩
theorem ch_row {a b c : V} : List.lookup ("row" : Str) [(("row" : Str), a), (("old" : Str), b), (("new" : Str), c)] = some a := lk_here
theorem ch_old {a b c : V} : List.lookup ("old" : Str) [(("row" : Str), a), (("old" : Str), b), (("new" : Str), c)] = some b := (lk_past (by decide +kernel)).trans lk_here
theorem ch_new {a b c : V} : List.lookup ("new" : Str) [(("row" : Str), a), (("old" : Str), b), (("new" : Str), c)] = some c := (lk_past (by decide +kernel)).trans ((lk_past (by decide +kernel)).trans lk_here)
theorem OAt.isN {H : Hp} {x : V} {o : Option Kcs7.V} (h : OAt H x o) : decide (x = .non) = o.isNone := by
  cases o with
  | none => cases h; rfl
  | some v =>
    obtain ⟨t, hv, rfl, _⟩ := (show VAt H x v from h).kd
    rfl
theorem VsAt.app {H : Hp} : ∀ {xs ys : List V} {l m : List Kcs7.V}, VsAt H xs l → VsAt H ys m → VsAt H (xs ++ ys) (l ++ m)
  | _, _, _, _, .nil, h => h
  | _, _, _, _, .cons a r, h => .cons a (VsAt.app r h)
theorem cat_tup {K : Frag} {H : Hp} {a b : Addr} {xs ys : List V} {Q : VK} (ha : H a = some (.tup xs)) (hb : H b = some (.tup ys)) (hl : xs.length + ys.length ≤ 100000) (q : ∀ H' p, Same H H' → H' p = some (.tup (xs ++ ys)) → Q (.ref p) H') : rCatA K (.ref a) (.ref b) H Q := by
  have h5 : 100000 < sizeLine := by decide
  refine ⟨a, b, xs, ys, rfl, rfl, SqT.of ha, SqT.of hb, by omega, fun e => ?_, fun _ e => ?_, fun _ _ p hp => ?_⟩
  · subst e; exact q H b (Same.refl _) hb
  · subst e; exact q H a (Same.refl _) (by rw [List.append_nil]; exact ha)
  · exact q _ p (Same.new hp) upd_same
theorem FsAt.app {H : Hp} : ∀ {xs ys : List V} {l m : List (Bytes × Kcs7.V)}, FsAt H xs l → FsAt H ys m → FsAt H (xs ++ ys) (l ++ m)
  | _, _, _, _, .nil, h => h
  | _, _, _, _, .cons a b c r, h => .cons a b c (FsAt.app r h)
section
variable {P : Program} {w : World} {K : Frag} {mg : Str → Option Value} {base : Heap} {CC CO CR CN bB bW CH CD : Addr}
/-! field_of -/
def spFieldOf : Sp := fun vs H Q _ => ∃ fa na xs l n, vs = [.ref fa, .ref na] ∧ H fa = some (.tup xs) ∧ FsAt H xs l ∧ H na = some (.tup (bys n)) ∧ ∀ x, OAt H x (fieldIn l n) → Q x H
theorem scFieldOf : FnScope ["fields", "name", "field"] ["fields", "name"] (defScope sFieldOf) := ⟨rfl, rfl, rfl, by decide +kernel, rfl, by decide +kernel, by decide +kernel⟩
theorem ok_fieldOf {f : Addr} {fd : FuncData} (F : Fun K "field_of" "field_of" sFieldOf f fd) (T : Tx K mg CC CO CR CN bB bW) : FnOk P w K mg base CX0 1 f fd ["fields", "name"] spFieldOf := by
  refine F.ok scFieldOf (fun vs H Q E h => ?_) (fun cdv A outer s H vs Q E hr h => ?_)
  · obtain ⟨_, _, _, _, _, rfl, _⟩ := h
    rfl
  · obtain ⟨fa, na, xs, l, n, rfl, hfa, hfs, hna, q⟩ := h
    refine ⟨_, pss_cons (ps_for PassesOwn.never rfl (pi_tup (pv 0)) (pg_name (i := 2) scFieldOf.nd rfl (Or.inl rfl)) (pss_one (ps_if (pt_cmpR (op_eqB (un2 hr)) (pe_ix ix_tup (pv 2) pe_int (fun _ _ => rfl)) (pv 1) (nomark _)) (pss_one (ps_ret (pe_ix ix_tup (pv 2) pe_int (fun _ _ => rfl)))) pss_nil)))
      (pss_one (ps_ret pe_non)), ?_⟩
    refine ⟨_, rfl, fa, rfl, ⟨_, SqT.of hfa⟩, ?_⟩
    refine for_tup (K := K) (a := fa) (xs := xs) (fun i σ H' => H' = H ∧ (∃ v, σ = [some (.ref fa), some (.ref na), v]) ∧ fieldIn (l.drop i) n = fieldIn l n) ⟨rfl, ⟨none, rfl⟩, rfl⟩ (fun i σ H' _ ⟨e, _⟩ => by rw [e]; exact SqT.of hfa) ?_ ?_
    · rintro i x σ H' hi ⟨rfl, ⟨v, rfl⟩, hd⟩
      obtain ⟨fo, no, y, nm, u, hl, rfl, hf, hn, hy⟩ := hfs.at hi
      have hdr : l.drop i = (nm, u) :: l.drop (i + 1) := by
        obtain ⟨h1, h2⟩ := List.getElem?_eq_some_iff.mp hl
        rw [List.drop_eq_getElem_cons h1, h2]
      rw [hdr, fieldIn_cons] at hd
      refine ⟨_, rfl, fo, _, 0, _, rfl, rfl, SqT.of hf, atI_nat (j := 0) rfl, _, rfl, bD nm, bD n, bD_dp hn, bD_dp hna, bD_can _, bD_can _, by rw [bD_depth, bD_depth]; decide, _, rfl, ?_⟩
      rw [bD_eqv]
      by_cases e : nm = n
      · refine if_t (decide_eq_true e) ?_
        refine ⟨_, rfl, fo, _, 1, _, rfl, rfl, SqT.of hf, atI_nat (j := 1) rfl, ?_⟩
        refine q _ ?_
        rw [← hd, if_pos e]
        exact hy
      · refine if_f (decide_eq_false e) ?_
        rw [if_neg e] at hd
        exact ⟨rfl, ⟨_, rfl⟩, hd⟩
    · rintro σ H' ⟨rfl, ⟨v, rfl⟩, hd⟩
      rw [List.drop_eq_nil_of_le (by rw [hfs.len]; exact Nat.le_refl _)] at hd
      refine q _ ?_
      rw [← hd]
      rfl
def spHInit (CH : Addr) : Sp := fun vs H Q _ => ∃ x dx a b c, vs = [.ref x, a, b, c] ∧ H x = some (.ins CH dx []) ∧ Q .non (upd H x (chO CH dx a b c))
theorem scHInit : FnScope ["self", "row", "old", "new"] ["self", "row", "old", "new"] (defScope sHInit) := ⟨rfl, rfl, rfl, by decide +kernel, rfl, by decide +kernel, by decide +kernel⟩
theorem ok_hinit {f : Addr} {fd : FuncData} (F : Fun K "__init__" "Change.__init__" sHInit f fd) (Y : Td K mg CH CD) : FnOk P w K mg base CX0 1 f fd ["self", "row", "old", "new"] (spHInit CH) := by
  refine F.ok scHInit (fun vs H Q E h => ?_) (fun cdv A outer s H vs Q E hr h => ?_)
  · obtain ⟨_, _, _, _, _, rfl, _⟩ := h
    rfl
  · obtain ⟨x, dx, a, b, c, rfl, hx, q⟩ := h
    refine ⟨_, pss_cons (ps_fld (pv 0) (pv 1) rfl) (pss_cons (ps_fld (pv 0) (pv 2) rfl) (pss_one (ps_fld (pv 0) (pv 3) rfl))), ?_⟩
    refine ⟨_, rfl, _, rfl, x, CH, dx, [], rfl, hx, Y.cH, Y.hRow, (by show 0 < 1000; decide), ?_⟩
    refine ⟨_, rfl, _, rfl, x, CH, dx, _, rfl, upd_same, Y.cH, Y.hOld, (by show 1 < 1000; decide), ?_⟩
    rw [upd_upd]
    refine ⟨_, rfl, _, rfl, x, CH, dx, _, rfl, upd_same, Y.cH, Y.hNew, (by
      have e1 : putF "old" b (putF "row" a []) = [(("row" : Str), a), (("old" : Str), b)] := (put_past (by decide +kernel)).trans rfl
      rw [e1]
      show 2 < 1000
      decide), ?_⟩
    rw [upd_upd]
    have e1 : putF "old" b (putF "row" a []) = [(("row" : Str), a), (("old" : Str), b)] := (put_past (by decide +kernel)).trans rfl
    have e2 : putF "new" c [(("row" : Str), a), (("old" : Str), b)] = [(("row" : Str), a), (("old" : Str), b), (("new" : Str), c)] := (put_past (by decide +kernel)).trans (congrArg _ ((put_past (by decide +kernel)).trans rfl))
    rw [e1, e2]
    exact q
def spMInit (CH : Addr) : Sp := fun vs H Q _ => ∃ x dx a b c, vs = [.ref x, a, b, c] ∧ H x = some (.ins CH dx []) ∧ Q .non (upd H x (chO CH dx a b c))
theorem scMInit : FnScope ["self", "row", "old", "new"] ["self", "row", "old", "new"] (defScope sMInit) := ⟨rfl, rfl, rfl, by decide +kernel, rfl, by decide +kernel, by decide +kernel⟩
theorem ok_minit {f : Addr} {fd : FuncData} (F : Fun K "__init__" "Compared.__init__" sMInit f fd) (Y : Td K mg CH CD) : FnOk P w K mg base CX0 1 f fd ["self", "row", "old", "new"] (spMInit CD) := by
  refine F.ok scMInit (fun vs H Q E h => ?_) (fun cdv A outer s H vs Q E hr h => ?_)
  · obtain ⟨_, _, _, _, _, rfl, _⟩ := h
    rfl
  · obtain ⟨x, dx, a, b, c, rfl, hx, q⟩ := h
    refine ⟨_, pss_cons (ps_fld (pv 0) (pv 1) rfl) (pss_cons (ps_fld (pv 0) (pv 2) rfl) (pss_one (ps_fld (pv 0) (pv 3) rfl))), ?_⟩
    refine ⟨_, rfl, _, rfl, x, CD, dx, [], rfl, hx, Y.cD, Y.dRow, (by show 0 < 1000; decide), ?_⟩
    refine ⟨_, rfl, _, rfl, x, CD, dx, _, rfl, upd_same, Y.cD, Y.dOld, (by show 1 < 1000; decide), ?_⟩
    rw [upd_upd]
    refine ⟨_, rfl, _, rfl, x, CD, dx, _, rfl, upd_same, Y.cD, Y.dNew, (by
      have e1 : putF "old" b (putF "row" a []) = [(("row" : Str), a), (("old" : Str), b)] := (put_past (by decide +kernel)).trans rfl
      rw [e1]
      show 2 < 1000
      decide), ?_⟩
    rw [upd_upd]
    have e1 : putF "old" b (putF "row" a []) = [(("row" : Str), a), (("old" : Str), b)] := (put_past (by decide +kernel)).trans rfl
    have e2 : putF "new" c [(("row" : Str), a), (("old" : Str), b)] = [(("row" : Str), a), (("old" : Str), b), (("new" : Str), c)] := (put_past (by decide +kernel)).trans (congrArg _ ((put_past (by decide +kernel)).trans rfl))
    rw [e1, e2]
    exact q
/-- a change made anew -/
theorem ch_new_at {H H1 : Hp} {x dx : Addr} {r : Addr} {xo xn : V} {ch : Kcs7.Change} (s1 : Same H H1) (nx : H1 x = none) (ndx : H1 dx = none) (ne : dx ≠ x) (hr : RowAt H1 r ch.at_) (ho : OAt H1 xo ch.was) (hn : OAt H1 xn ch.is_) :
    Same H (upd (upd (upd H1 dx (.own x)) x (.ins CH dx [])) x (chO CH dx (.ref r) xo xn)) ∧ ChAt CH (upd (upd (upd H1 dx (.own x)) x (.ins CH dx [])) x (chO CH dx (.ref r) xo xn)) x ch := by
  have s2 : Same H1 (upd (upd (upd H1 dx (.own x)) x (.ins CH dx [])) x (chO CH dx (.ref r) xo xn)) := fun b u hb => by
    rw [upd_ne (ne_of_none hb nx), upd_ne (ne_of_none hb nx), upd_ne (ne_of_none hb ndx)]
    exact hb
  exact ⟨s1.trans s2, dx, r, xo, xn, upd_same, hr.mono (Same.tk s2), ho.mono (Same.tk s2), hn.mono (Same.tk s2)⟩
/-! name_of -/
def spNameOf : Sp := fun vs H Q _ => ∃ (z : Str), vs = [.str z] ∧ z.cps.size ≤ 5000 ∧ ∀ H' p, Same H H' → H' p = some (.tup (codes z)) → Q (.ref p) H'
theorem scNameOf : FnScope ["word"] ["word"] (defScope sNameOf) := ⟨rfl, rfl, rfl, by decide +kernel, rfl, by decide +kernel, by decide +kernel⟩
theorem ok_nameOf {f : Addr} {fd : FuncData} (F : Fun K "name_of" "name_of" sNameOf f fd) (T : Tx K mg CC CO CR CN bB bW) (dB : DefOk P w K mg base CX0 1 "bytes_of" ["text"] spBytesOf) : FnOk P w K mg base CX0 2 f fd ["word"] spNameOf := by
  refine F.ok scNameOf (fun vs H Q E h => ?_) (fun cdv A outer s H vs Q E hr h => ?_)
  · obtain ⟨_, rfl, _⟩ := h
    rfl
  · obtain ⟨z, rfl, hz, q⟩ := h
    refine ⟨_, pss_one (ps_ret (pe_callTy call_tuple_of (by rfl) T.tup (by decide +kernel) (pa_cons (pe_def dB hr pass0 (pa_cons (pv 0) pa_nil)) pa_nil))), ?_⟩
    refine ⟨_, rfl, z, rfl, hz, fun H1 p hp s1 h1 => ?_⟩
    exact ⟨p, _, rfl, .inl ⟨SqL.of h1, fun l hl => q _ _ (s1.trans (Same.new hl)) upd_same⟩⟩
theorem codes_at : codes "at" = bys Kcs7.at_ := codes_bys (by decide +kernel)
theorem codes_is : codes "is" = bys Kcs7.is_ := codes_bys (by decide +kernel)
theorem codes_was : codes "was" = bys Kcs7.was := codes_bys (by decide +kernel)
end
end Vt

namespace Vt
open PySem PySem.Spec PyProof.Rows L2
open PySem.W (Frag)
open Kcs7 (Bytes Path keyV fieldIn size sizeL sizeR changeV)
/-- both are of a kind -/
def both (ch : Kcs7.Change) (k : Nat) : Bool := match ch.was, ch.is_ with
  | some a, some b => kd a == k && kd b == k
  | _, _ => false
theorem deq (a b : Nat) : decide (V.int ((a : Nat) : Int) = V.int ((b : Nat) : Int)) = (a == b) := by
  by_cases z : a = b
  · rw [dV_t (by rw [z]), z, beq_self_eq_true]
  · rw [dV_f (by omega), beq_eq_false_iff_ne.mpr z]
section
variable {P : Program} {w : World} {K : Frag} {mg : Str → Option Value} {base : Heap} {CC CO CR CN bB bW CH CD : Addr}
/-! both_are -/
def spBothAre (CD : Addr) : Sp := fun vs H Q _ => ∃ c ch, ∃ k : Nat, vs = [.ref c, .int (k : Nat)] ∧ ChAt CD H c ch ∧ Q (.bl (both ch k)) H
theorem scBothAre : FnScope ["self", "kind"] ["self", "kind"] (defScope sBothAre) := ⟨rfl, rfl, rfl, by decide +kernel, rfl, by decide +kernel, by decide +kernel⟩
theorem ok_bothAre {f : Addr} {fd : FuncData} (F : Fun K "both_are" "Compared.both_are" sBothAre f fd) (Y : Td K mg CH CD) : FnOk P w K mg base CX0 1 f fd ["self", "kind"] (spBothAre CD) := by
  refine F.ok scBothAre (fun vs H Q E h => ?_) (fun cdv A outer s H vs Q E hr h => ?_)
  · obtain ⟨_, _, _, rfl, _⟩ := h
    rfl
  · obtain ⟨c, ch, k, rfl, ⟨dx, r, xo, xn, hc, hrow, hxo, hxn⟩, q⟩ := h
    refine ⟨_, pss_one (ps_ret (pe_and (pe_cmpR op_notN (pe_fld (pv 0) rfl) pe_non (nomark _)) (pe_and (pe_cmpR op_notN (pe_fld (pv 0) rfl) pe_non (nomark _))
      (pe_and (pe_cmpR op_eq (pe_ix ix_tup (pe_fld (pv 0) rfl) pe_int (fun _ _ => rfl)) (pv 1) (nomark _)) (pe_one (pe_cmpR op_eq (pe_ix ix_tup (pe_fld (pv 0) rfl) pe_int (fun _ _ => rfl)) (pv 1) (nomark _))))))), ?_⟩
    refine ⟨_, rfl, c, CD, dx, _, _, rfl, hc, Y.cD, Y.dOld, ch_old, rfl, _, rfl, ?_⟩
    rw [hxo.isN]
    unfold both at q
    cases hw : ch.was with
    | none =>
      rw [hw] at q
      exact if_f rfl q
    | some a =>
      rw [hw] at q hxo
      refine if_t rfl ?_
      refine ⟨_, rfl, c, CD, dx, _, _, rfl, hc, Y.cD, Y.dNew, ch_new, rfl, _, rfl, ?_⟩
      rw [hxn.isN]
      cases hi : ch.is_ with
      | none =>
        rw [hi] at q
        exact if_f rfl q
      | some b =>
        rw [hi] at q hxn
        refine if_t rfl ?_
        obtain ⟨t, hv, rfl, ht⟩ := (show VAt H xo a from hxo).kd
        obtain ⟨u, hu, rfl, hut⟩ := (show VAt H xn b from hxn).kd
        refine ⟨_, rfl, c, CD, dx, _, _, rfl, hc, Y.cD, Y.dOld, ch_old, t, _, 0, _, rfl, rfl, SqT.of ht, atI_nat (j := 0) rfl, _, rfl, rfl, _, rfl, ?_⟩
        show if decide (V.int ((kd a : Nat) : Int) = V.int ((k : Nat) : Int)) = true then _ else _
        rw [deq]
        dsimp only at q
        cases h1 : kd a == k with
        | false =>
          rw [h1, Bool.false_and] at q
          exact if_f rfl q
        | true =>
          rw [h1, Bool.true_and] at q
          refine if_t rfl ?_
          refine ⟨_, rfl, c, CD, dx, _, _, rfl, hc, Y.cD, Y.dNew, ch_new, u, _, 0, _, rfl, rfl, SqT.of hut, atI_nat (j := 0) rfl, _, rfl, rfl, ?_⟩
          rw [← deq] at q
          exact q
/-! deeper -/
def spDeeper (CD : Addr) : Sp := fun vs H Q _ => ∃ c ch x k xo o xn n, vs = [.ref c, x, xo, xn] ∧ ChAt CD H c ch ∧ VAt H x (keyV k) ∧ OAt H xo o ∧ OAt H xn n ∧ ch.at_.length ≤ 1000 ∧ ∀ H' c', Same H H' → ChAt CD H' c' ⟨ch.at_ ++ [k], o, n⟩ → Q (.ref c') H'
theorem scDeeper : FnScope ["self", "key", "old", "new"] ["self", "key", "old", "new"] (defScope sDeeper) := ⟨rfl, rfl, rfl, by decide +kernel, rfl, by decide +kernel, by decide +kernel⟩
theorem ok_deeper {f : Addr} {fd : FuncData} (F : Fun K "deeper" "Compared.deeper" sDeeper f fd) (Y : Td K mg CH CD) (kD : MkOk P w K mg base 1 CD ["self", "row", "old", "new"] (spMInit CD)) : FnOk P w K mg base CX0 3 f fd ["self", "key", "old", "new"] (spDeeper CD) := by
  refine F.ok scDeeper (fun vs H Q E h => ?_) (fun cdv A outer s H vs Q E hr h => ?_)
  · obtain ⟨_, _, _, _, _, _, _, _, rfl, _⟩ := h
    rfl
  · obtain ⟨c, ch, x, k, xo, o, xn, n, rfl, ⟨dx, r, yo, yn, hc, ⟨ks, hr1, hr2⟩, hyo, hyn⟩, hx, ho, hn, hl, q⟩ := h
    refine ⟨_, pss_one (ps_ret (pe_mk kD hr Y.gCD (pa_cons (pe_op op_catA (pe_fld (pv 0) rfl) (pe_tup (pa_cons (pv 1) pa_nil))) (pa_cons (pv 2) (pa_cons (pv 3) pa_nil))))), ?_⟩
    have hkl := hr2.len
    rw [List.length_map] at hkl
    refine ⟨_, rfl, c, CD, dx, _, _, rfl, hc, Y.cD, Y.dRow, ch_row, _, rfl, (by show 1 ≤ sizeLine; decide), fun t ht => ?_⟩
    have s1 : Same H (upd H t (.tup [x])) := Same.new ht
    refine cat_tup (s1 _ _ hr1) upd_same (by simp; omega) fun H2 p s2 hp => ?_
    have s12 := s1.trans s2
    refine ⟨_, rfl, _, rfl, ?_⟩
    intro cx dx' nx ndx ne
    refine ⟨cx, dx', _, _, _, rfl, upd_same, ?_⟩
    have row : RowAt H2 p (ch.at_ ++ [k]) := ⟨_, hp, by
      rw [List.map_append]
      exact (hr2.mono (Same.tk s12)).app (.cons (hx.mono (Same.tk s12)) .nil)⟩
    obtain ⟨sm, hch⟩ := ch_new_at (CH := CD) (r := p) (xo := xo) (xn := xn) (ch := ⟨ch.at_ ++ [k], o, n⟩) s12 nx ndx ne row (ho.mono (Same.tk s12)) (hn.mono (Same.tk s12))
    exact ⟨rfl, q _ cx sm hch⟩
/-! change_value -/
def spChangeValue (CH : Addr) : Sp := fun vs H Q _ => ∃ c ch, vs = [.ref c] ∧ ChAt CH H c ch ∧ ch.at_.length ≤ 1000 ∧ ∀ H' x, Same H H' → VAt H' x (changeV ch) → Q x H'
theorem scChangeValue : FnScope ["change", "fields"] ["change"] (defScope sChangeValue) := ⟨rfl, rfl, rfl, by decide +kernel, rfl, by decide +kernel, by decide +kernel⟩
theorem ok_changeValue {f : Addr} {fd : FuncData} (F : Fun K "change_value" "change_value" sChangeValue f fd) (T : Tx K mg CC CO CR CN bB bW) (Y : Td K mg CH CD) (dN : DefOk P w K mg base CX0 2 "name_of" ["word"] spNameOf) (dL : DefOk P w K mg base CX0 1 "make_list" ["inner"] spMakeList)
    (dR : DefOk P w K mg base CX0 1 "make_record" ["fields"] spMakeRecord) : FnOk P w K mg base CX0 3 f fd ["change"] (spChangeValue CH) := by
  refine F.ok scChangeValue (fun vs H Q E h => ?_) (fun cdv A outer s H vs Q E hr h => ?_)
  · obtain ⟨_, _, rfl, _⟩ := h
    rfl
  · obtain ⟨c, ch, rfl, hch, hl, q⟩ := h
    have hr1 : Room 1 _ := hr.mono (by decide)
    refine ⟨_, pss_cons (ps_set (i := 1) scChangeValue.nd rfl (Or.inl rfl) (pe_lst (pa_cons (pe_tup (pa_cons (pe_def dN hr pass0 (pa_cons pe_str pa_nil)) (pa_cons (pe_def dL hr1 pass0 (pa_cons (pe_fld (pv 0) rfl) pa_nil)) pa_nil))) pa_nil)))
      (pss_cons (ps_if (pt_cmp (pc_notN (pe_fld (pv 0) rfl))) (pss_one (ps_expr (pe_bm PySem.F.plainAttrs_list PySem.F.slot_list_append PySem.F.type_list_append mt_append (pv 1) (pa_cons (pe_tup (pa_cons (pe_def dN hr pass0 (pa_cons pe_str pa_nil)) (pa_cons (pe_fld (pv 0) rfl) pa_nil))) pa_nil)))) pss_nil)
      (pss_cons (ps_if (pt_cmp (pc_notN (pe_fld (pv 0) rfl))) (pss_one (ps_expr (pe_bm PySem.F.plainAttrs_list PySem.F.slot_list_append PySem.F.type_list_append mt_append (pv 1) (pa_cons (pe_tup (pa_cons (pe_def dN hr pass0 (pa_cons pe_str pa_nil)) (pa_cons (pe_fld (pv 0) rfl) pa_nil))) pa_nil)))) pss_nil)
      (pss_one (ps_ret (pe_def dR hr1 pass0 (pa_cons (pv 1) pa_nil)))))), ?_⟩
    refine ⟨_, rfl, (by decide +kernel), fun H1 p1 s1 h1 => ?_⟩
    rw [codes_at] at h1
    obtain ⟨dx, r, xo, xn, hc, ⟨ks, hr1', hr2⟩, hxo, hxn⟩ := hch.same s1
    refine ⟨_, rfl, c, CH, dx, _, _, rfl, hc, Y.cH, Y.hRow, ch_row, r, ks, ch.at_.map keyV, rfl, .inr hr1', hr2, by rw [List.length_map]; omega, fun H2 xl s2 hxl => ?_⟩
    refine ⟨(by show 2 ≤ sizeLine; decide), fun t1 ht1 => ?_⟩
    have s3 : Same H2 (upd H2 t1 (.tup [.ref p1, xl])) := Same.new ht1
    refine ⟨(by show 1 ≤ sizeLine; decide), fun fa hfa => ?_⟩
    have s23 := (s1.trans s2).trans s3
    have hfa0 : H fa = none := s23.free hfa
    have s4 : Same (upd H2 t1 (.tup [.ref p1, xl])) (upd (upd H2 t1 (.tup [.ref p1, xl])) fa (.lst [.ref t1])) := Same.new hfa
    have f0 : FsAt (upd (upd H2 t1 (.tup [.ref p1, xl])) fa (.lst [.ref t1])) [.ref t1] [(Kcs7.at_, .list (ch.at_.map keyV))] :=
      .cons (s4 _ _ upd_same) (s4 _ _ (s3 _ _ (s2 _ _ h1))) (hxl.mono (Same.tk (s3.trans s4))) .nil
    -- one field more
    have more : ∀ (H4 : Hp) (zs : List V) (l : List (Bytes × Kcs7.V)) (p x : Addr) (xv : V) (nm : Bytes) (v : Kcs7.V), Same H H4 → H4 fa = some (.lst zs) → FsAt H4 zs l → H4 p = some (.tup (bys nm)) → VAt H4 xv v → H4 x = none →
        Same H (upd (upd H4 x (.tup [.ref p, xv])) fa (.lst (zs ++ [.ref x]))) ∧ FsAt (upd (upd H4 x (.tup [.ref p, xv])) fa (.lst (zs ++ [.ref x]))) (zs ++ [.ref x]) (l ++ [(nm, v)]) := by
      intro H4 zs l p x xv nm v s5 hf hfs hp hv hx
      have s6 : Same H4 (upd H4 x (.tup [.ref p, xv])) := Same.new hx
      have tk : Tk (upd H4 x (.tup [.ref p, xv])) (upd (upd H4 x (.tup [.ref p, xv])) fa (.lst (zs ++ [.ref x]))) := tk_upd (s6 _ _ hf) fun _ z => nomatch z
      refine ⟨Same.set (s5.trans s6) hfa0, ?_⟩
      exact (FsAt.mono tk (FsAt.mono (Same.tk s6) hfs)).snoc (tk _ _ upd_same) (tk _ _ (s6 _ _ hp)) ((hv.mono (Same.tk s6)).mono tk)
    have s5 : Same H _ := s23.trans s4
    have e3 : upd (upd H2 t1 (.tup [.ref p1, xl])) fa (.lst [.ref t1]) fa = some (.lst [.ref t1]) := upd_same
    generalize upd (upd H2 t1 (.tup [.ref p1, xl])) fa (.lst [.ref t1]) = H3 at f0 s4 s5 e3
    -- the last question and the record
    have last : ∀ (H4 : Hp) (zs : List V) (l : List (Bytes × Kcs7.V)), Same H H4 → H4 fa = some (.lst zs) → FsAt H4 zs l → l.length ≤ 2 → l = [(Kcs7.at_, .list (ch.at_.map keyV))] ++ (ch.is_.map fun v => (Kcs7.is_, v)).toList →
        (tSeq (tIfS (tB (tNotN (tFld K (tVar 0) "old"))) (tDrop (tBM K "list" rAppend (tVar 1) (tCons (tTup (tCons (tCall spNameOf [] E0 (tCons (tC (.str "was")) tNil)) (tCons (tFld K (tVar 0) "old") tNil))) tNil))) tNext)
        (tRet (tCall spMakeRecord [] E0 (tCons (tVar 1) tNil)))) { nx := fun _ H' => Q .non H', rt := Q } [some (.ref c), some (.ref fa)] H4 := by
      intro H4 zs l s6 hz hfs hll el
      have hzl := hfs.len
      have h5 : 100 < sizeLine := by decide
      obtain ⟨dx4, r4, xo4, xn4, hc4, hrow4, hxo4, hxn4⟩ := hch.same s6
      refine ⟨_, rfl, c, CH, dx4, _, _, rfl, hc4, Y.cH, Y.hOld, ch_old, _, rfl, ?_⟩
      rw [hxo4.isN]
      cases hw : ch.was with
      | none =>
        refine if_f rfl ?_
        refine ⟨_, rfl, fa, zs, l, rfl, hz, hfs, by omega, fun H5 x s7 hx => q H5 x (s6.trans s7) ?_⟩
        rw [el] at hx
        unfold changeV
        rw [hw]
        simpa using hx
      | some v =>
        rw [hw] at hxo4
        refine if_t rfl ?_
        refine ⟨_, rfl, .inl ⟨rfl, _, SqL.of hz⟩, _, rfl, (by decide +kernel), fun H5 p2 s7 h7 => ?_⟩
        rw [codes_was] at h7
        refine ⟨_, rfl, c, CH, dx4, _, _, rfl, s7 _ _ hc4, Y.cH, Y.hOld, ch_old, (by show 2 ≤ sizeLine; decide), fun t2 ht2 => ?_⟩
        have s8 : Same H5 (upd H5 t2 (.tup [.ref p2, xo4])) := Same.new ht2
        refine ⟨fa, zs, _, rfl, rfl, s8 _ _ (s7 _ _ hz), by omega, ?_⟩
        obtain ⟨s9, f9⟩ := more H5 zs l p2 t2 xo4 Kcs7.was v (s6.trans s7) (s7 _ _ hz) (FsAt.mono (Same.tk s7) hfs) h7 ((show VAt H4 xo4 v from hxo4).mono (Same.tk s7)) ht2
        refine ⟨_, rfl, fa, _, _, rfl, upd_same, f9, by rw [List.length_append]; simp; omega, fun H6 x s10 hx => q H6 x (s9.trans s10) ?_⟩
        rw [el] at hx
        unfold changeV
        rw [hw]
        simpa using hx
    obtain ⟨dx3, r3, xo3, xn3, hc3, hrow3, hxo3, hxn3⟩ := hch.same s5
    refine ⟨_, rfl, c, CH, dx3, _, _, rfl, hc3, Y.cH, Y.hNew, ch_new, _, rfl, ?_⟩
    rw [hxn3.isN]
    cases hi : ch.is_ with
    | none =>
      refine if_f rfl ?_
      exact last H3 _ _ s5 e3 f0 (by simp) (by rw [hi]; rfl)
    | some v =>
      rw [hi] at hxn3
      have h5 : 100 < sizeLine := by decide
      refine if_t rfl ?_
      refine ⟨_, rfl, .inl ⟨rfl, _, SqL.of e3⟩, _, rfl, (by decide +kernel), fun H5 p2 s7 h7 => ?_⟩
      rw [codes_is] at h7
      refine ⟨_, rfl, c, CH, dx3, _, _, rfl, s7 _ _ hc3, Y.cH, Y.hNew, ch_new, (by show 2 ≤ sizeLine; decide), fun t2 ht2 => ?_⟩
      have s8 : Same H5 (upd H5 t2 (.tup [.ref p2, xn3])) := Same.new ht2
      refine ⟨fa, _, _, rfl, rfl, s8 _ _ (s7 _ _ e3), by simp; omega, ?_⟩
      obtain ⟨s9, f9⟩ := more H5 _ _ p2 t2 xn3 Kcs7.is_ v (s5.trans s7) (s7 _ _ e3) (FsAt.mono (Same.tk s7) f0) h7 ((show VAt H3 xn3 v from hxn3).mono (Same.tk s7)) ht2
      exact last _ _ _ s9 upd_same f9 (by simp) (by rw [hi]; rfl)
end
end Vt

namespace Vt
open PySem PySem.Spec PyProof.Rows L2
open PySem.W (Frag)
open Kcs7 (Bytes Path keyV fieldIn namesOf size sizeL sizeR)
inductive ChsAt (CH : Addr) (H : Hp) : List V → List Kcs7.Change → Prop where
  | nil : ChsAt CH H [] []
  | cons {c : Addr} {ch : Kcs7.Change} {xs : List V} {cs : List Kcs7.Change} : ChAt CH H c ch → ChsAt CH H xs cs → ChsAt CH H (.ref c :: xs) (ch :: cs)
theorem ChsAt.same {CH : Addr} {H H' : Hp} {xs : List V} {cs : List Kcs7.Change} (h : ChsAt CH H xs cs) (s : Same H H') : ChsAt CH H' xs cs := by
  induction h with
  | nil => exact .nil
  | cons a _ ih => exact .cons (a.same s) ih
theorem ChsAt.len {CH : Addr} {H : Hp} {xs : List V} {cs : List Kcs7.Change} (h : ChsAt CH H xs cs) : xs.length = cs.length := by
  induction h with
  | nil => rfl
  | cons a _ ih => exact congrArg (· + 1) ih
theorem ChsAt.at {CH : Addr} {H : Hp} {xs : List V} {cs : List Kcs7.Change} (h : ChsAt CH H xs cs) : ∀ {i : Nat} {x : V}, xs[i]? = some x → ∃ c ch, x = .ref c ∧ cs[i]? = some ch ∧ ChAt CH H c ch := by
  induction h with
  | nil => intro i x e; cases e
  | cons a _ ih =>
    intro i x e
    cases i with
    | zero => cases e; exact ⟨_, _, rfl, rfl, a⟩
    | succ i =>
      obtain ⟨c, ch, h1, h2, h3⟩ := ih (i := i) (x := x) (by simpa using e)
      exact ⟨c, ch, h1, by simpa using h2, h3⟩
theorem ChsAt.snoc {CH : Addr} {H : Hp} {xs : List V} {cs : List Kcs7.Change} {c : Addr} {ch : Kcs7.Change} (h : ChsAt CH H xs cs) (hc : ChAt CH H c ch) : ChsAt CH H (xs ++ [.ref c]) (cs ++ [ch]) := by
  induction h with
  | nil => exact .cons hc .nil
  | cons a _ ih => exact .cons a ih
/-- all but lists stay -/
def Kn (H H' : Hp) : Prop := ∀ d o, H d = some o → (∀ xs, o ≠ .lst xs) → H' d = some o
theorem Kn.tk {H H' : Hp} (k : Kn H H') : Tk H H' := fun b xs h => k b _ h fun _ z => nomatch z
theorem kn_upd {H : Hp} {a : Addr} {xs ys : List V} (h : H a = some (.lst xs)) : Kn H (upd H a (.lst ys)) := fun d o e n => by
  rw [upd_ne fun z => by rw [z, h] at e; exact n xs (Option.some.inj e).symm]
  exact e
theorem Same.kn {H H' : Hp} (s : Same H H') : Kn H H' := fun d o e _ => s d o e
theorem ChAt.kn {CH : Addr} {H H' : Hp} {c : Addr} {ch : Kcs7.Change} (h : ChAt CH H c ch) (k : Kn H H') : ChAt CH H' c ch := by
  obtain ⟨dx, r, xo, xn, h1, h2, h3, h4⟩ := h
  exact ⟨dx, r, xo, xn, k _ _ h1 (fun _ z => nomatch z), h2.mono k.tk, h3.mono k.tk, h4.mono k.tk⟩
theorem ChsAt.kn {CH : Addr} {H H' : Hp} {xs : List V} {cs : List Kcs7.Change} (h : ChsAt CH H xs cs) (k : Kn H H') : ChsAt CH H' xs cs := by
  induction h with
  | nil => exact .nil
  | cons a _ ih => exact .cons (a.kn k) ih
theorem ChsAt.app {CH : Addr} {H : Hp} {xs ys : List V} {cs ds : List Kcs7.Change} (h : ChsAt CH H xs cs) (h2 : ChsAt CH H ys ds) : ChsAt CH H (xs ++ ys) (cs ++ ds) := by
  induction h with
  | nil => exact h2
  | cons a _ ih => exact .cons a ih
theorem ChsAt.rev {CH : Addr} {H : Hp} {xs : List V} {cs : List Kcs7.Change} (h : ChsAt CH H xs cs) : ChsAt CH H xs.reverse cs.reverse := by
  induction h with
  | nil => exact .nil
  | cons a _ ih =>
    rw [List.reverse_cons, List.reverse_cons]
    exact ih.snoc a
theorem ChsAt.last {CH : Addr} {H : Hp} {xs : List V} {cs : List Kcs7.Change} {ch : Kcs7.Change} (h : ChsAt CH H xs (cs ++ [ch])) : ∃ xs' c, xs = xs' ++ [.ref c] ∧ ChsAt CH H xs' cs ∧ ChAt CH H c ch := by
  have h' := h.rev
  rw [List.reverse_append] at h'
  generalize hx : xs.reverse = zs at h'
  cases h' with
  | cons a t =>
    next c zs' =>
    have e : xs = zs'.reverse ++ [.ref c] := by
      have := congrArg List.reverse hx
      rw [List.reverse_reverse, List.reverse_cons] at this
      exact this
    have t' := ChsAt.rev (show ChsAt CH H zs' cs.reverse from t)
    rw [List.reverse_reverse] at t'
    exact ⟨zs'.reverse, c, e, t', a⟩
/-- a comprehension that makes one new object at each turn -/
theorem lc_chs {CD : Addr} {J : L2.It} {n : Nat} {G : Hp → Prop} {Y : Nat → Hp → V → Hp → Prop} (w : Walk J n G Y) (hY : ∀ j H x H', Y j H x H' → H' = H) {i : Nat} {te : TE} {σ : L2.St} {H1 : Hp} {D : Addr} {Qd : Hp → Prop} (hD : H1 D = none) (cs : List Kcs7.Change)
    (hl : cs.length = n) (hn : n ≤ 20000) (hG : ∀ H', Same H1 H' → G H')
    (step : ∀ (j : Nat) (x : V) (ch : Kcs7.Change) (H' : Hp), cs[j]? = some ch → Y j H' x H' → Same H1 H' → ∀ Qk : VK, (∀ H2 c, Same H' H2 → ChAt CD H2 c ch → Qk (.ref c) H2) → te ((wipe σ [i]).set i (some x)) H' Qk)
    (fin : ∀ H' xs, Same H1 H' → H' D = some (.lst xs) → ChsAt CD H' xs cs → Qd H') :
    ∃ W : Nat → Nat → Hp → Prop, (∃ m, W 0 m (upd H1 D (.lst []))) ∧ ∀ j m H, W j m H →
      (J.stop j H ∧ Qd H) ∨ (J.go j H ∧ ∃ Nx : Hp → Prop, (∀ H', Nx H' → ∃ m', m' < m ∧ W (j + 1) m' H') ∧ ∀ x H', J.yld j H x H' → gName i x (wipe σ [i]) H' fun σ2 H2 => wipe σ2 [i] = wipe σ [i] ∧ tYes σ2 H2 fun b H3 =>
        if b = true then te σ2 H3 fun y H4 => ∃ acc, H4 D = some (.lst acc) ∧ acc.length < sizeLine ∧ Nx (upd H4 D (.lst (acc ++ [y]))) else Nx H3) := by
  refine lc_it w (fun j H' => Same H1 H' ∧ ∃ xs, H' D = some (.lst xs) ∧ ChsAt CD H' xs (cs.take j)) ⟨Same.new hD, [], upd_same, .nil⟩ (fun j H' _ h => hG H' h.1) ?_ ?_
  · rintro j x H' H2 hj ⟨s1, xs, hxs, hat⟩ y
    obtain rfl := hY _ _ _ _ y
    obtain ⟨ch, hch⟩ : ∃ ch, cs[j]? = some ch := ⟨_, List.getElem?_eq_getElem (by omega)⟩
    have hlen := hat.len
    rw [List.length_take] at hlen
    refine ⟨wipe_one, ?_⟩
    simp only [tYes, ↓reduceIte]
    refine step j x ch _ hch y s1 _ fun H3 c s2 hc => ?_
    have h5 : 20000 < sizeLine := by decide
    refine ⟨xs, s2 _ _ hxs, by omega, Same.set (s1.trans s2) hD, xs ++ [.ref c], upd_same, ?_⟩
    have k : Kn H3 (upd H3 D (.lst (xs ++ [.ref c]))) := kn_upd (s2 _ _ hxs)
    rw [List.take_add_one, hch]
    exact ((hat.same s2).kn k).snoc (hc.kn k)
  · rintro H' ⟨s1, xs, hxs, hat⟩
    rw [List.take_of_length_le (by omega)] at hat
    exact fin H' xs s1 hxs hat
/-- a comprehension over a tuple that makes nothing new -/
theorem lc_pure {K : Frag} {a : Addr} {xs ys : List V} {i : Nat} {te : TE} {σ : L2.St} {H1 : Hp} {D : Addr} {Qd : Hp → Prop} (ha : H1 a = some (.tup xs)) (hD : H1 D = none) (hl : xs.length = ys.length) (hn : ys.length ≤ 20000)
    (el : ∀ (j : Nat) (x y : V) (H' : Hp), xs[j]? = some x → ys[j]? = some y → Same H1 H' → ∀ Qk : VK, Qk y H' → te ((wipe σ [i]).set i (some x)) H' Qk) (fin : Qd (upd H1 D (.lst ys))) :
    ∃ W : Nat → Nat → Hp → Prop, (∃ m, W 0 m (upd H1 D (.lst []))) ∧ ∀ j m H, W j m H →
      ((Itt K a).stop j H ∧ Qd H) ∨ ((Itt K a).go j H ∧ ∃ Nx : Hp → Prop, (∀ H', Nx H' → ∃ m', m' < m ∧ W (j + 1) m' H') ∧ ∀ x H', (Itt K a).yld j H x H' → gName i x (wipe σ [i]) H' fun σ2 H2 => wipe σ2 [i] = wipe σ [i] ∧ tYes σ2 H2 fun b H3 =>
        if b = true then te σ2 H3 fun y H4 => ∃ acc, H4 D = some (.lst acc) ∧ acc.length < sizeLine ∧ Nx (upd H4 D (.lst (acc ++ [y]))) else Nx H3) := by
  refine lc_it (walk_tup (K := K) (a := a) (xs := xs)) (fun j H' => H' = upd H1 D (.lst (ys.take j))) (by rw [List.take_zero]) (fun j H' _ e => by rw [e]; exact SqT.of (Same.new hD _ _ ha)) ?_ ?_
  · rintro j x H' H2 hj rfl ⟨rfl, hx⟩
    obtain ⟨y, hy⟩ : ∃ y, ys[j]? = some y := ⟨_, List.getElem?_eq_getElem (by omega)⟩
    refine ⟨wipe_one, ?_⟩
    simp only [tYes, ↓reduceIte]
    have h5 : 20000 < sizeLine := by decide
    refine el j x y _ hx hy (Same.new hD) _ ⟨_, upd_same, by rw [List.length_take]; omega, ?_⟩
    rw [upd_upd, List.take_add_one, hy]
    rfl
  · rintro H' rfl
    rw [List.take_of_length_le (by omega)]
    exact fin
/-- the names' own tuples -/
theorem fs_names {H : Hp} : ∀ {xs : List V} {l : List (Bytes × Kcs7.V)}, FsAt H xs l → ∃ ks : List (Addr × List Int), ks.map (·.2) = l.map (fun f => nmI f.1) ∧ (∀ q ∈ ks, H q.1 = some (.tup (q.2.map V.int))) ∧ ks.length = xs.length ∧
    ∀ (j : Nat) (x : V), xs[j]? = some x → ∃ fa yv q, x = .ref fa ∧ ks[j]? = some q ∧ H fa = some (.tup [.ref q.1, yv])
  | _, _, .nil => ⟨[], rfl, (fun _ h => nomatch h), rfl, fun j x h => by simp at h⟩
  | _, _, .cons (f := fa) (n := na) (name := nm) h1 h2 h3 r => by
    obtain ⟨ks, k1, k2, k3, k4⟩ := fs_names r
    refine ⟨(na, nmI nm) :: ks, by rw [List.map_cons, List.map_cons, k1], fun q hq => ?_, by rw [List.length_cons, List.length_cons, k3], fun j x hj => ?_⟩
    · rcases List.mem_cons.mp hq with e | e
      · rw [e]
        show H na = some (.tup ((nmI nm).map V.int))
        rw [nmI_int]
        exact h2
      · exact k2 q e
    · cases j with
      | zero => cases hj; exact ⟨_, _, _, rfl, rfl, h1⟩
      | succ j =>
        obtain ⟨fa, yv, q, a1, a2, a3⟩ := k4 j x (by simpa using hj)
        exact ⟨fa, yv, q, a1, by simpa using a2, a3⟩
/-! ### the names, sorted -/
def chI (i : It) : Kcs7.Change := ⟨i.1, i.2.1, i.2.2⟩
theorem names_sorted {x y : List (Bytes × Kcs7.V)} (hx : Rises x) {ns : List Bytes} (hnd : ns.Nodup) (hm : ∀ n, n ∈ ns ↔ n ∈ x.map Prod.fst ∨ n ∈ y.map Prod.fst) (hs : (ns.map nmI).Pairwise (fun a b => HT.lexLt b a = false)) : ns = namesOf x y := by
  refine up_uniq ?_ (namesOf_up hx) fun n => (hm n).trans (merge_names y x n).symm
  have h1 : ns.Pairwise (fun a b => HT.lexLt (nmI b) (nmI a) = false) := List.pairwise_map.mp hs
  exact (h1.and hnd).imp fun {a b} h => lexLt_bo h.1 (Ne.symm h.2)
section
variable {P : Program} {w : World} {K : Frag} {mg : Str → Option Value} {base : Heap} {CC CO CR CN bB bW CH CD : Addr}
/-! compared_fields -/
def spComparedFields (CD : Addr) : Sp := fun vs H Q _ => ∃ c p x y, vs = [.ref c] ∧ ChAt CD H c ⟨p, some (.record x), some (.record y)⟩ ∧ Rises x ∧ p.length ≤ 900 ∧ x.length ≤ 1900 ∧ y.length ≤ 1900 ∧
  ∀ H' la xs, H la = none → Same H H' → H' la = some (.lst xs) → ChsAt CD H' xs ((recKids p x y).map chI) → Q (.ref la) H'
theorem scComparedFields : FnScope ["compared", "old", "new", "names", "field", "name"] ["compared"] (defScope sComparedFields) := ⟨rfl, rfl, rfl, by decide +kernel, rfl, by decide +kernel, by decide +kernel⟩
theorem ok_comparedFields {f : Addr} {fd : FuncData} (F : Fun K "compared_fields" "compared_fields" sComparedFields f fd) (T : Tx K mg CC CO CR CN bB bW) (Y : Td K mg CH CD) (dT : DefOk P w K mg base CX0 1 "make_text" ["signs"] spMakeText) (dF : DefOk P w K mg base CX0 1 "field_of" ["fields", "name"] spFieldOf)
    (mD : MetOk P w K mg base CX0 3 CD "deeper" ["self", "key", "old", "new"] (spDeeper CD)) : FnOk P w K mg base CX0 4 f fd ["compared"] (spComparedFields CD) := by
  refine F.ok scComparedFields (fun vs H Q E h => ?_) (fun cdv A outer s H vs Q E hr h => ?_)
  · obtain ⟨_, _, _, _, rfl, _⟩ := h
    rfl
  · obtain ⟨c, p, x, y, rfl, hch, hx, hp, hxl, hyl, q⟩ := h
    have hr1 : Room 1 _ := hr.mono (by decide)
    have hr3 : Room 3 _ := hr.mono (by decide)
    refine ⟨_, pss_cons (ps_set (i := 1) scComparedFields.nd rfl (Or.inr rfl) (pe_ix ix_tup (pe_fld (pv 0) rfl) pe_int (fun _ _ => rfl)))
      (pss_cons (ps_set (i := 2) scComparedFields.nd rfl (Or.inr rfl) (pe_ix ix_tup (pe_fld (pv 0) rfl) pe_int (fun _ _ => rfl)))
      (pss_cons (ps_set (i := 3) scComparedFields.nd rfl (Or.inl rfl) (pe_callB (cr_sortZ rfl hr.units) (by rfl) T.srt (by decide +kernel) (pa_cons (pe_callTy (cr_setZ rfl hr.units) (by rfl) Y.st (by decide +kernel) (pa_cons
        (pe_lc (own := [("field", 4)]) (g := gName 4) (tt := tYes) (te := tOp (rIxT K) (tVar 4) (tC (.int 0))) rfl scComparedFields.nd (pi_tup (pe_op op_catA (pv 1) (pv 2))) (blkOk_by (N := ["compared", "old", "new", "names", "field", "name"]) (sc := defScope sComparedFields) (by decide +kernel))
          (fun _ _ _ _ _ => pg_name (i := 4) scComparedFields.nd rfl (Or.inl rfl)) (fun _ _ _ _ _ => pts_nil) (fun _ _ _ _ _ => by exact pe_ix ix_tup (pv 4) pe_int (fun _ _ => rfl))) pa_nil)) pa_nil)))
      (pss_one (ps_ret (pe_lc (own := [("name", 5)]) (g := gName 5) (tt := tYes) (te := tMeth CD "deeper" (spDeeper CD) [] E0 (tVar 0) (tCons (tCall spMakeText [] E0 (tCons (tVar 5) tNil)) (tCons (tCall spFieldOf [] E0 (tCons (tVar 1) (tCons (tVar 5) tNil))) (tCons (tCall spFieldOf [] E0 (tCons (tVar 2) (tCons (tVar 5) tNil))) tNil))))
        rfl scComparedFields.nd (pi_list (pv 3)) (blkOk_by (N := ["compared", "old", "new", "names", "field", "name"]) (sc := defScope sComparedFields) (by decide +kernel))
          (fun _ _ _ _ _ => pg_name (i := 5) scComparedFields.nd rfl (Or.inl rfl)) (fun _ _ _ _ _ => pts_nil)
          (fun _ _ _ _ _ => by exact pe_met mD Y.cD (by exact hr3) pass0 (pv 0) (pa_cons (pe_def dT (by exact hr1) pass0 (pa_cons (pv 5) pa_nil)) (pa_cons (pe_def dF (by exact hr1) pass0 (pa_cons (pv 1) (pa_cons (pv 5) pa_nil))) (pa_cons (pe_def dF (by exact hr1) pass0 (pa_cons (pv 2) (pa_cons (pv 5) pa_nil))) pa_nil))))))))), ?_⟩
    obtain ⟨dx, r, xo, xn, hc, hrow, hxo, hxn⟩ := id hch
    obtain ⟨t1, q1, xs1, rfl, ht1, hq1, hf1⟩ := (show VAt H xo (.record x) from hxo).rcd
    obtain ⟨t2, q2, xs2, rfl, ht2, hq2, hf2⟩ := (show VAt H xn (.record y) from hxn).rcd
    have l1 := hf1.len
    have l2 := hf2.len
    refine ⟨_, rfl, c, CD, dx, _, _, rfl, hc, Y.cD, Y.dOld, ch_old, t1, _, 1, _, rfl, rfl, SqT.of ht1, atI_nat (j := 1) rfl, ?_⟩
    refine ⟨_, rfl, c, CD, dx, _, _, rfl, hc, Y.cD, Y.dNew, ch_new, t2, _, 1, _, rfl, rfl, SqT.of ht2, atI_nat (j := 1) rfl, ?_⟩
    refine ⟨_, rfl, _, rfl, cat_tup hq1 hq2 (by omega) fun H1 p1 s1 hp1 => ?_⟩
    have hfs : FsAt H1 (xs1 ++ xs2) (x ++ y) := (FsAt.mono (Same.tk s1) hf1).app (FsAt.mono (Same.tk s1) hf2)
    obtain ⟨ks, k1, k2, k3, k4⟩ := fs_names hfs
    have hkl : ks.length ≤ 3800 := by rw [k3, List.length_append]; omega
    refine ⟨p1, rfl, ⟨_, SqT.of hp1⟩, fun D hD => ?_⟩
    refine lc_pure (ys := ks.map fun q => V.ref q.1) hp1 hD (by rw [List.length_map, k3]) (by rw [List.length_map]; omega) (fun j z w H' hz hw s2 Qk hk => ?_) ?_
    · obtain ⟨fa, yv, q', rfl, hq', hfa⟩ := k4 j z hz
      rw [List.getElem?_map, hq'] at hw
      cases hw
      exact ⟨_, rfl, fa, _, 0, _, rfl, rfl, SqT.of (s2 _ _ hfa), atI_nat (j := 0) rfl, hk⟩
    have s2 : Same H1 (upd H1 D (.lst (ks.map fun q => V.ref q.1))) := Same.new hD
    have eD : upd H1 D (.lst (ks.map fun q => V.ref q.1)) D = some (.lst (ks.map fun q => V.ref q.1)) := upd_same
    generalize upd H1 D (.lst (ks.map fun q => V.ref q.1)) = H2 at s2 eD
    refine ⟨D, ks, rfl, eD, fun q hq => s2 _ _ (k2 q hq), by omega, fun a Z ha z1 z2 z3 z4 => ?_⟩
    have s3 : Same H2 (upd H2 a (SzO P w a Z)) := Same.new ha
    have ea : upd H2 a (SzO P w a Z) a = some (SzO P w a Z) := upd_same
    refine ⟨a, Z, rfl, ea, fun z hz => s3 _ _ (s2 _ _ (k2 _ (z1 z hz))), z4, fun bs la bperm bsrt bmem hla => ?_⟩
    have s4 : Same (upd H2 a (SzO P w a Z)) (upd (upd H2 a (SzO P w a Z)) la (.lst (bs.map V.ref))) := Same.new hla
    have ela : upd (upd H2 a (SzO P w a Z)) la (.lst (bs.map V.ref)) la = some (.lst (bs.map V.ref)) := upd_same
    have bperm : (bs.map (kfA (upd H2 a (SzO P w a Z)))).Perm (Z.map fun z => z.2.2) := bperm
    have bsrt : (bs.map (kfA (upd H2 a (SzO P w a Z)))).Pairwise (fun x y => HT.lexLt y x = false) := bsrt
    have bmem : ∀ b ∈ bs, (upd H2 a (SzO P w a Z)) b = some (.tup ((kfA (upd H2 a (SzO P w a Z)) b).map V.int)) := bmem
    have k14 := ((s1.trans s2).trans s3).trans s4
    -- the names
    have hbs : ∀ b ∈ bs, ∃ n, n ∈ (x ++ y).map Prod.fst ∧ kfA (upd H2 a (SzO P w a Z)) b = nmI n := fun b hb => by
      have m1 : kfA (upd H2 a (SzO P w a Z)) b ∈ Z.map fun z => z.2.2 := bperm.mem_iff.mp (List.mem_map.mpr ⟨b, hb, rfl⟩)
      obtain ⟨z, hz, e⟩ := List.mem_map.mp m1
      have m2 : z.2.2 ∈ ks.map (·.2) := List.mem_map.mpr ⟨z.2, z1 z hz, rfl⟩
      rw [k1] at m2
      obtain ⟨g, hg, e2⟩ := List.mem_map.mp m2
      exact ⟨g.1, List.mem_map.mpr ⟨g, hg, rfl⟩, by rw [← e, ← e2]⟩
    have hnI : ∀ b ∈ bs, nmI (nmB (kfA (upd H2 a (SzO P w a Z)) b)) = kfA (upd H2 a (SzO P w a Z)) b := fun b hb => by
      obtain ⟨n, _, e⟩ := hbs b hb
      rw [e, nmB_I]
    have hk : bs.map (kfA (upd H2 a (SzO P w a Z))) = (bs.map fun b => nmB (kfA (upd H2 a (SzO P w a Z)) b)).map nmI := by
      rw [List.map_map]
      exact List.map_congr_left fun b hb => (hnI b hb).symm
    have hnames : (bs.map fun b => nmB (kfA (upd H2 a (SzO P w a Z)) b)) = namesOf x y := by
      refine names_sorted hx ?_ (fun n => ?_) (by rw [← hk]; exact bsrt)
      · refine nodup_of_map (f := nmI) ?_
        rw [← hk]
        exact bperm.nodup_iff.mpr z3
      · rw [← List.mem_append, ← List.map_append]
        constructor
        · intro hn
          obtain ⟨b, hb, rfl⟩ := List.mem_map.mp hn
          obtain ⟨n, hn, e⟩ := hbs b hb
          rw [e, nmB_I]
          exact hn
        · intro hn
          obtain ⟨g, hg, rfl⟩ := List.mem_map.mp hn
          have m1 : nmI g.1 ∈ ks.map (·.2) := by rw [k1]; exact List.mem_map.mpr ⟨g, hg, rfl⟩
          obtain ⟨q', hq', e⟩ := List.mem_map.mp m1
          obtain ⟨z, hz, e2⟩ := z2 q' hq'
          have m2 : z.2.2 ∈ bs.map (kfA (upd H2 a (SzO P w a Z))) := bperm.mem_iff.mpr (List.mem_map.mpr ⟨z, hz, rfl⟩)
          obtain ⟨b, hb, e3⟩ := List.mem_map.mp m2
          refine List.mem_map.mpr ⟨b, hb, ?_⟩
          rw [e3, e2, e, nmB_I]
    have hbl : bs.length = (namesOf x y).length := by rw [← hnames, List.length_map]
    have hzl : bs.length = Z.length := by
      have := bperm.length_eq
      rw [List.length_map, List.length_map] at this
      exact this
    refine ⟨_, rfl, la, rfl, ⟨_, SqL.of ela⟩, fun D2 hD2 => ?_⟩
    refine lc_chs (CD := CD) (walk_list (K := K) (a := la) (xs := bs.map V.ref)) (fun j H x H' y => y.1) hD2 ((recKids p x y).map chI) (by unfold recKids; rw [List.length_map, List.length_map, List.length_map, hbl]) (by rw [List.length_map]; omega)
      (fun H' s => SqL.of (s _ _ ela)) (fun j z ch H' hch' hz s5 Qk hk' => ?_) (fun H' xs s5 hxs hat => q H' D2 xs (k14.free hD2) (k14.trans s5) hxs hat)
    obtain ⟨_, hz⟩ := hz
    rw [List.getElem?_map] at hz
    obtain ⟨b, hb, rfl⟩ := Option.map_eq_some_iff.mp hz
    have hbm := List.mem_of_getElem? hb
    obtain ⟨n, hn, en⟩ := hbs b hbm
    have hnj : (namesOf x y)[j]? = some n := by
      rw [← hnames, List.getElem?_map, hb]
      show some (nmB (kfA (upd H2 a (SzO P w a Z)) b)) = some n
      rw [en, nmB_I]
    have ech : ch = chI (p ++ [.name n], fieldIn x n, fieldIn y n) := by
      unfold recKids at hch'
      rw [List.getElem?_map, List.getElem?_map, hnj] at hch'
      exact (Option.some.inj hch').symm
    subst ech
    have k15 := k14.trans s5
    have hbt : H' b = some (.tup (bys n)) := by
      have := s5 _ _ (s4 _ _ (bmem b hbm))
      rw [en, nmI_int] at this
      exact this
    refine ⟨_, rfl, c, dx, _, rfl, k15 _ _ hc, rfl, _, rfl, b, n, rfl, hbt, fun tp htp => ?_⟩
    have s6 : Same H' (upd H' tp (vt 4 (.ref b) (.text n))) := Same.new htp
    have k16 := k15.trans s6
    refine ⟨_, rfl, _, rfl, q1, b, xs1, x, n, rfl, k16 _ _ hq1, FsAt.mono (Same.tk k16) hf1, s6 _ _ hbt, fun zo hzo => ?_⟩
    refine ⟨_, rfl, _, rfl, q2, b, xs2, y, n, rfl, k16 _ _ hq2, FsAt.mono (Same.tk k16) hf2, s6 _ _ hbt, fun zn hzn => ?_⟩
    refine ⟨c, _, .ref tp, .name n, zo, _, zn, _, rfl, hch.same k16, .text upd_same (s6 _ _ hbt), hzo, hzn, by show p.length ≤ 1000; omega, fun H7 c' s7 hc' => hk' H7 c' (s6.trans s7) hc'⟩
end
end Vt

namespace Vt
open PySem PySem.Spec PyProof.Rows L2
open PySem.W (Frag)
open Kcs7 (Bytes Path keyV fieldIn namesOf size sizeL sizeR)
section
variable {P : Program} {w : World} {K : Frag} {mg : Str → Option Value} {base : Heap} {CC CO CR CN bB bW CH CD : Addr}
/-! compared_places -/
def spComparedPlaces (CD : Addr) : Sp := fun vs H Q _ => ∃ c p x y, vs = [.ref c] ∧ ChAt CD H c ⟨p, some (.list x), some (.list y)⟩ ∧ p.length ≤ 900 ∧ x.length ≤ 5000 ∧ y.length ≤ 5000 ∧
  ∀ H' la xs, H la = none → Same H H' → H' la = some (.lst xs) → ChsAt CD H' xs ((lstKids p x y).map chI) → Q (.ref la) H'
theorem scComparedPlaces : FnScope ["compared", "old", "new", "shared", "in_both", "only_old", "only_new", "place"] ["compared"] (defScope sComparedPlaces) := ⟨rfl, rfl, rfl, by decide +kernel, rfl, by decide +kernel, by decide +kernel⟩
theorem ok_comparedPlaces {f : Addr} {fd : FuncData} (F : Fun K "compared_places" "compared_places" sComparedPlaces f fd) (T : Tx K mg CC CO CR CN bB bW) (Y : Td K mg CH CD) (dN : DefOk P w K mg base CX0 1 "make_number" ["amount"] spMakeNumber)
    (mD : MetOk P w K mg base CX0 3 CD "deeper" ["self", "key", "old", "new"] (spDeeper CD)) : FnOk P w K mg base CX0 4 f fd ["compared"] (spComparedPlaces CD) := by
  refine F.ok scComparedPlaces (fun vs H Q E h => ?_) (fun cdv A outer s H vs Q E hr h => ?_)
  · obtain ⟨_, _, _, _, rfl, _⟩ := h
    rfl
  · obtain ⟨c, p, x, y, rfl, hch, hp, hxl, hyl, q⟩ := h
    have hr1 : Room 1 _ := hr.mono (by decide)
    have hr3 : Room 3 _ := hr.mono (by decide)
    refine ⟨_, pss_cons (ps_set (i := 1) scComparedPlaces.nd rfl (Or.inr rfl) (pe_ix ix_tup (pe_fld (pv 0) rfl) pe_int (fun _ _ => rfl)))
      (pss_cons (ps_set (i := 2) scComparedPlaces.nd rfl (Or.inr rfl) (pe_ix ix_tup (pe_fld (pv 0) rfl) pe_int (fun _ _ => rfl)))
      (pss_cons (ps_set (i := 3) scComparedPlaces.nd rfl (Or.inl rfl) (pe_callB (call_min2 rfl) (by rfl) Y.mn (by decide +kernel) (pa_cons (pe_callB call_len_seq (by rfl) T.len PySem.boot_len (pa_cons (pv 1) pa_nil)) (pa_cons (pe_callB call_len_seq (by rfl) T.len PySem.boot_len (pa_cons (pv 2) pa_nil)) pa_nil))))
      (pss_cons (ps_setLc (i := 4) (own := [("place", 7)]) (g := gName 7) (tt := tYes) (te := tMeth CD "deeper" (spDeeper CD) [] E0 (tVar 0) (tCons (tCall spMakeNumber [] E0 (tCons (tVar 7) tNil)) (tCons (tOp (rIxT K) (tVar 1) (tVar 7)) (tCons (tOp (rIxT K) (tVar 2) (tVar 7)) tNil)))) rfl scComparedPlaces.nd rfl rfl (sw_true rfl rfl rfl (by decide +kernel))
          (pi_range1 (by rfl) Y.rng (pa_cons (pv 3) pa_nil)) (blkOk_by (N := ["compared", "old", "new", "shared", "in_both", "only_old", "only_new", "place"]) (sc := defScope sComparedPlaces) (by decide +kernel))
          (fun _ _ _ _ _ => pg_name (i := 7) scComparedPlaces.nd rfl (Or.inl rfl)) (fun _ _ _ _ _ => pts_nil)
          (fun _ _ _ _ _ => by exact pe_met mD Y.cD (by exact hr3) pass0 (pv 0) (pa_cons (pe_def dN (by exact hr1) pass0 (pa_cons (pv 7) pa_nil)) (pa_cons (pe_ix ix_tup (pv 1) (pv 7) (fun _ _ => rfl)) (pa_cons (pe_ix ix_tup (pv 2) (pv 7) (fun _ _ => rfl)) pa_nil)))))
      (pss_cons (ps_setLc (i := 5) (own := [("place", 7)]) (g := gName 7) (tt := tYes) (te := tMeth CD "deeper" (spDeeper CD) [] E0 (tVar 0) (tCons (tCall spMakeNumber [] E0 (tCons (tVar 7) tNil)) (tCons (tOp (rIxT K) (tVar 1) (tVar 7)) (tCons (tC .non) tNil)))) rfl scComparedPlaces.nd rfl rfl (sw_true rfl rfl rfl (by decide +kernel))
          (pi_range3 (by rfl) Y.rng (pa_cons (pe_op op_sub (pe_callB call_len_seq (by rfl) T.len PySem.boot_len (pa_cons (pv 1) pa_nil)) pe_int) (pa_cons (pe_op op_sub (pv 3) pe_int) (pa_cons (pe_un un_neg pe_int) pa_nil)))) (blkOk_by (N := ["compared", "old", "new", "shared", "in_both", "only_old", "only_new", "place"]) (sc := defScope sComparedPlaces) (by decide +kernel))
          (fun _ _ _ _ _ => pg_name (i := 7) scComparedPlaces.nd rfl (Or.inl rfl)) (fun _ _ _ _ _ => pts_nil)
          (fun _ _ _ _ _ => by exact pe_met mD Y.cD (by exact hr3) pass0 (pv 0) (pa_cons (pe_def dN (by exact hr1) pass0 (pa_cons (pv 7) pa_nil)) (pa_cons (pe_ix ix_tup (pv 1) (pv 7) (fun _ _ => rfl)) (pa_cons pe_non pa_nil)))))
      (pss_cons (ps_setLc (i := 6) (own := [("place", 7)]) (g := gName 7) (tt := tYes) (te := tMeth CD "deeper" (spDeeper CD) [] E0 (tVar 0) (tCons (tCall spMakeNumber [] E0 (tCons (tVar 7) tNil)) (tCons (tC .non) (tCons (tOp (rIxT K) (tVar 2) (tVar 7)) tNil)))) rfl scComparedPlaces.nd rfl rfl (sw_true rfl rfl rfl (by decide +kernel))
          (pi_range2 (by rfl) Y.rng (pa_cons (pv 3) (pa_cons (pe_callB call_len_seq (by rfl) T.len PySem.boot_len (pa_cons (pv 2) pa_nil)) pa_nil))) (blkOk_by (N := ["compared", "old", "new", "shared", "in_both", "only_old", "only_new", "place"]) (sc := defScope sComparedPlaces) (by decide +kernel))
          (fun _ _ _ _ _ => pg_name (i := 7) scComparedPlaces.nd rfl (Or.inl rfl)) (fun _ _ _ _ _ => pts_nil)
          (fun _ _ _ _ _ => by exact pe_met mD Y.cD (by exact hr3) pass0 (pv 0) (pa_cons (pe_def dN (by exact hr1) pass0 (pa_cons (pv 7) pa_nil)) (pa_cons pe_non (pa_cons (pe_ix ix_tup (pv 2) (pv 7) (fun _ _ => rfl)) pa_nil)))))
      (pss_one (ps_ret (pe_op op_cat (pe_op op_cat (pv 4) (pv 5)) (pv 6))))))))), ?_⟩
    obtain ⟨dx, r, xo, xn, hc, hrow, hxo, hxn⟩ := id hch
    obtain ⟨t1, q1, xs1, rfl, ht1, hq1, hf1⟩ := (show VAt H xo (.list x) from hxo).lst
    obtain ⟨t2, q2, xs2, rfl, ht2, hq2, hf2⟩ := (show VAt H xn (.list y) from hxn).lst
    have l1 := hf1.len
    have l2 := hf2.len
    refine ⟨_, rfl, c, CD, dx, _, _, rfl, hc, Y.cD, Y.dOld, ch_old, t1, _, 1, _, rfl, rfl, SqT.of ht1, atI_nat (j := 1) rfl, ?_⟩
    refine ⟨_, rfl, c, CD, dx, _, _, rfl, hc, Y.cD, Y.dNew, ch_new, t2, _, 1, _, rfl, rfl, SqT.of ht2, atI_nat (j := 1) rfl, ?_⟩
    refine ⟨_, rfl, q1, _, rfl, .inr (SqT.of hq1), _, rfl, q2, _, rfl, .inr (SqT.of hq2), _, _, rfl, ?_⟩
    have emin : (if ((xs2.length : Nat) : Int) < ((xs1.length : Nat) : Int) then ((xs2.length : Nat) : Int) else ((xs1.length : Nat) : Int)) = ((min x.length y.length : Nat) : Int) := by
      split <;> omega
    -- the three rows of kids
    generalize hm : min x.length y.length = m at emin
    have mx : m ≤ x.length := by omega
    have my : m ≤ y.length := by omega
    have kids : (lstKids p x y).map chI = ((List.range m).map fun k => chI (p ++ [Kcs7.Key.place k], x[k]?, y[k]?)) ++ ((List.range (x.length - y.length)).map fun k => chI (p ++ [Kcs7.Key.place (x.length - 1 - k)], x[x.length - 1 - k]?, none)) ++
        ((List.range (y.length - x.length)).map fun k => chI (p ++ [Kcs7.Key.place (x.length + k)], none, y[x.length + k]?)) := by
      unfold lstKids
      rw [hm, List.map_append, List.map_append, List.map_map, List.map_map, List.map_map]
      rfl
    have vx : ∀ (k : Nat), k < x.length → ∃ z, xs1[k]? = some z ∧ ∀ H', Same H H' → OAt H' z x[k]? := fun k hk => by
      obtain ⟨z, hz⟩ : ∃ z, xs1[k]? = some z := ⟨_, List.getElem?_eq_getElem (by omega)⟩
      obtain ⟨v, hv, hat⟩ := hf1.at hz
      exact ⟨z, hz, fun H' s => by rw [hv]; exact hat.mono (Same.tk s)⟩
    have vy : ∀ (k : Nat), k < y.length → ∃ z, xs2[k]? = some z ∧ ∀ H', Same H H' → OAt H' z y[k]? := fun k hk => by
      obtain ⟨z, hz⟩ : ∃ z, xs2[k]? = some z := ⟨_, List.getElem?_eq_getElem (by omega)⟩
      obtain ⟨v, hv, hat⟩ := hf2.at hz
      exact ⟨z, hz, fun H' s => by rw [hv]; exact hat.mono (Same.tk s)⟩
    -- what deeper makes of a place
    have deep : ∀ (H' : Hp) (k : Nat) (tp : Addr) (zo zn : V) (o n : Option Kcs7.V) (Qk : VK), Same H H' → H' tp = none → OAt H' zo o → OAt H' zn n → (∀ H2 c', Same H' H2 → ChAt CD H2 c' (chI (p ++ [Kcs7.Key.place k], o, n)) → Qk (.ref c') H2) →
        spDeeper CD [.ref c, .ref tp, zo, zn] (upd H' tp (.tup [.int 3, .int (k : Nat), .int (1 : Nat), .int (0 : Nat)])) Qk E0 := by
      intro H' k tp zo zn o n Qk s1 htp ho hn hk
      have s2 : Same H' (upd H' tp (.tup [.int 3, .int (k : Nat), .int (1 : Nat), .int (0 : Nat)])) := Same.new htp
      exact ⟨c, _, .ref tp, .place k, zo, o, zn, n, rfl, hch.same (s1.trans s2), .num upd_same, ho.mono (Same.tk s2), hn.mono (Same.tk s2), by show p.length ≤ 1000; omega, fun H2 c' s3 hc' => hk H2 c' (s2.trans s3) hc'⟩
    rw [emin]
    refine ⟨_, rfl, _, rfl, by omega, by omega, fun D hD => ?_⟩
    refine lc_chs (CD := CD) (walk_range (lo := 0) (n := ((m : Nat) : Int).toNat)) (fun j H x H' y => y.1) hD ((List.range m).map fun k => chI (p ++ [Kcs7.Key.place k], x[k]?, y[k]?)) (by rw [List.length_map, List.length_range]; omega) (by omega) (fun _ _ => trivial) (fun j z ch H' hch' hz s1 Qk hk => ?_) fun H1 ys1 s1 hD1 hat1 => ?_
    · obtain ⟨_, hz⟩ := hz
      rw [List.getElem?_map] at hch'
      obtain ⟨k, hk', rfl⟩ := Option.map_eq_some_iff.mp hch'
      have hjm : j < m := by
        have := (List.getElem?_eq_some_iff.mp hk').1
        rw [List.length_range] at this
        exact this
      rw [List.getElem?_range hjm] at hk'
      cases hk'
      obtain rfl : z = V.int ((j : Nat) : Int) := hz.trans (congrArg V.int (by omega))
      obtain ⟨z1, hz1, o1⟩ := vx j (by omega)
      obtain ⟨z2, hz2, o2⟩ := vy j (by omega)
      refine ⟨_, rfl, c, dx, _, rfl, s1 _ _ hc, rfl, _, rfl, _, rfl, fun tp htp => ?_⟩
      have s2 : Same H' (upd H' tp (.tup [.int 3, .int (j : Nat), .int (1 : Nat), .int (0 : Nat)])) := Same.new htp
      refine ⟨_, rfl, _, rfl, q1, xs1, _, z1, rfl, rfl, SqT.of (s2 _ _ (s1 _ _ hq1)), atI_nat hz1, _, rfl, _, rfl, q2, xs2, _, z2, rfl, rfl, SqT.of (s2 _ _ (s1 _ _ hq2)), atI_nat hz2, ?_⟩
      exact deep H' j tp z1 z2 _ _ Qk s1 htp (o1 H' s1) (o2 H' s1) hk
    have L1 := hat1.len
    rw [List.length_map, List.length_range] at L1
    -- those of the old list alone
    refine ⟨_, rfl, q1, _, rfl, .inr (SqT.of (s1 _ _ hq1)), _, _, rfl, rfl, _, rfl, _, _, rfl, rfl, _, rfl, _, _, _, _, rfl, RgC.neg (by omega) (by omega) (by omega) (by omega), fun D2 hD2 => ?_⟩
    have hn2 : (((xs1.length : Nat) : Int) - 1 - (((m : Nat) : Int) - 1)).toNat = x.length - y.length := by omega
    rw [show ((((xs1.length : Nat) : Int) - 1) - (((m : Nat) : Int) - 1)).toNat = x.length - y.length from hn2]
    refine lc_chs (CD := CD) (walk_rangeC (lo := ((xs1.length : Nat) : Int) - 1) (c := -1) (n := x.length - y.length)) (fun j H x H' y => y.1) hD2 ((List.range (x.length - y.length)).map fun k => chI (p ++ [Kcs7.Key.place (x.length - 1 - k)], x[x.length - 1 - k]?, none)) (by rw [List.length_map, List.length_range]) (by omega) (fun _ _ => trivial)
      (fun j z ch H' hch' hz s2 Qk hk => ?_) fun H2 ys2 s2 hD2' hat2 => ?_
    · obtain ⟨_, hz⟩ := hz
      rw [List.getElem?_map] at hch'
      obtain ⟨k, hk', rfl⟩ := Option.map_eq_some_iff.mp hch'
      have hjm : j < x.length - y.length := by
        have := (List.getElem?_eq_some_iff.mp hk').1
        rw [List.length_range] at this
        exact this
      rw [List.getElem?_range hjm] at hk'
      cases hk'
      obtain rfl : z = V.int ((x.length - 1 - j : Nat) : Int) := hz.trans (congrArg V.int (by omega))
      have k2 := s1.trans s2
      obtain ⟨z1, hz1, o1⟩ := vx (x.length - 1 - j) (by omega)
      refine ⟨_, rfl, c, dx, _, rfl, k2 _ _ hc, rfl, _, rfl, _, rfl, fun tp htp => ?_⟩
      have s3 : Same H' (upd H' tp (.tup [.int 3, .int (x.length - 1 - j : Nat), .int (1 : Nat), .int (0 : Nat)])) := Same.new htp
      refine ⟨_, rfl, _, rfl, q1, xs1, _, z1, rfl, rfl, SqT.of (s3 _ _ (k2 _ _ hq1)), atI_nat hz1, ?_⟩
      exact deep H' _ tp z1 .non _ none Qk k2 htp (o1 H' k2) rfl hk
    have L2 := hat2.len
    rw [List.length_map, List.length_range] at L2
    have k2 := s1.trans s2
    -- those of the new list alone
    refine ⟨_, rfl, _, rfl, q2, _, rfl, .inr (SqT.of (k2 _ _ hq2)), _, _, rfl, ⟨by omega, by omega, by omega, by omega⟩, fun D3 hD3 => ?_⟩
    have hn3 : (((xs2.length : Nat) : Int) - ((m : Nat) : Int)).toNat = y.length - x.length := by omega
    rw [show (((xs2.length : Nat) : Int) - ((m : Nat) : Int)).toNat = y.length - x.length from hn3]
    refine lc_chs (CD := CD) (walk_range (lo := ((m : Nat) : Int)) (n := y.length - x.length)) (fun j H x H' y => y.1) hD3 ((List.range (y.length - x.length)).map fun k => chI (p ++ [Kcs7.Key.place (x.length + k)], none, y[x.length + k]?)) (by rw [List.length_map, List.length_range]) (by omega) (fun _ _ => trivial)
      (fun j z ch H' hch' hz s3 Qk hk => ?_) fun H3 ys3 s3 hD3' hat3 => ?_
    · obtain ⟨_, hz⟩ := hz
      rw [List.getElem?_map] at hch'
      obtain ⟨k, hk', rfl⟩ := Option.map_eq_some_iff.mp hch'
      have hjm : j < y.length - x.length := by
        have := (List.getElem?_eq_some_iff.mp hk').1
        rw [List.length_range] at this
        exact this
      rw [List.getElem?_range hjm] at hk'
      cases hk'
      obtain rfl : z = V.int ((x.length + j : Nat) : Int) := hz.trans (congrArg V.int (by omega))
      have k3 := k2.trans s3
      obtain ⟨z2, hz2, o2⟩ := vy (x.length + j) (by omega)
      refine ⟨_, rfl, c, dx, _, rfl, k3 _ _ hc, rfl, _, rfl, _, rfl, fun tp htp => ?_⟩
      have s4 : Same H' (upd H' tp (.tup [.int 3, .int (x.length + j : Nat), .int (1 : Nat), .int (0 : Nat)])) := Same.new htp
      refine ⟨_, rfl, _, rfl, q2, xs2, _, z2, rfl, rfl, SqT.of (s4 _ _ (k3 _ _ hq2)), atI_nat hz2, ?_⟩
      exact deep H' _ tp .non z2 none _ Qk k3 htp rfl (o2 H' k3) hk
    have L3 := hat3.len
    rw [List.length_map, List.length_range] at L3
    have k3 := k2.trans s3
    have h5 : 100000 < sizeLine := by decide
    refine ⟨_, rfl, _, rfl, D, D2, ys1, ys2, rfl, rfl, s3 _ _ (s2 _ _ hD1), s3 _ _ hD2', by omega, fun r1 hr1' => ?_⟩
    have s4 : Same H3 (upd H3 r1 (.lst (ys1 ++ ys2))) := Same.new hr1'
    refine ⟨_, rfl, r1, D3, _, ys3, rfl, rfl, upd_same, s4 _ _ hD3', by rw [List.length_append]; omega, fun r2 hr2 => ?_⟩
    have s5 := Same.new (o := .lst (ys1 ++ ys2 ++ ys3)) hr2
    have k5 := (k3.trans s4).trans s5
    refine q _ r2 _ ((k3.trans s4).free hr2) k5 upd_same ?_
    rw [kids]
    exact ((hat1.same (((s2.trans s3).trans s4).trans s5)).app (hat2.same ((s3.trans s4).trans s5))).app (hat3.same (s4.trans s5))
end
end Vt

namespace Vt
open PySem PySem.Spec PyProof.Rows L2
open PySem.W (Frag)
open Kcs7 (Bytes Path keyV fieldIn namesOf size sizeL sizeR changeV differences)
def wS (W : List It) : Nat := (W.map wIt).sum
theorem wS_app (a b : List It) : wS (a ++ b) = wS a + wS b := by simp [wS]
theorem wS_rev (a : List It) : wS a.reverse = wS a := by unfold wS; rw [List.map_reverse, List.sum_reverse]
theorem len_wS : ∀ {W : List It}, (∀ i ∈ W, OkI i) → W.length ≤ wS W
  | [], _ => Nat.le_refl _
  | i :: W, h => by
    have h1 := len_wS (W := W) fun j hj => h j (List.mem_cons_of_mem _ hj)
    have h2 : 1 ≤ wIt i := (h i List.mem_cons_self).pos
    simp only [wS, List.map_cons, List.sum_cons, List.length_cons] at h1 ⊢
    omega
theorem okI_ook {i : It} (h : OkI i) : (oD i.2.1).depth ≤ 122 ∧ (oD i.2.2).depth ≤ 122 := by
  have hl := h.len
  have one : ∀ o : Option Kcs7.V, odp o ≤ 40 → (oD o).depth ≤ 122 := fun o ho => by
    cases o with
    | none => decide
    | some v =>
      have h2 := toD_depth v
      have h3 : Kcs7.depth v ≤ 40 := ho
      show (toD v).depth ≤ 122
      omega
  exact ⟨one _ (by omega), one _ (by omega)⟩
/-- what an item that is neither equal nor of two records nor of two lists gives -/
theorem out_leaf {i : It} (h : OkI i) (hne : i.2.1 ≠ i.2.2) (h1 : both (chI i) 6 = false) (h2 : both (chI i) 5 = false) : outI i = [chI i] := by
  obtain ⟨p, a, b⟩ := i
  cases a with
  | none =>
    cases b with
    | none => exact absurd rfl hne
    | some v => rfl
  | some u =>
    cases b with
    | none => rfl
    | some v =>
      refine out_other (fun e => hne (congrArg some e)) (fun x y z => ?_) (fun x y z => ?_)
      · rw [z.1, z.2] at h1
        exact absurd h1 (by show ¬ (true = false); decide)
      · rw [z.1, z.2] at h2
        exact absurd h2 (by show ¬ (true = false); decide)
theorem both_rec {i : It} (h : both (chI i) 6 = true) : ∃ p x y, i = (p, some (.record x), some (.record y)) := by
  obtain ⟨p, a, b⟩ := i
  cases a with
  | none => cases h
  | some u =>
    cases b with
    | none => cases h
    | some v =>
      have h' : (kd u == 6 && kd v == 6) = true := h
      rw [Bool.and_eq_true, beq_iff_eq, beq_iff_eq] at h'
      have kr : ∀ v : Kcs7.V, kd v = 6 → ∃ l, v = .record l := fun v hv => by
        cases v with
        | record l => exact ⟨l, rfl⟩
        | bool b => cases b <;> cases hv
        | _ => cases hv
      obtain ⟨x, rfl⟩ := kr u h'.1
      obtain ⟨y, rfl⟩ := kr v h'.2
      exact ⟨p, x, y, rfl⟩
theorem both_lst {i : It} (h : both (chI i) 5 = true) : ∃ p x y, i = (p, some (.list x), some (.list y)) := by
  obtain ⟨p, a, b⟩ := i
  cases a with
  | none => cases h
  | some u =>
    cases b with
    | none => cases h
    | some v =>
      have h' : (kd u == 5 && kd v == 5) = true := h
      rw [Bool.and_eq_true, beq_iff_eq, beq_iff_eq] at h'
      have kr : ∀ v : Kcs7.V, kd v = 5 → ∃ l, v = .list l := fun v hv => by
        cases v with
        | list l => exact ⟨l, rfl⟩
        | bool b => cases b <;> cases hv
        | _ => cases hv
      obtain ⟨x, rfl⟩ := kr u h'.1
      obtain ⟨y, rfl⟩ := kr v h'.2
      exact ⟨p, x, y, rfl⟩
section
variable {P : Program} {w : World} {K : Frag} {mg : Str → Option Value} {base : Heap} {CC CO CR CN bB bW CH CD : Addr}
/-! changes_between -/
def spChangesBetween : Sp := fun vs H Q _ => ∃ x y a b, vs = [x, y] ∧ VAt H x a ∧ VAt H y b ∧ OkI ([], some a, some b) ∧ ∀ H' z, Same H H' → VAt H' z (.list ((differences a b).map changeV)) → (∀ c ∈ differences a b, OkI (itC c)) → Q z H'
theorem scChangesBetween : FnScope ["old", "new", "changes", "waiting", "compared"] ["old", "new"] (defScope sChangesBetween) := ⟨rfl, rfl, rfl, by decide +kernel, rfl, by decide +kernel, by decide +kernel⟩
theorem ok_changesBetween {f : Addr} {fd : FuncData} (F : Fun K "changes_between" "changes_between" sChangesBetween f fd) (T : Tx K mg CC CO CR CN bB bW) (Y : Td K mg CH CD) (kH : MkOk P w K mg base 1 CH ["self", "row", "old", "new"] (spHInit CH)) (kD : MkOk P w K mg base 1 CD ["self", "row", "old", "new"] (spMInit CD))
    (mB : MetOk P w K mg base CX0 1 CD "both_are" ["self", "kind"] (spBothAre CD)) (dF : DefOk P w K mg base CX0 4 "compared_fields" ["compared"] (spComparedFields CD)) (dP : DefOk P w K mg base CX0 4 "compared_places" ["compared"] (spComparedPlaces CD))
    (dV : DefOk P w K mg base CX0 3 "change_value" ["change"] (spChangeValue CH)) (dL : DefOk P w K mg base CX0 1 "make_list" ["inner"] spMakeList) : FnOk P w K mg base CX0 5 f fd ["old", "new"] spChangesBetween := by
  refine F.ok scChangesBetween (fun vs H Q E h => ?_) (fun cdv A outer s H vs Q E hr h => ?_)
  · obtain ⟨_, _, _, _, rfl, _⟩ := h
    rfl
  · obtain ⟨x, y, a, b, rfl, hx, hy, hok, q⟩ := h
    have hr1 : Room 1 _ := hr.mono (by decide)
    have hr2 : Room (1 + 1) _ := hr.mono (by decide)
    have hr3 : Room 3 _ := hr.mono (by decide)
    have hr4 : Room 4 _ := hr.mono (by decide)
    refine ⟨_, pss_cons (ps_set (i := 2) scChangesBetween.nd rfl (Or.inl rfl) (pe_lst pa_nil))
      (pss_cons (ps_set (i := 3) scChangesBetween.nd rfl (Or.inl rfl) (pe_lst (pa_cons (pe_mk kD hr2 Y.gCD (pa_cons (pe_tup pa_nil) (pa_cons (pv 0) (pa_cons (pv 1) pa_nil)))) pa_nil)))
      (pss_cons (ps_while PassesOwn.never (pt_cmpR op_gt (pe_callB call_len_seq (by rfl) T.len PySem.boot_len (pa_cons (pv 3) pa_nil)) pe_int (nomark _))
        (pss_cons (ps_set (i := 4) scChangesBetween.nd rfl (Or.inl rfl) (pe_bm0 PySem.F.plainAttrs_list PySem.F.slot_list_pop PySem.F.type_list_pop mt_pop (pv 3)))
        (pss_cons (ps_if (pt_cmpR (op_eqB (un2 hr)) (pe_fld (pv 4) rfl) (pe_fld (pv 4) rfl) (nomark _)) (pss_one ps_continue) pss_nil)
        (pss_one (ps_if (pt_val (pe_met mB Y.cD hr1 pass0 (pv 4) (pa_cons (pe_const T.gRECORD) pa_nil)))
          (pss_one (ps_expr (pe_bm PySem.F.plainAttrs_list PySem.F.slot_list_extend PySem.F.type_list_extend mt_extend (pv 3) (pa_cons (pe_lstRev rfl (by rfl) T.lst (by rfl) T.rev (pe_def dF hr4 pass0 (pa_cons (pv 4) pa_nil))) pa_nil))))
          (pss_one (ps_if (pt_val (pe_met mB Y.cD hr1 pass0 (pv 4) (pa_cons (pe_const T.gLIST) pa_nil)))
            (pss_one (ps_expr (pe_bm PySem.F.plainAttrs_list PySem.F.slot_list_extend PySem.F.type_list_extend mt_extend (pv 3) (pa_cons (pe_lstRev rfl (by rfl) T.lst (by rfl) T.rev (pe_def dP hr4 pass0 (pa_cons (pv 4) pa_nil))) pa_nil))))
            (pss_one (ps_expr (pe_bm PySem.F.plainAttrs_list PySem.F.slot_list_append PySem.F.type_list_append mt_append (pv 2) (pa_cons (pe_def dV hr3 pass0 (pa_cons (pe_mk kH hr2 Y.gCH (pa_cons (pe_fld (pv 4) rfl) (pa_cons (pe_fld (pv 4) rfl) (pa_cons (pe_fld (pv 4) rfl) pa_nil)))) pa_nil)) pa_nil)))))))))))
      (pss_one (ps_ret (pe_def dL hr1 pass0 (pa_cons (pv 2) pa_nil)))))), ?_⟩
    refine ⟨(by show 0 ≤ sizeLine; exact Nat.zero_le _), fun ca hca => ?_⟩
    have s1 : Same H (upd H ca (.lst [])) := Same.new hca
    have e1 : upd H ca (.lst []) ca = some (.lst []) := upd_same
    generalize upd H ca (.lst []) = H1 at s1 e1
    refine ⟨(by show 0 ≤ sizeLine; exact Nat.zero_le _), fun tp htp => ?_⟩
    have s2 : Same H1 (upd H1 tp (.tup [])) := Same.new htp
    have e2 : upd H1 tp (.tup []) tp = some (.tup []) := upd_same
    generalize upd H1 tp (.tup []) = H2 at s2 e2
    refine ⟨_, rfl, _, rfl, ?_⟩
    intro cx dx0 nx ndx ne
    have k2 := s1.trans s2
    refine ⟨cx, dx0, _, _, _, rfl, upd_same, ?_⟩
    obtain ⟨s3, hch0⟩ := ch_new_at (CH := CD) (r := tp) (xo := x) (xn := y) (ch := chI ([], some a, some b)) (Same.refl H2) nx ndx ne ⟨[], e2, .nil⟩ (hx.mono (Same.tk k2)) (hy.mono (Same.tk k2))
    generalize upd (upd (upd H2 dx0 (.own cx)) cx (.ins CD dx0 [])) cx (chO CD dx0 (.ref tp) x y) = H3 at s3 hch0
    refine ⟨rfl, (by show 1 ≤ sizeLine; decide), fun wa hwa => ?_⟩
    have k3 := k2.trans s3
    have hwa0 : H wa = none := k3.free hwa
    have s4 : Same H3 (upd H3 wa (.lst [.ref cx])) := Same.new hwa
    have ncw : ca ≠ wa := fun z => by
      have := s3 _ _ (s2 _ _ e1)
      rw [z, hwa] at this
      cases this
    have h5 : 100000 < sizeLine := by decide
    have hsz : wS [(([] : Path), some a, some b)] ≤ 8192 := by
      have h1 := (hok.a a rfl).2.2.1
      have h2 := (hok.b b rfl).2.2.1
      simp only [wS, wIt, osz, List.map_cons, List.map_nil, List.sum_cons, List.sum_nil]
      omega
    refine ⟨fun m σ H' => ∃ (C : List Kcs7.Change) (W : List It) (cs ws : List V), m = wS W ∧ (∃ z, σ = [some x, some y, some (.ref ca), some (.ref wa), z]) ∧ Same H H' ∧ H' ca = some (.lst cs) ∧ VsAt H' cs (C.map changeV) ∧ H' wa = some (.lst ws) ∧ ChsAt CD H' ws (W.map chI) ∧
        (∀ i ∈ W, OkI i) ∧ (∀ c ∈ C, OkI (itC c)) ∧ C ++ W.reverse.flatMap outI = differences a b ∧ C.length + wS W ≤ 8192,
      ⟨_, [], [([], some a, some b)], [], [.ref cx], rfl, ⟨none, rfl⟩, k3.trans s4, s4 _ _ (s3 _ _ (s2 _ _ e1)), .nil, upd_same, .cons (hch0.same s4) .nil, ?_, (fun c hc => nomatch hc), ?_, ?_⟩, ?_⟩
    · intro i hi
      rw [List.mem_singleton.mp hi]
      exact hok
    · show [] ++ outI ([], some a, some b) ++ [] = _
      rw [List.nil_append, List.append_nil, differences_out]
    · show 0 + _ ≤ 8192
      omega
    rintro m σ H' ⟨C, W, cs, ws, rfl, ⟨z, rfl⟩, k5, hcs, hC, hws, hW, okW, okC, heq, hle⟩
    have hwl := hW.len
    rw [List.length_map] at hwl
    have hlw := len_wS okW
    have hcl := hC.len
    rw [List.length_map] at hcl
    refine ⟨_, rfl, wa, _, rfl, .inl (SqL.of hws), _, _, rfl, rfl, _, rfl, ?_⟩
    rcases List.eq_nil_or_concat W with ew | ⟨W0, i, ew⟩
    · subst ew
      refine if_f (decide_eq_false (by rw [hwl]; decide)) ?_
      have e9 : C = differences a b := by
        rw [← heq]
        show C = C ++ []
        rw [List.append_nil]
      refine ⟨_, rfl, ca, cs, C.map changeV, rfl, .inl hcs, hC, by rw [List.length_map]; omega, fun H6 z s6 hz => q H6 z (k5.trans s6) ?_ ?_⟩
      · rw [← e9]; exact hz
      · rw [← e9]; exact okC
    · rw [List.concat_eq_append] at ew
      subst ew
      rw [List.map_append] at hW
      obtain ⟨ws0, c, rfl, hW0, hc⟩ := hW.last
      refine if_t (decide_eq_true (by rw [List.length_append]; simp)) ?_
      have oki : OkI i := okW i (by simp)
      have okW0 : ∀ j ∈ W0, OkI j := fun j hj => okW j (List.mem_append.mpr (.inl hj))
      have hpi : 1 ≤ wIt i := oki.pos
      have wsi : wS (W0 ++ [i]) = wS W0 + wIt i := by rw [wS_app]; simp [wS]
      have hrev : (W0 ++ [i]).reverse.flatMap outI = outI i ++ W0.reverse.flatMap outI := by
        rw [List.reverse_append]
        rfl
      rw [hrev] at heq
      refine ⟨fun σ' H' => ∃ (C : List Kcs7.Change) (W : List It) (cs ws : List V), wS W < wS (W0 ++ [i]) ∧ (∃ z, σ' = [some x, some y, some (.ref ca), some (.ref wa), z]) ∧ Same H H' ∧ H' ca = some (.lst cs) ∧ VsAt H' cs (C.map changeV) ∧ H' wa = some (.lst ws) ∧ ChsAt CD H' ws (W.map chI) ∧
          (∀ i ∈ W, OkI i) ∧ (∀ c ∈ C, OkI (itC c)) ∧ C ++ W.reverse.flatMap outI = differences a b ∧ C.length + wS W ≤ 8192, ?_, ?_⟩
      · rintro σ' H6 ⟨C', W', cs', ws', h1, h2⟩
        exact ⟨_, h1, C', W', cs', ws', rfl, h2⟩
      refine ⟨_, rfl, .inl ⟨rfl, _, SqL.of hws⟩, wa, _, .ref c, rfl, rfl, hws, by rw [List.length_append]; simp, ?_⟩
      rw [List.dropLast_concat]
      have kn6 : Kn H' (upd H' wa (.lst ws0)) := kn_upd hws
      have k6 : Same H (upd H' wa (.lst ws0)) := Same.set k5 hwa0
      have e6 : upd H' wa (.lst ws0) wa = some (.lst ws0) := upd_same
      have c6 : upd H' wa (.lst ws0) ca = some (.lst cs) := by rw [upd_ne ncw]; exact hcs
      generalize upd H' wa (.lst ws0) = H6 at kn6 k6 e6 c6
      have hC6 := hC.mono kn6.tk
      have hW6 := hW0.kn kn6
      have hc6 := hc.kn kn6
      obtain ⟨dx, r, xo, xn, hci, hrow, hxo, hxn⟩ := id hc6
      obtain ⟨d1, d2⟩ := okI_ook oki
      -- the kids are put
      have many : ∀ (kids : List It) (xs : List V) (H7 : Hp) (l2 : Addr), Same H6 H7 → H7 l2 = some (.lst xs.reverse) → ChsAt CD H7 xs (kids.map chI) → (∀ k ∈ kids, OkI k) → wS kids < wIt i → outI i = kids.flatMap outI →
          rExtend (.ref wa) [.ref l2] H7 (fun _ H8 => ∃ (C : List Kcs7.Change) (W : List It) (cs ws : List V), wS W < wS (W0 ++ [i]) ∧ (∃ z, ([some x, some y, some (.ref ca), some (.ref wa), some (.ref c)] : L2.St) = [some x, some y, some (.ref ca), some (.ref wa), z]) ∧ Same H H8 ∧ H8 ca = some (.lst cs) ∧ VsAt H8 cs (C.map changeV) ∧ H8 wa = some (.lst ws) ∧ ChsAt CD H8 ws (W.map chI) ∧
            (∀ i ∈ W, OkI i) ∧ (∀ c ∈ C, OkI (itC c)) ∧ C ++ W.reverse.flatMap outI = differences a b ∧ C.length + wS W ≤ 8192) := by
        intro kids xs H7 l2 s7 hl2 hat okk hwk hout
        have hxl := hat.len
        rw [List.length_map] at hxl
        have hkl := len_wS okk
        have h0l := hW0.len
        rw [List.length_map] at h0l
        have h0w := len_wS okW0
        refine ⟨wa, l2, _, _, rfl, rfl, s7 _ _ e6, hl2, by rw [List.length_reverse]; omega, ?_⟩
        have kn8 : Kn H7 (upd H7 wa (.lst (ws0 ++ xs.reverse))) := kn_upd (s7 _ _ e6)
        refine ⟨C, W0 ++ kids.reverse, cs, _, ?_, ⟨_, rfl⟩, Same.set (k6.trans s7) hwa0, by rw [upd_ne ncw]; exact s7 _ _ c6, (hC6.mono (Same.tk s7)).mono kn8.tk, upd_same, ?_, ?_, okC, ?_, ?_⟩
        · rw [wS_app, wS_rev, wsi]
          omega
        · rw [List.map_append, List.map_reverse]
          exact ((hW6.same s7).kn kn8).app ((hat.kn kn8).rev)
        · intro j hj
          rcases List.mem_append.mp hj with z | z
          · exact okW0 j z
          · exact okk j (List.mem_reverse.mp z)
        · rw [List.reverse_append, List.reverse_reverse, List.flatMap_append, ← hout]
          exact heq
        · rw [wS_app, wS_rev]
          omega
      refine ⟨_, rfl, c, CD, dx, _, _, rfl, hci, Y.cD, Y.dOld, ch_old, _, rfl, c, CD, dx, _, _, rfl, hci, Y.cD, Y.dNew, ch_new, oD i.2.1, oD i.2.2, hxo.dp, hxn.dp, oD_can _, oD_can _, by omega, _, rfl, ?_⟩
      by_cases e : i.2.1 = i.2.2
      · refine if_t ((oD_eqv _ _).mpr e) ?_
        have hout : outI i = [] := by
          obtain ⟨p, u, v⟩ := i
          have e' : u = v := e
          subst e'
          cases u with
          | none => exact absurd oki.pos (by show ¬ 1 ≤ 0 + 0; decide)
          | some v => exact out_same rfl
        rw [hout, List.nil_append] at heq
        exact ⟨C, W0, cs, ws0, by omega, ⟨_, rfl⟩, k6, c6, hC6, e6, hW6, okW0, okC, heq, by omega⟩
      have ene : PyData.eqv (oD i.2.1) (oD i.2.2) = false := by
        cases h : PyData.eqv (oD i.2.1) (oD i.2.2) with
        | false => rfl
        | true => exact absurd ((oD_eqv _ _).mp h) e
      refine if_f ene ?_
      refine ⟨_, rfl, c, dx, _, rfl, hci, rfl, c, chI i, 6, rfl, hc6, _, rfl, ?_⟩
      cases h6 : both (chI i) 6 with
      | true =>
        obtain ⟨p, x', y', rfl⟩ := both_rec h6
        have hra := (oki.a _ rfl)
        have hrb := (oki.b _ rfl)
        simp only [wf, size, bl, Kcs7.write, List.length_cons, List.length_append, List.length_nil] at hra hrb
        have hlx := lenR_bl x'
        have hly := lenR_bl y'
        have hpl : p.length ≤ 40 := by
          have : p.length + _ ≤ 40 := oki.len
          omega
        refine if_t rfl ?_
        refine ⟨_, rfl, .inl ⟨rfl, _, SqL.of e6⟩, _, rfl, c, p, x', y', rfl, hc6, hra.1.1, by omega, by omega, by omega, fun H7 la xs hla s7 hxs hat => ?_⟩
        refine ⟨la, xs, rfl, SqL.of hxs, fun l2 hl2 => ?_⟩
        have s8 : Same H7 (upd H7 l2 (.lst xs.reverse)) := Same.new hl2
        refine many (recKids p x' y') xs _ l2 (s7.trans s8) upd_same (hat.same s8) (recKids_ok oki) ?_ (out_rec fun z => e (by rw [z]))
        have := recKids_w (p := p) (x := x') (y := y') hra.1.1
        simp only [wS, wIt, osz, size]
        omega
      | false =>
        refine if_f rfl ?_
        refine ⟨_, rfl, c, dx, _, rfl, hci, rfl, c, chI i, 5, rfl, hc6, _, rfl, ?_⟩
        cases h7 : both (chI i) 5 with
        | true =>
          obtain ⟨p, x', y', rfl⟩ := both_lst h7
          have hra := (oki.a _ rfl)
          have hrb := (oki.b _ rfl)
          simp only [size] at hra hrb
          have hlx := lenL_size x'
          have hly := lenL_size y'
          have hpl : p.length ≤ 40 := by
            have : p.length + _ ≤ 40 := oki.len
            omega
          refine if_t rfl ?_
          refine ⟨_, rfl, .inl ⟨rfl, _, SqL.of e6⟩, _, rfl, c, p, x', y', rfl, hc6, by omega, by omega, by omega, fun H7 la xs hla s7 hxs hat => ?_⟩
          refine ⟨la, xs, rfl, SqL.of hxs, fun l2 hl2 => ?_⟩
          have s8 : Same H7 (upd H7 l2 (.lst xs.reverse)) := Same.new hl2
          refine many (lstKids p x' y') xs _ l2 (s7.trans s8) upd_same (hat.same s8) (lstKids_ok oki) ?_ (out_lst fun z => e (by rw [z]))
          have := lstKids_w (p := p) (x := x') (y := y')
          simp only [wS, wIt, osz, size]
          omega
        | false =>
          refine if_f rfl ?_
          have hout := out_leaf oki e h6 h7
          rw [hout] at heq
          refine ⟨_, rfl, .inl ⟨rfl, _, SqL.of c6⟩, ?_⟩
          refine ⟨_, rfl, c, CD, dx, _, _, rfl, hci, Y.cD, Y.dRow, ch_row, _, rfl, c, CD, dx, _, _, rfl, hci, Y.cD, Y.dOld, ch_old, _, rfl, c, CD, dx, _, _, rfl, hci, Y.cD, Y.dNew, ch_new, ?_⟩
          intro cy dy ny ndy ne2
          refine ⟨cy, dy, _, _, _, rfl, upd_same, ?_⟩
          obtain ⟨s7, hch7⟩ := ch_new_at (CH := CH) (r := r) (xo := xo) (xn := xn) (ch := chI i) (Same.refl H6) ny ndy ne2 hrow hxo hxn
          generalize upd (upd (upd H6 dy (.own cy)) cy (.ins CH dy [])) cy (chO CH dy (.ref r) xo xn) = H7 at s7 hch7
          have hpl : i.1.length ≤ 40 := by
            have := oki.len
            omega
          refine ⟨rfl, cy, chI i, rfl, hch7, by show i.1.length ≤ 1000; omega, fun H8 z8 s8 hz8 => ?_⟩
          have s78 := s7.trans s8
          refine ⟨ca, cs, z8, rfl, rfl, s78 _ _ c6, by omega, ?_⟩
          have kn9 : Kn H8 (upd H8 ca (.lst (cs ++ [z8]))) := kn_upd (s78 _ _ c6)
          refine ⟨C ++ [chI i], W0, cs ++ [z8], ws0, by omega, ⟨_, rfl⟩, Same.set (k6.trans s78) hca, upd_same, ?_, by rw [upd_ne (Ne.symm ncw)]; exact s78 _ _ e6, (hW6.same s78).kn kn9, okW0, ?_, ?_, ?_⟩
          · rw [List.map_append]
            exact ((hC6.mono (Same.tk s78)).mono kn9.tk).snoc (hz8.mono kn9.tk)
          · intro d hd
            rcases List.mem_append.mp hd with z | z
            · exact okC d z
            · rw [List.mem_singleton.mp z]
              exact oki
          · rw [List.append_assoc]
            exact heq
          · rw [List.length_append, List.length_singleton]
            omega
end
end Vt

namespace Vt
open PySem PySem.Spec PyProof.Rows L2
open PySem.W (Frag)
open Kcs7 (Bytes write changeV differences)
/-- what differ answers -/
def ansD (m n : Bytes) : List V := match readM m with
  | none => [.int (-2)]
  | some a => match readM n with
    | none => [.int (-3)]
    | some b => if 65536 < (write (.list ((differences a b).map changeV))).length then [.int (-28)] else .int 0 :: bys (write (.list ((differences a b).map changeV)))
theorem ansD_is (a b : Bytes) : (Kcs7Neutral.told (Kcs7.answer (.differ a b))).map V.int = ansD a b := by
  unfold ansD
  dsimp only [Kcs7.answer]
  rw [← readM_is, ← readM_is]
  cases readM a with
  | none => rfl
  | some v =>
    cases readM b with
    | none => rfl
    | some c =>
      dsimp only
      by_cases hf : 65536 < (write (.list ((differences v c).map changeV))).length
      · rw [if_pos (show Kcs7.LONG < _ from hf), if_pos hf]
        rfl
      · rw [if_neg (show ¬ Kcs7.LONG < _ from hf), if_neg hf]
        show V.int 0 :: (Kcs7Neutral.nums (write (.list ((differences v c).map changeV)))).map V.int = _
        unfold Kcs7Neutral.nums bys
        rw [List.map_map]
        rfl
theorem row_nat : ∀ (ns : List Int), (∀ x ∈ ns, 0 ≤ x) → ns.map V.int = (ns.map Int.toNat).map fun z => V.int (z : Nat)
  | [], _ => rfl
  | x :: ns, h => by
    have h1 := h x List.mem_cons_self
    rw [List.map_cons, List.map_cons, List.map_cons, ← row_nat ns fun y hy => h y (List.mem_cons_of_mem _ hy), Int.toNat_of_nonneg h1]
section
variable {P : Program} {w : World} {K : Frag} {mg : Str → Option Value} {base : Heap} {CC CO CR CN bB bW CH CD : Addr}
/-! answered -/
def spAnswered : Sp := fun vs H Q _ => ∃ (n : Int) (ra : Addr) (out : Bytes), vs = [.int n, .ref ra] ∧ H ra = some (.lst (bys out)) ∧ out.length ≤ 15000000 ∧ ∀ (H' : Hp) (p : Addr), H' p = some (.lst (if 65536 < out.length then [.int (-28)] else .int n :: bys out)) → Q (.ref p) H'
theorem scAnswered : FnScope ["number", "row"] ["number", "row"] (defScope sAnswered) := ⟨rfl, rfl, rfl, by decide +kernel, rfl, by decide +kernel, by decide +kernel⟩
theorem ok_answered {f : Addr} {fd : FuncData} (F : Fun K "answered" "answered" sAnswered f fd) (T : Tx K mg CC CO CR CN bB bW) (Y : Td K mg CH CD) : FnOk P w K mg base CX0 1 f fd ["number", "row"] spAnswered := by
  refine F.ok scAnswered (fun vs H Q E h => ?_) (fun cdv A outer s H vs Q E hr h => ?_)
  · obtain ⟨_, _, _, rfl, _⟩ := h
    rfl
  · obtain ⟨n, ra, out, rfl, hra, hl, q⟩ := h
    refine ⟨_, pss_one (ps_ret (pe_ifExp (pt_cmpR op_gt (pe_callB call_len_seq (by rfl) T.len PySem.boot_len (pa_cons (pv 1) pa_nil)) (pe_const Y.gMBA) (nomark _)) (pe_lst (pa_cons (pe_const Y.gTOOL) pa_nil)) (pe_op op_cat (pe_lst (pa_cons (pv 0) pa_nil)) (pv 1)))), ?_⟩
    refine ⟨_, rfl, ra, _, rfl, .inl (SqL.of hra), _, _, rfl, rfl, _, rfl, ?_⟩
    have h5 : 16000000 < sizeLine := by decide
    by_cases hf : 65536 < out.length
    · rw [if_pos hf] at q
      refine if_t (decide_eq_true (by rw [bys_len]; omega)) ?_
      exact ⟨(by show 1 ≤ sizeLine; decide), fun p hp => q _ p upd_same⟩
    · rw [if_neg hf] at q
      refine if_f (decide_eq_false (by rw [bys_len]; omega)) ?_
      refine ⟨_, rfl, (by show 1 ≤ sizeLine; decide), fun t ht => ?_⟩
      have s1 : Same H (upd H t (.lst [.int n])) := Same.new ht
      exact ⟨_, rfl, t, ra, _, _, rfl, rfl, upd_same, s1 _ _ hra, by rw [bys_len]; simp; omega, fun p hp => q _ p upd_same⟩
/-! differ -/
def spPair2 (K : Frag) (due : List Int → List Int → List Int) : Sp := fun vs H Q _ => ∃ (a b : Addr) (ns ms : List Int), vs = [.ref a, .ref b] ∧ SqL K H a (ns.map V.int) ∧ SqL K H b (ms.map V.int) ∧ ns.length ≤ 5000 ∧ ms.length ≤ 5000 ∧ (∀ x ∈ ns, 0 ≤ x) ∧ (∀ x ∈ ms, 0 ≤ x) ∧
  ∀ (H' : Hp) (p : Addr), H' p = some (.lst ((due ns ms).map V.int)) → Q (.ref p) H'
def spDiffer (K : Frag) : Sp := spPair2 K PyKcs7.differ
theorem scDiffer : FnScope ["a", "b", "old", "new"] ["a", "b"] (defScope sDiffer) := ⟨rfl, rfl, rfl, by decide +kernel, rfl, by decide +kernel, by decide +kernel⟩
theorem ok_differ {f : Addr} {fd : FuncData} (F : Fun K "differ" "differ" sDiffer f fd) (T : Tx K mg CC CO CR CN bB bW) (Y : Td K mg CH CD) (dR : DefOk P w K mg base (L2.CX P w) 9 "read_value" ["row"] (spReadValue K CN)) (dC : DefOk P w K mg base CX0 5 "changes_between" ["old", "new"] spChangesBetween)
    (dW : DefOk P w K mg base CX0 3 "written" ["value"] spWritten) (dA : DefOk P w K mg base CX0 1 "answered" ["number", "row"] spAnswered) : FnOk P w K mg base CX0 10 f fd ["a", "b"] (spDiffer K) := by
  obtain ⟨fR, fdR, gR, kR, bR, GR⟩ := dR.ex
  refine F.ok scDiffer (fun vs H Q E h => ?_) (fun cdv A outer s H vs Q E hr h => ?_)
  · obtain ⟨_, _, _, _, rfl, _⟩ := h
    rfl
  · obtain ⟨a, b, ns, ms, rfl, ha, hb, la, lb, pa, pb, q⟩ := h
    have hr1 : Room 1 _ := hr.mono (by decide)
    have hr3 : Room 3 _ := hr.mono (by decide)
    have hr5 : Room 5 _ := hr.mono (by decide)
    refine ⟨_, pss_cons (ps_try_only (tb := fun W => tAsg (tCallS (spReadValue K CN) (WE W) (tCons (tVar 0) tNil)) (gName 2)) (ts := fun _ _ _ => tRet (tLst (tCons (tC (.int (-2))) tNil))) (Wout := fun _ _ _ _ => False) rfl rfl ⟨rfl, by decide, Or.inl T.gCN⟩ takes0
        (fun W pn xe tk _ => pss_one (ps_set (i := 2) scDiffer.nd rfl (Or.inl rfl) (by exact (pe_callS GR hr rfl gR kR bR (fun σ => passAt tk σ) (by exact (pa_cons (pv 0) pa_nil))))))
        (fun _ _ _ _ _ _ _ => pss_one (ps_ret (by exact (pe_lst (pa_cons (pe_const T.gNO1) pa_nil))))))
      (pss_cons (ps_try_only (tb := fun W => tAsg (tCallS (spReadValue K CN) (WE W) (tCons (tVar 1) tNil)) (gName 3)) (ts := fun _ _ _ => tRet (tLst (tCons (tC (.int (-3))) tNil))) (Wout := fun _ _ _ _ => False) rfl rfl ⟨rfl, by decide, Or.inl T.gCN⟩ takes0
        (fun W pn xe tk _ => pss_one (ps_set (i := 3) scDiffer.nd rfl (Or.inl rfl) (by exact (pe_callS GR hr rfl gR kR bR (fun σ => passAt tk σ) (by exact (pa_cons (pv 1) pa_nil))))))
        (fun _ _ _ _ _ _ _ => pss_one (ps_ret (by exact (pe_lst (pa_cons (pe_const Y.gNO2) pa_nil))))))
      (pss_one (ps_ret (pe_def dA hr1 pass0 (pa_cons pe_int (pa_cons (pe_def dW hr3 pass0 (pa_cons (pe_def dC hr5 pass0 (pa_cons (pv 2) (pa_cons (pv 3) pa_nil))) pa_nil)) pa_nil)))))), ?_⟩
    rw [row_nat ns pa] at ha
    rw [row_nat ms pb] at hb
    have kQ : ∀ (H' : Hp) (p : Addr), H' p = some (.lst (ansD (ns.map Int.toNat) (ms.map Int.toNat))) → Q (.ref p) H' := fun H' p hp => q H' p (by rw [hp, ← ansD_is]; rfl)
    unfold ansD at kQ
    refine ⟨_, rfl, a, ns.map Int.toNat, rfl, ha, by rw [List.length_map]; exact la, fun hnone H1 => ?_, fun v hv H1 x hx s1 => ?_⟩
    · rw [hnone] at kQ
      refine ⟨true, T.eN, fun _ a0 _ => ?_, fun z => Bool.noConfusion z⟩
      exact ⟨(by show 1 ≤ sizeLine; decide), fun p hp => kQ _ p upd_same⟩
    obtain ⟨v1, v2, v3⟩ := readM_ok hv
    have v4 := readM_wf hv
    have v5 := readM_bytes hv
    rw [hv] at kQ
    dsimp only at kQ
    refine ⟨_, rfl, b, ms.map Int.toNat, rfl, s1.seq hb, by rw [List.length_map]; exact lb, fun hnone H2 => ?_, fun u hu H2 y hy s2 => ?_⟩
    · rw [hnone] at kQ
      refine ⟨true, T.eN, fun _ a0 _ => ?_, fun z => Bool.noConfusion z⟩
      exact ⟨(by show 1 ≤ sizeLine; decide), fun p hp => kQ _ p upd_same⟩
    obtain ⟨u1, u2, u3⟩ := readM_ok hu
    have u4 := readM_wf hu
    have u5 := readM_bytes hu
    rw [hu] at kQ
    dsimp only at kQ
    have ok0 : OkI ([], some v, some u) := by
      refine ⟨?_, (fun k hk => nomatch hk), fun w hw => ?_, fun w hw => ?_, ?_⟩
      · show 0 + max (Kcs7.depth v) (Kcs7.depth u) ≤ 40
        omega
      · cases hw; exact ⟨v4, v3, v1, v5⟩
      · cases hw; exact ⟨u4, u3, u1, u5⟩
      · show 1 ≤ Kcs7.size v + Kcs7.size u
        have := size_pos v
        omega
    refine ⟨_, rfl, _, rfl, x, y, v, u, rfl, hx.mono (Same.tk s2), hy, ok0, fun H3 z s3 hz hok => ?_⟩
    obtain ⟨n1, n2, n3⟩ := answer_len ⟨v4, v5⟩ ⟨u4, u5⟩ hok
    obtain ⟨c1, c2⟩ := changes_short hok n3
    refine ⟨z, _, rfl, hz, c2, c1, n1, n2, fun H4 p hp s4 h4 => ?_⟩
    exact ⟨0, p, _, rfl, h4, n1, fun H5 r hr5' => kQ H5 r hr5'⟩
end
end Vt

namespace Vt
open PySem PySem.Spec PyProof.Rows L2
open PySem.W (Frag)
/-- what the top has written, to be read off it -/
structure Top (K : Frag) (CC CO CR CN bB bW CH CD : Addr) : Prop where
  gNUMBER : IntIn K "NUMBER" 3
  gTEXT : IntIn K "TEXT" 4
  gLIST : IntIn K "LIST" 5
  gRECORD : IntIn K "RECORD" 6
  gQUOTE : IntIn K "QUOTE" 34
  gCOMMA : IntIn K "COMMA" 44
  gMINUS : IntIn K "MINUS" 45
  gDIGIT_ZERO : IntIn K "DIGIT_ZERO" 48
  gDIGIT_NINE : IntIn K "DIGIT_NINE" 57
  gCOLON : IntIn K "COLON" 58
  gLIST_START : IntIn K "LIST_START" 91
  gBACKSLASH : IntIn K "BACKSLASH" 92
  gLIST_END : IntIn K "LIST_END" 93
  gRECORD_START : IntIn K "RECORD_START" 123
  gRECORD_END : IntIn K "RECORD_END" 125
  gLOWEST : IntIn K "LOWEST_IN_TEXTS" 32
  gHIGHEST : IntIn K "HIGHEST_IN_TEXTS" 126
  gMOST_DIGITS : IntIn K "MOST_DIGITS" 16
  gTOO_LARGE : IntIn K "TOO_LARGE_AMOUNT" 9007199254740992
  gMOST_BYTES : IntIn K "MOST_BYTES" 4096
  gMOST_DEPTH : IntIn K "MOST_DEPTH" 40
  gWANTS_VALUE : IntIn K "WANTS_VALUE" 0
  gWANTS_NAME : IntIn K "WANTS_NAME" 1
  gWANTS_COLON : IntIn K "WANTS_COLON" 2
  gWANTS_COMMA : IntIn K "WANTS_COMMA" 3
  gWANTS_NOTHING : IntIn K "WANTS_NOTHING" 4
  gAS_IT_IS : IntIn K "AS_IT_IS" 7
  gNO1 : IntIn K "NO_FIRST_VALUE" (-2)
  gNO2 : IntIn K "NO_SECOND_VALUE" (-3)
  gTOOL : IntIn K "TOO_LARGE" (-28)
  gMBA : IntIn K "MOST_BYTES_ANSWERED" 65536
  b_len : PySem.W.nsIn K mainGlobals "len" = some none
  b_ord : PySem.W.nsIn K mainGlobals "ord" = some none
  b_tup : PySem.W.nsIn K mainGlobals "tuple" = some none
  b_lst : PySem.W.nsIn K mainGlobals "list" = some none
  b_str : PySem.W.nsIn K mainGlobals "str" = some none
  b_srt : PySem.W.nsIn K mainGlobals "sorted" = some none
  b_enm : PySem.W.nsIn K mainGlobals "enumerate" = some none
  b_rev : PySem.W.nsIn K mainGlobals "reversed" = some none
  b_sm : PySem.W.nsIn K mainGlobals "sum" = some none
  b_mx : PySem.W.nsIn K mainGlobals "max" = some none
  b_st : PySem.W.nsIn K mainGlobals "set" = some none
  b_mn : PySem.W.nsIn K mainGlobals "min" = some none
  b_rng : PySem.W.nsIn K mainGlobals "range" = some none
  nRow : PySem.W.findIn K (.ref CC) "row" = some none
  nPlace : PySem.W.findIn K (.ref CC) "place" = some none
  nKind : PySem.W.findIn K (.ref CO) "kind" = some none
  nListed : PySem.W.findIn K (.ref CO) "listed" = some none
  nFields : PySem.W.findIn K (.ref CO) "fields" = some none
  nName : PySem.W.findIn K (.ref CO) "name" = some none
  nOpened : PySem.W.findIn K (.ref CR) "opened" = some none
  nWhole : PySem.W.findIn K (.ref CR) "whole" = some none
  nWanted : PySem.W.findIn K (.ref CR) "wanted" = some none
  nMay : PySem.W.findIn K (.ref CR) "may_close" = some none
  hRow : PySem.W.findIn K (.ref CH) "row" = some none
  hOld : PySem.W.findIn K (.ref CH) "old" = some none
  hNew : PySem.W.findIn K (.ref CH) "new" = some none
  dRow : PySem.W.findIn K (.ref CD) "row" = some none
  dOld : PySem.W.findIn K (.ref CD) "old" = some none
  dNew : PySem.W.findIn K (.ref CD) "new" = some none
  cCC : ClsIn K "Cursor" CC
  cCO : ClsIn K "Opened" CO
  cCR : ClsIn K "Reading" CR
  cCH : ClsIn K "Change" CH
  cCD : ClsIn K "Compared" CD
  qW : PySem.W.nsIn K mainGlobals "WORDS" = some (some (.ref bW))
  uW : TupK K bW [.str "null", .str "false", .str "true"]
  qB : PySem.W.nsIn K mainGlobals "BLANKS" = some (some (.ref bB))
  uB : TupK K bB [.int 32, .int 9, .int 10, .int 13]
  eaN : PySem.W.nsIn K mainGlobals "NoValue" = some (some (.ref CN))
  exN : PySem.W.excIn K CN [.type "Exception", .type "BaseException", .type "object"] "Exception.__new__" = true
  ekN : PySem.W.keepIn K (.ref CN) = true
  ebN : PySem.W.subIn K (.ref CN) (.type "BaseException") = some true
  etN : PySem.W.typeIn K (.ref CN) = some (.type "type")
  eiN : PySem.W.isClsIn K CN = true
  esN : PySem.W.subIn K (.ref CN) (.ref CN) = some true
  mCI : MetIn K CC "__init__" "Cursor.__init__" sCInit
  mAE : MetIn K CC "at_end" "Cursor.at_end" sAtEnd
  mSg : MetIn K CC "sign" "Cursor.sign" sSign
  mSt : MetIn K CC "step" "Cursor.step" sStep
  mOI : MetIn K CO "__init__" "Opened.__init__" sOInit
  mEn : MetIn K CO "end_sign" "Opened.end_sign" sEndSign
  mFw : MetIn K CO "first_wanted" "Opened.first_wanted" sFirstWanted
  mPn : MetIn K CO "put_name" "Opened.put_name" sPutName
  mPv : MetIn K CO "put_value" "Opened.put_value" sPutValue
  mAs : MetIn K CO "as_value" "Opened.as_value" sAsValue
  mRI : MetIn K CR "__init__" "Reading.__init__" sRInit
  mIn : MetIn K CR "innermost" "Reading.innermost" sInnermost
  mNw : MetIn K CR "now_want" "Reading.now_want" sNowWant
  mBg : MetIn K CR "begin" "Reading.begin" sBegin
  mTk : MetIn K CR "take_value" "Reading.take_value" sTakeValue
  mCl : MetIn K CR "close_innermost" "Reading.close_innermost" sCloseInnermost
  mHI : MetIn K CH "__init__" "Change.__init__" sHInit
  mMI : MetIn K CD "__init__" "Compared.__init__" sMInit
  mBA : MetIn K CD "both_are" "Compared.both_are" sBothAre
  mDe : MetIn K CD "deeper" "Compared.deeper" sDeeper
  dMW : DefIn K "make_word" sMakeWord
  dMN : DefIn K "make_number" sMakeNumber
  dMT : DefIn K "make_text" sMakeText
  dML : DefIn K "make_list" sMakeList
  dMR : DefIn K "make_record" sMakeRecord
  dBo : DefIn K "bytes_of" sBytesOf
  dSb : DefIn K "skip_blanks" sSkipBlanks
  dSw : DefIn K "skip_word" sSkipWord
  dId : DefIn K "is_digit" sIsDigit
  dRd : DefIn K "read_digits" sReadDigits
  dRa : DefIn K "read_amount" sReadAmount
  dRn : DefIn K "read_number" sReadNumber
  dTb : DefIn K "read_text_byte" sReadTextByte
  dRt : DefIn K "read_text" sReadText
  dRs : DefIn K "read_single" sReadSingle
  dRi : DefIn K "read_into_value" sReadIntoValue
  dNm : DefIn K "read_name" sReadName
  dBt : DefIn K "read_between" sReadBetween
  dNx : DefIn K "read_next" sReadNext
  dRv : DefIn K "read_value" sReadValue
  dWt : DefIn K "written_text" sWrittenText
  dPl : DefIn K "pieces_of_list" sPiecesOfList
  dPr : DefIn K "pieces_of_record" sPiecesOfRecord
  dWs : DefIn K "written_single" sWrittenSingle
  dWr : DefIn K "written" sWritten
  dFo : DefIn K "field_of" sFieldOf
  dNo : DefIn K "name_of" sNameOf
  dCv : DefIn K "change_value" sChangeValue
  dCf : DefIn K "compared_fields" sComparedFields
  dCp : DefIn K "compared_places" sComparedPlaces
  dCb : DefIn K "changes_between" sChangesBetween
  dAn : DefIn K "answered" sAnswered
section
variable {P : Program} {w : World} {K : Frag} {mg : Str → Option Value} {h : Heap} {CC CO CR CN bB bW CH CD : Addr}
theorem Top.tx (o : Top K CC CO CR CN bB bW CH CD) (X : K.In h) (G : h.Ns mainGlobals mg) : Tx K mg CC CO CR CN bB bW where
  gNUMBER := o.gNUMBER.gc X G
  gTEXT := o.gTEXT.gc X G
  gLIST := o.gLIST.gc X G
  gRECORD := o.gRECORD.gc X G
  gQUOTE := o.gQUOTE.gc X G
  gCOMMA := o.gCOMMA.gc X G
  gMINUS := o.gMINUS.gc X G
  gDIGIT_ZERO := o.gDIGIT_ZERO.gc X G
  gDIGIT_NINE := o.gDIGIT_NINE.gc X G
  gCOLON := o.gCOLON.gc X G
  gLIST_START := o.gLIST_START.gc X G
  gBACKSLASH := o.gBACKSLASH.gc X G
  gLIST_END := o.gLIST_END.gc X G
  gRECORD_START := o.gRECORD_START.gc X G
  gRECORD_END := o.gRECORD_END.gc X G
  gLOWEST := o.gLOWEST.gc X G
  gHIGHEST := o.gHIGHEST.gc X G
  gMOST_DIGITS := o.gMOST_DIGITS.gc X G
  gTOO_LARGE := o.gTOO_LARGE.gc X G
  gMOST_BYTES := o.gMOST_BYTES.gc X G
  gMOST_DEPTH := o.gMOST_DEPTH.gc X G
  gWANTS_VALUE := o.gWANTS_VALUE.gc X G
  gWANTS_NAME := o.gWANTS_NAME.gc X G
  gWANTS_COLON := o.gWANTS_COLON.gc X G
  gWANTS_COMMA := o.gWANTS_COMMA.gc X G
  gWANTS_NOTHING := o.gWANTS_NOTHING.gc X G
  gAS_IT_IS := o.gAS_IT_IS.gc X G
  gNO1 := o.gNO1.gc X G
  len := PySem.W.mg_none_of X G o.b_len
  ord := PySem.W.mg_none_of X G o.b_ord
  tup := PySem.W.mg_none_of X G o.b_tup
  lst := PySem.W.mg_none_of X G o.b_lst
  str := PySem.W.mg_none_of X G o.b_str
  srt := PySem.W.mg_none_of X G o.b_srt
  enm := PySem.W.mg_none_of X G o.b_enm
  rev := PySem.W.mg_none_of X G o.b_rev
  sm := PySem.W.mg_none_of X G o.b_sm
  mx := PySem.W.mg_none_of X G o.b_mx
  nRow := o.nRow
  nPlace := o.nPlace
  nKind := o.nKind
  nListed := o.nListed
  nFields := o.nFields
  nName := o.nName
  nOpened := o.nOpened
  nWhole := o.nWhole
  nWanted := o.nWanted
  nMay := o.nMay
  gWORDS := ⟨_, PySem.W.mg_of X G o.qW, rfl⟩
  tWORDS := o.uW
  gBLANKS := ⟨_, PySem.W.mg_of X G o.qB, rfl⟩
  tBLANKS := o.uB
  cC := o.cCC.cl
  gCC := PySem.W.mg_of X G o.cCC.a
  cO := o.cCO.cl
  gCO := PySem.W.mg_of X G o.cCO.a
  cR := o.cCR.cl
  gCR := PySem.W.mg_of X G o.cCR.a
  gCN := PySem.W.mg_of X G o.eaN
  xN := o.exN
  kN := o.ekN
  bN := o.ebN
  tN := o.etN
  eN := exm_self o.ebN o.eiN o.etN o.esN
theorem Top.ty (o : Top K CC CO CR CN bB bW CH CD) (X : K.In h) (G : h.Ns mainGlobals mg) : Td K mg CH CD where
  gNO2 := o.gNO2.gc X G
  gTOOL := o.gTOOL.gc X G
  gMBA := o.gMBA.gc X G
  st := PySem.W.mg_none_of X G o.b_st
  mn := PySem.W.mg_none_of X G o.b_mn
  rng := PySem.W.mg_none_of X G o.b_rng
  hRow := o.hRow
  hOld := o.hOld
  hNew := o.hNew
  dRow := o.dRow
  dOld := o.dOld
  dNew := o.dNew
  cH := o.cCH.cl
  gCH := PySem.W.mg_of X G o.cCH.a
  cD := o.cCD.cl
  gCD := PySem.W.mg_of X G o.cCD.a
theorem all_mk {fa fF : Addr} (o : Top K CC CO CR CN bB bW CH CD) (X : K.In h) (G : h.Ns mainGlobals mg) (hfa : mg "differ" = some (.ref fa)) {odF anF : Option Addr} {slF : Array (Option Value)} {ocF kVF dcF pmF cdF ctF : Value}
    (aF : PySem.W.nsIn K mainGlobals "differ" = some (some (.ref fF))) (lF : K.lookup fF = some ⟨ocF, odF, .func (PySem.W.fnOf "differ" "differ" (defArgs sDiffer) (defBody sDiffer) (defScope sDiffer) .none kVF dcF pmF anF cdF ctF), slF⟩) (cF : PySem.W.codeIn K cdF "differ" = true) (kF : PySem.W.keepIn K (.ref fF) = true) :
    ∃ fd : FuncData, (∀ (s : Shared) (us : List Value), us.length = (["a", "b"] : List Str).length → BindsTo s fd ⟨us, []⟩ ((["a", "b"] : List Str).zip us)) ∧ ∀ base : Heap, K.In base → base.Ns mainGlobals mg → FnOk P w K mg base CX0 10 fa fd ["a", "b"] (spDiffer K) := by
  have e := hfa.symm.trans (PySem.W.mg_of X G aF)
  cases e
  have FF := fun_mk (st := sDiffer) lF cF kF
  refine ⟨PySem.W.fnOf "differ" "differ" (defArgs sDiffer) (defBody sDiffer) (defScope sDiffer) .none kVF dcF pmF anF cdF ctF, fun s us hu => match us, hu with | [_, _], _ => .of_eq rfl, fun base _ _ => ?_⟩
  have T := o.tx X G
  have Y := o.ty X G
  have r_dMW : DefOk P w K mg base CX0 1 "make_word" ["kind"] spMakeWord := o.dMW.ok X G (fun f fd F => F.binds (ps := ["kind"]) fun _ _ _ _ _ _ us hl => match us, hl with | [_], _ => rfl) (fun f fd F => ok_makeWord F)
  have r_dMN : DefOk P w K mg base CX0 1 "make_number" ["amount"] spMakeNumber := o.dMN.ok X G (fun f fd F => F.binds (ps := ["amount"]) fun _ _ _ _ _ _ us hl => match us, hl with | [_], _ => rfl) (fun f fd F => ok_makeNumber F T)
  have r_dMT : DefOk P w K mg base CX0 1 "make_text" ["signs"] spMakeText := o.dMT.ok X G (fun f fd F => F.binds (ps := ["signs"]) fun _ _ _ _ _ _ us hl => match us, hl with | [_], _ => rfl) (fun f fd F => ok_makeText F T)
  have r_dML : DefOk P w K mg base CX0 1 "make_list" ["inner"] spMakeList := o.dML.ok X G (fun f fd F => F.binds (ps := ["inner"]) fun _ _ _ _ _ _ us hl => match us, hl with | [_], _ => rfl) (fun f fd F => ok_makeList F T)
  have r_dMR : DefOk P w K mg base CX0 1 "make_record" ["fields"] spMakeRecord := o.dMR.ok X G (fun f fd F => F.binds (ps := ["fields"]) fun _ _ _ _ _ _ us hl => match us, hl with | [_], _ => rfl) (fun f fd F => ok_makeRecord F T)
  have r_mCI : MkOk P w K mg base 1 CC ["self", "row"] (spCInit CC) := o.mCI.maker o.cCC (fun f fd F => F.binds (ps := ["self", "row"]) fun _ _ _ _ _ _ us hl => match us, hl with | [_, _], _ => rfl) (fun f fd F => ok_cinit F T)
  have r_mAE : MetOk P w K mg base CX0 1 CC "at_end" ["self"] (spAtEnd K CC) := o.mAE.ok (fun f fd F => F.binds (ps := ["self"]) fun _ _ _ _ _ _ us hl => match us, hl with | [_], _ => rfl) (fun f fd F => ok_atEnd F T)
  have r_mSg : MetOk P w K mg base CX0 2 CC "sign" ["self"] (spSign K CC) := o.mSg.ok (fun f fd F => F.binds (ps := ["self"]) fun _ _ _ _ _ _ us hl => match us, hl with | [_], _ => rfl) (fun f fd F => ok_sign F T r_mAE)
  have r_mSt : MetOk P w K mg base CX0 1 CC "step" ["self"] (spStep K CC) := o.mSt.ok (fun f fd F => F.binds (ps := ["self"]) fun _ _ _ _ _ _ us hl => match us, hl with | [_], _ => rfl) (fun f fd F => ok_step F T)
  have r_mOI : MkOk P w K mg base 1 CO ["self", "kind"] (spOInit CO) := o.mOI.maker o.cCO (fun f fd F => F.binds (ps := ["self", "kind"]) fun _ _ _ _ _ _ us hl => match us, hl with | [_, _], _ => rfl) (fun f fd F => ok_oinit F T)
  have r_mEn : MetOk P w K mg base CX0 1 CO "end_sign" ["self"] (spEndSign CO) := o.mEn.ok (fun f fd F => F.binds (ps := ["self"]) fun _ _ _ _ _ _ us hl => match us, hl with | [_], _ => rfl) (fun f fd F => ok_endSign F T)
  have r_mFw : MetOk P w K mg base CX0 1 CO "first_wanted" ["self"] (spFirstWanted CO) := o.mFw.ok (fun f fd F => F.binds (ps := ["self"]) fun _ _ _ _ _ _ us hl => match us, hl with | [_], _ => rfl) (fun f fd F => ok_firstWanted F T)
  have r_mPn : MetOk P w K mg base (L2.CX P w) 1 CO "put_name" ["self", "name"] (spPutName CO CN) := o.mPn.ok (fun f fd F => F.binds (ps := ["self", "name"]) fun _ _ _ _ _ _ us hl => match us, hl with | [_, _], _ => rfl) (fun f fd F => ok_putName F T)
  have r_mPv : MetOk P w K mg base CX0 1 CO "put_value" ["self", "value"] (spPutValue CO) := o.mPv.ok (fun f fd F => F.binds (ps := ["self", "value"]) fun _ _ _ _ _ _ us hl => match us, hl with | [_, _], _ => rfl) (fun f fd F => ok_putValue F T)
  have r_mAs : MetOk P w K mg base CX0 2 CO "as_value" ["self"] (spAsValue CO) := o.mAs.ok (fun f fd F => F.binds (ps := ["self"]) fun _ _ _ _ _ _ us hl => match us, hl with | [_], _ => rfl) (fun f fd F => ok_asValue F T r_dML r_dMR)
  have r_mRI : MkOk P w K mg base 1 CR ["self"] (spRInit CR) := o.mRI.maker o.cCR (fun f fd F => F.binds (ps := ["self"]) fun _ _ _ _ _ _ us hl => match us, hl with | [_], _ => rfl) (fun f fd F => ok_rinit F T)
  have r_mIn : MetOk P w K mg base CX0 1 CR "innermost" ["self"] (spInnermost CR) := o.mIn.ok (fun f fd F => F.binds (ps := ["self"]) fun _ _ _ _ _ _ us hl => match us, hl with | [_], _ => rfl) (fun f fd F => ok_innermost F T)
  have r_mNw : MetOk P w K mg base CX0 1 CR "now_want" ["self", "wanted", "may_close"] (spNowWant CR) := o.mNw.ok (fun f fd F => F.binds (ps := ["self", "wanted", "may_close"]) fun _ _ _ _ _ _ us hl => match us, hl with | [_, _, _], _ => rfl) (fun f fd F => ok_nowWant F T)
  have r_mBg : MetOk P w K mg base (L2.CX P w) 3 CR "begin" ["self", "kind"] (spBegin CO CR CN) := o.mBg.ok (fun f fd F => F.binds (ps := ["self", "kind"]) fun _ _ _ _ _ _ us hl => match us, hl with | [_, _], _ => rfl) (fun f fd F => ok_begin F T r_mIn r_mFw r_mNw r_mOI)
  have r_mTk : MetOk P w K mg base CX0 2 CR "take_value" ["self", "value"] (spTakeValue CO CR) := o.mTk.ok (fun f fd F => F.binds (ps := ["self", "value"]) fun _ _ _ _ _ _ us hl => match us, hl with | [_, _], _ => rfl) (fun f fd F => ok_takeValue F T r_mIn r_mPv r_mNw)
  have r_mCl : MetOk P w K mg base CX0 3 CR "close_innermost" ["self"] (spClose CO CR) := o.mCl.ok (fun f fd F => F.binds (ps := ["self"]) fun _ _ _ _ _ _ us hl => match us, hl with | [_], _ => rfl) (fun f fd F => ok_close F T r_mTk r_mAs)
  have r_dBo : DefOk P w K mg base CX0 1 "bytes_of" ["text"] spBytesOf := o.dBo.ok X G (fun f fd F => F.binds (ps := ["text"]) fun _ _ _ _ _ _ us hl => match us, hl with | [_], _ => rfl) (fun f fd F => ok_bytesOf F T)
  have r_dSb : DefOk P w K mg base CX0 3 "skip_blanks" ["cursor"] (spSkipBlanks K CC) := o.dSb.ok X G (fun f fd F => F.binds (ps := ["cursor"]) fun _ _ _ _ _ _ us hl => match us, hl with | [_], _ => rfl) (fun f fd F => ok_skipBlanks F T r_mSg r_mSt)
  have r_dSw : DefOk P w K mg base (L2.CX P w) 3 "skip_word" ["cursor", "word"] (spSkipWord K CC CN) := o.dSw.ok X G (fun f fd F => F.binds (ps := ["cursor", "word"]) fun _ _ _ _ _ _ us hl => match us, hl with | [_, _], _ => rfl) (fun f fd F => ok_skipWord F T r_dBo r_mSg r_mSt)
  have r_dId : DefOk P w K mg base CX0 1 "is_digit" ["sign"] spIsDigit := o.dId.ok X G (fun f fd F => F.binds (ps := ["sign"]) fun _ _ _ _ _ _ us hl => match us, hl with | [_], _ => rfl) (fun f fd F => ok_isDigit F T)
  have r_dRd : DefOk P w K mg base CX0 3 "read_digits" ["cursor"] (spReadDigits K CC) := o.dRd.ok X G (fun f fd F => F.binds (ps := ["cursor"]) fun _ _ _ _ _ _ us hl => match us, hl with | [_], _ => rfl) (fun f fd F => ok_readDigits F T r_dId r_mSg r_mSt)
  have r_dRa : DefOk P w K mg base (L2.CX P w) 4 "read_amount" ["cursor"] (spReadAmount K CC CN) := o.dRa.ok X G (fun f fd F => F.binds (ps := ["cursor"]) fun _ _ _ _ _ _ us hl => match us, hl with | [_], _ => rfl) (fun f fd F => ok_readAmount F T r_dRd)
  have r_dRn : DefOk P w K mg base (L2.CX P w) 5 "read_number" ["cursor"] (spReadNumber K CC CN) := o.dRn.ok X G (fun f fd F => F.binds (ps := ["cursor"]) fun _ _ _ _ _ _ us hl => match us, hl with | [_], _ => rfl) (fun f fd F => ok_readNumber F T r_dRa r_dSb r_mSg r_mSt)
  have r_dTb : DefOk P w K mg base (L2.CX P w) 3 "read_text_byte" ["cursor"] (spReadTextByte K CC CN) := o.dTb.ok X G (fun f fd F => F.binds (ps := ["cursor"]) fun _ _ _ _ _ _ us hl => match us, hl with | [_], _ => rfl) (fun f fd F => ok_readTextByte F T r_mSg r_mSt)
  have r_dRt : DefOk P w K mg base (L2.CX P w) 4 "read_text" ["cursor"] (spReadText K CC CN) := o.dRt.ok X G (fun f fd F => F.binds (ps := ["cursor"]) fun _ _ _ _ _ _ us hl => match us, hl with | [_], _ => rfl) (fun f fd F => ok_readText F T r_dTb r_mSg r_mSt)
  have r_dRs : DefOk P w K mg base (L2.CX P w) 6 "read_single" ["cursor"] (spReadSingle K CC CN) := o.dRs.ok X G (fun f fd F => F.binds (ps := ["cursor"]) fun _ _ _ _ _ _ us hl => match us, hl with | [_], _ => rfl) (fun f fd F => ok_readSingle F T r_dRt r_dSw r_dRn r_mSg r_dMW r_dMN r_dMT)
  have r_dRi : DefOk P w K mg base (L2.CX P w) 7 "read_into_value" ["cursor", "reading"] (spReadInto K CC CO CR CN) := o.dRi.ok X G (fun f fd F => F.binds (ps := ["cursor", "reading"]) fun _ _ _ _ _ _ us hl => match us, hl with | [_, _], _ => rfl) (fun f fd F => ok_readInto F T r_dRs r_mBg r_mTk r_mSg r_mSt)
  have r_dNm : DefOk P w K mg base (L2.CX P w) 5 "read_name" ["cursor", "reading"] (spReadName K CC CO CR CN) := o.dNm.ok X G (fun f fd F => F.binds (ps := ["cursor", "reading"]) fun _ _ _ _ _ _ us hl => match us, hl with | [_, _], _ => rfl) (fun f fd F => ok_readName F T r_dRt r_mIn r_mPn r_mNw)
  have r_dBt : DefOk P w K mg base (L2.CX P w) 3 "read_between" ["cursor", "reading", "sign", "wanted"] (spReadBetween K CC CO CR CN) := o.dBt.ok X G (fun f fd F => F.binds (ps := ["cursor", "reading", "sign", "wanted"]) fun _ _ _ _ _ _ us hl => match us, hl with | [_, _, _, _], _ => rfl) (fun f fd F => ok_readBetween F T r_mNw r_mSg r_mSt)
  have r_dNx : DefOk P w K mg base (L2.CX P w) 8 "read_next" ["cursor", "reading"] (spReadNext K CC CO CR CN) := o.dNx.ok X G (fun f fd F => F.binds (ps := ["cursor", "reading"]) fun _ _ _ _ _ _ us hl => match us, hl with | [_, _], _ => rfl) (fun f fd F => ok_readNext F T r_dRi r_dNm r_dBt r_mCl r_mIn r_mEn r_mFw r_mSg r_mSt)
  have r_dRv : DefOk P w K mg base (L2.CX P w) 9 "read_value" ["row"] (spReadValue K CN) := o.dRv.ok X G (fun f fd F => F.binds (ps := ["row"]) fun _ _ _ _ _ _ us hl => match us, hl with | [_], _ => rfl) (fun f fd F => ok_readValue F T r_dNx r_dSb r_mAE r_mCI r_mRI)
  have r_dWt : DefOk P w K mg base CX0 1 "written_text" ["text"] spWrittenText := o.dWt.ok X G (fun f fd F => F.binds (ps := ["text"]) fun _ _ _ _ _ _ us hl => match us, hl with | [_], _ => rfl) (fun f fd F => ok_writtenText F T)
  have r_dPl : DefOk P w K mg base CX0 1 "pieces_of_list" ["listed"] spPiecesL := o.dPl.ok X G (fun f fd F => F.binds (ps := ["listed"]) fun _ _ _ _ _ _ us hl => match us, hl with | [_], _ => rfl) (fun f fd F => ok_piecesL F T)
  have r_dPr : DefOk P w K mg base CX0 1 "pieces_of_record" ["fields"] spPiecesR := o.dPr.ok X G (fun f fd F => F.binds (ps := ["fields"]) fun _ _ _ _ _ _ us hl => match us, hl with | [_], _ => rfl) (fun f fd F => ok_piecesR F T)
  have r_dWs : DefOk P w K mg base CX0 2 "written_single" ["kind", "held"] spWrittenSingle := o.dWs.ok X G (fun f fd F => F.binds (ps := ["kind", "held"]) fun _ _ _ _ _ _ us hl => match us, hl with | [_, _], _ => rfl) (fun f fd F => ok_writtenSingle F T r_dBo r_dWt)
  have r_dWr : DefOk P w K mg base CX0 3 "written" ["value"] spWritten := o.dWr.ok X G (fun f fd F => F.binds (ps := ["value"]) fun _ _ _ _ _ _ us hl => match us, hl with | [_], _ => rfl) (fun f fd F => ok_written F T r_dPl r_dPr r_dWs)
  have r_mHI : MkOk P w K mg base 1 CH ["self", "row", "old", "new"] (spHInit CH) := o.mHI.maker o.cCH (fun f fd F => F.binds (ps := ["self", "row", "old", "new"]) fun _ _ _ _ _ _ us hl => match us, hl with | [_, _, _, _], _ => rfl) (fun f fd F => ok_hinit F Y)
  have r_mMI : MkOk P w K mg base 1 CD ["self", "row", "old", "new"] (spMInit CD) := o.mMI.maker o.cCD (fun f fd F => F.binds (ps := ["self", "row", "old", "new"]) fun _ _ _ _ _ _ us hl => match us, hl with | [_, _, _, _], _ => rfl) (fun f fd F => ok_minit F Y)
  have r_mBA : MetOk P w K mg base CX0 1 CD "both_are" ["self", "kind"] (spBothAre CD) := o.mBA.ok (fun f fd F => F.binds (ps := ["self", "kind"]) fun _ _ _ _ _ _ us hl => match us, hl with | [_, _], _ => rfl) (fun f fd F => ok_bothAre F Y)
  have r_mDe : MetOk P w K mg base CX0 3 CD "deeper" ["self", "key", "old", "new"] (spDeeper CD) := o.mDe.ok (fun f fd F => F.binds (ps := ["self", "key", "old", "new"]) fun _ _ _ _ _ _ us hl => match us, hl with | [_, _, _, _], _ => rfl) (fun f fd F => ok_deeper F Y r_mMI)
  have r_dFo : DefOk P w K mg base CX0 1 "field_of" ["fields", "name"] spFieldOf := o.dFo.ok X G (fun f fd F => F.binds (ps := ["fields", "name"]) fun _ _ _ _ _ _ us hl => match us, hl with | [_, _], _ => rfl) (fun f fd F => ok_fieldOf F T)
  have r_dNo : DefOk P w K mg base CX0 2 "name_of" ["word"] spNameOf := o.dNo.ok X G (fun f fd F => F.binds (ps := ["word"]) fun _ _ _ _ _ _ us hl => match us, hl with | [_], _ => rfl) (fun f fd F => ok_nameOf F T r_dBo)
  have r_dCv : DefOk P w K mg base CX0 3 "change_value" ["change"] (spChangeValue CH) := o.dCv.ok X G (fun f fd F => F.binds (ps := ["change"]) fun _ _ _ _ _ _ us hl => match us, hl with | [_], _ => rfl) (fun f fd F => ok_changeValue F T Y r_dNo r_dML r_dMR)
  have r_dCf : DefOk P w K mg base CX0 4 "compared_fields" ["compared"] (spComparedFields CD) := o.dCf.ok X G (fun f fd F => F.binds (ps := ["compared"]) fun _ _ _ _ _ _ us hl => match us, hl with | [_], _ => rfl) (fun f fd F => ok_comparedFields F T Y r_dMT r_dFo r_mDe)
  have r_dCp : DefOk P w K mg base CX0 4 "compared_places" ["compared"] (spComparedPlaces CD) := o.dCp.ok X G (fun f fd F => F.binds (ps := ["compared"]) fun _ _ _ _ _ _ us hl => match us, hl with | [_], _ => rfl) (fun f fd F => ok_comparedPlaces F T Y r_dMN r_mDe)
  have r_dCb : DefOk P w K mg base CX0 5 "changes_between" ["old", "new"] spChangesBetween := o.dCb.ok X G (fun f fd F => F.binds (ps := ["old", "new"]) fun _ _ _ _ _ _ us hl => match us, hl with | [_, _], _ => rfl) (fun f fd F => ok_changesBetween F T Y r_mHI r_mMI r_mBA r_dCf r_dCp r_dCv r_dML)
  have r_dAn : DefOk P w K mg base CX0 1 "answered" ["number", "row"] spAnswered := o.dAn.ok X G (fun f fd F => F.binds (ps := ["number", "row"]) fun _ _ _ _ _ _ us hl => match us, hl with | [_, _], _ => rfl) (fun f fd F => ok_answered F T Y)
  exact ok_differ FF T Y r_dRv r_dCb r_dWr r_dAn
end
end Vt

namespace Vt
open PySem PySem.Spec PyProof.Rows L2
open PySem.W (Frag)
theorem TupK.words {K : Frag} {a : Addr} {od : Option Addr} {t1 t2 t3 : Tok} {n : Nat} {sl : Array (Option Value)} (l : K.lookup a = some ⟨.type "tuple", od, .seq #[.str "null" t1, .str "false" t2, .str "true" t3] n, sl⟩) : TupK K a [.str "null", .str "false", .str "true"] :=
  ⟨_, _, _, l, rfl, rfl, (by show 3 ≤ sizeLine; decide), .cons ⟨_, rfl⟩ (.cons ⟨_, rfl⟩ (.cons ⟨_, rfl⟩ .nil))⟩
theorem TupK.blanks {K : Frag} {a : Addr} {od : Option Addr} {t1 t2 t3 t4 : Tok} {n : Nat} {sl : Array (Option Value)} (l : K.lookup a = some ⟨.type "tuple", od, .seq #[.int 32 t1, .int 9 t2, .int 10 t3, .int 13 t4] n, sl⟩) : TupK K a [.int 32, .int 9, .int 10, .int 13] :=
  ⟨_, _, _, l, rfl, rfl, (by show 4 ≤ sizeLine; decide), .cons ⟨_, rfl⟩ (.cons ⟨_, rfl⟩ (.cons ⟨_, rfl⟩ (.cons ⟨_, rfl⟩ .nil)))⟩
end Vt
open PySem PySem.W PyProof.Rows
set_option maxRecDepth 100000 in
set_option maxHeartbeats 16000000 in
theorem PySem.Challenge.cw_valuetwigs_s03_differ_holds : PySem.Challenge.rw_valuetwigs_s03_differ.Holds := by
  w_on; k_headS; (case hw => exact ⟨[.list [], .list []], by decide +kernel, by decide +kernel⟩)
  k_fillS
  refine L2.walk_specK (r := PySem.Challenge.rw_valuetwigs_s03_differ) (k := 10) (CX := L2.CX0) (ps := ["a", "b"]) (sp := Vt.spDiffer) (by decide +kernel) rfl rfl ⟨rfl, by decide, by decide⟩ (fun w h Y => PySem.W.kIn_of Y) ?F ?S (fun _ _ _ _ z => z)
  case F =>
    intro w mg fa h Y KX G hmg
    refine' Vt.all_mk {
      gNUMBER := .of ?q_gNUMBER,
      gTEXT := .of ?q_gTEXT,
      gLIST := .of ?q_gLIST,
      gRECORD := .of ?q_gRECORD,
      gQUOTE := .of ?q_gQUOTE,
      gCOMMA := .of ?q_gCOMMA,
      gMINUS := .of ?q_gMINUS,
      gDIGIT_ZERO := .of ?q_gDIGIT_ZERO,
      gDIGIT_NINE := .of ?q_gDIGIT_NINE,
      gCOLON := .of ?q_gCOLON,
      gLIST_START := .of ?q_gLIST_START,
      gBACKSLASH := .of ?q_gBACKSLASH,
      gLIST_END := .of ?q_gLIST_END,
      gRECORD_START := .of ?q_gRECORD_START,
      gRECORD_END := .of ?q_gRECORD_END,
      gLOWEST := .of ?q_gLOWEST,
      gHIGHEST := .of ?q_gHIGHEST,
      gMOST_DIGITS := .of ?q_gMOST_DIGITS,
      gTOO_LARGE := .of ?q_gTOO_LARGE,
      gMOST_BYTES := .of ?q_gMOST_BYTES,
      gMOST_DEPTH := .of ?q_gMOST_DEPTH,
      gWANTS_VALUE := .of ?q_gWANTS_VALUE,
      gWANTS_NAME := .of ?q_gWANTS_NAME,
      gWANTS_COLON := .of ?q_gWANTS_COLON,
      gWANTS_COMMA := .of ?q_gWANTS_COMMA,
      gWANTS_NOTHING := .of ?q_gWANTS_NOTHING,
      gAS_IT_IS := .of ?q_gAS_IT_IS,
      gNO1 := .of ?q_gNO1,
      gNO2 := .of ?q_gNO2,
      gTOOL := .of ?q_gTOOL,
      gMBA := .of ?q_gMBA,
      b_len := ?z_len,
      b_ord := ?z_ord,
      b_tup := ?z_tup,
      b_lst := ?z_lst,
      b_str := ?z_str,
      b_srt := ?z_srt,
      b_enm := ?z_enm,
      b_rev := ?z_rev,
      b_sm := ?z_sm,
      b_mx := ?z_mx,
      b_st := ?z_st,
      b_mn := ?z_mn,
      b_rng := ?z_rng,
      cCC := .of ?ca_CC ?cpg_CC ?chd_CC ?cpo_CC ?csa_CC ?cmk_CC ?ckc_CC,
      cCO := .of ?ca_CO ?cpg_CO ?chd_CO ?cpo_CO ?csa_CO ?cmk_CO ?ckc_CO,
      cCR := .of ?ca_CR ?cpg_CR ?chd_CR ?cpo_CR ?csa_CR ?cmk_CR ?ckc_CR,
      cCH := .of ?ca_CH ?cpg_CH ?chd_CH ?cpo_CH ?csa_CH ?cmk_CH ?ckc_CH,
      cCD := .of ?ca_CD ?cpg_CD ?chd_CD ?cpo_CD ?csa_CD ?cmk_CD ?ckc_CD,
      nRow := ?n_nRow,
      nPlace := ?n_nPlace,
      nKind := ?n_nKind,
      nListed := ?n_nListed,
      nFields := ?n_nFields,
      nName := ?n_nName,
      nOpened := ?n_nOpened,
      nWhole := ?n_nWhole,
      nWanted := ?n_nWanted,
      nMay := ?n_nMay,
      hRow := ?n_hRow,
      hOld := ?n_hOld,
      hNew := ?n_hNew,
      dRow := ?n_dRow,
      dOld := ?n_dOld,
      dNew := ?n_dNew,
      qW := ?w_a,
      uW := .words ?w_l,
      qB := ?b_a,
      uB := .blanks ?b_l,
      eaN := ?e_aN,
      exN := ?e_xN,
      ekN := ?e_kN,
      ebN := ?e_bN,
      etN := ?e_tN,
      eiN := ?e_iN,
      esN := ?e_sN,
      mCI := .of ?a_mCI ?i_mCI ?l_mCI ?c_mCI ?k_mCI,
      mAE := .of ?a_mAE ?i_mAE ?l_mAE ?c_mAE ?k_mAE,
      mSg := .of ?a_mSg ?i_mSg ?l_mSg ?c_mSg ?k_mSg,
      mSt := .of ?a_mSt ?i_mSt ?l_mSt ?c_mSt ?k_mSt,
      mOI := .of ?a_mOI ?i_mOI ?l_mOI ?c_mOI ?k_mOI,
      mEn := .of ?a_mEn ?i_mEn ?l_mEn ?c_mEn ?k_mEn,
      mFw := .of ?a_mFw ?i_mFw ?l_mFw ?c_mFw ?k_mFw,
      mPn := .of ?a_mPn ?i_mPn ?l_mPn ?c_mPn ?k_mPn,
      mPv := .of ?a_mPv ?i_mPv ?l_mPv ?c_mPv ?k_mPv,
      mAs := .of ?a_mAs ?i_mAs ?l_mAs ?c_mAs ?k_mAs,
      mRI := .of ?a_mRI ?i_mRI ?l_mRI ?c_mRI ?k_mRI,
      mIn := .of ?a_mIn ?i_mIn ?l_mIn ?c_mIn ?k_mIn,
      mNw := .of ?a_mNw ?i_mNw ?l_mNw ?c_mNw ?k_mNw,
      mBg := .of ?a_mBg ?i_mBg ?l_mBg ?c_mBg ?k_mBg,
      mTk := .of ?a_mTk ?i_mTk ?l_mTk ?c_mTk ?k_mTk,
      mCl := .of ?a_mCl ?i_mCl ?l_mCl ?c_mCl ?k_mCl,
      mHI := .of ?a_mHI ?i_mHI ?l_mHI ?c_mHI ?k_mHI,
      mMI := .of ?a_mMI ?i_mMI ?l_mMI ?c_mMI ?k_mMI,
      mBA := .of ?a_mBA ?i_mBA ?l_mBA ?c_mBA ?k_mBA,
      mDe := .of ?a_mDe ?i_mDe ?l_mDe ?c_mDe ?k_mDe,
      dMW := .of ?a_dMW ?l_dMW ?c_dMW ?k_dMW,
      dMN := .of ?a_dMN ?l_dMN ?c_dMN ?k_dMN,
      dMT := .of ?a_dMT ?l_dMT ?c_dMT ?k_dMT,
      dML := .of ?a_dML ?l_dML ?c_dML ?k_dML,
      dMR := .of ?a_dMR ?l_dMR ?c_dMR ?k_dMR,
      dBo := .of ?a_dBo ?l_dBo ?c_dBo ?k_dBo,
      dSb := .of ?a_dSb ?l_dSb ?c_dSb ?k_dSb,
      dSw := .of ?a_dSw ?l_dSw ?c_dSw ?k_dSw,
      dId := .of ?a_dId ?l_dId ?c_dId ?k_dId,
      dRd := .of ?a_dRd ?l_dRd ?c_dRd ?k_dRd,
      dRa := .of ?a_dRa ?l_dRa ?c_dRa ?k_dRa,
      dRn := .of ?a_dRn ?l_dRn ?c_dRn ?k_dRn,
      dTb := .of ?a_dTb ?l_dTb ?c_dTb ?k_dTb,
      dRt := .of ?a_dRt ?l_dRt ?c_dRt ?k_dRt,
      dRs := .of ?a_dRs ?l_dRs ?c_dRs ?k_dRs,
      dRi := .of ?a_dRi ?l_dRi ?c_dRi ?k_dRi,
      dNm := .of ?a_dNm ?l_dNm ?c_dNm ?k_dNm,
      dBt := .of ?a_dBt ?l_dBt ?c_dBt ?k_dBt,
      dNx := .of ?a_dNx ?l_dNx ?c_dNx ?k_dNx,
      dRv := .of ?a_dRv ?l_dRv ?c_dRv ?k_dRv,
      dWt := .of ?a_dWt ?l_dWt ?c_dWt ?k_dWt,
      dPl := .of ?a_dPl ?l_dPl ?c_dPl ?k_dPl,
      dPr := .of ?a_dPr ?l_dPr ?c_dPr ?k_dPr,
      dWs := .of ?a_dWs ?l_dWs ?c_dWs ?k_dWs,
      dWr := .of ?a_dWr ?l_dWr ?c_dWr ?k_dWr,
      dFo := .of ?a_dFo ?l_dFo ?c_dFo ?k_dFo,
      dNo := .of ?a_dNo ?l_dNo ?c_dNo ?k_dNo,
      dCv := .of ?a_dCv ?l_dCv ?c_dCv ?k_dCv,
      dCf := .of ?a_dCf ?l_dCf ?c_dCf ?k_dCf,
      dCp := .of ?a_dCp ?l_dCp ?c_dCp ?k_dCp,
      dCb := .of ?a_dCb ?l_dCb ?c_dCb ?k_dCb,
      dAn := .of ?a_dAn ?l_dAn ?c_dAn ?k_dAn } KX G hmg ?f_a ?f_l ?f_c ?f_k
    (case q_gNUMBER => k_is)
    (case q_gTEXT => k_is)
    (case q_gLIST => k_is)
    (case q_gRECORD => k_is)
    (case q_gQUOTE => k_is)
    (case q_gCOMMA => k_is)
    (case q_gMINUS => k_is)
    (case q_gDIGIT_ZERO => k_is)
    (case q_gDIGIT_NINE => k_is)
    (case q_gCOLON => k_is)
    (case q_gLIST_START => k_is)
    (case q_gBACKSLASH => k_is)
    (case q_gLIST_END => k_is)
    (case q_gRECORD_START => k_is)
    (case q_gRECORD_END => k_is)
    (case q_gLOWEST => k_is)
    (case q_gHIGHEST => k_is)
    (case q_gMOST_DIGITS => k_is)
    (case q_gTOO_LARGE => k_is)
    (case q_gMOST_BYTES => k_is)
    (case q_gMOST_DEPTH => k_is)
    (case q_gWANTS_VALUE => k_is)
    (case q_gWANTS_NAME => k_is)
    (case q_gWANTS_COLON => k_is)
    (case q_gWANTS_COMMA => k_is)
    (case q_gWANTS_NOTHING => k_is)
    (case q_gAS_IT_IS => k_is)
    (case q_gNO1 => k_is)
    (case q_gNO2 => k_is)
    (case q_gTOOL => k_is)
    (case q_gMBA => k_is)
    (case z_len => k_is)
    (case z_ord => k_is)
    (case z_tup => k_is)
    (case z_lst => k_is)
    (case z_str => k_is)
    (case z_srt => k_is)
    (case z_enm => k_is)
    (case z_rev => k_is)
    (case z_sm => k_is)
    (case z_mx => k_is)
    (case z_st => k_is)
    (case z_mn => k_is)
    (case z_rng => k_is)
    (case ca_CC => k_is)
    (case cpg_CC => k_is)
    (case chd_CC => k_is)
    (case cpo_CC => k_is)
    (case csa_CC => k_is)
    (case cmk_CC => k_is)
    (case ckc_CC => k_is)
    (case ca_CO => k_is)
    (case cpg_CO => k_is)
    (case chd_CO => k_is)
    (case cpo_CO => k_is)
    (case csa_CO => k_is)
    (case cmk_CO => k_is)
    (case ckc_CO => k_is)
    (case ca_CR => k_is)
    (case cpg_CR => k_is)
    (case chd_CR => k_is)
    (case cpo_CR => k_is)
    (case csa_CR => k_is)
    (case cmk_CR => k_is)
    (case ckc_CR => k_is)
    (case ca_CH => k_is)
    (case cpg_CH => k_is)
    (case chd_CH => k_is)
    (case cpo_CH => k_is)
    (case csa_CH => k_is)
    (case cmk_CH => k_is)
    (case ckc_CH => k_is)
    (case ca_CD => k_is)
    (case cpg_CD => k_is)
    (case chd_CD => k_is)
    (case cpo_CD => k_is)
    (case csa_CD => k_is)
    (case cmk_CD => k_is)
    (case ckc_CD => k_is)
    (case n_nRow => k_is)
    (case n_nPlace => k_is)
    (case n_nKind => k_is)
    (case n_nListed => k_is)
    (case n_nFields => k_is)
    (case n_nName => k_is)
    (case n_nOpened => k_is)
    (case n_nWhole => k_is)
    (case n_nWanted => k_is)
    (case n_nMay => k_is)
    (case n_hRow => k_is)
    (case n_hOld => k_is)
    (case n_hNew => k_is)
    (case n_dRow => k_is)
    (case n_dOld => k_is)
    (case n_dNew => k_is)
    (case w_a => k_is)
    (case w_l => k_is)
    (case b_a => k_is)
    (case b_l => k_is)
    (case e_aN => k_is)
    (case e_xN => k_exc)
    (case e_kN => k_is)
    (case e_bN => k_is)
    (case e_tN => k_is)
    (case e_iN => k_is)
    (case e_sN => first | rfl | k_is)
    (case a_mCI => k_is)
    (case i_mCI => k_is)
    (case l_mCI => k_is)
    (case c_mCI => k_is)
    (case k_mCI => k_is)
    (case a_mAE => k_is)
    (case i_mAE => k_is)
    (case l_mAE => k_is)
    (case c_mAE => k_is)
    (case k_mAE => k_is)
    (case a_mSg => k_is)
    (case i_mSg => k_is)
    (case l_mSg => k_is)
    (case c_mSg => k_is)
    (case k_mSg => k_is)
    (case a_mSt => k_is)
    (case i_mSt => k_is)
    (case l_mSt => k_is)
    (case c_mSt => k_is)
    (case k_mSt => k_is)
    (case a_mOI => k_is)
    (case i_mOI => k_is)
    (case l_mOI => k_is)
    (case c_mOI => k_is)
    (case k_mOI => k_is)
    (case a_mEn => k_is)
    (case i_mEn => k_is)
    (case l_mEn => k_is)
    (case c_mEn => k_is)
    (case k_mEn => k_is)
    (case a_mFw => k_is)
    (case i_mFw => k_is)
    (case l_mFw => k_is)
    (case c_mFw => k_is)
    (case k_mFw => k_is)
    (case a_mPn => k_is)
    (case i_mPn => k_is)
    (case l_mPn => k_is)
    (case c_mPn => k_is)
    (case k_mPn => k_is)
    (case a_mPv => k_is)
    (case i_mPv => k_is)
    (case l_mPv => k_is)
    (case c_mPv => k_is)
    (case k_mPv => k_is)
    (case a_mAs => k_is)
    (case i_mAs => k_is)
    (case l_mAs => k_is)
    (case c_mAs => k_is)
    (case k_mAs => k_is)
    (case a_mRI => k_is)
    (case i_mRI => k_is)
    (case l_mRI => k_is)
    (case c_mRI => k_is)
    (case k_mRI => k_is)
    (case a_mIn => k_is)
    (case i_mIn => k_is)
    (case l_mIn => k_is)
    (case c_mIn => k_is)
    (case k_mIn => k_is)
    (case a_mNw => k_is)
    (case i_mNw => k_is)
    (case l_mNw => k_is)
    (case c_mNw => k_is)
    (case k_mNw => k_is)
    (case a_mBg => k_is)
    (case i_mBg => k_is)
    (case l_mBg => k_is)
    (case c_mBg => k_is)
    (case k_mBg => k_is)
    (case a_mTk => k_is)
    (case i_mTk => k_is)
    (case l_mTk => k_is)
    (case c_mTk => k_is)
    (case k_mTk => k_is)
    (case a_mCl => k_is)
    (case i_mCl => k_is)
    (case l_mCl => k_is)
    (case c_mCl => k_is)
    (case k_mCl => k_is)
    (case a_mHI => k_is)
    (case i_mHI => k_is)
    (case l_mHI => k_is)
    (case c_mHI => k_is)
    (case k_mHI => k_is)
    (case a_mMI => k_is)
    (case i_mMI => k_is)
    (case l_mMI => k_is)
    (case c_mMI => k_is)
    (case k_mMI => k_is)
    (case a_mBA => k_is)
    (case i_mBA => k_is)
    (case l_mBA => k_is)
    (case c_mBA => k_is)
    (case k_mBA => k_is)
    (case a_mDe => k_is)
    (case i_mDe => k_is)
    (case l_mDe => k_is)
    (case c_mDe => k_is)
    (case k_mDe => k_is)
    (case a_dMW => k_is)
    (case l_dMW => k_is)
    (case c_dMW => k_is)
    (case k_dMW => k_is)
    (case a_dMN => k_is)
    (case l_dMN => k_is)
    (case c_dMN => k_is)
    (case k_dMN => k_is)
    (case a_dMT => k_is)
    (case l_dMT => k_is)
    (case c_dMT => k_is)
    (case k_dMT => k_is)
    (case a_dML => k_is)
    (case l_dML => k_is)
    (case c_dML => k_is)
    (case k_dML => k_is)
    (case a_dMR => k_is)
    (case l_dMR => k_is)
    (case c_dMR => k_is)
    (case k_dMR => k_is)
    (case a_dBo => k_is)
    (case l_dBo => k_is)
    (case c_dBo => k_is)
    (case k_dBo => k_is)
    (case a_dSb => k_is)
    (case l_dSb => k_is)
    (case c_dSb => k_is)
    (case k_dSb => k_is)
    (case a_dSw => k_is)
    (case l_dSw => k_is)
    (case c_dSw => k_is)
    (case k_dSw => k_is)
    (case a_dId => k_is)
    (case l_dId => k_is)
    (case c_dId => k_is)
    (case k_dId => k_is)
    (case a_dRd => k_is)
    (case l_dRd => k_is)
    (case c_dRd => k_is)
    (case k_dRd => k_is)
    (case a_dRa => k_is)
    (case l_dRa => k_is)
    (case c_dRa => k_is)
    (case k_dRa => k_is)
    (case a_dRn => k_is)
    (case l_dRn => k_is)
    (case c_dRn => k_is)
    (case k_dRn => k_is)
    (case a_dTb => k_is)
    (case l_dTb => k_is)
    (case c_dTb => k_is)
    (case k_dTb => k_is)
    (case a_dRt => k_is)
    (case l_dRt => k_is)
    (case c_dRt => k_is)
    (case k_dRt => k_is)
    (case a_dRs => k_is)
    (case l_dRs => k_is)
    (case c_dRs => k_is)
    (case k_dRs => k_is)
    (case a_dRi => k_is)
    (case l_dRi => k_is)
    (case c_dRi => k_is)
    (case k_dRi => k_is)
    (case a_dNm => k_is)
    (case l_dNm => k_is)
    (case c_dNm => k_is)
    (case k_dNm => k_is)
    (case a_dBt => k_is)
    (case l_dBt => k_is)
    (case c_dBt => k_is)
    (case k_dBt => k_is)
    (case a_dNx => k_is)
    (case l_dNx => k_is)
    (case c_dNx => k_is)
    (case k_dNx => k_is)
    (case a_dRv => k_is)
    (case l_dRv => k_is)
    (case c_dRv => k_is)
    (case k_dRv => k_is)
    (case a_dWt => k_is)
    (case l_dWt => k_is)
    (case c_dWt => k_is)
    (case k_dWt => k_is)
    (case a_dPl => k_is)
    (case l_dPl => k_is)
    (case c_dPl => k_is)
    (case k_dPl => k_is)
    (case a_dPr => k_is)
    (case l_dPr => k_is)
    (case c_dPr => k_is)
    (case k_dPr => k_is)
    (case a_dWs => k_is)
    (case l_dWs => k_is)
    (case c_dWs => k_is)
    (case k_dWs => k_is)
    (case a_dWr => k_is)
    (case l_dWr => k_is)
    (case c_dWr => k_is)
    (case k_dWr => k_is)
    (case a_dFo => k_is)
    (case l_dFo => k_is)
    (case c_dFo => k_is)
    (case k_dFo => k_is)
    (case a_dNo => k_is)
    (case l_dNo => k_is)
    (case c_dNo => k_is)
    (case k_dNo => k_is)
    (case a_dCv => k_is)
    (case l_dCv => k_is)
    (case c_dCv => k_is)
    (case k_dCv => k_is)
    (case a_dCf => k_is)
    (case l_dCf => k_is)
    (case c_dCf => k_is)
    (case k_dCf => k_is)
    (case a_dCp => k_is)
    (case l_dCp => k_is)
    (case c_dCp => k_is)
    (case k_dCp => k_is)
    (case a_dCb => k_is)
    (case l_dCb => k_is)
    (case c_dCb => k_is)
    (case k_dCb => k_is)
    (case a_dAn => k_is)
    (case l_dAn => k_is)
    (case c_dAn => k_is)
    (case k_dAn => k_is)
    (case f_a => k_is)
    (case f_l => k_is)
    (case f_c => k_is)
    (case f_k => k_is)
  case S =>
    intro K H xs a hO hwi hask hx
    cases hx with
    | cons h1 h2 =>
      cases h2 with
      | cons h2 h3 =>
        cases h3
        cases h1 with
        | lst hs ha =>
          cases h2 with
          | lst hs2 ha2 =>
            have e := L2.ints_dw a.1 _ ha
            subst e
            have e2 := L2.ints_dw a.2.1 _ ha2
            subst e2
            have q : ((Codec.inLen 0 5000 a.1 && a.1.all (Codec.inInt 0 255)) && ((Codec.inLen 0 5000 a.2.1 && a.2.1.all (Codec.inInt 0 255)) && true)) = true := hwi
            rw [Bool.and_eq_true, Bool.and_eq_true, Bool.and_eq_true, Bool.and_eq_true] at q
            refine ⟨_, _, a.1, a.2.1, rfl, hs, hs2, (Codec.inNat_iff.mp q.1.1).2, (Codec.inNat_iff.mp q.2.1.1).2, fun x hx => ?_, fun x hx => ?_, fun H' p hp => .lst (L2.SqL.of hp) (L2.dw_ints _)⟩
            · have h3 := List.all_eq_true.mp q.1.2 x hx
              exact (Codec.inInt_iff.mp h3).1
            · have h3 := List.all_eq_true.mp q.2.1.2 x hx
              exact (Codec.inInt_iff.mp h3).1

