import PyProof.Rows.All
import Wide.All
import OpenK.AllK
import Wide.FinOn
import Open.SpecLaws
import KE.OsGo
import HandS.ForSpec
import HandS.ForMost
import HandS.Walk
import HandS.More
import HandS.Conv
import HandS.Style
import HandS.Flow
import HandS.CallLocal
import HandS.SortKw
import KE.SortKeyHeap
import HandS.Spec
import HandS.Lambda
import HandS.Deep
import HandS.HeadHook1
import PySem.Challenge.RW_keptalive_s01_answers
set_option Elab.async false
set_option linter.all false
set_option maxRecDepth 100000
set_option maxHeartbeats 4000000
/-! words of a text, and the one sign for all other bytes -/
namespace Kp
open Hx01
/-- the sign's code that a byte stands for -/
def col (c : Nat) : Nat := if c = 10 then 10 else if c = 32 then 32 else if 48 ≤ c ∧ c ≤ 57 then c else if 97 ≤ c ∧ c ≤ 122 then c else 63
theorem col_ten {c : Nat} : col c = 10 ↔ c = 10 := by unfold col; split <;> (try split) <;> (try split) <;> (try split) <;> omega
theorem col_blank {c : Nat} : col c = 32 ↔ c = 32 := by unfold col; split <;> (try split) <;> (try split) <;> (try split) <;> omega
theorem col_digit {c : Nat} : (48 ≤ col c ∧ col c ≤ 57) ↔ (48 ≤ c ∧ c ≤ 57) := by unfold col; split <;> (try split) <;> (try split) <;> (try split) <;> omega
theorem col_letter {c : Nat} : (97 ≤ col c ∧ col c ≤ 122) ↔ (97 ≤ c ∧ c ≤ 122) := by unfold col; split <;> (try split) <;> (try split) <;> (try split) <;> omega
theorem col_of_digit {c : Nat} (h : 48 ≤ c ∧ c ≤ 57) : col c = c := by unfold col; split <;> (try split) <;> (try split) <;> (try split) <;> omega
theorem col_of_letter {c : Nat} (h : 97 ≤ c ∧ c ≤ 122) : col c = c := by unfold col; split <;> (try split) <;> (try split) <;> (try split) <;> omega
theorem col_lt (c : Nat) : col c < 128 := by unfold col; split <;> (try split) <;> (try split) <;> (try split) <;> omega
abbrev cw (w : Bytes) : Bytes := w.map col
/-- of the letters alone -/
def Low (w : Bytes) : Prop := ∀ c ∈ w, 97 ≤ c ∧ c ≤ 122
theorem Low.cw {w : Bytes} (h : Low w) : cw w = w := by
  unfold Kp.cw
  conv => rhs; rw [← List.map_id w]
  exact List.map_congr_left fun c hc => col_of_letter (h c hc)
/-- a word of letters is what it is, seen through the signs -/
theorem cw_eq_low {w n : Bytes} (h : Low n) : cw w = n ↔ w = n := by
  constructor
  · intro e
    have hl : Low w := fun c hc => by
      have : col c ∈ n := by rw [← e]; exact List.mem_map_of_mem hc
      exact col_letter.mp (h _ this)
    rw [← hl.cw]; exact e
  · intro e; rw [e]; exact h.cw
theorem rowsFrom_cw : ∀ (w r : Bytes), rowsFrom (cw r) (cw w) = (rowsFrom r w).map cw
  | [], r => by simp [rowsFrom, Kp.cw]
  | c :: w, r => by
    show (if col c = 10 then (cw r).reverse :: rowsFrom [] (cw w) else rowsFrom (col c :: cw r) (cw w)) = (if c = 10 then r.reverse :: rowsFrom [] w else rowsFrom (c :: r) w).map cw
    by_cases h : c = 10
    · rw [if_pos (col_ten.mpr h), if_pos h, List.map_cons, ← rowsFrom_cw w []]
      simp [Kp.cw]
    · rw [if_neg (fun z => h (col_ten.mp z)), if_neg h]
      exact rowsFrom_cw w (c :: r)
theorem rows_cw (w : Bytes) : rows (cw w) = (rows w).map cw := rowsFrom_cw w []
theorem wordsFrom_cw : ∀ (w r : Bytes), wordsFrom (cw r) (cw w) = (wordsFrom r w).map cw
  | [], r => by
    cases r with
    | nil => rfl
    | cons a r => simp [wordsFrom, Kp.cw]
  | c :: w, r => by
    show (if col c = 32 then (if cw r = [] then wordsFrom [] (cw w) else (cw r).reverse :: wordsFrom [] (cw w)) else wordsFrom (col c :: cw r) (cw w)) = (if c = 32 then (if r = [] then wordsFrom [] w else r.reverse :: wordsFrom [] w) else wordsFrom (c :: r) w).map cw
    have e : (cw r = []) ↔ r = [] := by simp [Kp.cw]
    have ih := wordsFrom_cw w []
    by_cases h : c = 32
    · rw [if_pos (col_blank.mpr h), if_pos h]
      by_cases h2 : r = []
      · rw [if_pos (e.mpr h2), if_pos h2]; exact ih
      · rw [if_neg (fun z => h2 (e.mp z)), if_neg h2, List.map_cons, ← ih]
        simp [Kp.cw]
    · rw [if_neg (fun z => h (col_blank.mp z)), if_neg h]
      exact wordsFrom_cw w (c :: r)
theorem words_cw (w : Bytes) : words (cw w) = (words w).map cw := wordsFrom_cw w []
/-- split at a sign -/
def splitAt (s : Nat) : Bytes → Bytes → List Bytes
  | r, [] => [r.reverse]
  | r, c :: w => if c = s then r.reverse :: splitAt s [] w else splitAt s (c :: r) w
theorem rows_split : ∀ (w r : Bytes), rowsFrom r w = splitAt 10 r w
  | [], _ => rfl
  | c :: w, r => by
    show (if c = 10 then r.reverse :: rowsFrom [] w else rowsFrom (c :: r) w) = (if c = 10 then r.reverse :: splitAt 10 [] w else splitAt 10 (c :: r) w)
    rw [rows_split w [], rows_split w (c :: r)]
theorem words_split : ∀ (w r : Bytes), wordsFrom r w = (splitAt 32 r w).filter (fun x => x ≠ [])
  | [], r => by
    cases r with
    | nil => rfl
    | cons a r => simp [wordsFrom, splitAt]
  | c :: w, r => by
    show (if c = 32 then (if r = [] then wordsFrom [] w else r.reverse :: wordsFrom [] w) else wordsFrom (c :: r) w) = (if c = 32 then r.reverse :: splitAt 32 [] w else splitAt 32 (c :: r) w).filter (fun x => x ≠ [])
    by_cases h : c = 32
    · rw [if_pos h, if_pos h, words_split w []]
      by_cases h2 : r = []
      · rw [if_pos h2, h2]; simp
      · rw [if_neg h2]; simp [h2]
    · rw [if_neg h, if_neg h]; exact words_split w (c :: r)
theorem number_cw (w : Bytes) : number (cw w) = number w := by
  have hd : ∀ c, digit (col c) = digit c := fun c => by
    have := @col_digit c
    simp only [digit, ← Bool.decide_and]
    exact decide_eq_decide.mpr this
  have ha : (cw w).all digit = w.all digit := by
    rw [List.all_map]
    congr 1
    funext c
    exact hd c
  unfold number
  rw [ha, List.length_map]
  have hh : ((1 < w.length ∧ (cw w).head? = some 48) ↔ (1 < w.length ∧ w.head? = some 48)) := by
    cases w with
    | nil => simp
    | cons a w =>
      have : col a = 48 ↔ a = 48 := by unfold col; split <;> (try split) <;> (try split) <;> (try split) <;> omega
      simp [this]
  by_cases hc : w = [] ∨ 3 < w.length ∨ w.all digit = false ∨ (1 < w.length ∧ w.head? = some 48)
  · rw [if_pos hc, if_pos]
    rcases hc with h | h | h | h
    · left; rw [h]; rfl
    · right; left; exact h
    · right; right; left; exact h
    · right; right; right; exact hh.mpr h
  · rw [if_neg hc, if_neg]
    · have hw : ∀ c ∈ w, 48 ≤ c ∧ c ≤ 57 := by
        intro c h
        have : w.all digit = true := by
          cases e : w.all digit
          · exact absurd (Or.inr (Or.inr (Or.inl e))) hc
          · rfl
        have := (List.all_eq_true.mp this) c h
        simpa [digit] using this
      have : cw w = w := by
        unfold Kp.cw
        conv => rhs; rw [← List.map_id w]
        exact List.map_congr_left fun c hc => col_of_digit (hw c hc)
      rw [this]
    · intro z
      apply hc
      rcases z with h | h | h | h
      · left; simpa [Kp.cw] using h
      · right; left; exact h
      · right; right; left; exact h
      · right; right; right; exact hh.mp h
theorem low_nil : Low wNil := by unfold Low wNil; decide
theorem isName_cw (w : Bytes) : isName (cw w) = isName w := by
  have ha : ((cw w).all fun c => decide (97 ≤ c) && decide (c ≤ 122)) = (w.all fun c => decide (97 ≤ c) && decide (c ≤ 122)) := by
    rw [List.all_map]
    congr 1
    funext c
    have := @col_letter c
    simp only [Function.comp, ← Bool.decide_and]
    exact decide_eq_decide.mpr this
  have hn : (cw w == wNil) = (w == wNil) := by
    rw [Bool.eq_iff_iff, beq_iff_eq, beq_iff_eq]
    exact cw_eq_low low_nil
  unfold isName
  rw [ha, hn, List.length_map]
theorem isName_low {w : Bytes} (h : isName w = true) : Low w := by
  unfold isName at h
  simp only [Bool.and_eq_true, List.all_eq_true] at h
  intro c hc
  simpa using h.2.2.1 c hc
/-- where a word stands among words of letters -/
theorem indexOf_cw {l : List Bytes} (h : ∀ x ∈ l, Low x) (w : Bytes) : indexOf l (cw w) = indexOf l w := by
  unfold indexOf
  induction l with
  | nil => rfl
  | cons a l ih =>
    have e : (a == cw w) = (a == w) := by
      rw [Bool.eq_iff_iff, beq_iff_eq, beq_iff_eq, eq_comm, cw_eq_low (h a (List.mem_cons_self ..)), eq_comm]
    rw [List.findIdx?_cons, List.findIdx?_cons, e, ih fun x hx => h x (List.mem_cons_of_mem _ hx)]
end Kp
/-! rows read: the fault of a row, what a good row tells -/
namespace Kp
open Hx01
/-- a row, by its words -/
def rowW (p : Program) (ws : List Bytes) : Except Nat Program := match ws with
  | [] => .ok (act p .nothing)
  | c :: l =>
    if c = wClass then (match l with
      | n :: b :: f => match number b with
        | none => .error 1
        | some b => if b = 0 ∨ 2 < f.length then .error 1 else if isName n = false ∨ (p.classes.any fun x => x.name == n) = true ∨ f.all isName = false ∨ f.eraseDups.length ≠ f.length then .error 2 else if 5 ≤ p.classes.length then .error 5 else .ok (act { p with classes := p.classes ++ [⟨n, b, f⟩] } .nothing)
      | _ => .error 1) else
    if c = wNew then (match l with
      | [v, k] => if isName v = false then .error 2 else match indexOf (p.classes.map fun x => x.name) k with
        | none => .error 3
        | some k => match varOf p v with
          | none => .error 5
          | some (q, i) => .ok (act q (.new i k))
      | _ => .error 1) else
    if c = wSet then (match l with
      | [v, f, w] => if isName f = false then .error 2 else match indexOf p.vars v, oldOrNil p w with
        | some i, some j => .ok (act p (.set i f j))
        | _, _ => .error 3
      | _ => .error 1) else
    if c = wGet then (match l with
      | [v, w, f] => if isName v = false ∨ isName f = false then .error 2 else match indexOf p.vars w with
        | none => .error 3
        | some j => match varOf p v with
          | none => .error 5
          | some (q, i) => .ok (act q (.get i j f))
      | _ => .error 1) else
    if c = wLet then (match l with
      | [v, w] => if isName v = false then .error 2 else match oldOrNil p w with
        | none => .error 3
        | some j => match varOf p v with
          | none => .error 5
          | some (q, i) => .ok (act q (.let_ i j))
      | _ => .error 1) else
    if c = wTimes then (match l with
      | [k] => match number k with
        | none => .error 1
        | some k => if 9 < k then .error 1 else if 2 ≤ openTimes p then .error 4 else .ok (act p (.times k))
      | _ => .error 1) else
    if c = wEnd then (if l ≠ [] then .error 1 else if openTimes p = 0 then .error 4 else .ok (act p .end_)) else
    if c = wSnap then (if l ≠ [] then .error 1 else .ok (act p .snap)) else .error 1
theorem rowFrom_rowW (p : Program) (w : Bytes) : rowFrom p w = rowW p (words w) := rfl
def progW : Nat → Program → List (List Bytes) → Except (Nat × Nat) Program
  | i, p, [] => if openTimes p = 0 then .ok p else .error (i, 4)
  | i, p, w :: l => match rowW p w with
    | .error e => .error (i, e)
    | .ok q => progW (i + 1) q l
theorem programFrom_progW : ∀ (l : List Bytes) (i : Nat) (p : Program), programFrom i p l = progW i p (l.map words)
  | [], _, _ => rfl
  | w :: l, i, p => by
    simp only [programFrom, List.map_cons, progW, rowFrom_rowW]
    cases rowW p (words w) with
    | error e => rfl
    | ok q => exact programFrom_progW l (i + 1) q
theorem low_class : Low wClass := by unfold Low wClass; decide
theorem low_new : Low wNew := by unfold Low wNew; decide
theorem low_set : Low wSet := by unfold Low wSet; decide
theorem low_get : Low wGet := by unfold Low wGet; decide
theorem low_let : Low wLet := by unfold Low wLet; decide
theorem low_times : Low wTimes := by unfold Low wTimes; decide
theorem low_end : Low wEnd := by unfold Low wEnd; decide
theorem low_snap : Low wSnap := by unfold Low wSnap; decide
/-- all that a program tells is told by letters, and within its bounds -/
structure LowP (p : Program) : Prop where
  vars : ∀ x ∈ p.vars, Low x
  cls : ∀ x ∈ p.classes.map (fun x => x.name), Low x
theorem indexOf_mem {l : List Bytes} {w : Bytes} : indexOf l w = none ↔ w ∉ l := by
  unfold indexOf
  rw [List.findIdx?_eq_none_iff]
  constructor
  · intro h m; have := h w m; simp at this
  · intro h x hx; rw [beq_eq_false_iff_ne]; intro e; subst e; exact h hx
theorem varOf_cw {p : Program} {v : Bytes} (hv : isName v = true) : varOf p (cw v) = varOf p v := by rw [(isName_low hv).cw]
theorem oldOrNil_cw {p : Program} (h : LowP p) (w : Bytes) : oldOrNil p (cw w) = oldOrNil p w := by
  unfold oldOrNil
  rw [indexOf_cw h.vars]
  by_cases e : w = wNil
  · rw [if_pos ((cw_eq_low low_nil).mpr e), if_pos e]
  · rw [if_neg (fun z => e ((cw_eq_low low_nil).mp z)), if_neg e]
theorem all_cw {f : List Bytes} (h : f.all isName = true) : f.map cw = f := by
  conv => rhs; rw [← List.map_id f]
  exact List.map_congr_left fun x hx => (isName_low (List.all_eq_true.mp h x hx)).cw
theorem allName_cw (f : List Bytes) : (f.map cw).all isName = f.all isName := by
  rw [List.all_map]; congr 1; funext x; exact isName_cw x
set_option maxHeartbeats 1000000 in
theorem rowW_cw {p : Program} (h : LowP p) (ws : List Bytes) : rowW p (ws.map cw) = rowW p ws := by
  cases ws with
  | nil => rfl
  | cons c l =>
    have hc : ∀ {n : Bytes}, Low n → (cw c = n) = (c = n) := fun hn => propext (cw_eq_low hn)
    simp only [rowW, List.map_cons, hc low_class, hc low_new, hc low_set, hc low_get, hc low_let, hc low_times, hc low_end, hc low_snap]
    by_cases c1 : c = wClass
    · rw [if_pos c1, if_pos c1]
      match l with
      | [] => rfl
      | [_] => rfl
      | n :: b :: f =>
        simp only [List.map_cons, number_cw]
        cases number b with
        | none => rfl
        | some b =>
          simp only [List.length_map, isName_cw, allName_cw]
          by_cases hn : isName n = true
          · by_cases hf : f.all isName = true
            · rw [(isName_low hn).cw, all_cw hf]
            · simp only [hf]; simp
          · simp only [hn]; simp
    rw [if_neg c1, if_neg c1]
    by_cases c2 : c = wNew
    · rw [if_pos c2, if_pos c2]
      match l with
      | [] => rfl
      | [_] => rfl
      | [v, k] =>
        simp only [List.map_cons, List.map_nil, isName_cw, indexOf_cw h.cls]
        by_cases hn : isName v = true
        · rw [varOf_cw hn]
        · simp only [hn]; simp
      | _ :: _ :: _ :: _ => rfl
    rw [if_neg c2, if_neg c2]
    by_cases c3 : c = wSet
    · rw [if_pos c3, if_pos c3]
      match l with
      | [] => rfl
      | [_] => rfl
      | [_, _] => rfl
      | [v, f, w] =>
        simp only [List.map_cons, List.map_nil, isName_cw, indexOf_cw h.vars, oldOrNil_cw h]
        by_cases hn : isName f = true
        · rw [(isName_low hn).cw]
        · simp only [hn]; simp
      | _ :: _ :: _ :: _ :: _ => rfl
    rw [if_neg c3, if_neg c3]
    by_cases c4 : c = wGet
    · rw [if_pos c4, if_pos c4]
      match l with
      | [] => rfl
      | [_] => rfl
      | [_, _] => rfl
      | [v, w, f] =>
        simp only [List.map_cons, List.map_nil, isName_cw, indexOf_cw h.vars]
        by_cases hn : isName v = true
        · by_cases hf : isName f = true
          · rw [(isName_low hf).cw, varOf_cw hn]
          · simp only [hf]; simp
        · simp only [hn]; simp
      | _ :: _ :: _ :: _ :: _ => rfl
    rw [if_neg c4, if_neg c4]
    by_cases c5 : c = wLet
    · rw [if_pos c5, if_pos c5]
      match l with
      | [] => rfl
      | [_] => rfl
      | [v, w] =>
        simp only [List.map_cons, List.map_nil, isName_cw, oldOrNil_cw h]
        by_cases hn : isName v = true
        · rw [varOf_cw hn]
        · simp only [hn]; simp
      | _ :: _ :: _ :: _ => rfl
    rw [if_neg c5, if_neg c5]
    by_cases c6 : c = wTimes
    · rw [if_pos c6, if_pos c6]
      match l with
      | [] => rfl
      | [k] => simp only [List.map_cons, List.map_nil, number_cw]
      | _ :: _ :: _ => rfl
    rw [if_neg c6, if_neg c6]
    have hl : ((l.map cw) ≠ []) = (l ≠ []) := by simp
    simp only [hl]
end Kp
/-! a row's fault and what it tells, as the program reckons them -/
namespace Kp
open Hx01
abbrev wd (ws : List Bytes) (i : Nat) : Bytes := ws.getD i []
def counts (c : Bytes) : Option (Nat × Nat) :=
  if c = wClass then some (3, 5) else if c = wNew then some (3, 3) else if c = wSet then some (4, 4) else if c = wGet then some (4, 4) else if c = wLet then some (3, 3) else if c = wTimes then some (2, 2) else if c = wEnd then some (1, 1) else if c = wSnap then some (1, 1) else none
/-- is_such_row -/
def such (ws : List Bytes) : Bool := match counts (wd ws 0) with
  | none => false
  | some (lo, hi) => if lo ≤ ws.length ∧ ws.length ≤ hi then
      (if wd ws 0 = wClass then (match number (wd ws 2) with | none => false | some n => decide (0 < n))
       else if wd ws 0 = wTimes then (match number (wd ws 1) with | none => false | some n => decide (n ≤ 9)) else true) else false
abbrev Getting (c : Bytes) : Prop := c = wNew ∨ c = wGet ∨ c = wLet
/-- words_for_names -/
def names (ws : List Bytes) : List Bytes := if wd ws 0 = wClass then wd ws 1 :: ws.drop 3 else if wd ws 0 = wSet then [wd ws 2] else if wd ws 0 = wGet then [wd ws 1, wd ws 3] else if Getting (wd ws 0) then [wd ws 1] else []
/-- is_misnamed -/
def misnamed (p : Program) (ws : List Bytes) : Bool := if (names ws).all isName = true then (if wd ws 0 = wClass then decide (wd ws 1 ∈ p.classes.map fun x => x.name) || (decide (ws.length = 5) && decide (wd ws 3 = wd ws 4)) else false) else true
/-- variables_read -/
def reads (ws : List Bytes) : List Bytes := if wd ws 0 = wGet then [wd ws 2] else if wd ws 0 = wLet then (if wd ws 2 = wNil then [] else [wd ws 2]) else if wd ws 0 = wSet then (if wd ws 3 = wNil then [wd ws 1] else [wd ws 1, wd ws 3]) else []
/-- is_untold -/
def untold (p : Program) (ws : List Bytes) : Bool := if wd ws 0 = wNew ∧ wd ws 2 ∉ p.classes.map (fun x => x.name) then true else (reads ws).any fun w => decide (w ∉ p.vars)
/-- is_badly_nested -/
def badly (p : Program) (ws : List Bytes) : Bool := if wd ws 0 = wTimes then decide (openTimes p = 2) else decide (wd ws 0 = wEnd) && decide (openTimes p = 0)
/-- is_one_too_many -/
def tooMany (p : Program) (ws : List Bytes) : Bool := if wd ws 0 = wClass then decide (p.classes.length = 5) else if Getting (wd ws 0) ∧ wd ws 1 ∉ p.vars then decide (p.vars.length = 6) else false
/-- fault_of -/
def faultOf (p : Program) (ws : List Bytes) : Nat := if such ws = false then 1 else if misnamed p ws = true then 2 else if untold p ws = true then 3 else if badly p ws = true then 4 else if tooMany p ws = true then 5 else 0
def idx (l : List Bytes) (w : Bytes) : Nat := (indexOf l w).getD 0
/-- a variable's number, or none for nil -/
def orNil (l : List Bytes) (w : Bytes) : Option Nat := if w = wNil then none else some (idx l w)
/-- what a good row does, by the names told up to it -/
def actOf (p : Program) (ws : List Bytes) : Act :=
  if wd ws 0 = wNew then .new (idx p.vars (wd ws 1)) (idx (p.classes.map fun x => x.name) (wd ws 2))
  else if wd ws 0 = wSet then .set (idx p.vars (wd ws 1)) (wd ws 2) (orNil p.vars (wd ws 3))
  else if wd ws 0 = wGet then .get (idx p.vars (wd ws 1)) (idx p.vars (wd ws 2)) (wd ws 3)
  else if wd ws 0 = wLet then .let_ (idx p.vars (wd ws 1)) (orNil p.vars (wd ws 2))
  else if wd ws 0 = wTimes then .times ((number (wd ws 1)).getD 0)
  else if wd ws 0 = wEnd then .end_
  else if wd ws 0 = wSnap then .snap else .nothing
/-- take_row, ahead of the row's doing -/
def told (p : Program) (ws : List Bytes) : Program := if wd ws 0 = wClass then { p with classes := p.classes ++ [⟨wd ws 1, (number (wd ws 2)).getD 0, ws.drop 3⟩] }
  else if Getting (wd ws 0) ∧ wd ws 1 ∉ p.vars then { p with vars := p.vars ++ [wd ws 1] } else p
def takeW (p : Program) (ws : List Bytes) : Program := act (told p ws) (actOf (told p ws) ws)
/-- bounds that reading keeps -/
structure Bnd (p : Program) : Prop where
  vars : p.vars.length ≤ 6
  cls : p.classes.length ≤ 5
  opn : openTimes p ≤ 2
  fld : ∀ c ∈ p.classes, c.fields.length ≤ 2
theorem indexOf_some {l : List Bytes} {w : Bytes} (h : w ∈ l) : indexOf l w = some (idx l w) := by
  unfold idx
  cases e : indexOf l w with
  | none => exact absurd h (indexOf_mem.mp e)
  | some i => rfl
theorem indexOf_last {l : List Bytes} {w : Bytes} (h : w ∉ l) : indexOf (l ++ [w]) w = some l.length := by
  unfold indexOf
  rw [List.findIdx?_append]
  have : List.findIdx? (fun x => x == w) l = none := indexOf_mem.mpr h
  rw [this]
  simp
theorem indexOf_old {l : List Bytes} {w v : Bytes} (h : w ∈ l) : indexOf (l ++ [v]) w = indexOf l w := by
  have e := indexOf_some h
  rw [e]
  unfold indexOf at e ⊢
  rw [List.findIdx?_append, e]
  rfl
theorem indexOf_append {l m : List Bytes} {w : Bytes} (h : w ∈ l) : indexOf (l ++ m) w = indexOf l w := by
  have e := indexOf_some h
  rw [e]
  unfold indexOf at e ⊢
  rw [List.findIdx?_append, e]
  rfl
theorem varOf_old {p : Program} {v : Bytes} (h : v ∈ p.vars) : varOf p v = some (p, idx p.vars v) := by
  unfold varOf; rw [indexOf_some h]
theorem varOf_new {p : Program} {v : Bytes} (h : v ∉ p.vars) (hl : p.vars.length < 6) : varOf p v = some ({ p with vars := p.vars ++ [v] }, idx (p.vars ++ [v]) v) := by
  unfold varOf idx
  rw [indexOf_mem.mpr h, indexOf_last h]
  show (if 6 ≤ p.vars.length then none else _) = _
  rw [if_neg (by omega)] <;> rfl
theorem varOf_full {p : Program} {v : Bytes} (h : v ∉ p.vars) (hl : ¬ p.vars.length < 6) : varOf p v = none := by
  unfold varOf
  rw [indexOf_mem.mpr h]
  show (if 6 ≤ p.vars.length then none else _) = _
  rw [if_pos (by omega)]
/-- varOf by the two words of the mirror -/
theorem varOf_eq {p : Program} (b : Bnd p) {v : Bytes} : varOf p v = if v ∉ p.vars ∧ p.vars.length = 6 then none else some (if v ∉ p.vars then { p with vars := p.vars ++ [v] } else p, idx (if v ∉ p.vars then { p with vars := p.vars ++ [v] } else p : Program).vars v) := by
  by_cases h : v ∈ p.vars
  · rw [varOf_old h]; simp [h]
  · by_cases hl : p.vars.length < 6
    · rw [varOf_new h hl]
      have : ¬ p.vars.length = 6 := by omega
      simp [h, this]
    · rw [varOf_full h hl]
      have : p.vars.length = 6 := by have := b.vars; omega
      simp [h, this]
theorem mem_old {p : Program} {v w : Bytes} (h : w ∈ p.vars) : idx (if v ∉ p.vars then { p with vars := p.vars ++ [v] } else p : Program).vars w = idx p.vars w := by
  by_cases hv : v ∈ p.vars
  · simp [hv]
  · simp only [hv, not_false_eq_true, if_true, idx, indexOf_old h]
theorem any_name {p : Program} {n : Bytes} : (p.classes.any fun x => x.name == n) = decide (n ∈ p.classes.map fun x => x.name) := by
  rw [Bool.eq_iff_iff, List.any_eq_true, decide_eq_true_iff, List.mem_map]
  constructor
  · rintro ⟨x, hx, e⟩; exact ⟨x, hx, by simpa using e⟩
  · rintro ⟨x, hx, e⟩; exact ⟨x, hx, by simpa using e⟩
/-- the row's word, by what the program reckons -/
def rowM (p : Program) (ws : List Bytes) : Except Nat Program := if faultOf p ws = 0 then .ok (takeW p ws) else .error (faultOf p ws)
theorem ne_cn : wClass ≠ wNew := by decide
theorem w_ne : wClass ≠ wNew ∧ wClass ≠ wSet ∧ wClass ≠ wGet ∧ wClass ≠ wLet ∧ wClass ≠ wTimes ∧ wClass ≠ wEnd ∧ wClass ≠ wSnap ∧ wNew ≠ wSet ∧ wNew ≠ wGet ∧ wNew ≠ wLet ∧ wNew ≠ wTimes ∧ wNew ≠ wEnd ∧ wNew ≠ wSnap ∧ wSet ≠ wGet ∧ wSet ≠ wLet ∧ wSet ≠ wTimes ∧ wSet ≠ wEnd ∧ wSet ≠ wSnap ∧ wGet ≠ wLet ∧ wGet ≠ wTimes ∧ wGet ≠ wEnd ∧ wGet ≠ wSnap ∧ wLet ≠ wTimes ∧ wLet ≠ wEnd ∧ wLet ≠ wSnap ∧ wTimes ≠ wEnd ∧ wTimes ≠ wSnap ∧ wEnd ≠ wSnap := by decide
theorem row_class (p : Program) (b : Bnd p) (l : List Bytes) : rowW p (wClass :: l) = rowM p (wClass :: l) := by
  match l with
  | [] => rfl
  | [_] => rfl
  | n :: k :: f =>
    have hs : such (wClass :: n :: k :: f) = if f.length ≤ 2 then (match number k with | none => false | some n => decide (0 < n)) else false := by
      unfold such
      simp only [counts, wd, List.getD_cons_zero, List.getD_cons_succ, if_true, List.length_cons]
      by_cases h : f.length ≤ 2
      · rw [if_pos h, if_pos (by omega)]
      · rw [if_neg h, if_neg (by omega)]
    unfold rowM faultOf
    rw [hs]
    simp only [rowW, if_true]
    cases e : number k with
    | none => simp
    | some b0 =>
      dsimp only
      by_cases h1 : f.length ≤ 2
      · by_cases h0 : b0 = 0
        · subst h0; simp [h1]
        · have h0' : 0 < b0 := by omega
          have h1' : ¬ 2 < f.length := by omega
          simp only [h1, if_true, h0', decide_true, h0, h1', false_or, if_false, any_name, decide_eq_true_iff]
          have hm : misnamed p (wClass :: n :: k :: f) = true ↔ (isName n = false ∨ n ∈ p.classes.map (fun x => x.name) ∨ f.all isName = false ∨ f.eraseDups.length ≠ f.length) := by
            unfold misnamed names
            simp only [wd, List.getD_cons_zero, List.getD_cons_succ, if_true, List.drop_succ_cons, List.drop_zero, List.all_cons, Bool.and_eq_true, List.length_cons]
            have hd : (f.length + 1 + 1 + 1 = 5 ∧ f.getD 0 [] = f.getD 1 []) ↔ f.eraseDups.length ≠ f.length := by
              match f, h1 with
              | [], _ => simp
              | [a], _ => simp [List.eraseDups_cons]
              | [a, c], _ =>
                by_cases hac : a = c
                · subst hac; simp [List.eraseDups_cons]
                · have : ¬ c = a := fun z => hac z.symm
                  simp [List.eraseDups_cons, hac, this]
            by_cases hn : isName n = true
            · by_cases hf : f.all isName = true
              · rw [if_pos ⟨hn, hf⟩]
                rw [Bool.or_eq_true, decide_eq_true_iff, Bool.and_eq_true, decide_eq_true_iff, decide_eq_true_iff, hd]
                simp [hn, hf]
              · rw [if_neg (fun z => hf z.2)]; simp [Bool.eq_false_iff.mpr hf]
            · rw [if_neg (fun z => hn z.1)]; simp [Bool.eq_false_iff.mpr hn]
          by_cases c2 : misnamed p (wClass :: n :: k :: f) = true
          · rw [if_pos (hm.mp c2)]
            simp [c2]
          · rw [if_neg (fun z => c2 (hm.mpr z))]
            have hu : untold p (wClass :: n :: k :: f) = false := by
              unfold untold reads
              simp [w_ne]
            have hb : badly p (wClass :: n :: k :: f) = false := by
              unfold badly
              simp [w_ne]
            have ht : tooMany p (wClass :: n :: k :: f) = decide (p.classes.length = 5) := by
              unfold tooMany
              simp
            have h5 : (5 ≤ p.classes.length) ↔ p.classes.length = 5 := by have := b.cls; omega
            rw [hu, hb, ht]
            simp only [h5, c2, Bool.false_eq_true, if_false]
            by_cases h : p.classes.length = 5
            · simp [h]
            · simp [h, takeW, told, actOf, e, w_ne]
      · have : 2 < f.length := by omega
        simp [h1, this]
theorem such_len {ws : List Bytes} {lo hi : Nat} (hc : counts (wd ws 0) = some (lo, hi)) (h1 : wd ws 0 ≠ wClass) (h2 : wd ws 0 ≠ wTimes) : such ws = decide (lo ≤ ws.length ∧ ws.length ≤ hi) := by
  unfold such
  rw [hc]
  simp only [h1, h2, if_false]
  by_cases h : lo ≤ ws.length ∧ ws.length ≤ hi
  · rw [if_pos h, decide_eq_true h]
  · rw [if_neg h, decide_eq_false h]
theorem row_bad {p : Program} {ws : List Bytes} (h : such ws = false) : rowM p ws = .error 1 := by
  unfold rowM faultOf
  simp [h]
set_option maxHeartbeats 1000000 in
theorem row_new (p : Program) (b : Bnd p) (l : List Bytes) : rowW p (wNew :: l) = rowM p (wNew :: l) := by
  have hs : such (wNew :: l) = decide (l.length = 2) := by
    rw [such_len (lo := 3) (hi := 3) (by rfl) (by show wNew ≠ wClass; decide) (by show wNew ≠ wTimes; decide)]
    exact decide_eq_decide.mpr (by rw [List.length_cons]; omega)
  have e1 : ¬ wNew = wClass := by decide
  match l, hs with
  | [], hs => rw [row_bad hs]; rfl
  | [_], hs => rw [row_bad hs]; rfl
  | _ :: _ :: _ :: _, hs => rw [row_bad (by rw [hs]; simp)]; rfl
  | [v, k], hs =>
    unfold rowM faultOf
    rw [hs]
    simp only [rowW, if_true, e1, if_false]
    have hm : misnamed p [wNew, v, k] = !isName v := by
      unfold misnamed names
      cases h : isName v <;> simp [w_ne, h, e1, Getting]
    have hu : untold p [wNew, v, k] = decide (k ∉ p.classes.map fun x => x.name) := by
      unfold untold reads
      by_cases h : k ∈ p.classes.map fun x => x.name
      · simp only [wd]; simp [h, w_ne]
      · simp only [wd]; simp [h]
    have hb : badly p [wNew, v, k] = false := by unfold badly; simp [w_ne]
    have ht : tooMany p [wNew, v, k] = (decide (v ∉ p.vars ∧ p.vars.length = 6)) := by
      unfold tooMany
      by_cases h : v ∈ p.vars <;> simp [h, e1, Getting]
    rw [hm, hu, hb, ht]
    cases hn : isName v with
    | false => simp
    | true =>
      by_cases hk : k ∈ p.classes.map fun x => x.name
      · rw [indexOf_some hk, varOf_eq b]
        by_cases hv : v ∉ p.vars ∧ p.vars.length = 6
        · simp [hk, hv]
        · rw [if_neg hv]
          have hg : Getting wNew := .inl rfl
          simp only [hk, not_true, decide_false, hv, if_false, Bool.not_true, takeW, told, actOf, wd, List.getD_cons_zero, List.getD_cons_succ, if_true, e1, hg, true_and, Bool.false_eq_true, List.length_cons, List.length_nil, decide_true]
          by_cases hv2 : v ∈ p.vars <;> simp [hv2]
      · rw [indexOf_mem.mpr hk]; simp [hk]
set_option maxHeartbeats 1000000 in
theorem row_get (p : Program) (b : Bnd p) (l : List Bytes) : rowW p (wGet :: l) = rowM p (wGet :: l) := by
  have hs : such (wGet :: l) = decide (l.length = 3) := by
    rw [such_len (lo := 4) (hi := 4) (by rfl) (by show wGet ≠ wClass; decide) (by show wGet ≠ wTimes; decide)]
    exact decide_eq_decide.mpr (by rw [List.length_cons]; omega)
  have e1 : ¬ wGet = wClass := by decide
  have e2 : ¬ wGet = wNew := by decide
  have e3 : ¬ wGet = wSet := by decide
  match l, hs with
  | [], hs => rw [row_bad hs]; rfl
  | [_], hs => rw [row_bad hs]; rfl
  | [_, _], hs => rw [row_bad hs]; rfl
  | _ :: _ :: _ :: _ :: _, hs => rw [row_bad (by rw [hs]; simp)]; rfl
  | [v, w, f], hs =>
    unfold rowM faultOf
    rw [hs]
    simp only [rowW, if_true, e1, e2, e3, if_false]
    have hm : misnamed p [wGet, v, w, f] = (!isName v || !isName f) := by
      unfold misnamed names
      cases h : isName v <;> cases h2 : isName f <;> simp [w_ne, h, h2, e1, e3]
    have hu : untold p [wGet, v, w, f] = decide (w ∉ p.vars) := by
      unfold untold reads
      simp [e2]
    have hb : badly p [wGet, v, w, f] = false := by unfold badly; simp [w_ne]
    have hg : Getting wGet := .inr (.inl rfl)
    have ht : tooMany p [wGet, v, w, f] = (decide (v ∉ p.vars ∧ p.vars.length = 6)) := by
      unfold tooMany
      by_cases h : v ∈ p.vars <;> simp [h, e1, hg]
    rw [hm, hu, hb, ht]
    cases hn : isName v with
    | false => simp
    | true =>
      cases hf : isName f with
      | false => simp
      | true =>
        by_cases hk : w ∈ p.vars
        · rw [indexOf_some hk, varOf_eq b]
          by_cases hv : v ∉ p.vars ∧ p.vars.length = 6
          · simp [hk, hv]
          · rw [if_neg hv]
            have hw := mem_old (v := v) hk
            simp only [hk, not_true, decide_false, hv, if_false, Bool.not_true, takeW, told, actOf, wd, List.getD_cons_zero, List.getD_cons_succ, if_true, e1, e2, e3, hg, true_and, Bool.false_eq_true, List.length_cons, List.length_nil, decide_true, hw]
            simp
        · rw [indexOf_mem.mpr hk]; simp [hk]
theorem orNil_old {p : Program} {v w : Bytes} (h : w ≠ wNil → w ∈ p.vars) : orNil (if v ∉ p.vars then { p with vars := p.vars ++ [v] } else p : Program).vars w = orNil p.vars w := by
  unfold orNil
  by_cases e : w = wNil
  · rw [if_pos e, if_pos e]
  · rw [if_neg e, if_neg e, mem_old (h e)]
theorem oldOrNil_eq (p : Program) (w : Bytes) : oldOrNil p w = if w ≠ wNil ∧ w ∉ p.vars then none else some (orNil p.vars w) := by
  unfold oldOrNil orNil
  by_cases e : w = wNil
  · simp [e]
  · by_cases h : w ∈ p.vars
    · simp [e, h, indexOf_some h]
    · simp [e, h, indexOf_mem.mpr h]
set_option maxHeartbeats 1000000 in
theorem row_let (p : Program) (b : Bnd p) (l : List Bytes) : rowW p (wLet :: l) = rowM p (wLet :: l) := by
  have hs : such (wLet :: l) = decide (l.length = 2) := by
    rw [such_len (lo := 3) (hi := 3) (by rfl) (by show wLet ≠ wClass; decide) (by show wLet ≠ wTimes; decide)]
    exact decide_eq_decide.mpr (by rw [List.length_cons]; omega)
  have e1 : ¬ wLet = wClass := by decide
  have e2 : ¬ wLet = wNew := by decide
  have e3 : ¬ wLet = wSet := by decide
  have e4 : ¬ wLet = wGet := by decide
  match l, hs with
  | [], hs => rw [row_bad hs]; rfl
  | [_], hs => rw [row_bad hs]; rfl
  | _ :: _ :: _ :: _, hs => rw [row_bad (by rw [hs]; simp)]; rfl
  | [v, w], hs =>
    unfold rowM faultOf
    rw [hs]
    simp only [rowW, if_true, e1, e2, e3, e4, if_false]
    have hg : Getting wLet := .inr (.inr rfl)
    have hm : misnamed p [wLet, v, w] = (!isName v) := by
      unfold misnamed names
      cases h : isName v <;> simp [h, e1, e3, e4, hg]
    have hu : untold p [wLet, v, w] = decide (w ≠ wNil ∧ w ∉ p.vars) := by
      unfold untold reads
      by_cases e : w = wNil <;> simp [e2, e4, e]
    have hb : badly p [wLet, v, w] = false := by unfold badly; simp [w_ne]
    have ht : tooMany p [wLet, v, w] = (decide (v ∉ p.vars ∧ p.vars.length = 6)) := by
      unfold tooMany
      by_cases h : v ∈ p.vars <;> simp [h, e1, hg]
    rw [hm, hu, hb, ht]
    cases hn : isName v with
    | false => simp
    | true =>
      rw [oldOrNil_eq]
      by_cases hk : w ≠ wNil ∧ w ∉ p.vars
      · simp [hk]
      · rw [if_neg hk, varOf_eq b]
        by_cases hv : v ∉ p.vars ∧ p.vars.length = 6
        · simp only [hk, decide_false, hv]; simp
        · rw [if_neg hv]
          have hw := orNil_old (p := p) (v := v) (w := w) (fun z => Classical.byContradiction fun y => hk ⟨z, y⟩)
          simp only [hk, decide_false, hv, if_false, Bool.not_true, takeW, told, actOf, wd, List.getD_cons_zero, List.getD_cons_succ, if_true, e1, e2, e3, e4, hg, true_and, Bool.false_eq_true, List.length_cons, List.length_nil, decide_true, hw]
          simp
set_option maxHeartbeats 1000000 in
theorem row_set (p : Program) (l : List Bytes) : rowW p (wSet :: l) = rowM p (wSet :: l) := by
  have hs : such (wSet :: l) = decide (l.length = 3) := by
    rw [such_len (lo := 4) (hi := 4) (by rfl) (by show wSet ≠ wClass; decide) (by show wSet ≠ wTimes; decide)]
    exact decide_eq_decide.mpr (by rw [List.length_cons]; omega)
  have e1 : ¬ wSet = wClass := by decide
  have e2 : ¬ wSet = wNew := by decide
  have e4 : ¬ wSet = wGet := by decide
  have e5 : ¬ wSet = wLet := by decide
  match l, hs with
  | [], hs => rw [row_bad hs]; rfl
  | [_], hs => rw [row_bad hs]; rfl
  | [_, _], hs => rw [row_bad hs]; rfl
  | _ :: _ :: _ :: _ :: _, hs => rw [row_bad (by rw [hs]; simp)]; rfl
  | [v, f, w], hs =>
    unfold rowM faultOf
    rw [hs]
    simp only [rowW, if_true, e1, e2, if_false]
    have hm : misnamed p [wSet, v, f, w] = (!isName f) := by
      unfold misnamed names
      cases h2 : isName f <;> simp [h2, e1]
    have hu : untold p [wSet, v, f, w] = (decide (v ∉ p.vars) || decide (w ≠ wNil ∧ w ∉ p.vars)) := by
      unfold untold reads
      by_cases e : w = wNil <;> simp [e2, e4, e5, e]
    have hb : badly p [wSet, v, f, w] = false := by unfold badly; simp [w_ne]
    have hg : ¬ Getting wSet := by decide
    have ht : tooMany p [wSet, v, f, w] = false := by
      unfold tooMany
      simp [e1, hg]
    rw [hm, hu, hb, ht, oldOrNil_eq]
    cases hn : isName f with
    | false => simp
    | true =>
      by_cases hv : v ∈ p.vars
      · rw [indexOf_some hv]
        by_cases hk : w ≠ wNil ∧ w ∉ p.vars
        · simp [hk]
        · rw [if_neg hk]
          simp only [hk, hv, decide_false, if_false, Bool.not_true, takeW, told, actOf, wd, List.getD_cons_zero, List.getD_cons_succ, if_true, e1, e2, hg, false_and, Bool.false_eq_true, List.length_cons, List.length_nil, decide_true, not_true, Bool.or_false]
          simp
      · rw [indexOf_mem.mpr hv]; simp [hv]
theorem row_times (p : Program) (b : Bnd p) (l : List Bytes) : rowW p (wTimes :: l) = rowM p (wTimes :: l) := by
  have e1 : ¬ wTimes = wClass := by decide
  have e2 : ¬ wTimes = wNew := by decide
  have e3 : ¬ wTimes = wSet := by decide
  have e4 : ¬ wTimes = wGet := by decide
  have e5 : ¬ wTimes = wLet := by decide
  have hs : such (wTimes :: l) = if l.length = 1 then (match number (l.getD 0 []) with | none => false | some n => decide (n ≤ 9)) else false := by
    unfold such
    simp only [counts, wd, List.getD_cons_zero, List.getD_cons_succ, e1, e2, e3, e4, e5, if_false, if_true, List.length_cons]
    by_cases h : l.length = 1
    · rw [if_pos h, if_pos (by omega)]
    · rw [if_neg h, if_neg (by omega)]
  match l, hs with
  | [], hs => rw [row_bad hs]; rfl
  | _ :: _ :: _, hs => rw [row_bad (by rw [hs]; simp)]; rfl
  | [k], hs =>
    unfold rowM faultOf
    rw [hs]
    simp only [rowW, if_true, e1, e2, e3, e4, e5, if_false, List.length_cons, List.length_nil, List.getD_cons_zero]
    cases e : number k with
    | none => simp
    | some n =>
      dsimp only
      have hm : misnamed p [wTimes, k] = false := by
        unfold misnamed names
        simp [e1, e3, e4, Getting, e2, e5]
      have hu : untold p [wTimes, k] = false := by
        unfold untold reads
        simp [e2, e3, e4, e5]
      have hb : badly p [wTimes, k] = decide (openTimes p = 2) := by unfold badly; simp
      have ht : tooMany p [wTimes, k] = false := by
        unfold tooMany
        simp [e1, Getting, e2, e4, e5]
      have ho : (2 ≤ openTimes p) ↔ openTimes p = 2 := by have := b.opn; omega
      rw [hm, hu, hb, ht]
      by_cases h9 : 9 < n
      · have : ¬ n ≤ 9 := by omega
        simp [h9, this]
      · have h9' : n ≤ 9 := by omega
        by_cases h2 : openTimes p = 2
        · simp [h9, h9', h2]
        · have h2' : ¬ 2 ≤ openTimes p := fun z => h2 (ho.mp z)
          simp [h9, h9', h2, h2', takeW, told, actOf, e, e1, e2, e3, e4, e5, Getting]
theorem row_end (p : Program) (l : List Bytes) : rowW p (wEnd :: l) = rowM p (wEnd :: l) := by
  have hs : such (wEnd :: l) = decide (l.length = 0) := by
    rw [such_len (lo := 1) (hi := 1) (by rfl) (by show wEnd ≠ wClass; decide) (by show wEnd ≠ wTimes; decide)]
    exact decide_eq_decide.mpr (by rw [List.length_cons]; omega)
  have e1 : ¬ wEnd = wClass := by decide
  have e2 : ¬ wEnd = wNew := by decide
  have e3 : ¬ wEnd = wSet := by decide
  have e4 : ¬ wEnd = wGet := by decide
  have e5 : ¬ wEnd = wLet := by decide
  have e6 : ¬ wEnd = wTimes := by decide
  match l, hs with
  | _ :: _, hs => rw [row_bad (by rw [hs]; simp)]; rfl
  | [], hs =>
    unfold rowM faultOf
    rw [hs]
    simp only [rowW, if_true, e1, e2, e3, e4, e5, e6, if_false]
    have hm : misnamed p [wEnd] = false := by
      unfold misnamed names
      simp [e1, e3, e4, Getting, e2, e5]
    have hu : untold p [wEnd] = false := by
      unfold untold reads
      simp [e2, e3, e4, e5]
    have hb : badly p [wEnd] = decide (openTimes p = 0) := by unfold badly; simp [e6]
    have ht : tooMany p [wEnd] = false := by
      unfold tooMany
      simp [e1, Getting, e2, e4, e5]
    rw [hm, hu, hb, ht]
    by_cases h2 : openTimes p = 0
    · simp [h2]
    · simp [h2, takeW, told, actOf, e1, e2, e3, e4, e5, e6, Getting]
theorem row_snap (p : Program) (l : List Bytes) : rowW p (wSnap :: l) = rowM p (wSnap :: l) := by
  have hs : such (wSnap :: l) = decide (l.length = 0) := by
    rw [such_len (lo := 1) (hi := 1) (by rfl) (by show wSnap ≠ wClass; decide) (by show wSnap ≠ wTimes; decide)]
    exact decide_eq_decide.mpr (by rw [List.length_cons]; omega)
  have e1 : ¬ wSnap = wClass := by decide
  have e2 : ¬ wSnap = wNew := by decide
  have e3 : ¬ wSnap = wSet := by decide
  have e4 : ¬ wSnap = wGet := by decide
  have e5 : ¬ wSnap = wLet := by decide
  have e6 : ¬ wSnap = wTimes := by decide
  have e7 : ¬ wSnap = wEnd := by decide
  match l, hs with
  | _ :: _, hs => rw [row_bad (by rw [hs]; simp)]; rfl
  | [], hs =>
    unfold rowM faultOf
    rw [hs]
    simp only [rowW, if_true, e1, e2, e3, e4, e5, e6, e7, if_false]
    have hm : misnamed p [wSnap] = false := by
      unfold misnamed names
      simp [e1, e3, e4, Getting, e2, e5]
    have hu : untold p [wSnap] = false := by
      unfold untold reads
      simp [e2, e3, e4, e5]
    have hb : badly p [wSnap] = false := by unfold badly; simp [e6, e7]
    have ht : tooMany p [wSnap] = false := by
      unfold tooMany
      simp [e1, Getting, e2, e4, e5]
    rw [hm, hu, hb, ht]
    simp [takeW, told, actOf, e1, e2, e3, e4, e5, e6, e7, Getting]
/-- THE ROW: what the program reckons of a row that has words is what is due -/
theorem row_is (p : Program) (b : Bnd p) (c : Bytes) (l : List Bytes) : rowW p (c :: l) = rowM p (c :: l) := by
  by_cases h1 : c = wClass
  · subst h1; exact row_class p b l
  by_cases h2 : c = wNew
  · subst h2; exact row_new p b l
  by_cases h3 : c = wSet
  · subst h3; exact row_set p l
  by_cases h4 : c = wGet
  · subst h4; exact row_get p b l
  by_cases h5 : c = wLet
  · subst h5; exact row_let p b l
  by_cases h6 : c = wTimes
  · subst h6; exact row_times p b l
  by_cases h7 : c = wEnd
  · subst h7; exact row_end p l
  by_cases h8 : c = wSnap
  · subst h8; exact row_snap p l
  have : such (c :: l) = false := by
    unfold such counts
    simp [h1, h2, h3, h4, h5, h6, h7, h8]
  rw [row_bad this]
  simp [rowW, h1, h2, h3, h4, h5, h6, h7, h8]
end Kp
/-! nesting: times and their ends; what reading keeps -/
namespace Kp
open Hx01
structure Nest where
  at_ : Nat
  stk : List Nat
  ends : List (Nat × Nat)
def nestStep (s : Nest) (a : Act) : Nest := match a with
  | .times _ => ⟨s.at_ + 1, s.at_ :: s.stk, s.ends⟩
  | .end_ => match s.stk with
    | [] => ⟨s.at_ + 1, [], s.ends⟩
    | b :: r => ⟨s.at_ + 1, r, s.ends ++ [(b, s.at_)]⟩
  | _ => ⟨s.at_ + 1, s.stk, s.ends⟩
def nest (l : List Act) : Nest := l.foldl nestStep ⟨0, [], []⟩
theorem nest_snoc (l : List Act) (a : Act) : nest (l ++ [a]) = nestStep (nest l) a := by unfold nest; rw [List.foldl_append]; rfl
theorem nestStep_at (s : Nest) (a : Act) : (nestStep s a).at_ = s.at_ + 1 := by
  unfold nestStep
  cases a <;> try rfl
  cases s.stk <;> rfl
theorem foldl_at : ∀ (l : List Act) (s : Nest), (l.foldl nestStep s).at_ = s.at_ + l.length
  | [], _ => rfl
  | a :: l, s => by rw [List.foldl_cons, foldl_at l, nestStep_at, List.length_cons]; omega
theorem nest_at (l : List Act) : (nest l).at_ = l.length := by unfold nest; rw [foldl_at]; simp
theorem open_fold : ∀ (l : List Act) (s : Nest), l.foldl (fun n a => match a with | .times _ => n + 1 | .end_ => n - 1 | _ => n) s.stk.length = (l.foldl nestStep s).stk.length
  | [], _ => rfl
  | a :: l, s => by
    rw [List.foldl_cons, List.foldl_cons, ← open_fold l (nestStep s a)]
    congr 1
    unfold nestStep
    cases a <;> try rfl
    cases h : s.stk <;> simp
theorem openTimes_nest (p : Program) : openTimes p = (nest p.acts).stk.length := open_fold p.acts ⟨0, [], []⟩
/-- the stack falls, its rows and the ends' are behind; no row has two ends -/
structure NInv (s : Nest) : Prop where
  stk : s.stk.Pairwise (fun a b => b < a)
  lt : ∀ x ∈ s.stk, x < s.at_
  key : ∀ x ∈ s.ends, x.1 < s.at_ ∧ x.1 ∉ s.stk
  nd : (s.ends.map (fun x => x.1)).Nodup
theorem NInv.step {s : Nest} (h : NInv s) (a : Act) : NInv (nestStep s a) := by
  have plain : NInv ⟨s.at_ + 1, s.stk, s.ends⟩ := ⟨h.stk, fun x hx => by have := h.lt x hx; show x < s.at_ + 1; omega, fun x hx => by have := h.key x hx; exact ⟨by show x.1 < s.at_ + 1; omega, this.2⟩, h.nd⟩
  unfold nestStep
  cases a <;> try exact plain
  case times k =>
    refine ⟨?_, ?_, ?_, h.nd⟩
    · exact List.pairwise_cons.mpr ⟨fun x hx => h.lt x hx, h.stk⟩
    · intro x hx
      show x < s.at_ + 1
      rcases List.mem_cons.mp hx with e | e
      · omega
      · have := h.lt x e; omega
    · intro x hx
      have := h.key x hx
      refine ⟨by show x.1 < s.at_ + 1; omega, ?_⟩
      intro z
      rcases List.mem_cons.mp z with e | e
      · omega
      · exact this.2 e
  case end_ =>
    cases e : s.stk with
    | nil => have := plain; rw [e] at this; exact this
    | cons b r =>
      have hp := h.stk; rw [e] at hp
      have hp2 := List.pairwise_cons.mp hp
      have hb : b < s.at_ := h.lt b (by rw [e]; exact List.mem_cons_self ..)
      refine ⟨hp2.2, ?_, ?_, ?_⟩
      · intro x hx; have := h.lt x (by rw [e]; exact List.mem_cons_of_mem _ hx); show x < s.at_ + 1; omega
      · intro x hx
        rcases List.mem_append.mp hx with z | z
        · have := h.key x z
          rw [e] at this
          exact ⟨by show x.1 < s.at_ + 1; omega, fun y => this.2 (List.mem_cons_of_mem _ y)⟩
        · have z := List.mem_singleton.mp z
          subst z
          refine ⟨by show b < s.at_ + 1; omega, fun y => ?_⟩
          have := hp2.1 b y
          omega
      · show ((s.ends ++ [(b, s.at_)]).map (fun x => x.1)).Nodup
        rw [List.map_append, List.nodup_append]
        refine ⟨h.nd, by simp, ?_⟩
        intro x hx y hy z
        obtain ⟨q, hq, rfl⟩ := List.mem_map.mp hx
        have := h.key q hq
        simp at hy
        rw [e] at this
        exact this.2 (by rw [z, hy]; exact List.mem_cons_self ..)
theorem NInv.fold : ∀ (l : List Act) {s : Nest}, NInv s → NInv (l.foldl nestStep s)
  | [], _, h => h
  | a :: l, _, h => NInv.fold l (h.step a)
theorem NInv.nest (l : List Act) : NInv (nest l) := NInv.fold l ⟨List.Pairwise.nil, (fun _ h => by cases h), (fun _ h => by cases h), List.Pairwise.nil⟩
/-- an end that's told stays told -/
theorem ends_fold : ∀ (l : List Act) (s : Nest), ∃ m, (l.foldl nestStep s).ends = s.ends ++ m
  | [], s => ⟨[], by simp⟩
  | a :: l, s => by
    obtain ⟨m, hm⟩ := ends_fold l (nestStep s a)
    have : ∃ m', (nestStep s a).ends = s.ends ++ m' := by
      unfold nestStep
      cases a with
      | end_ =>
       cases s.stk with
       | nil => exact ⟨[], by simp⟩
       | cons b r => exact ⟨_, rfl⟩
      | _ => exact ⟨[], by simp⟩
    obtain ⟨m', h'⟩ := this
    exact ⟨m' ++ m, by rw [List.foldl_cons, hm, h', List.append_assoc]⟩
/-- the times at b, with so many open within it, is ended where behind says, or not at all -/
theorem pop_at (b : Nat) (s : List Nat) : ∀ (l : List Act) (st : Nest) (xs : List Nat), st.stk = xs ++ b :: s →
    (∃ ys, (l.foldl nestStep st).stk = ys ++ b :: s) ∨ ∃ e m, behind st.at_ xs.length l = e + 1 ∧ st.at_ ≤ e ∧ e < st.at_ + l.length ∧ (b, e) ∈ (l.foldl nestStep st).ends ∧ l.take (e + 1 - st.at_) = m ∧ (m.foldl nestStep st).stk = s
  | [], st, xs, h => .inl ⟨xs, h⟩
  | a :: l, st, xs, h => by
    have go : ∀ (ys : List Nat), (nestStep st a).stk = ys ++ b :: s → behind st.at_ xs.length (a :: l) = behind (st.at_ + 1) ys.length l →
        (∃ ys, ((a :: l).foldl nestStep st).stk = ys ++ b :: s) ∨ ∃ e m, behind st.at_ xs.length (a :: l) = e + 1 ∧ st.at_ ≤ e ∧ e < st.at_ + (a :: l).length ∧ (b, e) ∈ ((a :: l).foldl nestStep st).ends ∧ (a :: l).take (e + 1 - st.at_) = m ∧ (m.foldl nestStep st).stk = s := by
      intro ys hy hb
      rcases pop_at b s l (nestStep st a) ys hy with z | ⟨e, m, z1, z2, z3, z4, z5, z6⟩
      · exact .inl z
      · rw [nestStep_at] at z1 z2 z3 z5
        refine .inr ⟨e, a :: m, by rw [hb]; exact z1, by omega, by rw [List.length_cons]; omega, z4, ?_, z6⟩
        have : e + 1 - st.at_ = (e + 1 - (st.at_ + 1)) + 1 := by omega
        rw [this, List.take_succ_cons, z5]
    cases a with
    | times k => exact go (st.at_ :: xs) (by show st.at_ :: st.stk = _; rw [h]; rfl) rfl
    | end_ =>
      cases xs with
      | nil =>
        refine .inr ⟨st.at_, [.end_], rfl, Nat.le_refl _, by rw [List.length_cons]; omega, ?_, ?_, ?_⟩
        · rw [List.foldl_cons]
          obtain ⟨m, hm⟩ := ends_fold l (nestStep st .end_)
          rw [hm]
          refine List.mem_append_left _ ?_
          have h' : st.stk = b :: s := h
          unfold nestStep
          rw [h']
          simp
        · have : st.at_ + 1 - st.at_ = 1 := by omega
          rw [this]; simp
        · have h' : st.stk = b :: s := h
          show (nestStep st .end_).stk = s
          unfold nestStep
          rw [h']
      | cons x xs =>
        refine go xs ?_ ?_
        · have h' : st.stk = x :: (xs ++ b :: s) := h
          unfold nestStep
          rw [h']
        · show (if xs.length + 1 = 0 then st.at_ + 1 else behind (st.at_ + 1) (xs.length + 1 - 1) l) = _
          rw [if_neg (by omega)]
          rfl
    | new v c => exact go xs h rfl
    | set v f w => exact go xs h rfl
    | get v w f => exact go xs h rfl
    | let_ v w => exact go xs h rfl
    | snap => exact go xs h rfl
    | nothing => exact go xs h rfl
/-- the rows of the times that are open ahead of row i, the innermost first -/
def stackAt (l : List Act) (i : Nat) : List Nat := (nest (l.take i)).stk
theorem take_get {l : List Act} {i : Nat} {a : Act} (h : l[i]? = some a) : l.take (i + 1) = l.take i ++ [a] := by
  rw [List.take_add_one, h]; rfl
theorem nest_take {l : List Act} {i : Nat} {a : Act} (h : l[i]? = some a) : nest (l.take (i + 1)) = nestStep (nest (l.take i)) a := by
  rw [take_get h, nest_snoc]
theorem at_take {l : List Act} {i : Nat} (h : i ≤ l.length) : (nest (l.take i)).at_ = i := by rw [nest_at, List.length_take]; omega
theorem stack_times {l : List Act} {i k : Nat} (h : l[i]? = some (.times k)) : stackAt l (i + 1) = i :: stackAt l i := by
  have hi : i ≤ l.length := by have := (List.getElem?_eq_some_iff.mp h).1; omega
  unfold stackAt
  rw [nest_take h]
  show (nest (l.take i)).at_ :: _ = _
  rw [at_take hi]
theorem stack_end {l : List Act} {i b : Nat} {r : List Nat} (h : l[i]? = some .end_) (hs : stackAt l i = b :: r) : stackAt l (i + 1) = r := by
  unfold stackAt at hs ⊢
  rw [nest_take h]
  unfold nestStep
  rw [hs]
theorem stack_plain {l : List Act} {i : Nat} {a : Act} (h : l[i]? = some a) (h1 : ∀ k, a ≠ .times k) (h2 : a ≠ .end_) : stackAt l (i + 1) = stackAt l i := by
  unfold stackAt
  rw [nest_take h]
  unfold nestStep
  cases a <;> first | rfl | exact absurd rfl (h1 _) | exact absurd rfl h2
/-- what stood open ahead of a times stands there still -/
theorem stack_back {l : List Act} : ∀ {i b : Nat} {xs r : List Nat}, i ≤ l.length → stackAt l i = xs ++ b :: r → stackAt l b = r ∧ (∃ k, l[b]? = some (.times k)) ∧ b < i
  | 0, b, xs, r, _, h => by
    have : stackAt l 0 = [] := by unfold stackAt; simp [nest]
    rw [this] at h
    exact absurd h.symm (by simp)
  | i + 1, b, xs, r, hi, h => by
    have hl : i < l.length := by omega
    have hg : l[i]? = some l[i] := List.getElem?_eq_getElem hl
    have more : ∀ ys, stackAt l i = ys ++ b :: r → stackAt l b = r ∧ (∃ k, l[b]? = some (.times k)) ∧ b < i + 1 := fun ys hy => by
      have := stack_back (i := i) (by omega) hy
      exact ⟨this.1, this.2.1, by omega⟩
    cases ha : l[i] with
    | times k =>
      rw [ha] at hg
      rw [stack_times hg] at h
      cases xs with
      | nil =>
        have h := List.cons.inj h
        have e1 := h.1; have e2 := h.2
        subst e1
        exact ⟨e2, ⟨k, hg⟩, by omega⟩
      | cons x xs => exact more xs (List.cons.inj h).2
    | end_ =>
      rw [ha] at hg
      cases hs : stackAt l i with
      | nil =>
        have : stackAt l (i + 1) = [] := by
          unfold stackAt at hs ⊢
          rw [nest_take hg]
          unfold nestStep
          rw [hs]
        rw [this] at h
        exact absurd h.symm (by simp)
      | cons c q =>
        rw [stack_end hg hs] at h
        exact more (c :: xs) (by rw [hs, h]; rfl)
    | new v c => rw [ha] at hg; rw [stack_plain hg (by intro; simp) (by simp)] at h; exact more xs h
    | set v f w => rw [ha] at hg; rw [stack_plain hg (by intro; simp) (by simp)] at h; exact more xs h
    | get v w f => rw [ha] at hg; rw [stack_plain hg (by intro; simp) (by simp)] at h; exact more xs h
    | let_ v w => rw [ha] at hg; rw [stack_plain hg (by intro; simp) (by simp)] at h; exact more xs h
    | snap => rw [ha] at hg; rw [stack_plain hg (by intro; simp) (by simp)] at h; exact more xs h
    | nothing => rw [ha] at hg; rw [stack_plain hg (by intro; simp) (by simp)] at h; exact more xs h
/-- a times of a text in which each has its end -/
theorem times_end {l : List Act} (hn : (nest l).stk = []) {i k : Nat} (h : l[i]? = some (.times k)) :
    ∃ e, behind (i + 1) 0 (l.drop (i + 1)) = e + 1 ∧ e < l.length ∧ i < e ∧ (i, e) ∈ (nest l).ends ∧ stackAt l (e + 1) = stackAt l i := by
  have hi : i < l.length := (List.getElem?_eq_some_iff.mp h).1
  have hs : (nest (l.take (i + 1))).stk = [] ++ i :: stackAt l i := stack_times h
  have ha : (nest (l.take (i + 1))).at_ = i + 1 := at_take (by omega)
  have hf : (l.drop (i + 1)).foldl nestStep (nest (l.take (i + 1))) = nest l := by
    unfold nest
    rw [← List.foldl_append, List.take_append_drop]
  rcases pop_at i (stackAt l i) (l.drop (i + 1)) _ [] hs with ⟨ys, z⟩ | ⟨e, m, z1, z2, z3, z4, z5, z6⟩
  · rw [hf, hn] at z
    exact absurd z.symm (by simp)
  · rw [ha] at z1 z2 z3 z5
    rw [hf] at z4
    rw [List.length_drop] at z3
    refine ⟨e, z1, by omega, by omega, z4, ?_⟩
    unfold stackAt
    have : l.take (e + 1) = l.take (i + 1) ++ m := by
      rw [← z5]
      have : e + 1 = (i + 1) + (e + 1 - (i + 1)) := by omega
      conv => lhs; rw [this, List.take_add]
    rw [this]
    unfold nest at z6 ⊢
    rw [List.foldl_append, z6]
    rfl
theorem lookup_ends {l : List Act} {i e : Nat} (h : (i, e) ∈ (nest l).ends) : (nest l).ends.lookup i = some e := by
  have nd := (NInv.nest l).nd
  generalize (nest l).ends = es at h nd
  induction es with
  | nil => exact absurd h (by simp)
  | cons x es ih =>
    rw [List.map_cons, List.nodup_cons] at nd
    rcases List.mem_cons.mp h with z | z
    · subst z; simp
    · have : i ≠ x.1 := fun y => nd.1 (by rw [← y]; exact List.mem_map.mpr ⟨_, z, rfl⟩)
      have : (i == x.1) = false := by simpa using this
      rw [List.lookup_cons, this]
      exact ih z nd.2
end Kp
/-! reading: what a program that is read keeps of its rows -/
namespace Kp
open Hx01
def actAt (p : Program) (ws : List Bytes) : Act := if ws = [] then .nothing else actOf p ws
/-- what a row speaks of is told -/
structure Told (p : Program) (ws : List Bytes) : Prop where
  ok : such ws = true
  new : wd ws 0 = wNew → wd ws 1 ∈ p.vars ∧ wd ws 2 ∈ p.classes.map (fun x => x.name)
  set : wd ws 0 = wSet → wd ws 1 ∈ p.vars ∧ (wd ws 3 ≠ wNil → wd ws 3 ∈ p.vars)
  get : wd ws 0 = wGet → wd ws 1 ∈ p.vars ∧ wd ws 2 ∈ p.vars
  let_ : wd ws 0 = wLet → wd ws 1 ∈ p.vars ∧ (wd ws 2 ≠ wNil → wd ws 2 ∈ p.vars)
def Ext (p q : Program) : Prop := (∃ m, q.vars = p.vars ++ m) ∧ ∃ n, q.classes = p.classes ++ n
theorem Ext.rfl_ (p : Program) : Ext p p := ⟨⟨[], by simp⟩, [], by simp⟩
theorem Ext.trans {p q r : Program} (h : Ext p q) (k : Ext q r) : Ext p r := by
  obtain ⟨⟨m, hm⟩, n, hn⟩ := h
  obtain ⟨⟨m', hm'⟩, n', hn'⟩ := k
  exact ⟨⟨m ++ m', by rw [hm', hm, List.append_assoc]⟩, n ++ n', by rw [hn', hn, List.append_assoc]⟩
theorem Ext.vars {p q : Program} (h : Ext p q) {w : Bytes} (hw : w ∈ p.vars) : w ∈ q.vars := by
  obtain ⟨⟨m, hm⟩, _⟩ := h; rw [hm]; exact List.mem_append_left _ hw
theorem Ext.cls {p q : Program} (h : Ext p q) {w : Bytes} (hw : w ∈ p.classes.map (fun x => x.name)) : w ∈ q.classes.map (fun x => x.name) := by
  obtain ⟨_, m, hm⟩ := h; rw [hm, List.map_append]; exact List.mem_append_left _ hw
theorem Ext.idx {p q : Program} (h : Ext p q) {w : Bytes} (hw : w ∈ p.vars) : idx q.vars w = idx p.vars w := by
  obtain ⟨⟨m, hm⟩, _⟩ := h; unfold Kp.idx; rw [hm, indexOf_append hw]
theorem Ext.idxC {p q : Program} (h : Ext p q) {w : Bytes} (hw : w ∈ p.classes.map (fun x => x.name)) : Kp.idx (q.classes.map fun x => x.name) w = Kp.idx (p.classes.map fun x => x.name) w := by
  obtain ⟨_, m, hm⟩ := h; unfold Kp.idx; rw [hm, List.map_append, indexOf_append hw]
theorem Ext.orNil {p q : Program} (h : Ext p q) {w : Bytes} (hw : w ≠ wNil → w ∈ p.vars) : orNil q.vars w = orNil p.vars w := by
  unfold Kp.orNil
  by_cases e : w = wNil
  · rw [if_pos e, if_pos e]
  · rw [if_neg e, if_neg e, h.idx (hw e)]
theorem Told.ext {p q : Program} {ws : List Bytes} (h : Told p ws) (e : Ext p q) : Told q ws :=
  ⟨h.ok, fun z => ⟨e.vars (h.new z).1, e.cls (h.new z).2⟩, fun z => ⟨e.vars (h.set z).1, fun y => e.vars ((h.set z).2 y)⟩,
   fun z => ⟨e.vars (h.get z).1, e.vars (h.get z).2⟩, fun z => ⟨e.vars (h.let_ z).1, fun y => e.vars ((h.let_ z).2 y)⟩⟩
theorem Told.act {p q : Program} {ws : List Bytes} (h : Told p ws) (e : Ext p q) : actOf q ws = actOf p ws := by
  unfold actOf
  by_cases c1 : wd ws 0 = wNew
  · rw [if_pos c1, if_pos c1, e.idx (h.new c1).1, e.idxC (h.new c1).2]
  rw [if_neg c1, if_neg c1]
  by_cases c2 : wd ws 0 = wSet
  · rw [if_pos c2, if_pos c2, e.idx (h.set c2).1, e.orNil (h.set c2).2]
  rw [if_neg c2, if_neg c2]
  by_cases c3 : wd ws 0 = wGet
  · rw [if_pos c3, if_pos c3, e.idx (h.get c3).1, e.idx (h.get c3).2]
  rw [if_neg c3, if_neg c3]
  by_cases c4 : wd ws 0 = wLet
  · rw [if_pos c4, if_pos c4, e.idx (h.let_ c4).1, e.orNil (h.let_ c4).2]
  rw [if_neg c4, if_neg c4]
/-- a row without fault: its parts -/
theorem fault_zero {p : Program} {ws : List Bytes} (h : faultOf p ws = 0) : such ws = true ∧ misnamed p ws = false ∧ untold p ws = false ∧ badly p ws = false ∧ tooMany p ws = false := by
  unfold faultOf at h
  cases h1 : such ws <;> rw [h1] at h
  · simp at h
  cases h2 : misnamed p ws <;> rw [h2] at h
  · cases h3 : untold p ws <;> rw [h3] at h
    · cases h4 : badly p ws <;> rw [h4] at h
      · cases h5 : tooMany p ws <;> rw [h5] at h
        · exact ⟨rfl, rfl, rfl, rfl, rfl⟩
        · simp at h
      · simp at h
    · simp at h
  · simp at h
theorem told_ext (p : Program) (ws : List Bytes) : Ext p (told p ws) := by
  unfold told
  by_cases c : wd ws 0 = wClass
  · rw [if_pos c]; exact ⟨⟨[], by simp⟩, _, rfl⟩
  · rw [if_neg c]
    by_cases g : Getting (wd ws 0) ∧ wd ws 1 ∉ p.vars
    · rw [if_pos g]; exact ⟨⟨_, rfl⟩, [], by simp⟩
    · rw [if_neg g]; exact Ext.rfl_ p
theorem told_getting {p : Program} {ws : List Bytes} (h : Getting (wd ws 0)) : wd ws 1 ∈ (told p ws).vars := by
  unfold told
  have c : ¬ wd ws 0 = wClass := by
    intro z; rw [z] at h; exact absurd h (by decide)
  rw [if_neg c]
  by_cases g : wd ws 1 ∈ p.vars
  · rw [if_neg (fun z => z.2 g)]; exact g
  · rw [if_pos ⟨h, g⟩]; simp
theorem told_told {p : Program} {ws : List Bytes} (h : faultOf p ws = 0) : Told (told p ws) ws := by
  obtain ⟨h1, _, h3, _, _⟩ := fault_zero h
  have e := told_ext p ws
  have hr : ∀ w ∈ reads ws, w ∈ p.vars := by
    intro w hw
    unfold untold at h3
    by_cases c : wd ws 0 = wNew ∧ wd ws 2 ∉ p.classes.map (fun x => x.name)
    · rw [if_pos c] at h3; cases h3
    · rw [if_neg c] at h3
      have := List.any_eq_false.mp h3 w hw
      simpa using this
  refine ⟨h1, fun z => ⟨told_getting (.inl z), ?_⟩, fun z => ?_, fun z => ⟨told_getting (.inr (.inl z)), ?_⟩, fun z => ⟨told_getting (.inr (.inr z)), fun y => ?_⟩⟩
  · apply e.cls
    apply Classical.byContradiction
    intro y
    unfold untold at h3
    rw [if_pos ⟨z, y⟩] at h3
    cases h3
  · have c1 : ¬ wd ws 0 = wGet := by rw [z]; decide
    have c2 : ¬ wd ws 0 = wLet := by rw [z]; decide
    unfold reads at hr
    rw [if_neg c1, if_neg c2, if_pos z] at hr
    by_cases y : wd ws 3 = wNil
    · rw [if_pos y] at hr
      exact ⟨e.vars (hr _ (by simp)), fun x => absurd y x⟩
    · rw [if_neg y] at hr
      exact ⟨e.vars (hr _ (by simp)), fun _ => e.vars (hr _ (by simp))⟩
  · unfold reads at hr
    rw [if_pos z] at hr
    exact e.vars (hr _ (by simp))
  · have c1 : ¬ wd ws 0 = wGet := by rw [z]; decide
    unfold reads at hr
    rw [if_neg c1, if_pos z, if_neg y] at hr
    exact e.vars (hr _ (by simp))
theorem Bnd.act {p : Program} {a : Act} (h : Bnd p) (ho : openTimes (act p a) ≤ 2) : Bnd (act p a) := ⟨h.vars, h.cls, ho, h.fld⟩
theorem open_act (p : Program) (a : Act) : openTimes (act p a) = match a with | .times _ => openTimes p + 1 | .end_ => openTimes p - 1 | _ => openTimes p := by
  unfold openTimes act
  rw [List.foldl_append]
  cases a <;> rfl
theorem told_acts (p : Program) (ws : List Bytes) : (told p ws).acts = p.acts := by
  unfold told
  by_cases c : wd ws 0 = wClass
  · rw [if_pos c]
  · rw [if_neg c]
    by_cases g : Getting (wd ws 0) ∧ wd ws 1 ∉ p.vars
    · rw [if_pos g]
    · rw [if_neg g]
theorem told_open (p : Program) (ws : List Bytes) : openTimes (told p ws) = openTimes p := by unfold openTimes; rw [told_acts]
theorem told_bnd {p : Program} {ws : List Bytes} (b : Bnd p) (h : tooMany p ws = false) (hs : such ws = true) : Bnd (told p ws) := by
  have ho := told_open p ws
  unfold tooMany at h
  unfold told at ho ⊢
  by_cases c : wd ws 0 = wClass
  · rw [if_pos c] at h ho ⊢
    have h := of_decide_eq_false h
    refine ⟨b.vars, by have := b.cls; simp only [List.length_append, List.length_cons, List.length_nil]; omega, by rw [ho]; exact b.opn, ?_⟩
    intro x hx
    rcases List.mem_append.mp hx with z | z
    · exact b.fld x z
    · have z := List.mem_singleton.mp z
      subst z
      have hl : ws.length ≤ 5 := by
        unfold such at hs
        have hc : counts (wd ws 0) = some (3, 5) := by rw [c]; decide
        rw [hc] at hs
        dsimp only at hs
        by_cases q : 3 ≤ ws.length ∧ ws.length ≤ 5
        · exact q.2
        · rw [if_neg q] at hs; cases hs
      simp; omega
  · rw [if_neg c] at h ho ⊢
    by_cases g : Getting (wd ws 0) ∧ wd ws 1 ∉ p.vars
    · rw [if_pos g] at h ho ⊢
      have h := of_decide_eq_false h
      exact ⟨by have := b.vars; simp only [List.length_append, List.length_cons, List.length_nil]; omega, b.cls, by rw [ho]; exact b.opn, b.fld⟩
    · rw [if_neg g]; exact b
theorem actOf_times {p : Program} {ws : List Bytes} {k : Nat} (h : actOf p ws = .times k) : wd ws 0 = wTimes := by
  unfold actOf at h
  by_cases c1 : wd ws 0 = wNew
  · rw [if_pos c1] at h; cases h
  rw [if_neg c1] at h
  by_cases c2 : wd ws 0 = wSet
  · rw [if_pos c2] at h; cases h
  rw [if_neg c2] at h
  by_cases c3 : wd ws 0 = wGet
  · rw [if_pos c3] at h; cases h
  rw [if_neg c3] at h
  by_cases c4 : wd ws 0 = wLet
  · rw [if_pos c4] at h; cases h
  rw [if_neg c4] at h
  by_cases c5 : wd ws 0 = wTimes
  · exact c5
  rw [if_neg c5] at h
  by_cases c6 : wd ws 0 = wEnd
  · rw [if_pos c6] at h; cases h
  rw [if_neg c6] at h
  by_cases c7 : wd ws 0 = wSnap
  · rw [if_pos c7] at h; cases h
  rw [if_neg c7] at h; cases h
theorem actOf_end {p : Program} {ws : List Bytes} (h : actOf p ws = .end_) : wd ws 0 = wEnd := by
  unfold actOf at h
  by_cases c1 : wd ws 0 = wNew
  · rw [if_pos c1] at h; cases h
  rw [if_neg c1] at h
  by_cases c2 : wd ws 0 = wSet
  · rw [if_pos c2] at h; cases h
  rw [if_neg c2] at h
  by_cases c3 : wd ws 0 = wGet
  · rw [if_pos c3] at h; cases h
  rw [if_neg c3] at h
  by_cases c4 : wd ws 0 = wLet
  · rw [if_pos c4] at h; cases h
  rw [if_neg c4] at h
  by_cases c5 : wd ws 0 = wTimes
  · rw [if_pos c5] at h; cases h
  rw [if_neg c5] at h
  by_cases c6 : wd ws 0 = wEnd
  · exact c6
  rw [if_neg c6] at h
  by_cases c7 : wd ws 0 = wSnap
  · rw [if_pos c7] at h; cases h
  rw [if_neg c7] at h; cases h
theorem take_bnd {p : Program} {ws : List Bytes} (b : Bnd p) (h : faultOf p ws = 0) : Bnd (takeW p ws) := by
  obtain ⟨h1, _, _, h4, h5⟩ := fault_zero h
  have b2 := told_bnd b h5 h1
  refine b2.act ?_
  rw [open_act]
  cases e : actOf (told p ws) ws with
  | times k =>
    have c := actOf_times e
    unfold badly at h4
    rw [if_pos c] at h4
    have h4 := of_decide_eq_false h4
    show openTimes (told p ws) + 1 ≤ 2
    rw [told_open]
    have := b.opn
    omega
  | end_ => show openTimes (told p ws) - 1 ≤ 2; have := b2.opn; omega
  | _ => exact b2.opn
theorem names_low {p : Program} {ws : List Bytes} (h : misnamed p ws = false) : ∀ w ∈ names ws, Low w := by
  intro w hw
  unfold misnamed at h
  by_cases c : (names ws).all isName = true
  · exact isName_low (List.all_eq_true.mp c w hw)
  · rw [if_neg c] at h; cases h
theorem take_low {p : Program} {ws : List Bytes} (l : LowP p) (h : faultOf p ws = 0) : LowP (takeW p ws) := by
  obtain ⟨_, h2, _, _, _⟩ := fault_zero h
  have hn := names_low h2
  suffices LowP (told p ws) from ⟨this.vars, this.cls⟩
  unfold told
  by_cases c : wd ws 0 = wClass
  · rw [if_pos c]
    refine ⟨l.vars, ?_⟩
    intro x hx
    rw [List.map_append] at hx
    rcases List.mem_append.mp hx with z | z
    · exact l.cls x z
    · have z := List.mem_singleton.mp z
      subst z
      apply hn
      unfold names
      rw [if_pos c]
      exact List.mem_cons_self ..
  · rw [if_neg c]
    by_cases g : Getting (wd ws 0) ∧ wd ws 1 ∉ p.vars
    · rw [if_pos g]
      refine ⟨?_, l.cls⟩
      intro x hx
      rcases List.mem_append.mp hx with z | z
      · exact l.vars x z
      · have z := List.mem_singleton.mp z
        subst z
        apply hn
        unfold names
        have n1 : ¬ wd ws 0 = wSet := by intro z; have := g.1; rw [z] at this; exact absurd this (by decide)
        rw [if_neg c, if_neg n1]
        by_cases n2 : wd ws 0 = wGet
        · rw [if_pos n2]; exact List.mem_cons_self ..
        · rw [if_neg n2, if_pos g.1]; exact List.mem_cons_self ..
    · rw [if_neg g]; exact l
/-- **Rows read so far.** -/
structure Read (wss : List (List Bytes)) (i : Nat) (p : Program) : Prop where
  le : i ≤ wss.length
  len : p.acts.length = i
  bnd : Bnd p
  low : LowP p
  row : ∀ (j : Nat) (ws : List Bytes), j < i → wss[j]? = some ws → p.acts[j]? = some (actAt p ws) ∧ (ws ≠ [] → Told p ws)
  nst : ∀ j : Nat, p.acts[j]? = some .end_ → stackAt p.acts j ≠ []
  rest : progW 0 ⟨[], [], []⟩ wss = progW i p (wss.drop i)
theorem Read.start (wss : List (List Bytes)) : Read wss 0 ⟨[], [], []⟩ :=
  ⟨Nat.zero_le _, rfl, ⟨by decide, by decide, by decide, (fun c h => by cases h)⟩, ⟨fun x h => (by cases h), fun x h => (by cases h)⟩, fun j ws h => absurd h (Nat.not_lt_zero _), (fun j h => by simp at h), rfl⟩
theorem Read.step {wss : List (List Bytes)} {i : Nat} {p : Program} (R : Read wss i p) {ws : List Bytes} (hw : wss[i]? = some ws) {q : Program} (hq : rowW p ws = .ok q)
    (e : Ext p q) (hb : Bnd q) (hl : LowP q) (ha : q.acts = p.acts ++ [actAt q ws]) (ht : ws ≠ [] → Told q ws) (he : actAt q ws = .end_ → openTimes p ≠ 0) : Read wss (i + 1) q := by
  have hi : i < wss.length := (List.getElem?_eq_some_iff.mp hw).1
  have hg : wss[i] = ws := (List.getElem?_eq_some_iff.mp hw).2
  refine ⟨hi, by rw [ha, List.length_append, R.len]; rfl, hb, hl, ?_, ?_, ?_⟩
  · intro j us hj hu
    by_cases c : j < i
    · have := R.row j us c hu
      have hj' : j < p.acts.length := by rw [R.len]; exact c
      refine ⟨?_, fun z => (this.2 z).ext e⟩
      rw [ha, List.getElem?_append_left hj', this.1]
      unfold actAt
      by_cases z : us = []
      · rw [if_pos z, if_pos z]
      · rw [if_neg z, if_neg z, (this.2 z).act e]
    · have hj2 : j = i := by omega
      subst hj2
      rw [hw] at hu
      cases hu
      refine ⟨?_, ht⟩
      rw [ha, List.getElem?_append_right (by rw [R.len]; exact Nat.le_refl _), R.len]
      simp
  · intro j hj
    rw [ha] at hj ⊢
    by_cases c : j < p.acts.length
    · rw [List.getElem?_append_left c] at hj
      unfold stackAt
      rw [List.take_append_of_le_length (by omega)]
      exact R.nst j hj
    · have hj2 : j < (p.acts ++ [actAt q ws]).length := (List.getElem?_eq_some_iff.mp hj).1
      rw [List.length_append, List.length_singleton] at hj2
      have e : j = p.acts.length := by omega
      subst e
      rw [List.getElem?_append_right (Nat.le_refl _)] at hj
      simp only [Nat.sub_self, List.getElem?_cons_zero, Option.some.injEq] at hj
      have h0 := he hj
      unfold stackAt
      rw [List.take_append_of_le_length (Nat.le_refl _), List.take_length]
      intro z
      rw [openTimes_nest, z] at h0
      exact h0 rfl
  · rw [R.rest, List.drop_eq_getElem_cons hi, hg]
    show (match rowW p ws with | .error e => Except.error (i, e) | .ok q => progW (i + 1) q (wss.drop (i + 1))) = _
    rw [hq]
theorem Read.blank {wss : List (List Bytes)} {i : Nat} {p : Program} (R : Read wss i p) (hw : wss[i]? = some []) : Read wss (i + 1) (act p .nothing) :=
  R.step hw rfl ⟨⟨[], by simp [act]⟩, [], by simp [act]⟩ (R.bnd.act (by rw [open_act]; exact R.bnd.opn)) ⟨R.low.vars, R.low.cls⟩ rfl (fun z => absurd rfl z) (fun z => by cases z)
theorem Read.good {wss : List (List Bytes)} {i : Nat} {p : Program} (R : Read wss i p) {ws : List Bytes} (hw : wss[i]? = some ws) (hn : ws ≠ []) (hf : faultOf p ws = 0) : Read wss (i + 1) (takeW p ws) := by
  match ws, hn with
  | c_ :: l, hn =>
    have hq : rowW p (c_ :: l) = .ok (takeW p (c_ :: l)) := by
      rw [row_is p R.bnd]
      unfold rowM
      rw [if_pos hf]
    have e := told_ext p (c_ :: l)
    have e2 : Ext (told p (c_ :: l)) (takeW p (c_ :: l)) := ⟨⟨[], by simp [takeW, act]⟩, [], by simp [takeW, act]⟩
    have T := told_told hf
    refine R.step hw hq (e.trans e2) (take_bnd R.bnd hf) (take_low R.low hf) ?_ (fun _ => T.ext e2) ?_
    rotate_left
    · intro z
      unfold actAt at z
      rw [if_neg hn] at z
      have c := actOf_end z
      obtain ⟨_, _, _, h4, _⟩ := fault_zero hf
      unfold badly at h4
      have c2 : ¬ wd (c_ :: l) 0 = wTimes := by rw [c]; decide
      rw [if_neg c2, c] at h4
      simpa using h4
    show (told p (c_ :: l)).acts ++ [actOf (told p (c_ :: l)) (c_ :: l)] = p.acts ++ [actAt (takeW p (c_ :: l)) (c_ :: l)]
    rw [told_acts]
    unfold actAt
    rw [if_neg hn, T.act e2]
/-- a row at fault ends it -/
theorem Read.fault {wss : List (List Bytes)} {i : Nat} {p : Program} (R : Read wss i p) {ws : List Bytes} (hw : wss[i]? = some ws) (hn : ws ≠ []) (hf : faultOf p ws ≠ 0) : progW 0 ⟨[], [], []⟩ wss = .error (i, faultOf p ws) := by
  have hi : i < wss.length := (List.getElem?_eq_some_iff.mp hw).1
  have hg : wss[i] = ws := (List.getElem?_eq_some_iff.mp hw).2
  rw [R.rest, List.drop_eq_getElem_cons hi, hg]
  match ws, hn with
  | c :: l, hn =>
    show (match rowW p (c :: l) with | .error e => Except.error (i, e) | .ok q => progW (i + 1) q (wss.drop (i + 1))) = _
    rw [row_is p R.bnd]
    unfold rowM
    rw [if_neg hf]
theorem Read.done {wss : List (List Bytes)} {p : Program} (R : Read wss wss.length p) : progW 0 ⟨[], [], []⟩ wss = if openTimes p = 0 then .ok p else .error (wss.length, 4) := by
  rw [R.rest, List.drop_length]
  rfl
end Kp
/-! reading through the signs; a program run, row by row -/
namespace Kp
open Hx01
theorem progW_cw : ∀ (wss : List (List Bytes)) (i : Nat) (p : Program), Bnd p → LowP p → progW i p (wss.map (fun ws => ws.map cw)) = progW i p wss
  | [], _, _, _, _ => rfl
  | ws :: l, i, p, b, lo => by
    simp only [List.map_cons, progW, rowW_cw lo]
    cases e : rowW p ws with
    | error e => rfl
    | ok q =>
      refine progW_cw l (i + 1) q ?_ ?_
      · cases ws with
        | nil => cases e; exact b.act (by rw [open_act]; exact b.opn)
        | cons c r =>
          rw [row_is p b] at e
          unfold rowM at e
          by_cases h : faultOf p (c :: r) = 0
          · rw [if_pos h] at e; cases e; exact take_bnd b h
          · rw [if_neg h] at e; cases e
      · cases ws with
        | nil => cases e; exact ⟨lo.vars, lo.cls⟩
        | cons c r =>
          rw [row_is p b] at e
          unfold rowM at e
          by_cases h : faultOf p (c :: r) = 0
          · rw [if_pos h] at e; cases e; exact take_low lo h
          · rw [if_neg h] at e; cases e
/-- the rows' words as the program has them -/
def wordsOf (w : Bytes) : List (List Bytes) := (splitAt 10 [] (cw w)).map fun r => (splitAt 32 [] r).filter (fun x => x ≠ [])
theorem read_words (w : Bytes) : read w = progW 0 ⟨[], [], []⟩ (wordsOf w) := by
  have e : wordsOf w = ((rows w).map words).map (fun ws => ws.map cw) := by
    unfold wordsOf
    rw [← rows_split, List.map_map]
    show (rows (cw w)).map _ = _
    rw [rows_cw, List.map_map]
    refine List.map_congr_left fun r _ => ?_
    show (splitAt 32 [] (cw r)).filter (fun x => x ≠ []) = (words r).map cw
    rw [← words_split, ← words_cw]
    rfl
  rw [e, progW_cw _ _ _ (Read.start []).bnd (Read.start []).low]
  exact programFrom_progW (rows w) 0 _
/-- **One row done**: the step is counted; none: it stops there. -/
def doRow (p : Program) (i : Nat) (open_ : List (Nat × Nat)) (w : Way) : Act → Option (Nat × List (Nat × Nat) × Way)
  | .nothing => none
  | .new v c => if THINGS ≤ w.heap.things.length then none else some (i + 1, open_, { w with heap := put { w.heap with things := w.heap.things ++ [⟨c, i, ((p.classes[c]?).elim [] fun x => x.fields).map fun _ => none⟩] } v (some w.heap.things.length) })
  | .set v g x => (match held w.heap v with
    | none => none
    | some o => match fieldOf p w.heap o g, w.heap.things[o]? with
      | some k, some t => some (i + 1, open_, { w with heap := { w.heap with things := w.heap.things.set o { t with fields := t.fields.set k (x.bind (held w.heap)) } } })
      | _, _ => none)
  | .get v u g => (match held w.heap u with
    | none => none
    | some o => match fieldOf p w.heap o g, w.heap.things[o]? with
      | some k, some t => some (i + 1, open_, { w with heap := put w.heap v ((t.fields[k]?).bind fun x => x) })
      | _, _ => none)
  | .let_ v x => some (i + 1, open_, { w with heap := put w.heap v (x.bind (held w.heap)) })
  | .times k => if k = 0 then some (behind (i + 1) 0 (p.acts.drop (i + 1)), open_, w) else some (i + 1, (i, k - 1) :: open_, w)
  | .end_ => (match open_ with
    | [] => none
    | (b, k) :: l => if k = 0 then some (i + 1, l, w) else some (b + 1, (b, k - 1) :: l, w))
  | .snap => if SNAPS ≤ w.snaps.length then none else some (i + 1, open_, { w with snaps := w.snaps ++ [w.heap] })
theorem runFrom_none {p : Program} {f i : Nat} {o : List (Nat × Nat)} {w : Way} (h : p.acts[i]? = none) : runFrom p (f + 1) i o w = (w, none) := by
  unfold runFrom; rw [h]
theorem runFrom_nothing {p : Program} {f i : Nat} {o : List (Nat × Nat)} {w : Way} (h : p.acts[i]? = some .nothing) : runFrom p (f + 1) i o w = runFrom p f (i + 1) o w := by
  conv => lhs; unfold runFrom
  rw [h]; simp
theorem runFrom_full {p : Program} {f i : Nat} {o : List (Nat × Nat)} {w : Way} {a : Act} (h : p.acts[i]? = some a) (ha : a ≠ .nothing) (hs : 300 ≤ w.steps) : runFrom p (f + 1) i o w = (w, some i) := by
  conv => lhs; unfold runFrom
  rw [h]; simp only [ha, if_false]
  rw [if_pos (show STEPS ≤ w.steps from hs)]
theorem runFrom_step {p : Program} {f i : Nat} {o : List (Nat × Nat)} {w : Way} {a : Act} (h : p.acts[i]? = some a) (ha : a ≠ .nothing) (hs : w.steps < 300) :
    runFrom p (f + 1) i o w = match doRow p i o { w with steps := w.steps + 1 } a with
      | none => ({ w with steps := w.steps + 1 }, some i)
      | some (i', o', w') => runFrom p f i' o' w' := by
  conv => lhs; unfold runFrom
  rw [h]; simp only [ha, if_false]
  rw [if_neg (show ¬ STEPS ≤ w.steps from Nat.not_le.mpr hs)]
  cases a with
  | nothing => exact absurd rfl ha
  | new v c =>
    simp only [doRow]
    by_cases c1 : THINGS ≤ w.heap.things.length
    · rw [if_pos c1, if_pos c1]
    · rw [if_neg c1, if_neg c1]
  | set v g x =>
    simp only [doRow]
    cases held w.heap v with
    | none => rfl
    | some q =>
      dsimp only
      cases fieldOf p w.heap q g with
      | none => rfl
      | some k =>
        cases w.heap.things[q]? with
        | none => rfl
        | some t => rfl
  | get v u g =>
    simp only [doRow]
    cases held w.heap u with
    | none => rfl
    | some q =>
      dsimp only
      cases fieldOf p w.heap q g with
      | none => rfl
      | some k =>
        cases w.heap.things[q]? with
        | none => rfl
        | some t => rfl
  | let_ v x => rfl
  | times k =>
    simp only [doRow]
    by_cases c1 : k = 0
    · rw [if_pos c1, if_pos c1]
    · rw [if_neg c1, if_neg c1]
  | end_ =>
    simp only [doRow]
    cases o with
    | nil => rfl
    | cons x l =>
      obtain ⟨b, k⟩ := x
      dsimp only
      by_cases c1 : k = 0
      · rw [if_pos c1, if_pos c1]
      · rw [if_neg c1, if_neg c1]
  | snap =>
    simp only [doRow]
    by_cases c1 : SNAPS ≤ w.snaps.length
    · rw [if_pos c1, if_pos c1]
    · rw [if_neg c1, if_neg c1]
/-- a heap whose things are of the program's classes and rows, and that holds only things that are there -/
structure HOk (p : Program) (h : Heap) : Prop where
  vars : h.vars.length = p.vars.length
  cls : ∀ t ∈ h.things, ∃ c, p.classes[t.cls]? = some c ∧ t.fields.length = c.fields.length ∧ t.row < p.acts.length
  hv : ∀ o, some o ∈ h.vars → o < h.things.length
  hf : ∀ t ∈ h.things, ∀ o, some o ∈ t.fields → o < h.things.length
  many : h.things.length ≤ 16
theorem held_lt {p : Program} {h : Heap} (k : HOk p h) {v o : Nat} (e : held h v = some o) : o < h.things.length := by
  unfold held at e
  cases g : h.vars[v]? with
  | none => rw [g] at e; cases e
  | some x =>
    rw [g] at e
    have e : x = some o := e
    subst e
    exact k.hv o (List.mem_of_getElem? g)
theorem put_ok {p : Program} {h : Heap} (k : HOk p h) {v : Nat} {x : Option Nat} (hx : ∀ o, x = some o → o < h.things.length) : HOk p (put h v x) := by
  refine ⟨by simp [put, k.vars], k.cls, ?_, k.hf, k.many⟩
  intro o ho
  rcases List.mem_or_eq_of_mem_set ho with z | z
  · exact k.hv o z
  · exact hx o z.symm
theorem new_ok {p : Program} {h : Heap} (k : HOk p h) {c i : Nat} {cl : Class} (hc : p.classes[c]? = some cl) (hi : i < p.acts.length) (hm : h.things.length < 16) :
    HOk p { h with things := h.things ++ [⟨c, i, ((p.classes[c]?).elim [] fun x => x.fields).map fun _ => none⟩] } := by
  refine ⟨k.vars, ?_, ?_, ?_, by simp; omega⟩
  · intro t ht
    rcases List.mem_append.mp ht with z | z
    · exact k.cls t z
    · have z := List.mem_singleton.mp z
      subst z
      exact ⟨cl, hc, by simp [hc], hi⟩
  · intro o ho; have := k.hv o ho; simp; omega
  · intro t ht o ho
    rcases List.mem_append.mp ht with z | z
    · have := k.hf t z o ho; simp; omega
    · have z := List.mem_singleton.mp z
      subst z
      simp at ho
theorem set_ok {p : Program} {h : Heap} (k : HOk p h) {o j : Nat} {t : Thing} {x : Option Nat} (ht : h.things[o]? = some t) (hx : ∀ q, x = some q → q < h.things.length) :
    HOk p { h with things := h.things.set o { t with fields := t.fields.set j x } } := by
  have hm := List.mem_of_getElem? ht
  refine ⟨k.vars, ?_, ?_, ?_, by simp; exact k.many⟩
  · intro u hu
    rcases List.mem_or_eq_of_mem_set hu with z | z
    · exact k.cls u z
    · subst z
      obtain ⟨c, h1, h2, h3⟩ := k.cls t hm
      exact ⟨c, h1, by simp [h2], h3⟩
  · intro q hq; simp; exact k.hv q hq
  · intro u hu q hq
    simp only [List.length_set]
    rcases List.mem_or_eq_of_mem_set hu with z | z
    · exact k.hf u z q hq
    · subst z
      rcases List.mem_or_eq_of_mem_set hq with y | y
      · exact k.hf t hm q y
      · exact hx q y.symm
end Kp
/-! the run's invariant -/
namespace Kp
open Hx01
/-- a program that was read whole -/
structure Whole (wss : List (List Bytes)) (p : Program) : Prop where
  rd : Read wss wss.length p
  opn : openTimes p = 0
theorem Whole.act {wss : List (List Bytes)} {p : Program} (W : Whole wss p) {i : Nat} {a : Act} (h : p.acts[i]? = some a) : ∃ ws, wss[i]? = some ws ∧ a = actAt p ws ∧ (ws ≠ [] → Told p ws) := by
  have hi : i < p.acts.length := (List.getElem?_eq_some_iff.mp h).1
  rw [W.rd.len] at hi
  have := W.rd.row i wss[i] hi (List.getElem?_eq_getElem hi)
  refine ⟨wss[i], List.getElem?_eq_getElem hi, ?_, this.2⟩
  rw [h] at this
  exact Option.some.inj this.1
theorem Whole.stk {wss : List (List Bytes)} {p : Program} (W : Whole wss p) : (nest p.acts).stk = [] := by
  have := W.opn
  rw [openTimes_nest] at this
  exact List.length_eq_zero_iff.mp this
theorem idx_lt {l : List Bytes} {w : Bytes} (h : w ∈ l) : idx l w < l.length := by
  have e := indexOf_some h
  unfold indexOf at e
  exact (List.findIdx?_eq_some_iff_findIdx_eq.mp e).1
theorem actOf_new {p : Program} {ws : List Bytes} {v c : Nat} (h : actOf p ws = .new v c) : wd ws 0 = wNew ∧ v = idx p.vars (wd ws 1) ∧ c = idx (p.classes.map fun x => x.name) (wd ws 2) := by
  unfold actOf at h
  by_cases c1 : wd ws 0 = wNew
  · rw [if_pos c1] at h
    cases h
    exact ⟨c1, rfl, rfl⟩
  rw [if_neg c1] at h
  by_cases c2 : wd ws 0 = wSet
  · rw [if_pos c2] at h; cases h
  rw [if_neg c2] at h
  by_cases c3 : wd ws 0 = wGet
  · rw [if_pos c3] at h; cases h
  rw [if_neg c3] at h
  by_cases c4 : wd ws 0 = wLet
  · rw [if_pos c4] at h; cases h
  rw [if_neg c4] at h
  by_cases c5 : wd ws 0 = wTimes
  · rw [if_pos c5] at h; cases h
  rw [if_neg c5] at h
  by_cases c6 : wd ws 0 = wEnd
  · rw [if_pos c6] at h; cases h
  rw [if_neg c6] at h
  by_cases c7 : wd ws 0 = wSnap
  · rw [if_pos c7] at h; cases h
  rw [if_neg c7] at h; cases h
theorem Whole.new {wss : List (List Bytes)} {p : Program} (W : Whole wss p) {i v c : Nat} (h : p.acts[i]? = some (.new v c)) : ∃ cl, p.classes[c]? = some cl := by
  obtain ⟨ws, _, ha, ht⟩ := W.act h
  unfold actAt at ha
  by_cases e : ws = []
  · rw [if_pos e] at ha; cases ha
  rw [if_neg e] at ha
  obtain ⟨c1, _, c3⟩ := actOf_new ha.symm
  have := idx_lt ((ht e).new c1).2
  rw [← c3, List.length_map] at this
  exact ⟨_, List.getElem?_eq_getElem this⟩
/-- **The run, row by row**: so much is left, from this row on, with these times open -/
structure RInv (p : Program) (f i : Nat) (o : List (Nat × Nat)) (w : Way) : Prop where
  eq : runFrom p f i o w = run p
  fuel : (300 - w.steps) * (p.acts.length + 1) + (p.acts.length - i) + 1 ≤ f
  le : i ≤ p.acts.length
  stk : o.map (fun x => x.1) = stackAt p.acts i
  steps : w.steps ≤ 300
  snaps : w.snaps.length ≤ 8
  heap : HOk p w.heap
  old : ∀ h ∈ w.snaps, HOk p h
theorem RInv.start (p : Program) : RInv p (STEPS + (STEPS + 1) * (p.acts.length + 1)) 0 [] ⟨⟨[], p.vars.map fun _ => none⟩, [], 0⟩ := by
  refine ⟨rfl, ?_, Nat.zero_le _, ?_, Nat.zero_le _, Nat.zero_le _, ⟨by simp, ?_, ?_, ?_, Nat.zero_le _⟩, ?_⟩
  · show (300 - 0) * (p.acts.length + 1) + (p.acts.length - 0) + 1 ≤ 300 + (300 + 1) * (p.acts.length + 1)
    omega
  · simp [stackAt, nest]
  · intro t ht; cases ht
  · intro o ho; simp at ho
  · intro t ht; cases ht
  · intro h hh; cases hh
theorem RInv.blank {p : Program} {f i : Nat} {o : List (Nat × Nat)} {w : Way} (R : RInv p f i o w) (h : p.acts[i]? = some .nothing) : ∃ g, f = g + 1 ∧ RInv p g (i + 1) o w := by
  have hi : i < p.acts.length := (List.getElem?_eq_some_iff.mp h).1
  have hf := R.fuel
  obtain ⟨g, rfl⟩ : ∃ g, f = g + 1 := ⟨f - 1, by omega⟩
  refine ⟨g, rfl, ?_, by omega, hi, ?_, R.steps, R.snaps, R.heap, R.old⟩
  · rw [← R.eq, runFrom_nothing h]
  · rw [R.stk, stack_plain h (by intro; simp) (by simp)]
theorem RInv.done {p : Program} {f i : Nat} {o : List (Nat × Nat)} {w : Way} (R : RInv p f i o w) (h : p.acts.length ≤ i) : run p = (w, none) := by
  have hf := R.fuel
  obtain ⟨g, rfl⟩ : ∃ g, f = g + 1 := ⟨f - 1, by omega⟩
  rw [← R.eq, runFrom_none (List.getElem?_eq_none h)]
theorem RInv.full {p : Program} {f i : Nat} {o : List (Nat × Nat)} {w : Way} (R : RInv p f i o w) {a : Act} (h : p.acts[i]? = some a) (ha : a ≠ .nothing) (hs : w.steps = 300) : run p = (w, some i) := by
  have hf := R.fuel
  obtain ⟨g, rfl⟩ : ∃ g, f = g + 1 := ⟨f - 1, by omega⟩
  rw [← R.eq, runFrom_full h ha (by omega)]
theorem RInv.stop {p : Program} {f i : Nat} {o : List (Nat × Nat)} {w : Way} (R : RInv p f i o w) {a : Act} (h : p.acts[i]? = some a) (ha : a ≠ .nothing) (hs : w.steps ≠ 300) (hd : doRow p i o { w with steps := w.steps + 1 } a = none) :
    run p = ({ w with steps := w.steps + 1 }, some i) := by
  have hf := R.fuel
  have := R.steps
  obtain ⟨g, rfl⟩ : ∃ g, f = g + 1 := ⟨f - 1, by omega⟩
  rw [← R.eq, runFrom_step h ha (by omega), hd]
/-- what a done row keeps -/
theorem do_keeps {wss : List (List Bytes)} {p : Program} (W : Whole wss p) {i : Nat} {o : List (Nat × Nat)} {w : Way} {a : Act} (h : p.acts[i]? = some a) (hk : o.map (fun x => x.1) = stackAt p.acts i)
    (hH : HOk p w.heap) (hO : ∀ h ∈ w.snaps, HOk p h) (hn : w.snaps.length ≤ 8) {i' : Nat} {o' : List (Nat × Nat)} {w' : Way} (hd : doRow p i o w a = some (i', o', w')) :
    i' ≤ p.acts.length ∧ o'.map (fun x => x.1) = stackAt p.acts i' ∧ w'.steps = w.steps ∧ HOk p w'.heap ∧ (∀ h ∈ w'.snaps, HOk p h) ∧ w'.snaps.length ≤ 8 := by
  have hi : i < p.acts.length := (List.getElem?_eq_some_iff.mp h).1
  cases a with
  | nothing => cases hd
  | new v c =>
    simp only [doRow] at hd
    have hs := stack_plain h (by intro; simp) (by simp)
    by_cases c1 : THINGS ≤ w.heap.things.length
    · rw [if_pos c1] at hd; cases hd
    · rw [if_neg c1] at hd
      have c1 : ¬ 16 ≤ w.heap.things.length := c1
      cases hd
      obtain ⟨cl, hc⟩ := W.new h
      refine ⟨hi, by rw [hs]; exact hk, rfl, ?_, hO, hn⟩
      refine put_ok (new_ok hH hc hi (by omega)) ?_
      intro q hq
      cases hq
      simp
  | set v g x =>
    simp only [doRow] at hd
    have hs := stack_plain h (by intro; simp) (by simp)
    cases e1 : held w.heap v with
    | none => rw [e1] at hd; cases hd
    | some q =>
      rw [e1] at hd
      dsimp only at hd
      cases e2 : fieldOf p w.heap q g with
      | none => rw [e2] at hd; cases hd
      | some k =>
        rw [e2] at hd
        cases e3 : w.heap.things[q]? with
        | none => rw [e3] at hd; cases hd
        | some t =>
          rw [e3] at hd
          cases hd
          refine ⟨hi, by rw [hs]; exact hk, rfl, set_ok hH e3 ?_, hO, hn⟩
          intro y hy
          cases x with
          | none => cases hy
          | some u => exact held_lt hH hy
  | get v u g =>
    simp only [doRow] at hd
    have hs := stack_plain h (by intro; simp) (by simp)
    cases e1 : held w.heap u with
    | none => rw [e1] at hd; cases hd
    | some q =>
      rw [e1] at hd
      dsimp only at hd
      cases e2 : fieldOf p w.heap q g with
      | none => rw [e2] at hd; cases hd
      | some k =>
        rw [e2] at hd
        cases e3 : w.heap.things[q]? with
        | none => rw [e3] at hd; cases hd
        | some t =>
          rw [e3] at hd
          cases hd
          refine ⟨hi, by rw [hs]; exact hk, rfl, put_ok hH ?_, hO, hn⟩
          intro y hy
          cases e4 : t.fields[k]? with
          | none => rw [e4] at hy; cases hy
          | some z =>
            rw [e4] at hy
            have hy : z = some y := hy
            subst hy
            exact hH.hf t (List.mem_of_getElem? e3) y (List.mem_of_getElem? e4)
  | let_ v x =>
    simp only [doRow] at hd
    have hs := stack_plain h (by intro; simp) (by simp)
    cases hd
    refine ⟨hi, by rw [hs]; exact hk, rfl, put_ok hH ?_, hO, hn⟩
    intro y hy
    cases x with
    | none => cases hy
    | some u => exact held_lt hH hy
  | times k =>
    simp only [doRow] at hd
    by_cases c1 : k = 0
    · rw [if_pos c1] at hd
      cases hd
      obtain ⟨e, z1, z2, _, _, z5⟩ := times_end W.stk h
      rw [z1]
      exact ⟨z2, by rw [z5]; exact hk, rfl, hH, hO, hn⟩
    · rw [if_neg c1] at hd
      cases hd
      exact ⟨hi, by rw [stack_times h, ← hk]; rfl, rfl, hH, hO, hn⟩
  | end_ =>
    simp only [doRow] at hd
    cases o with
    | nil => cases hd
    | cons x l =>
      obtain ⟨b, k⟩ := x
      have hk' : stackAt p.acts i = b :: l.map (fun x => x.1) := hk.symm
      dsimp only at hd
      by_cases c1 : k = 0
      · rw [if_pos c1] at hd
        cases hd
        exact ⟨hi, (stack_end h hk').symm, rfl, hH, hO, hn⟩
      · rw [if_neg c1] at hd
        cases hd
        obtain ⟨s1, ⟨k', s2⟩, s3⟩ := stack_back (xs := []) (Nat.le_of_lt hi) hk'
        exact ⟨by omega, by rw [stack_times s2, s1]; rfl, rfl, hH, hO, hn⟩
  | snap =>
    simp only [doRow] at hd
    have hs := stack_plain h (by intro; simp) (by simp)
    by_cases c1 : SNAPS ≤ w.snaps.length
    · rw [if_pos c1] at hd; cases hd
    · rw [if_neg c1] at hd
      have c1 : ¬ 8 ≤ w.snaps.length := c1
      cases hd
      refine ⟨hi, by rw [hs]; exact hk, rfl, hH, ?_, by simp; omega⟩
      intro z hz
      rcases List.mem_append.mp hz with y | y
      · exact hO z y
      · rw [List.mem_singleton.mp y]; exact hH
theorem RInv.next {wss : List (List Bytes)} {p : Program} (W : Whole wss p) {f i : Nat} {o : List (Nat × Nat)} {w : Way} (R : RInv p f i o w) {a : Act} (h : p.acts[i]? = some a) (ha : a ≠ .nothing) (hs : w.steps ≠ 300)
    {i' : Nat} {o' : List (Nat × Nat)} {w' : Way} (hd : doRow p i o { w with steps := w.steps + 1 } a = some (i', o', w')) : ∃ g, f = g + 1 ∧ RInv p g i' o' w' := by
  have hf := R.fuel
  have h3 := R.steps
  have hi : i < p.acts.length := (List.getElem?_eq_some_iff.mp h).1
  obtain ⟨g, rfl⟩ : ∃ g, f = g + 1 := ⟨f - 1, by omega⟩
  obtain ⟨k1, k2, k3, k4, k5, k6⟩ := do_keeps (w := { w with steps := w.steps + 1 }) W h R.stk R.heap R.old R.snaps hd
  have k3 : w'.steps = w.steps + 1 := k3
  refine ⟨g, rfl, ?_, ?_, k1, k2, by omega, k6, k4, k5⟩
  · rw [← R.eq, runFrom_step h ha (by omega), hd]
  · rw [k3]
    have e : 300 - w.steps = (300 - (w.steps + 1)) + 1 := by omega
    rw [e, Nat.add_mul, Nat.one_mul] at hf
    omega
/-- an end has a times -/
theorem Whole.ends {wss : List (List Bytes)} {p : Program} (W : Whole wss p) {i : Nat} {o : List (Nat × Nat)} (h : p.acts[i]? = some .end_) (hk : o.map (fun x => x.1) = stackAt p.acts i) : ∃ b k l, o = (b, k) :: l := by
  cases o with
  | nil => exact absurd hk.symm (W.rd.nst i h)
  | cons x l => exact ⟨x.1, x.2, l, rfl⟩
end Kp
/-! what is come to by links -/
namespace Kp
open Hx01
inductive Rch (ls : List Link) : Nat → Prop
  | var {x : Link} : x ∈ ls → x.src = 0 → Rch ls x.to
  | step {x : Link} : x ∈ ls → x.src ≠ 0 → Rch ls (x.src - 1) → Rch ls x.to
theorem Rch.mono {ls ms : List Link} (h : ∀ x ∈ ls, x ∈ ms) {o : Nat} (r : Rch ls o) : Rch ms o := by
  induction r with
  | var hx h0 => exact .var (h _ hx) h0
  | step hx h0 _ ih => exact .step (h _ hx) h0 ih
theorem Rch.lt {ls : List Link} {n : Nat} (h : ∀ x ∈ ls, x.to < n) {o : Nat} (r : Rch ls o) : o < n := by
  cases r with
  | var hx _ => exact h _ hx
  | step hx _ _ => exact h _ hx
/-- one pass over the links -/
def pass (ls : List Link) (l : List Nat) : List Nat := ls.foldl (fun (a : List Nat) x => if a.contains x.to = true ∨ (x.src ≠ 0 ∧ a.contains (x.src - 1) = false) then a else a ++ [x.to]) l
theorem spread_succ (ls : List Link) (n : Nat) (l : List Nat) : spread ls (n + 1) l = if (pass ls l).length = l.length then l else spread ls n (pass ls l) := rfl
/-- what a pass keeps -/
theorem pass_spec (ls : List Link) : ∀ (ms : List Link) (l : List Nat), (∀ x ∈ ms, x ∈ ls) → l.Nodup → (∀ o ∈ l, Rch ls o) →
    (∃ t, pass ms l = l ++ t) ∧ (pass ms l).Nodup ∧ (∀ o ∈ pass ms l, Rch ls o) ∧ (∀ x ∈ ms, (x.src = 0 ∨ x.src - 1 ∈ l) → x.to ∈ pass ms l)
  | [], l, _, hn, hr => ⟨⟨[], by simp [pass]⟩, hn, hr, fun x hx => by cases hx⟩
  | m :: ms, l, hs, hn, hr => by
    show (∃ t, pass ms (if l.contains m.to = true ∨ (m.src ≠ 0 ∧ l.contains (m.src - 1) = false) then l else l ++ [m.to]) = l ++ t) ∧ _
    have hs' : ∀ x ∈ ms, x ∈ ls := fun x hx => hs x (List.mem_cons_of_mem _ hx)
    by_cases c : l.contains m.to = true ∨ (m.src ≠ 0 ∧ l.contains (m.src - 1) = false)
    · obtain ⟨⟨t, h1⟩, h2, h3, h4⟩ := pass_spec ls ms l hs' hn hr
      have e : pass (m :: ms) l = pass ms l := by unfold pass; rw [List.foldl_cons, if_pos c]
      rw [if_pos c, e]
      refine ⟨⟨t, h1⟩, h2, h3, ?_⟩
      intro x hx hc
      rcases List.mem_cons.mp hx with z | z
      · subst z
        rcases c with c | ⟨c1, c2⟩
        · rw [h1]; exact List.mem_append_left _ (by simpa using c)
        · rcases hc with hc | hc
          · exact absurd hc c1
          · have : l.contains (x.src - 1) = true := by simpa using hc
            rw [this] at c2; cases c2
      · exact h4 x z hc
    · have hnot : m.to ∉ l := fun z => c (.inl (by simpa using z))
      have hsrc : m.src = 0 ∨ m.src - 1 ∈ l := by
        by_cases z : m.src = 0
        · exact .inl z
        · right
          have : l.contains (m.src - 1) ≠ false := fun y => c (.inr ⟨z, y⟩)
          simpa using this
      have hn' : (l ++ [m.to]).Nodup := by
        rw [List.nodup_append]
        refine ⟨hn, by simp, ?_⟩
        intro a ha b hb e
        rw [List.mem_singleton.mp hb] at e
        exact hnot (e ▸ ha)
      have hr' : ∀ o ∈ l ++ [m.to], Rch ls o := by
        intro o ho
        rcases List.mem_append.mp ho with z | z
        · exact hr o z
        · rw [List.mem_singleton.mp z]
          have hm := hs m (List.mem_cons_self ..)
          by_cases y : m.src = 0
          · exact .var hm y
          · exact .step hm y (hr _ (hsrc.resolve_left y))
      obtain ⟨⟨t, h1⟩, h2, h3, h4⟩ := pass_spec ls ms (l ++ [m.to]) hs' hn' hr'
      have e : pass (m :: ms) l = pass ms (l ++ [m.to]) := by unfold pass; rw [List.foldl_cons, if_neg c]
      rw [if_neg c, e]
      refine ⟨⟨[m.to] ++ t, by rw [h1, List.append_assoc]⟩, h2, h3, ?_⟩
      intro x hx hc
      rcases List.mem_cons.mp hx with z | z
      · rw [h1, z]; simp
      · exact h4 x z (hc.imp id fun y => List.mem_append_left _ y)
/-- numbers below n, none twice, are at most n -/
theorem nodup_le : ∀ (n : Nat) (l : List Nat), l.Nodup → (∀ x ∈ l, x < n) → l.length ≤ n
  | 0, l, _, hl => by
    cases l with
    | nil => exact Nat.le_refl _
    | cons a l => exact absurd (hl a (List.mem_cons_self ..)) (Nat.not_lt_zero _)
  | n + 1, l, hn, hl => by
    by_cases h : n ∈ l
    · have h1 := List.length_erase_of_mem h
      have h2 := nodup_le n (l.erase n) (hn.erase n) (fun x hx => by
        have := hl x (List.mem_of_mem_erase hx)
        have hne : x ≠ n := fun z => by
          rw [z] at hx
          exact hn.not_mem_erase hx
        omega)
      omega
    · have := nodup_le n l hn (fun x hx => by
        have := hl x hx
        have hne : x ≠ n := fun z => h (z ▸ hx)
        omega)
      omega
theorem nodup_full {n : Nat} {l : List Nat} (hn : l.Nodup) (hl : ∀ x ∈ l, x < n) (hf : n ≤ l.length) {o : Nat} (ho : o < n) : o ∈ l := by
  apply Classical.byContradiction
  intro h
  have := nodup_le n (o :: l) (List.nodup_cons.mpr ⟨h, hn⟩) (fun x hx => by
    rcases List.mem_cons.mp hx with z | z
    · rw [z]; exact ho
    · exact hl x z)
  rw [List.length_cons] at this
  omega
theorem closed_all {ls : List Link} {l : List Nat} (h : ∀ x ∈ ls, (x.src = 0 ∨ x.src - 1 ∈ l) → x.to ∈ l) {o : Nat} (r : Rch ls o) : o ∈ l := by
  induction r with
  | var hx h0 => exact h _ hx (.inl h0)
  | step hx _ _ ih => exact h _ hx (.inr ih)
theorem spread_spec {ls : List Link} {n : Nat} (hb : ∀ x ∈ ls, x.to < n) : ∀ (k : Nat) (l : List Nat), l.Nodup → (∀ o ∈ l, Rch ls o) → n ≤ k + l.length → ∀ o, o ∈ spread ls k l ↔ Rch ls o
  | 0, l, hn, hr, hk, o => by
    show o ∈ l ↔ _
    exact ⟨hr o, fun r => nodup_full hn (fun x hx => (hr x hx).lt hb) (by omega) (r.lt hb)⟩
  | k + 1, l, hn, hr, hk, o => by
    obtain ⟨⟨t, h1⟩, h2, h3, h4⟩ := pass_spec ls ls l (fun _ h => h) hn hr
    rw [spread_succ]
    by_cases c : (pass ls l).length = l.length
    · rw [if_pos c]
      have e : pass ls l = l := by
        rw [h1, List.length_append] at c
        have : t = [] := List.length_eq_zero_iff.mp (by omega)
        rw [h1, this, List.append_nil]
      rw [e] at h4
      exact ⟨hr o, fun r => closed_all h4 r⟩
    · rw [if_neg c]
      refine spread_spec hb k _ h2 h3 ?_ o
      have : l.length ≤ (pass ls l).length := by rw [h1, List.length_append]; omega
      omega
theorem mem_comeTo {ls : List Link} {n : Nat} (hb : ∀ x ∈ ls, x.to < n) {o : Nat} : o ∈ comeTo n ls ↔ Rch ls o := by
  unfold comeTo
  have h := spread_spec hb n [] List.nodup_nil (fun o h => by cases h) (by simp) o
  simp only [List.mem_filter, List.mem_range, List.contains_iff_mem]
  constructor
  · intro z; exact h.mp z.2
  · intro z; exact ⟨z.lt hb, h.mpr z⟩
theorem comeTo_sorted (n : Nat) (ls : List Link) : (comeTo n ls).Pairwise (· < ·) := by
  unfold comeTo
  exact (List.pairwise_lt_range).filter _
/-- a list that rises is told by its members -/
theorem sorted_ext : ∀ {a b : List Nat}, a.Pairwise (· < ·) → b.Pairwise (· < ·) → (∀ x, x ∈ a ↔ x ∈ b) → a = b
  | [], [], _, _, _ => rfl
  | [], y :: b, _, _, h => absurd ((h y).mpr (List.mem_cons_self ..)) (by simp)
  | x :: a, [], _, _, h => absurd ((h x).mp (List.mem_cons_self ..)) (by simp)
  | x :: a, y :: b, ha, hb, h => by
    have ha' := List.pairwise_cons.mp ha
    have hb' := List.pairwise_cons.mp hb
    have e : x = y := by
      rcases List.mem_cons.mp ((h x).mp (List.mem_cons_self ..)) with z | z
      · exact z
      · rcases List.mem_cons.mp ((h y).mpr (List.mem_cons_self ..)) with q | q
        · exact q.symm
        · have h1 := hb'.1 x z
          have h2 := ha'.1 y q
          omega
    subst e
    congr 1
    refine sorted_ext ha'.2 hb'.2 fun z => ?_
    constructor
    · intro hz
      rcases List.mem_cons.mp ((h z).mp (List.mem_cons_of_mem _ hz)) with q | q
      · have := ha'.1 z hz; omega
      · exact q
    · intro hz
      rcases List.mem_cons.mp ((h z).mpr (List.mem_cons_of_mem _ hz)) with q | q
      · have := hb'.1 z hz; omega
      · exact q
end Kp
/-! ways: a queue of them against layers of them -/
namespace Kp
open Hx01
abbrev Ways := List (Nat × List Link)
def has (l : Ways) (t : Nat) : Bool := l.any fun y => y.1 == t
theorem has_iff {l : Ways} {t : Nat} : has l t = true ↔ t ∈ l.map (fun y => y.1) := by
  unfold has
  rw [List.any_eq_true, List.mem_map]
  constructor
  · rintro ⟨x, hx, e⟩; exact ⟨x, hx, by simpa using e⟩
  · rintro ⟨x, hx, e⟩; exact ⟨x, hx, by simpa using e⟩
theorem has_append (a b : Ways) (t : Nat) : has (a ++ b) t = (has a t || has b t) := by unfold has; rw [List.any_append]
def ext (ls : List Link) (w : Nat × List Link) : Ways := (ls.filter fun x => decide (x.src = w.1 + 1)).map fun x => (x.to, w.2 ++ [x])
theorem layer_ext (ls : List Link) (ws : Ways) : layer ls ws = ws.flatMap (ext ls) := rfl
/-- ways one behind another: the first to a thing that isn't bad is taken, and gone on from -/
def bfs (ls : List Link) (bad : Nat → Bool) : Nat → Ways → Ways → Ways
  | 0, acc, _ => acc
  | _ + 1, acc, [] => acc
  | f + 1, acc, w :: q => if (bad w.1 || has acc w.1) = true then bfs ls bad f acc q else bfs ls bad f (acc ++ [w]) (q ++ ext ls w)
def begins (ls : List Link) : Ways := (ls.filter fun x => decide (x.src = 0)).map fun x => (x.to, [x])
theorem bfs_nil (ls : List Link) (bad : Nat → Bool) (f : Nat) (acc : Ways) : bfs ls bad f acc [] = acc := by cases f <;> rfl
/-- those of a list that are new -/
def fresh : Ways → Ways → Ways
  | _, [] => []
  | acc, w :: l => if has acc w.1 = true then fresh acc l else w :: fresh (acc ++ [w]) l
theorem fold_fresh (all : Ways) : ∀ (l a : Ways), l.foldl (fun (a : Ways) x => if all.any (fun y => y.1 == x.1) = true ∨ a.any (fun y => y.1 == x.1) = true then a else a ++ [x]) a = a ++ fresh (all ++ a) l
  | [], a => by simp [fresh]
  | w :: l, a => by
    rw [List.foldl_cons]
    have h : has (all ++ a) w.1 = true ↔ (all.any (fun y => y.1 == w.1) = true ∨ a.any (fun y => y.1 == w.1) = true) := by
      rw [has_append, Bool.or_eq_true]; exact Iff.rfl
    by_cases c : has (all ++ a) w.1 = true
    · rw [if_pos (h.mp c), fold_fresh all l a]
      unfold fresh
      rw [if_pos c]
      cases l <;> rfl
    · rw [if_neg (fun z => c (h.mpr z)), fold_fresh all l (a ++ [w])]
      conv => rhs; unfold fresh
      rw [if_neg c, List.append_assoc, List.append_assoc]
      rfl
theorem bfs_layer (ls : List Link) : ∀ (l acc q : Ways) (f : Nat), bfs ls (fun _ => false) (f + l.length) acc (l ++ q) = bfs ls (fun _ => false) f (acc ++ fresh acc l) (q ++ (fresh acc l).flatMap (ext ls))
  | [], acc, q, f => by simp [fresh]
  | w :: l, acc, q, f => by
    show (if (false || has acc w.1) = true then bfs ls (fun _ => false) (f + l.length) acc (l ++ q) else bfs ls (fun _ => false) (f + l.length) (acc ++ [w]) (l ++ q ++ ext ls w)) = _
    by_cases c : has acc w.1 = true
    · have e : fresh acc (w :: l) = fresh acc l := by conv => lhs; unfold fresh
                                                      rw [if_pos c]
      rw [if_pos (by rw [c]; rfl), e]
      exact bfs_layer ls l acc q f
    · have e : fresh acc (w :: l) = w :: fresh (acc ++ [w]) l := by conv => lhs; unfold fresh
                                                                    rw [if_neg c]
      rw [if_neg (by simpa using c), e, List.append_assoc, bfs_layer ls l (acc ++ [w]) (q ++ ext ls w) f]
      simp
/-- ends that are below n, none twice -/
structure Good (n : Nat) (acc : Ways) : Prop where
  nd : (acc.map fun y => y.1).Nodup
  lt : ∀ y ∈ acc, y.1 < n
theorem Good.len {n : Nat} {acc : Ways} (h : Good n acc) : acc.length ≤ n := by
  have := nodup_le n (acc.map fun y => y.1) h.nd (fun x hx => by
    obtain ⟨y, hy, rfl⟩ := List.mem_map.mp hx
    exact h.lt y hy)
  simpa using this
theorem fresh_sub : ∀ (l acc : Ways), ∀ w ∈ fresh acc l, w ∈ l
  | [], acc, w, h => by simp [fresh] at h
  | x :: l, acc, w, h => by
    unfold fresh at h
    by_cases c : has acc x.1 = true
    · rw [if_pos c] at h
      exact List.mem_cons_of_mem _ (fresh_sub l acc w h)
    · rw [if_neg c] at h
      rcases List.mem_cons.mp h with z | z
      · rw [z]; exact List.mem_cons_self ..
      · exact List.mem_cons_of_mem _ (fresh_sub l (acc ++ [x]) w z)
theorem Good.snoc {n : Nat} {acc : Ways} (h : Good n acc) {w : Nat × List Link} (hw : w.1 < n) (c : ¬ has acc w.1 = true) : Good n (acc ++ [w]) := by
  refine ⟨?_, ?_⟩
  · rw [List.map_append, List.nodup_append]
    refine ⟨h.nd, by simp, ?_⟩
    intro a ha b hb e
    simp at hb
    rw [hb] at e
    exact c (has_iff.mpr (e ▸ ha))
  · intro y hy
    rcases List.mem_append.mp hy with z | z
    · exact h.lt y z
    · rw [List.mem_singleton.mp z]; exact hw
theorem fresh_good {n : Nat} : ∀ (l acc : Ways), Good n acc → (∀ y ∈ l, y.1 < n) → Good n (acc ++ fresh acc l)
  | [], acc, h, _ => by simpa [fresh] using h
  | w :: l, acc, h, hl => by
    have hl' : ∀ y ∈ l, y.1 < n := fun y hy => hl y (List.mem_cons_of_mem _ hy)
    unfold fresh
    by_cases c : has acc w.1 = true
    · rw [if_pos c]; exact fresh_good l acc h hl'
    · rw [if_neg c]
      have := fresh_good l (acc ++ [w]) (h.snoc (hl w (List.mem_cons_self ..)) c) hl'
      rw [List.append_assoc] at this
      exact this
theorem fresh_full {n : Nat} {acc : Ways} (h : Good n acc) (hf : n ≤ acc.length) : ∀ (l : Ways), (∀ y ∈ l, y.1 < n) → fresh acc l = []
  | [], _ => rfl
  | w :: l, hl => by
    have hm : w.1 ∈ acc.map fun y => y.1 := nodup_full h.nd (fun x hx => by
      obtain ⟨y, hy, rfl⟩ := List.mem_map.mp hx
      exact h.lt y hy) (by simpa using hf) (hl w (List.mem_cons_self ..))
    unfold fresh
    rw [if_pos (has_iff.mpr hm)]
    exact fresh_full h hf l fun y hy => hl y (List.mem_cons_of_mem _ hy)
/-- links within bounds: ends below n, two at most from a thing -/
structure LOk (n : Nat) (ls : List Link) : Prop where
  lt : ∀ x ∈ ls, x.to < n
  two : ∀ s, s ≠ 0 → (ls.filter fun x => decide (x.src = s)).length ≤ 2
theorem ext_lt {n : Nat} {ls : List Link} (h : LOk n ls) (w : Nat × List Link) : ∀ y ∈ ext ls w, y.1 < n := by
  intro y hy
  obtain ⟨x, hx, rfl⟩ := List.mem_map.mp hy
  exact h.lt x (List.mem_filter.mp hx).1
theorem ext_two {n : Nat} {ls : List Link} (h : LOk n ls) (w : Nat × List Link) : (ext ls w).length ≤ 2 := by
  unfold ext
  rw [List.length_map]
  exact h.two _ (by omega)
theorem flat_two {n : Nat} {ls : List Link} (h : LOk n ls) : ∀ l : Ways, (l.flatMap (ext ls)).length ≤ 2 * l.length
  | [] => by simp
  | w :: l => by
    have h1 := ext_two h w
    have h2 := flat_two h l
    rw [List.flatMap_cons, List.length_append, List.length_cons]
    omega
theorem flat_lt {n : Nat} {ls : List Link} (h : LOk n ls) (l : Ways) : ∀ y ∈ l.flatMap (ext ls), y.1 < n := by
  intro y hy
  obtain ⟨w, _, hw⟩ := List.mem_flatMap.mp hy
  exact ext_lt h w y hw
theorem firstWays_nil (ls : List Link) : ∀ (k : Nat) (all : Ways), firstWays ls k all [] = all
  | 0, _ => rfl
  | k + 1, all => by
    show firstWays ls k (all ++ _) _ = all
    simp only [layer, List.flatMap_nil, List.foldl_nil, List.append_nil]
    exact firstWays_nil ls k all
theorem firstWays_bfs {n : Nat} {ls : List Link} (h : LOk n ls) : ∀ (k : Nat) (all last : Ways) (f : Nat), Good n all → n ≤ k + all.length → 3 * (n - all.length) + (last.flatMap (ext ls)).length ≤ f →
    firstWays ls k all last = bfs ls (fun _ => false) f all (last.flatMap (ext ls))
  | 0, all, last, f, g, hk, hf => by
    show all = _
    obtain ⟨f', rfl⟩ : ∃ f', f = f' + (last.flatMap (ext ls)).length := ⟨f - (last.flatMap (ext ls)).length, by omega⟩
    have e := bfs_layer ls (last.flatMap (ext ls)) all [] f'
    rw [List.append_nil] at e
    rw [e, fresh_full g (by omega) _ (flat_lt h last)]
    simp [bfs_nil]
  | k + 1, all, last, f, g, hk, hf => by
    have e1 : firstWays ls (k + 1) all last = firstWays ls k (all ++ fresh all (last.flatMap (ext ls))) (fresh all (last.flatMap (ext ls))) := by
      show firstWays ls k (all ++ _) _ = _
      rw [layer_ext, fold_fresh all (last.flatMap (ext ls)) []]
      simp
    rw [e1]
    obtain ⟨f', rfl⟩ : ∃ f', f = f' + (last.flatMap (ext ls)).length := ⟨f - (last.flatMap (ext ls)).length, by omega⟩
    have e := bfs_layer ls (last.flatMap (ext ls)) all [] f'
    rw [List.append_nil, List.nil_append] at e
    rw [e]
    have g2 := fresh_good (last.flatMap (ext ls)) all g (flat_lt h last)
    have gl := g2.len
    rw [List.length_append] at gl
    by_cases c : fresh all (last.flatMap (ext ls)) = []
    · rw [c]; simp [firstWays_nil, bfs_nil]
    · have c1 : 1 ≤ (fresh all (last.flatMap (ext ls))).length := by
        cases z : fresh all (last.flatMap (ext ls)) with
        | nil => exact absurd z c
        | cons a l => simp
      have c2 := flat_two h (fresh all (last.flatMap (ext ls)))
      exact firstWays_bfs h k _ _ f' g2 (by rw [List.length_append]; omega) (by rw [List.length_append]; omega)
theorem begins_lt {n : Nat} {ls : List Link} (h : LOk n ls) : ∀ y ∈ begins ls, y.1 < n := by
  intro y hy
  obtain ⟨x, hx, rfl⟩ := List.mem_map.mp hy
  exact h.lt x (List.mem_filter.mp hx).1
/-- **The ways** are those of the queue. -/
theorem ways_bfs {h : Heap} (hl : LOk h.things.length (links h)) {f : Nat} (hf : 3 * h.things.length + (begins (links h)).length ≤ f) : ways h = bfs (links h) (fun _ => false) f [] (begins (links h)) := by
  have e0 : ways h = firstWays (links h) h.things.length (fresh [] (begins (links h))) (fresh [] (begins (links h))) := by
    unfold ways
    have : ∀ (l : List Link) (a : Ways), l.foldl (fun (a : Ways) x => if a.any (fun y => y.1 == x.to) = true then a else a ++ [(x.to, [x])]) a = a ++ fresh a (l.map fun x => (x.to, [x])) := by
      intro l
      induction l with
      | nil => intro a; simp [fresh]
      | cons x l ih =>
        intro a
        rw [List.foldl_cons, List.map_cons]
        unfold fresh
        by_cases c : (a.any fun y => y.1 == x.to) = true
        · have c' : has a (x.to, [x]).1 = true := c
          rw [if_pos c, if_pos c']; exact ih a
        · have c' : ¬ has a (x.to, [x]).1 = true := c
          rw [if_neg c, if_neg c', ih]; simp
    have := this ((links h).filter fun x => decide (x.src = 0)) []
    rw [List.nil_append] at this
    simp only [this]
    rfl
  obtain ⟨f', rfl⟩ : ∃ f', f = f' + (begins (links h)).length := ⟨f - (begins (links h)).length, by omega⟩
  have e := bfs_layer (links h) (begins (links h)) [] [] f'
  rw [List.append_nil, List.nil_append, List.nil_append] at e
  have g := fresh_good (begins (links h)) [] ⟨List.nodup_nil, fun y hy => by cases hy⟩ (begins_lt hl)
  rw [List.nil_append] at g
  have c2 := flat_two hl (fresh [] (begins (links h)))
  have gl := g.len
  rw [e0, e]
  exact firstWays_bfs hl _ _ _ f' g (by omega) (by omega)
/-- what the queue has taken, and what waits -/
structure QInv (n : Nat) (ls : List Link) (bad : Nat → Bool) (acc q : Ways) : Prop where
  good : Good n acc
  lt : ∀ y ∈ q, y.1 < n
  accR : ∀ y ∈ acc, Rch (ls.filter fun x => !bad x.to) y.1
  qR : ∀ y ∈ q, bad y.1 = true ∨ Rch (ls.filter fun x => !bad x.to) y.1
  all : ∀ x ∈ ls, bad x.to = false → (x.src = 0 ∨ x.src - 1 ∈ acc.map (fun y => y.1)) → x.to ∈ acc.map (fun y => y.1) ∨ x.to ∈ q.map (fun y => y.1)
theorem QInv.start {n : Nat} {ls : List Link} (h : LOk n ls) (bad : Nat → Bool) : QInv n ls bad [] (begins ls) := by
  refine ⟨⟨List.nodup_nil, (fun y hy => by cases hy)⟩, begins_lt h, (fun y hy => by cases hy), ?_, ?_⟩
  · intro y hy
    obtain ⟨x, hx, rfl⟩ := List.mem_map.mp hy
    obtain ⟨h1, h2⟩ := List.mem_filter.mp hx
    by_cases c : bad x.to = true
    · exact .inl c
    · exact .inr (.var (List.mem_filter.mpr ⟨h1, by simpa using c⟩) (by simpa using h2))
  · intro x hx _ hc
    rcases hc with z | z
    · right
      exact List.mem_map.mpr ⟨(x.to, [x]), List.mem_map.mpr ⟨x, List.mem_filter.mpr ⟨hx, by simpa using z⟩, rfl⟩, rfl⟩
    · cases z
theorem QInv.skip {n : Nat} {ls : List Link} {bad : Nat → Bool} {acc q : Ways} {w : Nat × List Link} (h : QInv n ls bad acc (w :: q)) (c : (bad w.1 || has acc w.1) = true) : QInv n ls bad acc q := by
  refine ⟨h.good, fun y hy => h.lt y (List.mem_cons_of_mem _ hy), h.accR, fun y hy => h.qR y (List.mem_cons_of_mem _ hy), ?_⟩
  intro x hx hb hs
  rcases h.all x hx hb hs with z | z
  · exact .inl z
  · rw [List.map_cons] at z
    rcases List.mem_cons.mp z with y | y
    · left
      rw [← y, hb, Bool.false_or] at c
      exact has_iff.mp c
    · exact .inr y
theorem QInv.take {n : Nat} {ls : List Link} {bad : Nat → Bool} {acc q : Ways} {w : Nat × List Link} (hl : LOk n ls) (h : QInv n ls bad acc (w :: q)) (c : (bad w.1 || has acc w.1) = false) : QInv n ls bad (acc ++ [w]) (q ++ ext ls w) := by
  have cb : bad w.1 = false := by
    cases z : bad w.1
    · rfl
    · rw [z] at c; cases c
  have ch : ¬ has acc w.1 = true := by
    intro z
    rw [z, Bool.or_true] at c; cases c
  have hwR : Rch (ls.filter fun x => !bad x.to) w.1 := by
    rcases h.qR w (List.mem_cons_self ..) with z | z
    · rw [cb] at z; cases z
    · exact z
  refine ⟨h.good.snoc (h.lt w (List.mem_cons_self ..)) ch, ?_, ?_, ?_, ?_⟩
  · intro y hy
    rcases List.mem_append.mp hy with z | z
    · exact h.lt y (List.mem_cons_of_mem _ z)
    · exact ext_lt hl w y z
  · intro y hy
    rcases List.mem_append.mp hy with z | z
    · exact h.accR y z
    · rw [List.mem_singleton.mp z]; exact hwR
  · intro y hy
    rcases List.mem_append.mp hy with z | z
    · exact h.qR y (List.mem_cons_of_mem _ z)
    · obtain ⟨x, hx, rfl⟩ := List.mem_map.mp z
      obtain ⟨h1, h2⟩ := List.mem_filter.mp hx
      have h2 : x.src = w.1 + 1 := by simpa using h2
      by_cases b : bad x.to = true
      · exact .inl b
      · refine .inr (.step (List.mem_filter.mpr ⟨h1, by simpa using b⟩) (by omega) ?_)
        have : x.src - 1 = w.1 := by omega
        rw [this]; exact hwR
  · intro x hx hb hs
    have push : x.to ∈ (w :: q).map (fun y => y.1) → x.to ∈ (acc ++ [w]).map (fun y => y.1) ∨ x.to ∈ (q ++ ext ls w).map (fun y => y.1) := by
      intro z
      rw [List.map_cons] at z
      rcases List.mem_cons.mp z with y | y
      · left; rw [y]; simp
      · right; rw [List.map_append]; exact List.mem_append_left _ y
    rcases hs with z | z
    · rcases h.all x hx hb (.inl z) with y | y
      · left; rw [List.map_append]; exact List.mem_append_left _ y
      · exact push y
    · rw [List.map_append] at z
      rcases List.mem_append.mp z with y | y
      · rcases h.all x hx hb (.inr y) with u | u
        · left; rw [List.map_append]; exact List.mem_append_left _ u
        · exact push u
      · by_cases s0 : x.src = 0
        · rcases h.all x hx hb (.inl s0) with u | u
          · left; rw [List.map_append]; exact List.mem_append_left _ u
          · exact push u
        · right
          simp at y
          rw [List.map_append]
          refine List.mem_append_right _ (List.mem_map.mpr ⟨(x.to, w.2 ++ [x]), List.mem_map.mpr ⟨x, List.mem_filter.mpr ⟨hx, ?_⟩, rfl⟩, rfl⟩)
          have : x.src = w.1 + 1 := by omega
          simpa using this
/-- at the end just what is come to has been taken -/
theorem QInv.done {n : Nat} {ls : List Link} {bad : Nat → Bool} {acc : Ways} (h : QInv n ls bad acc []) (o : Nat) : o ∈ acc.map (fun y => y.1) ↔ Rch (ls.filter fun x => !bad x.to) o := by
  constructor
  · intro z
    obtain ⟨y, hy, rfl⟩ := List.mem_map.mp z
    exact h.accR y hy
  · intro r
    refine closed_all (ls := ls.filter fun x => !bad x.to) ?_ r
    intro x hx hs
    obtain ⟨h1, h2⟩ := List.mem_filter.mp hx
    rcases h.all x h1 (by simpa using h2) hs with z | z
    · exact z
    · cases z
end Kp
/-! links by where they begin -/
namespace Kp
open Hx01
/-- links one behind another, numbered from k on -/
def lf (src : Nat) : Nat → List (Option Nat) → List Link
  | _, [] => []
  | k, none :: l => lf src (k + 1) l
  | k, some o :: l => ⟨src, k, o⟩ :: lf src (k + 1) l
theorem lf_is (src : Nat) : ∀ (l : List (Option Nat)) (k : Nat), (l.zip (List.range' k l.length)).filterMap (fun x => x.1.map fun o => (⟨src, x.2, o⟩ : Link)) = lf src k l
  | [], k => rfl
  | none :: l, k => by
    rw [List.length_cons, List.range'_succ, List.zip_cons_cons, List.filterMap_cons]
    exact lf_is src l (k + 1)
  | some o :: l, k => by
    rw [List.length_cons, List.range'_succ, List.zip_cons_cons, List.filterMap_cons]
    exact congrArg _ (lf_is src l (k + 1))
theorem linksFrom_lf (src : Nat) (l : List (Option Nat)) : linksFrom src l = lf src 0 l := by
  unfold linksFrom
  rw [List.range_eq_range']
  exact lf_is src l 0
theorem lf_src (src : Nat) : ∀ (l : List (Option Nat)) (k : Nat), ∀ x ∈ lf src k l, x.src = src ∧ some x.to ∈ l
  | [], k, x, h => by cases h
  | none :: l, k, x, h => by
    obtain ⟨a, b⟩ := lf_src src l (k + 1) x h
    exact ⟨a, List.mem_cons_of_mem _ b⟩
  | some o :: l, k, x, h => by
    rcases List.mem_cons.mp h with z | z
    · rw [z]; exact ⟨rfl, List.mem_cons_self⟩
    · obtain ⟨a, b⟩ := lf_src src l (k + 1) x z
      exact ⟨a, List.mem_cons_of_mem _ b⟩
theorem lf_len (src : Nat) : ∀ (l : List (Option Nat)) (k : Nat), (lf src k l).length ≤ l.length
  | [], k => Nat.le_refl _
  | none :: l, k => Nat.le_succ_of_le (lf_len src l (k + 1))
  | some o :: l, k => Nat.succ_le_succ (lf_len src l (k + 1))
theorem lf_snoc (src : Nat) (o : Option Nat) : ∀ (l : List (Option Nat)) (k : Nat), lf src k (l ++ [o]) = lf src k l ++ (o.elim [] fun t => [⟨src, k + l.length, t⟩])
  | [], k => by cases o <;> rfl
  | none :: l, k => by
    show lf src (k + 1) (l ++ [o]) = lf src (k + 1) l ++ _
    rw [lf_snoc src o l (k + 1), List.length_cons]
    congr 2; funext t; congr 2; omega
  | some a :: l, k => by
    show _ :: lf src (k + 1) (l ++ [o]) = _ :: (lf src (k + 1) l ++ _)
    rw [lf_snoc src o l (k + 1), List.length_cons]
    congr 3; funext t; congr 2; omega
/-- things' links, things numbered from k on -/
def tl : Nat → List Thing → List Link
  | _, [] => []
  | k, t :: l => lf (k + 1) 0 t.fields ++ tl (k + 1) l
theorem tl_is : ∀ (l : List Thing) (k : Nat), (l.zip (List.range' k l.length)).flatMap (fun x => linksFrom (x.2 + 1) x.1.fields) = tl k l
  | [], k => rfl
  | t :: l, k => by
    rw [List.length_cons, List.range'_succ, List.zip_cons_cons, List.flatMap_cons, tl_is l (k + 1), linksFrom_lf]
    rfl
theorem links_is (h : Heap) : links h = lf 0 0 h.vars ++ tl 0 h.things := by
  unfold links
  rw [linksFrom_lf, List.range_eq_range', tl_is]
theorem tl_mem : ∀ (l : List Thing) (k : Nat), ∀ x ∈ tl k l, k < x.src ∧ ∃ t ∈ l, some x.to ∈ t.fields
  | [], k, x, h => by cases h
  | t :: l, k, x, h => by
    rcases List.mem_append.mp h with z | z
    · obtain ⟨a, b⟩ := lf_src (k + 1) t.fields 0 x z
      exact ⟨by omega, t, List.mem_cons_self, b⟩
    · obtain ⟨a, u, hu, b⟩ := tl_mem l (k + 1) x z
      exact ⟨by omega, u, List.mem_cons_of_mem _ hu, b⟩
theorem filter_none {α : Type} {f : α → Bool} {l : List α} (h : ∀ x ∈ l, f x = false) : l.filter f = [] := by
  rw [List.filter_eq_nil_iff]
  intro x hx z
  rw [h x hx] at z
  cases z
theorem filter_all {α : Type} {f : α → Bool} {l : List α} (h : ∀ x ∈ l, f x = true) : l.filter f = l := List.filter_eq_self.mpr h
theorem tl_at : ∀ (l : List Thing) (k i : Nat), (tl k l).filter (fun x => decide (x.src = k + i + 1)) = (l[i]?).elim [] fun t => lf (k + i + 1) 0 t.fields
  | [], k, i => rfl
  | t :: l, k, 0 => by
    show (lf (k + 1) 0 t.fields ++ tl (k + 1) l).filter _ = lf (k + 0 + 1) 0 t.fields
    rw [List.filter_append, filter_all (fun x hx => by rw [(lf_src _ _ _ x hx).1]; simp), filter_none (fun x hx => by have := (tl_mem l (k + 1) x hx).1; simp; omega), List.append_nil]
  | t :: l, k, i + 1 => by
    show (lf (k + 1) 0 t.fields ++ tl (k + 1) l).filter _ = _
    rw [List.filter_append, filter_none (fun x hx => by rw [(lf_src _ _ _ x hx).1]; simp), List.nil_append]
    have e : k + (i + 1) + 1 = (k + 1) + i + 1 := by omega
    rw [e]
    exact tl_at l (k + 1) i
/-- the links that begin at a thing -/
theorem links_thing (h : Heap) (i : Nat) : (links h).filter (fun x => decide (x.src = i + 1)) = (h.things[i]?).elim [] fun t => lf (i + 1) 0 t.fields := by
  rw [links_is, List.filter_append, filter_none (fun x hx => by rw [(lf_src _ _ _ x hx).1]; simp), List.nil_append]
  have := tl_at h.things 0 i
  rw [Nat.zero_add] at this
  exact this
theorem links_vars (h : Heap) : (links h).filter (fun x => decide (x.src = 0)) = lf 0 0 h.vars := by
  rw [links_is, List.filter_append, filter_all (fun x hx => by rw [(lf_src _ _ _ x hx).1]; simp), filter_none (fun x hx => by have := (tl_mem h.things 0 x hx).1; simp; omega), List.append_nil]
theorem links_ok {p : Program} {h : Heap} (b : ∀ c ∈ p.classes, c.fields.length ≤ 2) (k : HOk p h) : LOk h.things.length (links h) := by
  refine ⟨fun x hx => ?_, fun s hs => ?_⟩
  · rw [links_is] at hx
    rcases List.mem_append.mp hx with z | z
    · exact k.hv _ (lf_src _ _ _ x z).2
    · obtain ⟨_, t, ht, e⟩ := tl_mem _ _ x z
      exact k.hf t ht _ e
  · obtain ⟨i, rfl⟩ : ∃ i, s = i + 1 := ⟨s - 1, by omega⟩
    rw [links_thing]
    cases e : h.things[i]? with
    | none => exact Nat.zero_le _
    | some t =>
      obtain ⟨c, e1, e2, _⟩ := k.cls t (List.mem_of_getElem? e)
      have := b c (List.mem_of_getElem? e1)
      show (lf (i + 1) 0 t.fields).length ≤ 2
      exact Nat.le_trans (lf_len _ _ _) (by omega)
theorem begins_is (h : Heap) : begins (links h) = (lf 0 0 h.vars).map fun x => (x.to, [x]) := by
  unfold begins
  rw [links_vars]
theorem ext_is (h : Heap) (w : Nat × List Link) : ext (links h) w = ((h.things[w.1]?).elim [] fun t => lf (w.1 + 1) 0 t.fields).map fun x => (x.to, w.2 ++ [x]) := by
  unfold ext
  rw [links_thing]
/-- numbers in the order of size are what sorting gives -/
theorem live_ok {h : Heap} (hl : LOk h.things.length (links h)) {acc : Ways} (q : QInv h.things.length (links h) (fun _ => false) acc []) (x : Nat) : x ∈ acc.map (fun y => y.1) ↔ x ∈ live h := by
  rw [q.done]
  unfold live
  rw [mem_comeTo hl.lt]
  have : ((links h).filter fun x => !false) = links h := filter_all fun _ _ => rfl
  rw [this]
theorem gone_ok {h : Heap} (hl : LOk h.things.length (links h)) {o : Nat} {acc : Ways} (q : QInv h.things.length (links h) (fun t => decide (t = o)) acc []) (x : Nat) : x ∈ acc.map (fun y => y.1) ↔ x ∈ comeTo h.things.length ((links h).filter fun x => decide (x.to ≠ o)) := by
  rw [q.done, mem_comeTo (fun x hx => hl.lt x (List.mem_filter.mp hx).1)]
  have : ((links h).filter fun x => !decide (x.to = o)) = (links h).filter fun x => decide (x.to ≠ o) := by
    congr 1; funext x; simp
  rw [this]
end Kp
/-! the search for shortest ways, turn by turn, without some links -/
namespace Kp
open Hx01
abbrev nb : Nat → Bool := fun _ => false
/-- the links that are left -/
def cutL (h : Heap) (c : List Link) : List Link := (links h).filter fun x => !c.contains x
theorem cutL_nil (h : Heap) : cutL h [] = links h := filter_all fun _ _ => rfl
theorem filter_comm {α : Type} (p q : α → Bool) (l : List α) : (l.filter p).filter q = (l.filter q).filter p := by
  rw [List.filter_filter, List.filter_filter]
  congr 1
  funext x
  exact Bool.and_comm _ _
theorem LOk.filter {n : Nat} {ls : List Link} (h : LOk n ls) (p : Link → Bool) : LOk n (ls.filter p) := by
  refine ⟨fun x hx => h.lt x (List.mem_filter.mp hx).1, fun s hs => ?_⟩
  rw [filter_comm]
  exact Nat.le_trans (List.length_filter_le _ _) (h.two s hs)
theorem cutL_ok {h : Heap} (hl : LOk h.things.length (links h)) (c : List Link) : LOk h.things.length (cutL h c) := hl.filter _
theorem begins_cut (h : Heap) (c : List Link) : begins (cutL h c) = ((lf 0 0 h.vars).filter fun x => !c.contains x).map fun x => (x.to, [x]) := by
  unfold begins cutL
  rw [filter_comm, links_vars]
theorem ext_cut (h : Heap) (c : List Link) (w : Nat × List Link) : ext (cutL h c) w = (((h.things[w.1]?).elim [] fun t => lf (w.1 + 1) 0 t.fields).filter fun x => !c.contains x).map fun x => (x.to, w.2 ++ [x]) := by
  unfold ext cutL
  rw [filter_comm, links_thing]
/-- a way, by links -/
inductive Wy (ls : List Link) : List Link → Nat → Prop
  | one {x : Link} : x ∈ ls → x.src = 0 → Wy ls [x] x.to
  | more {l : List Link} {t : Nat} {x : Link} : Wy ls l t → x ∈ ls → x.src = t + 1 → Wy ls (l ++ [x]) x.to
theorem Wy.last {ls l : List Link} {t : Nat} (w : Wy ls l t) : ∃ m x, l = m ++ [x] ∧ x.to = t := by
  cases w with
  | one h _ => exact ⟨[], _, rfl, rfl⟩
  | more h _ _ => exact ⟨_, _, rfl, rfl⟩
theorem Wy.rch {ls l : List Link} {t : Nat} (w : Wy ls l t) : Rch ls t := by
  induction w with
  | one h e => exact .var h e
  | more _ h e ih => exact .step h (by omega) (by rw [e]; exact ih)
theorem Wy.mem {ls l : List Link} {t : Nat} (w : Wy ls l t) : ∀ x ∈ l, x ∈ ls ∧ (x.src = 0 ∨ Rch ls (x.src - 1)) := by
  induction w with
  | one h e =>
    intro x hx
    rw [List.mem_singleton.mp hx]
    exact ⟨h, .inl e⟩
  | more w h e ih =>
    intro x hx
    rcases List.mem_append.mp hx with z | z
    · exact ih x z
    · rw [List.mem_singleton.mp z]
      exact ⟨h, .inr (by rw [e]; exact w.rch)⟩
theorem Wy.by {ls ms l : List Link} {t : Nat} (w : Wy ls l t) (h : ∀ x ∈ l, x ∈ ms) : Wy ms l t := by
  induction w with
  | one _ e => exact .one (h _ (by simp)) e
  | more _ _ e ih => exact .more (ih fun x hx => h x (List.mem_append_left _ hx)) (h _ (by simp)) e
structure Srch (n : Nat) (ls : List Link) (f : Nat) (acc seen q : Ways) : Prop where
  qi : QInv n ls nb acc q
  eq : bfs ls nb f acc q = bfs ls nb (3 * n + (begins ls).length) [] (begins ls)
  fuel : 3 * (n - acc.length) + q.length ≤ f
  len : ∀ y ∈ seen ++ q, y.2.length ≤ acc.length + 1
  way : ∀ y ∈ seen ++ q, Wy ls y.2 y.1
  many : (seen ++ q).length ≤ (begins ls).length + 2 * acc.length
  sub : ∀ y ∈ acc, y ∈ seen
theorem Srch.start {n : Nat} {ls : List Link} (hl : LOk n ls) : Srch n ls (3 * n + (begins ls).length) [] [] (begins ls) := by
  refine ⟨QInv.start hl _, rfl, by simp, ?_, ?_, by simp, (fun y hy => by cases hy)⟩
  · intro y hy
    rw [List.nil_append] at hy
    obtain ⟨x, _, rfl⟩ := List.mem_map.mp hy
    exact Nat.le_refl _
  · intro y hy
    rw [List.nil_append] at hy
    obtain ⟨x, hx, rfl⟩ := List.mem_map.mp hy
    obtain ⟨h1, h2⟩ := List.mem_filter.mp hx
    exact .one h1 (by simpa using h2)
theorem Srch.skip {n : Nat} {ls : List Link} {f : Nat} {acc seen q : Ways} {w : Nat × List Link} (s : Srch n ls f acc seen (w :: q)) (c : has acc w.1 = true) : ∃ f', f = f' + 1 ∧ Srch n ls f' acc (seen ++ [w]) q := by
  have e1 := s.eq
  have e2 := s.fuel
  obtain ⟨f', rfl⟩ : ∃ f', f = f' + 1 := ⟨f - 1, by rw [List.length_cons] at e2; omega⟩
  have e3 : seen ++ [w] ++ q = seen ++ w :: q := by simp
  have c : (nb w.1 || has acc w.1) = true := c
  refine ⟨f', rfl, s.qi.skip c, ?_, by rw [List.length_cons] at e2; omega, by rw [e3]; exact s.len, by rw [e3]; exact s.way, by rw [e3]; exact s.many, fun y hy => List.mem_append_left _ (s.sub y hy)⟩
  rw [← e1]
  show _ = if _ then _ else _
  rw [if_pos c]
theorem Srch.take {n : Nat} {ls : List Link} {f : Nat} {acc seen q : Ways} {w : Nat × List Link} (hl : LOk n ls) (s : Srch n ls f acc seen (w :: q)) (c : has acc w.1 = false) : ∃ f', f = f' + 1 ∧ Srch n ls f' (acc ++ [w]) (seen ++ [w]) (q ++ ext ls w) := by
  have e1 := s.eq
  have e2 := s.fuel
  have c : (nb w.1 || has acc w.1) = false := c
  have q2 := s.qi.take hl c
  have gl := q2.good.len
  have x2 := ext_two hl w
  rw [List.length_append, List.length_singleton] at gl
  obtain ⟨f', rfl⟩ : ∃ f', f = f' + 1 := ⟨f - 1, by rw [List.length_cons] at e2; omega⟩
  have e3 : seen ++ [w] ++ (q ++ ext ls w) = seen ++ w :: q ++ ext ls w := by simp
  have hw : w ∈ seen ++ w :: q := by simp
  refine ⟨f', rfl, q2, ?_, ?_, ?_, ?_, ?_, fun y hy => ?_⟩
  rotate_right
  · rcases List.mem_append.mp hy with z | z
    · exact List.mem_append_left _ (s.sub y z)
    · exact List.mem_append_right _ z
  · rw [← e1]
    show _ = if _ then _ else _
    rw [if_neg (by rw [c]; exact Bool.false_ne_true)]
  · rw [List.length_cons] at e2
    rw [List.length_append, List.length_append, List.length_singleton]
    omega
  · rw [e3]
    intro y hy
    rw [List.length_append, List.length_singleton]
    rcases List.mem_append.mp hy with z | z
    · exact Nat.le_succ_of_le (s.len y z)
    · obtain ⟨x, _, rfl⟩ := List.mem_map.mp z
      have := s.len w hw
      show (w.2 ++ [x]).length ≤ _
      rw [List.length_append, List.length_singleton]
      omega
  · rw [e3]
    intro y hy
    rcases List.mem_append.mp hy with z | z
    · exact s.way y z
    · obtain ⟨x, hx, rfl⟩ := List.mem_map.mp z
      obtain ⟨h1, h2⟩ := List.mem_filter.mp hx
      exact .more (s.way w hw) h1 (by simpa using h2)
  · rw [e3, List.length_append]
    have := s.many
    have e4 : (acc ++ [w]).length = acc.length + 1 := by simp
    omega
theorem Srch.done {h : Heap} {f : Nat} {acc seen : Ways} (hl : LOk h.things.length (links h)) (s : Srch h.things.length (links h) f acc seen []) : acc = ways h := by
  have e := s.eq
  rw [bfs_nil] at e
  rw [e, ways_bfs hl (Nat.le_refl _)]
theorem Srch.short {n : Nat} {ls : List Link} {f : Nat} {acc seen q : Ways} (s : Srch n ls f acc seen q) : ∀ y ∈ acc, y.2.length ≤ n + 1 := fun y hy => by
  have := s.len y (List.mem_append_left _ (s.sub y hy))
  have := s.qi.good.len
  omega
theorem begins_len (h : Heap) (c : List Link) : (begins (cutL h c)).length ≤ h.vars.length := by
  rw [begins_cut, List.length_map]
  exact Nat.le_trans (List.length_filter_le _ _) (lf_len _ _ _)
/-- what a search has found -/
structure Fnd (h : Heap) (c : List Link) (acc : Ways) : Prop where
  nd : (acc.map fun y => y.1).Nodup
  lt : ∀ y ∈ acc, y.1 < h.things.length
  mem : ∀ o, o ∈ acc.map (fun y => y.1) ↔ Rch (cutL h c) o
  way : ∀ y ∈ acc, Wy (cutL h c) y.2 y.1
  short : ∀ y ∈ acc, y.2.length ≤ h.things.length + 1
  all : c = [] → acc = ways h
theorem Srch.fnd {h : Heap} {c : List Link} {f : Nat} {acc seen : Ways} (hl : LOk h.things.length (links h)) (s : Srch h.things.length (cutL h c) f acc seen []) : Fnd h c acc := by
  refine ⟨s.qi.good.nd, s.qi.good.lt, fun o => ?_, fun y hy => s.way y (List.mem_append_left _ (s.sub y hy)), s.short, fun e => ?_⟩
  · rw [s.qi.done]
    have e : ((cutL h c).filter fun x => !nb x.to) = cutL h c := filter_all fun _ _ => rfl
    rw [e]
  · subst e
    rw [cutL_nil] at s
    exact s.done hl
theorem Fnd.len {h : Heap} {c : List Link} {acc : Ways} (F : Fnd h c acc) : acc.length ≤ h.things.length := Good.len ⟨F.nd, F.lt⟩
theorem Fnd.has {h : Heap} (hl : LOk h.things.length (links h)) {c : List Link} {acc : Ways} (F : Fnd h c acc) (o : Nat) : has acc o = (comeTo h.things.length (cutL h c)).contains o := by
  rw [Bool.eq_iff_iff, has_iff, F.mem, List.contains_iff_mem, mem_comeTo (cutL_ok hl c).lt]
theorem Fnd.live {h : Heap} (hl : LOk h.things.length (links h)) {acc : Ways} (F : Fnd h [] acc) (o : Nat) : o ∈ acc.map (fun y => y.1) ↔ o ∈ live h := by
  rw [F.mem, cutL_nil]
  unfold Hx01.live
  rw [mem_comeTo hl.lt]
theorem freed_is (h : Heap) (c : List Link) : freed h c = (live h).filter fun x => !(comeTo h.things.length (cutL h c)).contains x := rfl
theorem keeps_is (h : Heap) (o : Nat) : keeps h o = freed h ((links h).filter fun x => decide (x.to = o)) := by
  unfold keeps freed
  have e : (links h).filter (fun x => decide (x.to ≠ o)) = (links h).filter fun x => !((links h).filter fun x => decide (x.to = o)).contains x := by
    refine List.filter_congr fun x hx => ?_
    rw [Bool.eq_iff_iff]
    simp [hx]
  rw [e]
end Kp
/-! numbers sorted -/
namespace Kp
open Hx01
abbrev zs (l : List Nat) : List Int := l.map fun (n : Nat) => (n : Int)
theorem zs_nodup {l : List Nat} (h : l.Nodup) : (zs l).Nodup := by
  refine List.pairwise_map.mpr (h.imp fun {a b} n z => n ?_)
  exact Int.ofNat.inj z
theorem zs_sorted {ys : List Int} {m l : List Nat} (hp : ys.Perm (zs m)) (hm : m.Nodup) (hs : ys.Pairwise (· ≤ ·)) (hl : l.Pairwise (· < ·)) (hx : ∀ x, x ∈ m ↔ x ∈ l) : ys = zs l := by
  have nd : ys.Nodup := hp.nodup_iff.mpr (zs_nodup hm)
  have pos : ∀ y ∈ ys, ∃ n ∈ m, y = (n : Int) := fun y hy => by
    obtain ⟨n, hn, e⟩ := List.mem_map.mp (hp.mem_iff.mp hy)
    exact ⟨n, hn, e.symm⟩
  have e1 : ys = zs (ys.map Int.toNat) := by
    show ys = (ys.map Int.toNat).map fun (n : Nat) => (n : Int)
    rw [List.map_map]
    symm
    conv => rhs; rw [← List.map_id ys]
    refine List.map_congr_left fun y hy => ?_
    obtain ⟨n, _, rfl⟩ := pos y hy
    rfl
  have lt : ys.Pairwise (· < ·) := by
    refine (hs.and nd).imp fun {a b} h => ?_
    omega
  have lt2 : (ys.map Int.toNat).Pairwise (· < ·) := by
    rw [List.pairwise_map]
    refine lt.imp_of_mem fun {a b} ha hb h => ?_
    obtain ⟨n, _, rfl⟩ := pos a ha
    obtain ⟨k, _, rfl⟩ := pos b hb
    simp
    omega
  rw [e1, sorted_ext lt2 hl fun x => ?_]
  rw [← hx]
  constructor
  · intro z
    obtain ⟨y, hy, rfl⟩ := List.mem_map.mp z
    obtain ⟨n, hn, rfl⟩ := pos y hy
    exact hn
  · intro z
    refine List.mem_map.mpr ⟨(x : Int), hp.mem_iff.mpr (List.mem_map.mpr ⟨x, z, rfl⟩), rfl⟩
theorem live_sorted (h : Heap) : (live h).Pairwise (· < ·) := comeTo_sorted _ _
theorem live_lt {h : Heap} {x : Nat} (hx : x ∈ live h) : x < h.things.length := by
  unfold live comeTo at hx
  exact List.mem_range.mp (List.mem_filter.mp hx).1
theorem live_len (h : Heap) : (live h).length ≤ h.things.length := nodup_le _ _ ((live_sorted h).imp fun h => Nat.ne_of_lt h) fun x hx => live_lt hx
end Kp
/-! the things that keep the most, in order -/
namespace Kp
open Hx01
/-- more bytes first; of as many the one made first -/
def ahead (x y : Nat × Nat) : Prop := y.2 < x.2 ∨ (x.2 = y.2 ∧ x.1 < y.1)
theorem put1_perm (x : Nat × Nat) : ∀ l : List (Nat × Nat), (put1 x l).Perm (x :: l)
  | [] => .refl _
  | y :: l => by
    unfold put1
    by_cases c : y.2 < x.2
    · rw [if_pos c]
    · rw [if_neg c]
      exact (List.Perm.cons y (put1_perm x l)).trans (List.Perm.swap x y l)
theorem put1_sorted (x : Nat × Nat) : ∀ l : List (Nat × Nat), l.Pairwise ahead → (∀ y ∈ l, y.1 < x.1) → (put1 x l).Pairwise ahead
  | [], _, _ => by simp [put1]
  | y :: l, hp, hl => by
    unfold put1
    obtain ⟨h1, h2⟩ := List.pairwise_cons.mp hp
    by_cases c : y.2 < x.2
    · rw [if_pos c]
      refine List.pairwise_cons.mpr ⟨fun z hz => ?_, hp⟩
      rcases List.mem_cons.mp hz with rfl | hz
      · exact .inl c
      · rcases h1 z hz with k | ⟨k, _⟩
        · exact .inl (by omega)
        · exact .inl (by omega)
    · rw [if_neg c]
      refine List.pairwise_cons.mpr ⟨fun z hz => ?_, put1_sorted x l h2 fun z hz => hl z (List.mem_cons_of_mem _ hz)⟩
      rcases List.mem_cons.mp ((put1_perm x l).mem_iff.mp hz) with rfl | hz
      · have := hl y List.mem_cons_self
        unfold ahead
        omega
      · exact h1 z hz
theorem fold_put : ∀ (m acc : List (Nat × Nat)), acc.Pairwise ahead → (m.map fun x => x.1).Pairwise (· < ·) → (∀ y ∈ acc, ∀ x ∈ m, y.1 < x.1) → (m.foldl (fun a x => put1 x a) acc).Pairwise ahead ∧ (m.foldl (fun a x => put1 x a) acc).Perm (m ++ acc)
  | [], acc, h, _, _ => ⟨h, .refl _⟩
  | x :: m, acc, h, hm, hx => by
    rw [List.map_cons] at hm
    obtain ⟨h1, h2⟩ := List.pairwise_cons.mp hm
    have := fold_put m (put1 x acc) (put1_sorted x acc h fun y hy => hx y hy x List.mem_cons_self) h2 (fun y hy z hz => by
      rcases List.mem_cons.mp ((put1_perm x acc).mem_iff.mp hy) with rfl | hy
      · exact h1 _ (List.mem_map.mpr ⟨z, hz, rfl⟩)
      · exact hx y hy z (List.mem_cons_of_mem _ hz))
    refine ⟨this.1, this.2.trans ?_⟩
    exact (List.Perm.append_left m (put1_perm x acc)).trans (List.perm_middle)
theorem same_order {α : Type} {R : α → α → Prop} (as : ∀ a b, R a b → R b a → False) : ∀ {l m : List α}, l.Perm m → l.Pairwise R → m.Pairwise R → l = m
  | [], m, p, _, _ => (List.nil_perm.mp p).symm
  | a :: l, [], p, _, _ => by cases List.perm_nil.mp p
  | a :: l, b :: m, p, h, k => by
    obtain ⟨h1, h2⟩ := List.pairwise_cons.mp h
    obtain ⟨k1, k2⟩ := List.pairwise_cons.mp k
    have e : a = b := by
      rcases List.mem_cons.mp (p.mem_iff.mp (List.mem_cons_self : a ∈ a :: l)) with z | z
      · exact z
      · rcases List.mem_cons.mp (p.mem_iff.mpr (List.mem_cons_self : b ∈ b :: m)) with y | y
        · exact y.symm
        · exact (as _ _ (h1 b y) (k1 a z)).elim
    subst e
    rw [same_order as (List.perm_cons a |>.mp p) h2 k2]
/-- what each of them keeps -/
def kb (p : Program) (h : Heap) (o : Nat) : Nat := bytesOf p h (keeps h o)
theorem most_is (p : Program) (h : Heap) {l : List Nat} (hp : l.Perm (live h)) (hs : l.Pairwise fun a b => kb p h b < kb p h a ∨ (kb p h a = kb p h b ∧ a < b)) : most p h = l.map fun o => (o, kb p h o) := by
  have e : ((live h).map fun o => (o, bytesOf p h (keeps h o))).map (fun x => x.1) = live h := by rw [List.map_map]; exact List.map_id _
  have := fold_put ((live h).map fun o => (o, bytesOf p h (keeps h o))) [] List.Pairwise.nil (by rw [e]; exact live_sorted h) (fun y hy => by cases hy)
  rw [List.append_nil] at this
  refine same_order (R := ahead) ?_ (this.2.trans (hp.map fun o => (o, kb p h o)).symm) this.1 (List.pairwise_map.mpr hs)
  unfold ahead
  intro a b h1 h2
  omega
end Kp
/-! the fewest links to be cut -/
namespace Kp
open Hx01
def goes (h : Heap) (o : Nat) (c : List Link) : Bool := !(comeTo h.things.length (cutL h c)).contains o
theorem goes_iff {h : Heap} (hl : LOk h.things.length (links h)) {o : Nat} {c : List Link} : goes h o c = true ↔ ¬ Rch (cutL h c) o := by
  unfold goes
  rw [← mem_comeTo (cutL_ok hl c).lt]
  simp
theorem goes_mono {h : Heap} (hl : LOk h.things.length (links h)) {o : Nat} {c d : List Link} (s : ∀ x ∈ c, x ∈ d) (g : goes h o c = true) : goes h o d = true := by
  rw [goes_iff hl] at g ⊢
  refine fun r => g (r.mono fun x hx => ?_)
  unfold cutL at hx ⊢
  obtain ⟨h1, h2⟩ := List.mem_filter.mp hx
  refine List.mem_filter.mpr ⟨h1, ?_⟩
  simp at h2 ⊢
  exact fun z => h2 (s x z)
/-- so many links more let it go -/
def Can (h : Heap) (o : Nat) (c : List Link) (m : Nat) : Prop := ∃ d : List Link, d.length ≤ m ∧ (∀ x ∈ d, x ∈ liveLinks h) ∧ goes h o (c ++ d) = true
theorem can_here {h : Heap} {o : Nat} {c : List Link} {m : Nat} (g : goes h o c = true) : Can h o c m := ⟨[], Nat.zero_le _, (fun x hx => by cases hx), by rw [List.append_nil]; exact g⟩
theorem can_zero {h : Heap} {o : Nat} {c : List Link} (k : Can h o c 0) : goes h o c = true := by
  obtain ⟨d, h1, _, h3⟩ := k
  have : d = [] := List.length_eq_zero_iff.mp (by omega)
  subst this
  rw [List.append_nil] at h3
  exact h3
theorem can_more {h : Heap} {o : Nat} {c : List Link} {m k : Nat} (l : m ≤ k) (a : Can h o c m) : Can h o c k := by
  obtain ⟨d, h1, h2, h3⟩ := a
  exact ⟨d, by omega, h2, h3⟩
theorem can_step {h : Heap} (hl : LOk h.things.length (links h)) {o : Nat} {c : List Link} {m : Nat} {x : Link} (hx : x ∈ liveLinks h) (k : Can h o (c ++ [x]) m) : Can h o c (m + 1) := by
  obtain ⟨d, h1, h2, h3⟩ := k
  refine ⟨x :: d, by rw [List.length_cons]; omega, fun y hy => ?_, ?_⟩
  · rcases List.mem_cons.mp hy with z | z
    · rw [z]; exact hx
    · exact h2 y z
  · rw [List.append_assoc] at h3
    exact h3
/-- of a way that is left one link has to be among them -/
theorem can_take {h : Heap} (hl : LOk h.things.length (links h)) {o : Nat} {c d : List Link} {m : Nat} {x : Link} (hd : ∀ x ∈ d, x ∈ liveLinks h) (hm : d.length ≤ m + 1) (hx : x ∈ d) (g : goes h o (c ++ d) = true) : Can h o (c ++ [x]) m := by
  have h1 := List.length_erase_of_mem hx
  refine ⟨d.erase x, by omega, fun y hy => hd y (List.mem_of_mem_erase hy), ?_⟩
  refine goes_mono hl (fun y hy => ?_) g
  rcases List.mem_append.mp hy with z | z
  · simp [z]
  · by_cases e : y = x
    · simp [e]
    · exact List.mem_append_right _ ((List.mem_erase_of_ne e).mpr z)
theorem can_not {h : Heap} (hl : LOk h.things.length (links h)) {o : Nat} {c l : List Link} {m : Nat} (w : Wy (cutL h c) l o) (n : ∀ x ∈ l, ¬ Can h o (c ++ [x]) m) : ¬ Can h o c (m + 1) := by
  rintro ⟨d, h1, h2, h3⟩
  have g := h3
  rw [goes_iff hl] at h3
  refine h3 (Wy.rch (l := l) (w.by fun x hx => ?_))
  have hx2 := (w.mem x hx).1
  unfold cutL at hx2 ⊢
  obtain ⟨k1, k2⟩ := List.mem_filter.mp hx2
  refine List.mem_filter.mpr ⟨k1, ?_⟩
  have nd : x ∉ d := fun z => n x hx (can_take hl h2 h1 z g)
  simp at k2 ⊢
  exact ⟨k2, nd⟩
theorem live_iff {h : Heap} (hl : LOk h.things.length (links h)) {o : Nat} : o ∈ live h ↔ Rch (links h) o := mem_comeTo hl.lt
theorem way_live {h : Heap} (hl : LOk h.things.length (links h)) {o : Nat} {c l : List Link} (w : Wy (cutL h c) l o) : ∀ x ∈ l, x ∈ liveLinks h := fun x hx => by
  obtain ⟨h1, h2⟩ := w.mem x hx
  unfold liveLinks
  refine List.mem_filter.mpr ⟨(List.mem_filter.mp h1).1, ?_⟩
  rcases h2 with z | z
  · simp [z]
  · have : x.src - 1 ∈ live h := (live_iff hl).mpr (z.mono fun y hy => (List.mem_filter.mp hy).1)
    simp [this]
open Classical in
/-- one link more, if such a row has it -/
noncomputable def pick (h : Heap) (o cnt : Nat) (r : List Link) (x : Link) : List Link := if r.length < cnt ∧ Can h o (r ++ [x]) (cnt - r.length - 1) then r ++ [x] else r
theorem pick_yes {h : Heap} {o cnt : Nat} {r : List Link} {x : Link} (c : r.length < cnt ∧ Can h o (r ++ [x]) (cnt - r.length - 1)) : pick h o cnt r x = r ++ [x] := by unfold pick; rw [if_pos c]
theorem pick_no {h : Heap} {o cnt : Nat} {r : List Link} {x : Link} (c : ¬ (r.length < cnt ∧ Can h o (r ++ [x]) (cnt - r.length - 1))) : pick h o cnt r x = r := by unfold pick; rw [if_neg c]
theorem pick_full {h : Heap} {o cnt : Nat} : ∀ (l r : List Link), cnt ≤ r.length → l.foldl (pick h o cnt) r = r
  | [], r, _ => rfl
  | x :: l, r, c => by
    rw [List.foldl_cons, pick_no (fun z => by omega)]
    exact pick_full l r c
theorem pick_len {h : Heap} {o cnt : Nat} : ∀ (l r : List Link), r.length ≤ cnt → (l.foldl (pick h o cnt) r).length ≤ cnt
  | [], r, c => c
  | x :: l, r, c => by
    rw [List.foldl_cons]
    refine pick_len l _ ?_
    by_cases d : r.length < cnt ∧ Can h o (r ++ [x]) (cnt - r.length - 1)
    · rw [pick_yes d, List.length_append, List.length_singleton]; omega
    · rw [pick_no d]; exact c
noncomputable def first (h : Heap) (o cnt : Nat) : List Link := (liveLinks h).foldl (pick h o cnt) []
theorem choices_zero (l : List Link) : choices 0 l = [[]] := by cases l <;> rfl
theorem choices_mem : ∀ (k : Nat) (l : List Link), ∀ c ∈ choices k l, c.length = k ∧ ∀ x ∈ c, x ∈ l
  | 0, l, c, hc => by
    rw [choices_zero] at hc
    rw [List.mem_singleton.mp hc]
    exact ⟨rfl, fun x hx => by cases hx⟩
  | k + 1, [], c, hc => by cases hc
  | k + 1, n :: l, c, hc => by
    have hc : c ∈ (choices k l).map (fun c => n :: c) ++ choices (k + 1) l := hc
    rcases List.mem_append.mp hc with z | z
    · obtain ⟨d, hd, rfl⟩ := List.mem_map.mp z
      obtain ⟨h1, h2⟩ := choices_mem k l d hd
      refine ⟨by rw [List.length_cons, h1], fun x hx => ?_⟩
      rcases List.mem_cons.mp hx with y | y
      · rw [y]; exact List.mem_cons_self
      · exact List.mem_cons_of_mem _ (h2 x y)
    · obtain ⟨h1, h2⟩ := choices_mem (k + 1) l c z
      exact ⟨h1, fun x hx => List.mem_cons_of_mem _ (h2 x hx)⟩
theorem first_from {h : Heap} (hl : LOk h.things.length (links h)) {o cnt : Nat} (hmin : ∀ d : List Link, (∀ x ∈ d, x ∈ liveLinks h) → d.length < cnt → goes h o d = false) :
    ∀ (l r : List Link), (∀ x ∈ l, x ∈ liveLinks h) → (∀ x ∈ r, x ∈ liveLinks h) → r.length ≤ cnt → Can h o r (cnt - r.length) →
      (r.length < cnt → ∀ m ∈ liveLinks h, m ∉ r → m ∉ l → ¬ Can h o (r ++ [m]) (cnt - r.length - 1)) →
      ∃ c, (choices (cnt - r.length) l).find? (fun c => goes h o (r ++ c)) = some c ∧ l.foldl (pick h o cnt) r = r ++ c
  | [], r, hL, hR, hlen, hcan, hskip => by
    by_cases c : r.length < cnt
    · exfalso
      obtain ⟨d, h1, h2, h3⟩ := hcan
      by_cases z : ∃ m ∈ d, m ∉ r
      · obtain ⟨m, hm, hn⟩ := z
        exact hskip c m (h2 m hm) hn (by simp) (can_take hl h2 (by omega) hm h3)
      · have : goes h o r = true := goes_mono hl (fun x hx => by
          rcases List.mem_append.mp hx with y | y
          · exact y
          · exact Classical.byContradiction fun q => z ⟨x, y, q⟩) h3
        rw [hmin r hR c] at this
        cases this
    · have e : cnt - r.length = 0 := by omega
      rw [e] at hcan ⊢
      refine ⟨[], ?_, by rw [List.append_nil]; rfl⟩
      rw [choices_zero]
      exact List.find?_cons_of_pos (by rw [List.append_nil]; exact can_zero hcan)
  | n :: l, r, hL, hR, hlen, hcan, hskip => by
    have hL' : ∀ x ∈ l, x ∈ liveLinks h := fun x hx => hL x (List.mem_cons_of_mem _ hx)
    have hn := hL n List.mem_cons_self
    by_cases c : r.length < cnt
    · obtain ⟨k, hk⟩ : ∃ k, cnt - r.length = k + 1 := ⟨cnt - r.length - 1, by omega⟩
      have ek : cnt - r.length - 1 = k := by omega
      have ec : choices (k + 1) (n :: l) = (choices k l).map (fun c => n :: c) ++ choices (k + 1) l := rfl
      rw [ek] at hskip
      by_cases y : Can h o (r ++ [n]) k
      · have e2 : cnt - (r ++ [n]).length = k := by rw [List.length_append, List.length_singleton]; omega
        obtain ⟨q, q1, q2⟩ := first_from hl hmin l (r ++ [n]) hL' (fun x hx => by
            rcases List.mem_append.mp hx with z | z
            · exact hR x z
            · rw [List.mem_singleton.mp z]; exact hn) (by rw [List.length_append, List.length_singleton]; omega) (by rw [e2]; exact y) (by
          rw [e2]
          intro c2 m hm hn1 hn2 a
          rw [List.length_append, List.length_singleton] at c2
          have m1 : m ∉ r := fun z => hn1 (List.mem_append_left _ z)
          have m2 : m ∉ n :: l := fun z => by
            rcases List.mem_cons.mp z with z | z
            · exact hn1 (by rw [z]; simp)
            · exact hn2 z
          refine hskip c m hm m1 m2 ?_
          obtain ⟨d, d1, d2, d3⟩ := a
          refine ⟨n :: d, by rw [List.length_cons]; omega, fun x hx => ?_, goes_mono hl (fun x hx => ?_) d3⟩
          · rcases List.mem_cons.mp hx with z | z
            · rw [z]; exact hn
            · exact d2 x z
          · simp at hx ⊢
            rcases hx with z | z | z | z
            · exact .inl z
            · exact .inr (.inr (.inl z))
            · exact .inr (.inl z)
            · exact .inr (.inr (.inr z)))
        rw [e2] at q1
        refine ⟨n :: q, ?_, ?_⟩
        · rw [hk, ec, List.find?_append, List.find?_map]
          have e3 : ((fun c => goes h o (r ++ c)) ∘ fun c => n :: c) = fun c => goes h o (r ++ [n] ++ c) := by
            funext c
            simp
          rw [e3, q1]
          rfl
        · rw [List.foldl_cons, pick_yes ⟨c, by rw [ek]; exact y⟩, q2, List.append_assoc]
          rfl
      · obtain ⟨q, q1, q2⟩ := first_from hl hmin l r hL' hR hlen hcan (by
          rw [ek]
          intro c2 m hm hn1 hn2
          by_cases e : m = n
          · rw [e]; exact y
          · exact hskip c m hm hn1 (fun z => by
              rcases List.mem_cons.mp z with z | z
              · exact e z
              · exact hn2 z))
        refine ⟨q, ?_, ?_⟩
        · rw [hk] at q1 ⊢
          rw [ec, List.find?_append, List.find?_map]
          have e3 : (choices k l).find? ((fun c => goes h o (r ++ c)) ∘ fun c => n :: c) = none := by
            rw [List.find?_eq_none]
            intro d hd z
            obtain ⟨d1, d2⟩ := choices_mem k l d hd
            have z : goes h o (r ++ n :: d) = true := z
            refine y ⟨d, by omega, fun x hx => hL' x (d2 x hx), ?_⟩
            rw [List.append_assoc]
            exact z
          rw [e3, q1]
          rfl
        · rw [List.foldl_cons, pick_no (by rw [ek]; exact fun z => y z.2)]
          exact q2
    · have e : cnt - r.length = 0 := by omega
      rw [e] at hcan ⊢
      refine ⟨[], ?_, by rw [List.append_nil, pick_full _ _ (by omega)]⟩
      rw [choices_zero]
      exact List.find?_cons_of_pos (by rw [List.append_nil]; exact can_zero hcan)
theorem can_all {h : Heap} {o m : Nat} (n : ¬ Can h o [] m) (d : List Link) (hd : ∀ x ∈ d, x ∈ liveLinks h) (hm : d.length ≤ m) : goes h o d = false := by
  cases z : goes h o d with
  | false => rfl
  | true => exact absurd ⟨d, hm, hd, z⟩ n
theorem none_of {h : Heap} {o m : Nat} (n : ¬ Can h o [] m) {k : Nat} (hk : k ≤ m) : (choices k (liveLinks h)).find? (fun c => goes h o c) = none := by
  rw [List.find?_eq_none]
  intro c hc z
  obtain ⟨c1, c2⟩ := choices_mem _ _ c hc
  rw [can_all n c c2 (by omega)] at z
  cases z
theorem fewest_is (h : Heap) (o : Nat) : fewest h o = (choices 0 (liveLinks h) ++ (choices 1 (liveLinks h) ++ (choices 2 (liveLinks h) ++ choices 3 (liveLinks h)))).find? fun c => goes h o c := by
  have : ((List.range (CUTS + 1)).flatMap fun k => choices k (liveLinks h)) = choices 0 (liveLinks h) ++ (choices 1 (liveLinks h) ++ (choices 2 (liveLinks h) ++ choices 3 (liveLinks h))) := by
    have e : List.range (CUTS + 1) = [0, 1, 2, 3] := rfl
    rw [e]
    simp only [List.flatMap_cons, List.flatMap_nil, List.append_nil]
  unfold fewest
  rw [this]
  rfl
theorem fewest_none {h : Heap} {o : Nat} (n : ¬ Can h o [] 3) : fewest h o = none := by
  rw [fewest_is, List.find?_append, List.find?_append, List.find?_append, none_of n (by omega), none_of n (by omega), none_of n (by omega), none_of n (by omega)]
  rfl
theorem fewest_some {h : Heap} (hl : LOk h.things.length (links h)) {o cnt : Nat} (h3 : cnt < 3) (y : Can h o [] (cnt + 1)) (n : ¬ Can h o [] cnt) : fewest h o = some (first h o (cnt + 1)) := by
  obtain ⟨c, c1, c2⟩ := first_from hl (cnt := cnt + 1) (o := o) (fun d hd hm => can_all n d hd (by omega)) (liveLinks h) [] (fun x hx => hx) (fun x hx => by cases hx) (Nat.zero_le _) y (fun _ m hm _ z => absurd hm z)
  have e : first h o (cnt + 1) = c := by
    unfold first
    rw [c2]
    rfl
  rw [e]
  have c1 : (choices (cnt + 1) (liveLinks h)).find? (fun c => goes h o c) = some c := c1
  rw [fewest_is, List.find?_append, List.find?_append, List.find?_append]
  match cnt, h3 with
  | 0, _ => rw [none_of n (by omega), c1]; rfl
  | 1, _ => rw [none_of n (by omega), none_of n (by omega), c1]; rfl
  | 2, _ => rw [none_of n (by omega), none_of n (by omega), none_of n (by omega), c1]; rfl
theorem pick_sub {h : Heap} {o cnt : Nat} : ∀ (l r : List Link), ∀ x ∈ l.foldl (pick h o cnt) r, x ∈ r ∨ x ∈ l
  | [], r, x, hx => .inl hx
  | y :: l, r, x, hx => by
    rw [List.foldl_cons] at hx
    rcases pick_sub l _ x hx with z | z
    · by_cases d : r.length < cnt ∧ Can h o (r ++ [y]) (cnt - r.length - 1)
      · rw [pick_yes d] at z
        rcases List.mem_append.mp z with z | z
        · exact .inl z
        · exact .inr (by rw [List.mem_singleton.mp z]; exact List.mem_cons_self)
      · rw [pick_no d] at z
        exact .inl z
    · exact .inr (List.mem_cons_of_mem _ z)
end Kp
/-! counting; what grows -/
namespace Kp
open Hx01
/-- those to which a link of what is left leads -/
def cstep (ls : List Link) (l : List Nat) : List Nat := l.filter fun o => ls.any fun x => decide (x.to = o) && (decide (x.src = 0) || l.contains (x.src - 1))
theorem counting_succ (ls : List Link) (n : Nat) (l : List Nat) : counting ls (n + 1) l = counting ls n (cstep ls l) := rfl
theorem cstep_is (ls : List Link) (l : List Nat) : cstep ls l = l.filter fun o => ((ls.filter fun x => decide (x.src = 0) || l.contains (x.src - 1)).map fun x => x.to).contains o := by
  unfold cstep
  refine List.filter_congr fun o _ => ?_
  rw [Bool.eq_iff_iff, List.any_eq_true, List.contains_iff_mem, List.mem_map]
  constructor
  · rintro ⟨x, hx, e⟩
    rw [Bool.and_eq_true] at e
    exact ⟨x, List.mem_filter.mpr ⟨hx, e.2⟩, by simpa using e.1⟩
  · rintro ⟨x, hx, e⟩
    obtain ⟨h1, h2⟩ := List.mem_filter.mp hx
    exact ⟨x, h1, by rw [Bool.and_eq_true]; exact ⟨by simpa using e, h2⟩⟩
theorem counting_fix {ls : List Link} {l : List Nat} (e : cstep ls l = l) : ∀ n, counting ls n l = l
  | 0 => rfl
  | n + 1 => by rw [counting_succ, e]; exact counting_fix e n
theorem cstep_sub (ls : List Link) (l : List Nat) : (cstep ls l).Sublist l := List.filter_sublist
theorem cstep_lt {ls : List Link} {l : List Nat} (n : cstep ls l ≠ l) : (cstep ls l).length < l.length := by
  have h := cstep_sub ls l
  exact Nat.lt_of_le_of_ne h.length_le fun e => n (h.eq_of_length e)
/-- how far counting has come -/
structure CInv (h : Heap) (k : Nat) (l : List Nat) : Prop where
  eq : counting (links h) k l = counting (links h) h.things.length (List.range h.things.length)
  len : l.length ≤ k
  sub : l.Sublist (List.range h.things.length)
theorem CInv.start (h : Heap) : CInv h h.things.length (List.range h.things.length) := ⟨rfl, by simp, List.Sublist.refl _⟩
theorem CInv.step {h : Heap} {k : Nat} {l : List Nat} (c : CInv h k l) (n : cstep (links h) l ≠ l) : ∃ k', k = k' + 1 ∧ CInv h k' (cstep (links h) l) := by
  have h1 := cstep_lt n
  have h2 := c.len
  obtain ⟨k', rfl⟩ : ∃ k', k = k' + 1 := ⟨k - 1, by omega⟩
  exact ⟨k', rfl, by rw [← counting_succ]; exact c.eq, by omega, (cstep_sub _ _).trans c.sub⟩
theorem CInv.done {h : Heap} {k : Nat} {l : List Nat} (c : CInv h k l) (e : cstep (links h) l = l) : never h = l.filter fun o => !(live h).contains o := by
  unfold never
  rw [← c.eq, counting_fix e]
/-! what grows -/
def rowAt (h : Heap) (o : Nat) : Nat := (h.things[o]?).elim 0 fun t => t.row
def cnt (h : Heap) (l : List Nat) (r : Nat) : Nat := (l.filter fun o => rowAt h o == r).length
theorem ofRow_is {h : Heap} (r : Nat) : ofRow h r = cnt h (live h) r := by
  unfold ofRow cnt
  congr 1
  refine List.filter_congr fun o ho => ?_
  have := live_lt ho
  unfold rowAt
  rw [List.getElem?_eq_getElem this]
  rfl
theorem cnt_snoc (h : Heap) (l : List Nat) (o r : Nat) : cnt h (l ++ [o]) r = cnt h l r + if rowAt h o = r then 1 else 0 := by
  unfold cnt
  rw [List.filter_append, List.length_append]
  congr 1
  by_cases c : rowAt h o = r
  · rw [if_pos c, List.filter_cons, if_pos (by simpa using c)]
    rfl
  · rw [if_neg c, List.filter_cons, if_neg (by simpa using c)]
    rfl
/-- the rows in the order in which they are met -/
def rowsOf (h : Heap) : List Nat → List Nat → List Nat
  | ks, [] => ks
  | ks, o :: l => rowsOf h (if rowAt h o ∈ ks then ks else ks ++ [rowAt h o]) l
structure RInvG (h : Heap) (l ks : List Nat) : Prop where
  nd : ks.Nodup
  mem : ∀ r, r ∈ ks ↔ 0 < cnt h l r
theorem RInvG.nil (h : Heap) : RInvG h [] [] := ⟨List.nodup_nil, fun r => by simp [cnt]⟩
theorem RInvG.old {h : Heap} {l ks : List Nat} {o : Nat} (i : RInvG h l ks) (c : rowAt h o ∈ ks) : RInvG h (l ++ [o]) ks := by
  refine ⟨i.nd, fun r => ?_⟩
  rw [cnt_snoc, i.mem]
  by_cases e : rowAt h o = r
  · rw [if_pos e]
    rw [e, i.mem] at c
    omega
  · rw [if_neg e]
    exact Iff.rfl
theorem RInvG.new {h : Heap} {l ks : List Nat} {o : Nat} (i : RInvG h l ks) (c : rowAt h o ∉ ks) : RInvG h (l ++ [o]) (ks ++ [rowAt h o]) := by
  refine ⟨?_, fun r => ?_⟩
  · rw [List.nodup_append]
    refine ⟨i.nd, by simp, ?_⟩
    intro a ha b hb e
    rw [List.mem_singleton.mp hb] at e
    exact c (e ▸ ha)
  · rw [cnt_snoc, List.mem_append, i.mem, List.mem_singleton]
    by_cases e : rowAt h o = r
    · rw [if_pos e]
      exact ⟨fun _ => by omega, fun _ => .inr e.symm⟩
    · rw [if_neg e]
      constructor
      · rintro (z | z)
        · exact z
        · exact absurd z.symm e
      · exact fun z => .inl z
theorem rises_last : ∀ (l : List Nat) (a b : Nat), rises (l ++ [a, b]) = true → 0 < b
  | [], a, b, h => by
    have h : (decide (a < b) && true) = true := h
    simp at h
    omega
  | [x], a, b, h => by
    have h : (decide (x < a) && (decide (a < b) && true)) = true := h
    simp at h
    omega
  | x :: y :: l, a, b, h => by
    have h : (decide (x < y) && rises (y :: l ++ [a, b])) = true := h
    rw [Bool.and_eq_true] at h
    exact rises_last (y :: l) a b h.2
/-- each with the one behind it -/
theorem rises_zip : ∀ l : List Nat, rises l = (l.zip (l.drop 1)).all fun x => decide (x.1 < x.2)
  | [] => rfl
  | [a] => rfl
  | a :: b :: l => by
    have := rises_zip (b :: l)
    show (decide (a < b) && rises (b :: l)) = (((a, b) :: (b :: l).zip ((b :: l).drop 1)).all fun x => decide (x.1 < x.2))
    rw [this, List.all_cons]
theorem cnt_row {p : Program} {h : Heap} (ok : HOk p h) {r : Nat} (c : 0 < cnt h (live h) r) : r < p.acts.length := by
  unfold cnt at c
  obtain ⟨o, ho⟩ := List.exists_mem_of_length_pos c
  obtain ⟨h1, h2⟩ := List.mem_filter.mp ho
  have hlt := live_lt h1
  obtain ⟨_, _, _, k⟩ := ok.cls _ (List.getElem_mem hlt)
  unfold rowAt at h2
  rw [List.getElem?_eq_getElem hlt] at h2
  have h2 : h.things[o].row = r := by simpa using h2
  rw [← h2]; exact k
/-- the rows that grow, from those that are met at the last -/
theorem grows_is {p : Program} {g h : Heap} {gs : List Heap} (ok : HOk p h) {ks l : List Nat} (i : RInvG h (live h) ks) (hs : l.Pairwise (· < ·)) (hm : ∀ x, x ∈ l ↔ x ∈ ks) :
    grows p.acts.length (gs ++ [g, h]) = l.filter fun r => rises ((gs ++ [g, h]).map fun h => ofRow h r) := by
  unfold grows
  refine sorted_ext ((List.pairwise_lt_range).filter _) (hs.filter _) fun r => ?_
  rw [List.mem_filter, List.mem_filter, List.mem_range, hm, i.mem]
  constructor
  · rintro ⟨_, c⟩
    refine ⟨?_, c⟩
    rw [List.map_append] at c
    have this : 0 < ofRow h r := rises_last _ _ _ c
    rw [ofRow_is] at this
    exact this
  · rintro ⟨c1, c2⟩
    exact ⟨cnt_row ok c1, c2⟩
end Kp
/-! the calls in one list -/
namespace Kp
open Hx01
def enc : Call → List Nat
  | .write w => 0 :: w.length :: w
  | .snap s => [1, s]
  | .things s => [2, s]
  | .way s o => [3, s, o]
  | .keeps s o => [4, s, o]
  | .most s n => [5, s, n]
  | .cut s a b => [6, s, a, b]
  | .fewest s o => [7, s, o]
  | .never s => [8, s]
  | .new s t => [9, s, t]
  | .grows s t => [10, s, t]
  | .classes s => [11, s]
/-- the bounds that the document tells -/
def Inb (x : Call) : Prop := ∀ n ∈ enc x, n ≤ 4294967295
def Shortw : Call → Prop
  | .write w => w.length ≤ 640
  | _ => True
theorem nat_of {z : Int} (h : PyInside.within 0 4294967295 z = true) : ∃ n : Nat, z = n ∧ n ≤ 4294967295 := by
  unfold PyInside.within at h
  simp only [Bool.and_eq_true, decide_eq_true_eq] at h
  exact ⟨z.toNat, by omega, by omega⟩
theorem nats_of : ∀ {l : List Int}, l.all (PyInside.within 0 4294967295) = true → ∃ m : List Nat, l = zs m ∧ ∀ n ∈ m, n ≤ 4294967295
  | [], _ => ⟨[], rfl, fun n h => by cases h⟩
  | z :: l, h => by
    rw [List.all_cons, Bool.and_eq_true] at h
    obtain ⟨n, e, hn⟩ := nat_of h.1
    obtain ⟨m, e2, hm⟩ := nats_of h.2
    refine ⟨n :: m, by rw [e, e2]; rfl, fun k hk => ?_⟩
    rcases List.mem_cons.mp hk with y | y
    · rw [y]; exact hn
    · exact hm k y
theorem callOf_nats {m : List Nat} (h : ∀ n ∈ m, n ≤ 4294967295) : Hx01Neutral.callOf (zs m) = Hx01Neutral.callIn m := by
  unfold Hx01Neutral.callOf
  have e : (zs m).all Hx01Neutral.nat = true := by
    rw [List.all_eq_true]
    intro z hz
    obtain ⟨n, hn, rfl⟩ := List.mem_map.mp hz
    have := h n hn
    unfold Hx01Neutral.nat
    simp only [Bool.and_eq_true, decide_eq_true_eq]
    omega
  have e2 : (zs m).map Int.toNat = m := by
    unfold zs
    rw [List.map_map]
    conv => rhs; rw [← List.map_id m]
    exact List.map_congr_left fun y _ => rfl
  rw [if_neg (by rw [e]; decide), e2]
theorem row_some {l x t : List Int} (h : PyFlat.row l = some (x, t)) : l = (x.length : Int) :: x ++ t := by
  cases l with
  | nil => cases h
  | cons n r =>
    have h : (if 0 ≤ n ∧ n.toNat ≤ r.length then some (r.take n.toNat, r.drop n.toNat) else none) = some (x, t) := h
    by_cases c : 0 ≤ n ∧ n.toNat ≤ r.length
    · rw [if_pos c] at h
      cases h
      show _ = ((r.take n.toNat).length : Int) :: (r.take n.toNat ++ r.drop n.toNat)
      rw [List.take_append_drop, List.length_take, Nat.min_eq_left c.2]
      congr 1
      omega
    · rw [if_neg c] at h
      cases h
theorem rows_one {l t : List Int} {xs : List (List Int)} (h : PyFlat.rows 1 l = some (xs, t)) : ∃ x, xs = [x] ∧ l = (x.length : Int) :: x ++ t := by
  unfold PyFlat.rows at h
  cases e : PyFlat.row l with
  | none => rw [e] at h; cases h
  | some y =>
    rw [e] at h
    cases h
    exact ⟨y.1, rfl, row_some e⟩
theorem arg1 {r : List Int} (h : ¬ r.length < 1) : ∃ a t, r = a :: t := by
  cases r with
  | nil => exact absurd (by simp) h
  | cons a t => exact ⟨a, t, rfl⟩
theorem arg2 {r : List Int} (h : ¬ r.length < 2) : ∃ a b t, r = a :: b :: t := by
  obtain ⟨a, t, rfl⟩ := arg1 (r := r) (fun z => h (by omega))
  obtain ⟨b, t, rfl⟩ := arg1 (r := t) (fun z => h (by rw [List.length_cons]; omega))
  exact ⟨a, b, t, rfl⟩
theorem arg3 {r : List Int} (h : ¬ r.length < 3) : ∃ a b c t, r = a :: b :: c :: t := by
  obtain ⟨a, b, t, rfl⟩ := arg2 (r := r) (fun z => h (by omega))
  obtain ⟨c, t, rfl⟩ := arg1 (r := t) (fun z => h (by rw [List.length_cons, List.length_cons]; omega))
  exact ⟨a, b, c, t, rfl⟩
theorem call_k {p : Int} {r c' : List Int} {c : List (List Int)} {t : List Int} {n k : Nat} (hs : PyHx01.shape p = some (n, k)) (h : PyFlat.call PyHx01.shape (p :: r) = some (c, t)) : ¬ r.length < n ∧ ∃ xs, PyFlat.rows k (r.drop n) = some (xs, t) ∧ c = (p :: r.take n) :: xs := by
  have h : (match PyHx01.shape p with
    | none => none
    | some (n, k) => if r.length < n then none else match PyFlat.rows k (r.drop n) with
      | none => none
      | some (xs, t) => some ((p :: r.take n) :: xs, t)) = some (c, t) := h
  rw [hs] at h
  by_cases q : r.length < n
  · simp only [q, if_true] at h
    cases h
  · simp only [q, if_false] at h
    cases e : PyFlat.rows k (r.drop n) with
    | none => rw [e] at h; cases h
    | some y =>
      rw [e] at h
      cases h
      exact ⟨q, y.1, rfl, rfl⟩
theorem in1 {p a : Int} (hb : PyHx01.bound p = ([(0, 4294967295)], [])) (h : PyInside.call PyHx01.bound [[p, a]] = true) : ∃ n : Nat, a = n ∧ n ≤ 4294967295 := by
  have h : (PyInside.each (PyHx01.bound p).1 [a] && PyInside.lists (PyHx01.bound p).2 []) = true := h
  rw [hb] at h
  simp only [PyInside.each, PyInside.lists, Bool.and_true, Bool.and_eq_true] at h
  exact nat_of h
theorem in2 {p a b : Int} (hb : PyHx01.bound p = ([(0, 4294967295), (0, 4294967295)], [])) (h : PyInside.call PyHx01.bound [[p, a, b]] = true) : ∃ n m : Nat, a = n ∧ b = m ∧ n ≤ 4294967295 ∧ m ≤ 4294967295 := by
  have h : (PyInside.each (PyHx01.bound p).1 [a, b] && PyInside.lists (PyHx01.bound p).2 []) = true := h
  rw [hb] at h
  simp only [PyInside.each, PyInside.lists, Bool.and_true, Bool.and_eq_true] at h
  obtain ⟨n, e1, h1⟩ := nat_of h.1
  obtain ⟨m, e2, h2⟩ := nat_of h.2
  exact ⟨n, m, e1, e2, h1, h2⟩
theorem in3 {p a b c : Int} (hb : PyHx01.bound p = ([(0, 4294967295), (0, 4294967295), (0, 4294967295)], [])) (h : PyInside.call PyHx01.bound [[p, a, b, c]] = true) : ∃ n m k : Nat, a = n ∧ b = m ∧ c = k ∧ n ≤ 4294967295 ∧ m ≤ 4294967295 ∧ k ≤ 4294967295 := by
  have h : (PyInside.each (PyHx01.bound p).1 [a, b, c] && PyInside.lists (PyHx01.bound p).2 []) = true := h
  rw [hb] at h
  simp only [PyInside.each, PyInside.lists, Bool.and_true, Bool.and_eq_true] at h
  obtain ⟨n, e1, h1⟩ := nat_of h.1
  obtain ⟨m, e2, h2⟩ := nat_of h.2.1
  obtain ⟨k, e3, h3⟩ := nat_of h.2.2
  exact ⟨n, m, k, e1, e2, e3, h1, h2, h3⟩
def Told1 (l : List Int) (c : List (List Int)) (t : List Int) : Prop := ∃ x : Call, l = zs (enc x) ++ t ∧ Hx01Neutral.callOf ((PyHx01.whole c).headD []) = some x ∧ Inb x ∧ Shortw x
theorem told_1 {p : Nat} {f : Nat → Call} {r : List Int} {c : List (List Int)} {t : List Int} (he : ∀ a, enc (f a) = [p, a]) (hp : p ≤ 20) (hs : PyHx01.shape p = some (1, 0)) (hb : PyHx01.bound p = ([(0, 4294967295)], [])) (hw : ∀ a : Int, PyHx01.whole [[(p : Int), a]] = [[(p : Int), a]]) (hc : ∀ a, Hx01Neutral.callIn [p, a] = some (f a)) (hsh : ∀ a, Shortw (f a))
    (h : PyFlat.call PyHx01.shape ((p : Int) :: r) = some (c, t)) (hi : PyInside.call PyHx01.bound c = true) : Told1 ((p : Int) :: r) c t := by
  obtain ⟨h1, xs, h2, h3⟩ := call_k (c' := []) hs h
  obtain ⟨a, r, rfl⟩ := arg1 h1
  cases h2
  subst h3
  obtain ⟨n, rfl, hn⟩ := in1 hb hi
  have ib : Inb (f n) := by
    unfold Inb
    rw [he]
    intro k hk
    simp at hk
    rcases hk with z | z <;> omega
  refine ⟨f n, by rw [he]; rfl, ?_, ib, hsh n⟩
  have e : (PyHx01.whole ([(p : Int) :: List.take 1 ((n : Int) :: r)])).headD [] = zs [p, n] := by
    show (PyHx01.whole [[(p : Int), (n : Int)]]).headD [] = _
    rw [hw]
    rfl
  rw [e, callOf_nats (by rw [← he]; exact ib)]
  exact hc n
theorem told_2 {p : Nat} {f : Nat → Nat → Call} {r : List Int} {c : List (List Int)} {t : List Int} (he : ∀ a b, enc (f a b) = [p, a, b]) (hp : p ≤ 20) (hs : PyHx01.shape p = some (2, 0)) (hb : PyHx01.bound p = ([(0, 4294967295), (0, 4294967295)], [])) (hw : ∀ a b : Int, PyHx01.whole [[(p : Int), a, b]] = [[(p : Int), a, b]]) (hc : ∀ a b, Hx01Neutral.callIn [p, a, b] = some (f a b)) (hsh : ∀ a b, Shortw (f a b))
    (h : PyFlat.call PyHx01.shape ((p : Int) :: r) = some (c, t)) (hi : PyInside.call PyHx01.bound c = true) : Told1 ((p : Int) :: r) c t := by
  obtain ⟨h1, xs, h2, h3⟩ := call_k (c' := []) hs h
  obtain ⟨a, b, r, rfl⟩ := arg2 h1
  cases h2
  subst h3
  obtain ⟨n, m, rfl, rfl, hn, hm⟩ := in2 hb hi
  have ib : Inb (f n m) := by
    unfold Inb
    rw [he]
    intro k hk
    simp at hk
    rcases hk with z | z | z <;> omega
  refine ⟨f n m, by rw [he]; rfl, ?_, ib, hsh n m⟩
  have e : (PyHx01.whole ([(p : Int) :: List.take 2 ((n : Int) :: (m : Int) :: r)])).headD [] = zs [p, n, m] := by
    show (PyHx01.whole [[(p : Int), (n : Int), (m : Int)]]).headD [] = _
    rw [hw]
    rfl
  rw [e, callOf_nats (by rw [← he]; exact ib)]
  exact hc n m
theorem told_3 {r : List Int} {c : List (List Int)} {t : List Int} (h : PyFlat.call PyHx01.shape ((6 : Int) :: r) = some (c, t)) (hi : PyInside.call PyHx01.bound c = true) : Told1 ((6 : Int) :: r) c t := by
  obtain ⟨h1, xs, h2, h3⟩ := call_k (c' := []) (n := 3) (k := 0) rfl h
  obtain ⟨a, b, d, r, rfl⟩ := arg3 h1
  cases h2
  subst h3
  obtain ⟨n, m, k, rfl, rfl, rfl, hn, hm, hk⟩ := in3 rfl hi
  have ib : Inb (.cut n m k) := by
    unfold Inb enc
    intro j hj
    simp at hj
    rcases hj with z | z | z | z <;> omega
  refine ⟨.cut n m k, rfl, ?_, ib, trivial⟩
  exact (callOf_nats (m := [6, n, m, k]) ib).trans rfl
theorem told_w {r : List Int} {c : List (List Int)} {t : List Int} (h : PyFlat.call PyHx01.shape ((0 : Int) :: r) = some (c, t)) (hi : PyInside.call PyHx01.bound c = true) : Told1 ((0 : Int) :: r) c t := by
  obtain ⟨h1, xs, h2, h3⟩ := call_k (c' := []) (n := 0) (k := 1) rfl h
  obtain ⟨x, rfl, hx⟩ := rows_one h2
  rw [List.drop_zero] at hx
  subst h3
  have hi : (PyInside.each [] [] && (decide (0 ≤ x.length) && decide (x.length ≤ 640) && x.all (PyInside.within 0 4294967295) && true)) = true := hi
  simp only [Bool.and_true, Bool.and_eq_true, decide_eq_true_eq] at hi
  obtain ⟨m, rfl, hm⟩ := nats_of hi.2.2
  have hl : m.length ≤ 640 := by have := hi.2.1.2; rw [List.length_map] at this; exact this
  have ib : ∀ n ∈ 0 :: m, n ≤ 4294967295 := fun n hn => by
    rcases List.mem_cons.mp hn with z | z
    · omega
    · exact hm n z
  refine ⟨.write m, ?_, ?_, ?_, hl⟩
  · rw [hx, List.length_map]
    rfl
  · exact (callOf_nats (m := 0 :: m) ib).trans rfl
  · unfold Inb enc
    intro n hn
    rcases List.mem_cons.mp hn with z | hn
    · omega
    · rcases List.mem_cons.mp hn with z | z
      · omega
      · exact hm n z
theorem told_one {p : Int} {r : List Int} {c : List (List Int)} {t : List Int} (h : PyFlat.call PyHx01.shape (p :: r) = some (c, t)) (hi : PyInside.call PyHx01.bound c = true) : Told1 (p :: r) c t := by
  by_cases c0 : p = 0
  · subst c0; exact told_w h hi
  by_cases c1 : p = 1
  · subst c1; exact told_1 (p := 1) (f := .snap) (fun _ => rfl) (by decide) rfl rfl (fun _ => rfl) (fun _ => rfl) (fun _ => trivial) h hi
  by_cases c2 : p = 2
  · subst c2; exact told_1 (p := 2) (f := .things) (fun _ => rfl) (by decide) rfl rfl (fun _ => rfl) (fun _ => rfl) (fun _ => trivial) h hi
  by_cases c3 : p = 3
  · subst c3; exact told_2 (p := 3) (f := .way) (fun _ _ => rfl) (by decide) rfl rfl (fun _ _ => rfl) (fun _ _ => rfl) (fun _ _ => trivial) h hi
  by_cases c4 : p = 4
  · subst c4; exact told_2 (p := 4) (f := .keeps) (fun _ _ => rfl) (by decide) rfl rfl (fun _ _ => rfl) (fun _ _ => rfl) (fun _ _ => trivial) h hi
  by_cases c5 : p = 5
  · subst c5; exact told_2 (p := 5) (f := .most) (fun _ _ => rfl) (by decide) rfl rfl (fun _ _ => rfl) (fun _ _ => rfl) (fun _ _ => trivial) h hi
  by_cases c6 : p = 6
  · subst c6; exact told_3 h hi
  by_cases c7 : p = 7
  · subst c7; exact told_2 (p := 7) (f := .fewest) (fun _ _ => rfl) (by decide) rfl rfl (fun _ _ => rfl) (fun _ _ => rfl) (fun _ _ => trivial) h hi
  by_cases c8 : p = 8
  · subst c8; exact told_1 (p := 8) (f := .never) (fun _ => rfl) (by decide) rfl rfl (fun _ => rfl) (fun _ => rfl) (fun _ => trivial) h hi
  by_cases c9 : p = 9
  · subst c9; exact told_2 (p := 9) (f := .new) (fun _ _ => rfl) (by decide) rfl rfl (fun _ _ => rfl) (fun _ _ => rfl) (fun _ _ => trivial) h hi
  by_cases c10 : p = 10
  · subst c10; exact told_2 (p := 10) (f := .grows) (fun _ _ => rfl) (by decide) rfl rfl (fun _ _ => rfl) (fun _ _ => rfl) (fun _ _ => trivial) h hi
  by_cases c11 : p = 11
  · subst c11; exact told_1 (p := 11) (f := .classes) (fun _ => rfl) (by decide) rfl rfl (fun _ => rfl) (fun _ => rfl) (fun _ => trivial) h hi
  exfalso
  have e : PyHx01.shape p = none := by
    unfold PyHx01.shape
    simp only [c0, c1, c2, c3, c4, c5, c6, c7, c8, c9, c10, c11, if_false]
  have h : (match PyHx01.shape p with
    | none => none
    | some (n, k) => if r.length < n then none else match PyFlat.rows k (r.drop n) with
      | none => none
      | some (xs, t) => some ((p :: r.take n) :: xs, t)) = some (c, t) := h
  rw [e] at h
  cases h
/-- the calls, one behind another -/
def play : St → List Call → List (List Int)
  | _, [] => []
  | s, c :: l => (step s c).2 :: play (step s c).1 l
theorem flat_calls : ∀ (f : Nat) (l : List Int) (raw : List (List (List Int))), PyFlat.calls PyHx01.shape f l = some raw → PyInside.calls PyHx01.bound raw = true → ∃ cs : List Call, l = zs (cs.flatMap enc) ∧ cs.length = raw.length ∧ (∀ x ∈ cs, Inb x ∧ Shortw x) ∧
    (raw.map PyHx01.whole).map (fun c => Hx01Neutral.callOf (c.headD [])) = cs.map some
  | f, [], raw, h, _ => by
    have h : some [] = some raw := by cases f <;> exact h
    cases h
    exact ⟨[], rfl, rfl, (fun x hx => by cases hx), rfl⟩
  | 0, p :: r, raw, h, _ => by cases h
  | f + 1, p :: r, raw, h, hi => by
    have h : (match PyFlat.call PyHx01.shape (p :: r) with
      | none => none
      | some (c, t) => match PyFlat.calls PyHx01.shape f t with
        | none => none
        | some cs => some (c :: cs)) = some raw := h
    cases e : PyFlat.call PyHx01.shape (p :: r) with
    | none => rw [e] at h; cases h
    | some y =>
      obtain ⟨c, t⟩ := y
      rw [e] at h
      simp only at h
      cases e2 : PyFlat.calls PyHx01.shape f t with
      | none => rw [e2] at h; cases h
      | some cs =>
        rw [e2] at h
        cases h
        unfold PyInside.calls at hi
        rw [List.all_cons, Bool.and_eq_true] at hi
        obtain ⟨x, h1, h2, h3, h4⟩ := told_one e hi.1
        obtain ⟨xs, k1, k2, k3, k4⟩ := flat_calls f t cs e2 hi.2
        refine ⟨x :: xs, ?_, by rw [List.length_cons, List.length_cons, k2], fun y hy => ?_, ?_⟩
        · rw [h1, k1, List.flatMap_cons]
          unfold zs
          rw [List.map_append]
        · rcases List.mem_cons.mp hy with z | z
          · rw [z]; exact ⟨h3, h4⟩
          · exact k3 y z
        · rw [List.map_cons, List.map_cons, List.map_cons, k4, h2]
theorem played_is : ∀ (s : St) (ws : List (List (List Int))) (cs : List Call), ws.map (fun c => Hx01Neutral.callOf (c.headD [])) = cs.map some → PyFlat.played (fun s c => Hx01Neutral.step s (c.headD [])) s ws = play s cs
  | s, [], [], _ => rfl
  | s, [], c :: cs, h => by cases h
  | s, w :: ws, [], h => by cases h
  | s, w :: ws, c :: cs, h => by
    rw [List.map_cons, List.map_cons] at h
    injection h with h1 h2
    have e : Hx01Neutral.step s (w.headD []) = step s c := by
      unfold Hx01Neutral.step
      rw [h1]
    show (Hx01Neutral.step s (w.headD [])).2 :: PyFlat.played _ (Hx01Neutral.step s (w.headD [])).1 ws = _
    rw [e, played_is _ ws cs h2]
    rfl
/-- **What is asked, as calls.** -/
theorem asked_calls {l : List Int} (h : PyHx01.answers_asked l = true) : ∃ cs : List Call, l = zs (cs.flatMap enc) ∧ cs.length ≤ 40 ∧ (∀ x ∈ cs, Inb x ∧ Shortw x) ∧ PyHx01.answers l = PyFlat.told (play init cs) ∧ (PyFlat.told (play init cs)).length ≤ 10000000 := by
  unfold PyHx01.answers_asked at h
  cases e : PyFlat.calls PyHx01.shape l.length l with
  | none => rw [e] at h; cases h
  | some raw =>
    rw [e] at h
    simp only [Bool.and_eq_true] at h
    obtain ⟨⟨⟨⟨h1, h2⟩, h3⟩, h4⟩, h5⟩ := h
    obtain ⟨cs, k1, k2, k3, k4⟩ := flat_calls _ l raw e h3
    have ea : PyHx01.answers l = PyFlat.told (play init cs) := by
      unfold PyHx01.answers PyHx01.calls
      rw [e]
      show PyFlat.told (PyFlat.played _ Hx01Neutral.start (raw.map PyHx01.whole)) = _
      rw [played_is _ _ cs k4]
      rfl
    refine ⟨cs, k1, ?_, k3, ea, ?_⟩
    · unfold PyFlat.atMost at h2
      rw [k2]
      exact of_decide_eq_true h2
    · rw [← ea]
      exact of_decide_eq_true h5
end Kp
namespace Kq
open PySem PySem.Spec PyProof.Rows L2
/-- the text by places -/
def top (i : Nat) : Stmt := PySem.Challenge.pw_keptalive_s01_answers.main.body.getD i (.Pass ⟨0, 0, 0, 0⟩)
/-- a def as the top has left it -/
def Dd (K : PySem.W.Frag) (mg : Str → Option Value) (x : Str) (st : Stmt) (ps : List Str) : Prop :=
  ∃ f fd, Fun K x x st f fd ∧ mg x = some (.ref f) ∧ Binds K fd ps []
/-- a def that keeps its promise, by its name -/
def Cb (P : Program) (w : World) (K : PySem.W.Frag) (mg : Str → Option Value) (base : Heap) (k : Nat) (x : Str) (ps : List Str) (sp : Sp) : Prop :=
  ∃ f fd, FnOk P w K mg base CX0 k f fd ps sp ∧ mg x = some (.ref f) ∧ PySem.W.keepIn K (.ref f) = true ∧ Binds K fd ps []
theorem Cb.mono {P : Program} {w : World} {K : PySem.W.Frag} {mg : Str → Option Value} {base : Heap} {j k : Nat} {x : Str} {ps : List Str} {sp : Sp} (h : Cb P w K mg base j x ps sp) (l : j ≤ k) : Cb P w K mg base k x ps sp := by
  obtain ⟨f, fd, a, b⟩ := h
  exact ⟨f, fd, a.mono l, b⟩
/-- from the body's walk -/
theorem Dd.cb {P : Program} {w : World} {K : PySem.W.Frag} {mg : Str → Option Value} {base : Heap} {k : Nat} {x : Str} {st : Stmt} {ps N : List Str} {sp : Sp} (D : Dd K mg x st ps) (S : FnScope N ps (defScope st)) (len : ∀ vs H Q E, sp vs H Q E → vs.length = ps.length)
    (hbody : ∀ (f : Addr) (cdv : Value) (A : Around) (outer : List Env) (s : Shared) (H : Hp) (vs : List V) (Q : VK) (E : XK), Room k (A.deeper (envOfC x (defScope st) s.heap.objs.size f cdv)) → sp vs H Q E →
      ∃ t, PSs (cxOf CX0 P w K mg base N x (defScope st) f cdv A outer s H E).nox (defBody st) t ∧ t { nx := fun _ H' => Q .non H', rt := Q } (start N vs) H) : Cb P w K mg base (k + 1) x ps sp := by
  obtain ⟨f, fd, F, m, b⟩ := D
  exact ⟨f, fd, F.ok S len (hbody f), m, F.kp, b⟩
section
variable {X : Cx} {k : Nat} {x : Str} {ps : List Str} {sp : Sp} {p pos : Pos} {e : Expr} {es : List Expr} {t : TA}
theorem pe_cb (C : Cb X.prog X.w X.K X.mg X.base k x ps sp) (hr : Room k X.A) (hg : Gl X x) (ha : PA X (e :: es) t) (hdb : (x == ("__debug__" : Str)) = false := by decide)
    (he : starEach (e :: es) X.env = (false, eval e X.env) :: starEach es X.env := by rfl) (hpl : (backTo pos (starEach es X.env)).any (·.1) = false := by rfl) (px : Passes CX0 X E0 := by exact pass0) :
    PE X (.Call (.Name x p) (e :: es) [] pos) (tCall sp [] E0 t) := by
  obtain ⟨f, fd, F, m, kp, b⟩ := C
  exact pe_call F hr hg m kp b .nil px ha hdb he hpl
end
/-- a class that makes instances: its __init__ keeps its promise -/
def Cm (P : Program) (w : World) (K : PySem.W.Frag) (mg : Str → Option Value) (base : Heap) (k : Nat) (x : Str) (C : Addr) (ps : List Str) (sp : Sp) : Prop :=
  ∃ f fd, Mk K C f ∧ FnOk P w K mg base CX0 k f fd ps sp ∧ mg x = some (.ref C) ∧ Binds K fd ps []
section
variable {X : Cx} {k : Nat} {x : Str} {C : Addr} {ps : List Str} {sp : Sp} {p pos : Pos} {e : Expr} {es : List Expr} {t : TA}
theorem pe_cm (M : Cm X.prog X.w X.K X.mg X.base k x C ps sp) (hr : Room (k + 1) X.A) (hg : Gl X x) (ha : PA X (e :: es) t) (hdb : (x == ("__debug__" : Str)) = false := by decide)
    (he : starEach (e :: es) X.env = (false, eval e X.env) :: starEach es X.env := by rfl) (hpl : (backTo pos (starEach es X.env)).any (·.1) = false := by rfl) (px : Passes CX0 X E0 := by exact pass0) :
    PE X (.Call (.Name x p) (e :: es) [] pos) (tMake C sp [] E0 t) := by
  obtain ⟨f, fd, M, F, m, b⟩ := M
  exact pe_make M F hr hg m b .nil px ha hdb he hpl
theorem pe_cm0 (M : Cm X.prog X.w X.K X.mg X.base k x C ps sp) (hr : Room (k + 1) X.A) (hg : Gl X x) (hdb : (x == ("__debug__" : Str)) = false := by decide) (px : Passes CX0 X E0 := by exact pass0) :
    PE X (.Call (.Name x p) [] [] pos) (tMake C sp [] E0 tNil) := by
  obtain ⟨f, fd, M, F, m, b⟩ := M
  exact pe_make0 M F hr hg m b .nil px hdb
end
/-- a class as the top has left it -/
structure Cl (K : PySem.W.Frag) (mg : Str → Option Value) (x qual : Str) (C : Addr) (st : Stmt) (ps attrs : List Str) : Prop where
  cl : Cls K C
  na : ∀ a ∈ attrs, NoAttr K C a
  ini : ∃ f fd, Mk K C f ∧ Fun K "__init__" qual st f fd ∧ Binds K fd ps []
  mg_ : mg x = some (.ref C)
theorem Cl.cm {P : Program} {w : World} {K : PySem.W.Frag} {mg : Str → Option Value} {base : Heap} {k : Nat} {x qual : Str} {C : Addr} {st : Stmt} {ps N attrs : List Str} {sp : Sp} (D : Cl K mg x qual C st ps attrs) (S : FnScope N ps (defScope st)) (len : ∀ vs H Q E, sp vs H Q E → vs.length = ps.length)
    (hbody : ∀ (f : Addr) (cdv : Value) (A : Around) (outer : List Env) (s : Shared) (H : Hp) (vs : List V) (Q : VK) (E : XK), Room k (A.deeper (envOfC qual (defScope st) s.heap.objs.size f cdv)) → sp vs H Q E →
      ∃ t, PSs (cxOf CX0 P w K mg base N qual (defScope st) f cdv A outer s H E).nox (defBody st) t ∧ t { nx := fun _ H' => Q .non H', rt := Q } (start N vs) H) : Cm P w K mg base (k + 1) x C ps sp := by
  obtain ⟨f, fd, M, F, b⟩ := D.ini
  exact ⟨f, fd, M, F.ok S len (hbody f), D.mg_, b⟩
theorem lk_here {k : Str} {v : V} {r : List (Str × V)} : List.lookup k ((k, v) :: r) = some v := by
  have e : (k == k) = true := beq_self_eq_true k
  simp only [List.lookup, e]
theorem lk_past {k g : Str} {v : V} {r : List (Str × V)} (h : (k == g) = false) : List.lookup k ((g, v) :: r) = List.lookup k r := by
  simp only [List.lookup, h]
theorem put_here {f : Str} {v x : V} {r : List (Str × V)} : putF f v ((f, x) :: r) = (f, v) :: r := if_pos rfl
theorem put_past {f g : Str} {v x : V} {r : List (Str × V)} (h : ¬ g = f) : putF f v ((g, x) :: r) = (g, x) :: putF f v r := if_neg h
section
variable {X : Cx} {x z : Str} {i : Int} {pos : Pos}
/-- constants of the top -/
theorem pe_gS (hm : ∃ t, X.mg x = some (.str z t)) (hg : Gl X x) (hd : (x == ("__debug__" : Str)) = false := by decide) : PE X (.Name x pos) (tC (.str z)) := by
  obtain ⟨t, hm⟩ := hm
  exact pe_glob (v := .str z) hg hm ⟨_, rfl⟩ hd
theorem pe_gI (hm : ∃ t, X.mg x = some (.int i t)) (hg : Gl X x) (hd : (x == ("__debug__" : Str)) = false := by decide) : PE X (.Name x pos) (tC (.int i)) := by
  obtain ⟨t, hm⟩ := hm
  exact pe_glob (v := .int i) hg hm ⟨_, rfl⟩ hd
end
/-- an if whose test is known -/
theorem ifT {c : Bool} {A B : Prop} (hc : c = true) (h : A) : if c = true then A else B := by rw [if_pos hc]; exact h
theorem ifF {c : Bool} {A B : Prop} (hc : c = false) (h : B) : if c = true then A else B := by rw [hc, if_neg Bool.false_ne_true]; exact h
theorem if2 {c : Bool} {A B : Prop} (h1 : c = true → A) (h2 : c = false → B) : if c = true then A else B := by
  cases c
  · exact ifF rfl (h2 rfl)
  · exact ifT rfl (h1 rfl)
/-- a word's text -/
def S (w : List Nat) : Str := ⟨w.toArray⟩
theorem S_inj {a b : List Nat} : S a = S b ↔ a = b := by
  constructor
  · intro h
    have := congrArg (fun s => s.cps.toList) h
    simpa [S] using this
  · intro h; rw [h]
theorem S_len (w : List Nat) : (S w).length = w.length := by simp [S, Str.length]
end Kq
namespace Kq
open PySem PySem.Spec PyProof.Rows L2
abbrev sSign : Stmt := top 58
abbrev sWords : Stmt := top 59
abbrev sRows : Stmt := top 60
abbrev sNumber : Stmt := top 61
abbrev sName : Stmt := top 62
/-- what the top has of words -/
structure TxtW (K : PySem.W.Frag) (mg : Str → Option Value) : Prop where
  len : mg "len" = none
  all : mg "all" = none
  int_ : mg "int" = none
  digits : ∃ t, mg "DIGITS" = some (.str "0123456789" t)
  letters : ∃ t, mg "LETTERS" = some (.str "abcdefghijklmnopqrstuvwxyz" t)
  dSign : Dd K mg "sign_of" sSign ["byte"]
  dWords : Dd K mg "words_of" sWords ["row"]
  dRows : Dd K mg "rows_of" sRows ["text"]
  dNumber : Dd K mg "number_of" sNumber ["word"]
  dName : Dd K mg "is_name" sName ["word"]
section
variable {P : Program} {w : World} {K : PySem.W.Frag} {mg : Str → Option Value} {base : Heap}
/-! sign_of -/
def spSign : Sp := fun vs H Q _ => ∃ n : Nat, vs = [.int n] ∧ Q (.str (S [Kp.col n])) H
theorem scSign : FnScope ["byte"] ["byte"] (defScope sSign) := ⟨rfl, rfl, rfl, by decide +kernel, rfl, by decide +kernel, by decide +kernel⟩
theorem dig_at : ∀ i : Nat, i < 10 → ("0123456789" : Str).cps[i]? = some (48 + i) := by decide +kernel
theorem let_at : ∀ i : Nat, i < 26 → ("abcdefghijklmnopqrstuvwxyz" : Str).cps[i]? = some (97 + i) := by decide +kernel
theorem dig_len : ("0123456789" : Str).length = 10 := by decide +kernel
theorem let_len : ("abcdefghijklmnopqrstuvwxyz" : Str).length = 26 := by decide +kernel
theorem s_nl : ("\n" : Str) = S [10] := by decide +kernel
theorem s_bl : (" " : Str) = S [32] := by decide +kernel
theorem s_qu : ("?" : Str) = S [63] := by decide +kernel
theorem c_sign (T : TxtW K mg) : Cb P w K mg base 1 "sign_of" ["byte"] spSign := by
  refine T.dSign.cb scSign (fun vs H Q E h => ?_) (fun f cdv A outer s H vs Q E hr h => ?_)
  · obtain ⟨n, rfl, _⟩ := h
    rfl
  · obtain ⟨n, rfl, k⟩ := h
    refine ⟨_, pss_cons (ps_if (pt_cmpR op_eq (pv 0) pe_int (nomark _)) (pss_one (ps_ret pe_str)) pss_nil)
      (pss_cons (ps_if (pt_cmpR op_eq (pv 0) pe_int (nomark _)) (pss_one (ps_ret pe_str)) pss_nil)
      (pss_cons (ps_if (pt_chain op_le op_le pe_int (pv 0) pe_int) (pss_one (ps_ret (pe_item_str (pe_gS T.digits rfl) (pe_op op_sub (pv 0) pe_int) (fun _ _ => rfl)))) pss_nil)
      (pss_cons (ps_if (pt_chain op_le op_le pe_int (pv 0) pe_int) (pss_one (ps_ret (pe_item_str (pe_gS T.letters rfl) (pe_op op_sub (pv 0) pe_int) (fun _ _ => rfl)))) pss_nil)
      (pss_one (ps_ret pe_str))))), ?_⟩
    simp [tSeq, tIfS, tTest, tOp, tVar, tC, tRet, tChain, rEq, rNe, rI0, rI, tNext, L2.start, scal, tAsg, gName, tCall, tCons, tNil, tCB, tDrop, tIf, tNot, tOr, tAnd, tB, tAndV, tOrV, tNotV, tIsN, tNotN, tM0, tM1, tUn, rU, tRetN, tCmp, t2I, s_nl, s_bl, s_qu, dig_len, let_len]
    unfold Kp.col at k
    by_cases c1 : n = 10
    · rw [if_pos c1] at k
      rw [if_pos (by omega)]; exact k
    rw [if_neg c1] at k
    rw [if_neg (by omega)]
    by_cases c2 : n = 32
    · rw [if_pos c2] at k
      rw [if_pos (by omega)]; exact k
    rw [if_neg c2] at k
    rw [if_neg (by omega)]
    have last : (if (97 : Int) ≤ n then if (n : Int) ≤ 122 then (97 : Int) ≤ n ∧ (n : Int) - 97 < 9223372036854775808 ∧ (n : Int) - 97 < 26 ∧ ∃ x, ("abcdefghijklmnopqrstuvwxyz" : Str).cps[((n : Int) - 97).toNat]? = some x ∧ Q (V.str { cps := #[x] }) H
        else Q (V.str (S [63])) H else Q (V.str (S [63])) H) ∨ (48 ≤ n ∧ n ≤ 57) := by
      by_cases c3 : 48 ≤ n ∧ n ≤ 57
      · exact .inr c3
      left
      rw [if_neg c3] at k
      by_cases c4 : 97 ≤ n ∧ n ≤ 122
      · rw [if_pos c4] at k
        rw [if_pos (by omega), if_pos (by omega)]
        refine ⟨by omega, by omega, by omega, n, ?_, k⟩
        have e : ((n : Int) - 97).toNat = n - 97 := by omega
        rw [e, let_at _ (by omega)]
        congr 1; omega
      · rw [if_neg c4] at k
        by_cases c5 : 97 ≤ n
        · rw [if_pos (by omega), if_neg (by omega)]; exact k
        · rw [if_neg (by omega)]; exact k
    by_cases c3 : 48 ≤ n ∧ n ≤ 57
    · rw [if_pos c3] at k
      rw [if_pos (by omega), if_pos (by omega)]
      refine ⟨by omega, by omega, by omega, n, ?_, k⟩
      have e : ((n : Int) - 48).toNat = n - 48 := by omega
      rw [e, dig_at _ (by omega)]
      congr 1; omega
    · have last := last.resolve_right c3
      by_cases c6 : 48 ≤ n
      · rw [if_pos (by omega), if_neg (by omega)]; exact last
      · rw [if_neg (by omega)]; exact last
/-! words_of -/
theorem spl_split (c : Nat) : ∀ (w r : List Nat), TL.spl [c] 0 r.reverse w = Kp.splitAt c r w
  | [], r => rfl
  | a :: w, r => by
    have hp : TL.pre [c] (a :: w) = decide (a = c) := by
      unfold TL.pre
      simp only [List.length_cons, List.length_nil, List.take_succ_cons, List.take_zero]
      by_cases h : a = c <;> simp [h]
    have e0 := spl_split c w []
    have e1 := spl_split c w (a :: r)
    rw [List.reverse_cons] at e1
    show (if TL.pre [c] (a :: w) = true then r.reverse :: TL.spl [c] 0 [] w else TL.spl [c] 0 (r.reverse ++ [a]) w) = (if a = c then r.reverse :: Kp.splitAt c [] w else Kp.splitAt c (a :: r) w)
    rw [hp, ← e1, ← e0]
    by_cases h : a = c
    · simp [h]
    · simp [h]
theorem split_S {w y : List Nat} {c : Nat} (hy : y = [c]) (hc : c < 256) : Txt.split (S w) (S y) = (Kp.splitAt c [] w).map S := by
  subst hy
  apply TL.map_tl_inj
  rw [TL.split_spl _ _ (by simp [S, TL.tl]) (TL.kind_ok (by simp [S, hc])), List.map_map]
  have : TL.tl (S [c]) = [c] := rfl
  rw [this]
  have e : TL.tl (S w) = w := by simp [S, TL.tl]
  have e2 := spl_split c w []
  rw [List.reverse_nil] at e2
  rw [e, e2]
  conv => lhs; rw [← List.map_id (Kp.splitAt c [] w)]
  refine List.map_congr_left fun x _ => ?_
  simp [S, TL.tl]
theorem splitAt_len (c : Nat) : ∀ (w r : List Nat), (Kp.splitAt c r w).length ≤ w.length + 1
  | [], r => by simp [Kp.splitAt]
  | a :: w, r => by
    unfold Kp.splitAt
    by_cases h : a = c
    · rw [if_pos h]; have := splitAt_len c w []; simp; exact this
    · rw [if_neg h]; have := splitAt_len c w (a :: r); simp; omega
theorem big {n : Nat} (h : n ≤ 100000) : n ≤ sizeLine := Nat.le_trans h (by decide)
theorem bigLt {n : Nat} (h : n ≤ 100000) : n < sizeLine := Nat.lt_of_le_of_lt h (by decide)
def vS (l : List (List Nat)) : List V := l.map fun x => .str (S x)
def spWords : Sp := fun vs H Q _ => ∃ w : List Nat, vs = [.str (S w)] ∧ w.length ≤ 1000 ∧ ∀ p H', Same H H' → H p = none → H' p = some (.lst (vS ((Kp.splitAt 32 [] w).filter (fun x => x ≠ [])))) → Q (.ref p) H'
theorem scWords : FnScope ["row", "word"] ["row"] (defScope sWords) := ⟨rfl, rfl, rfl, by decide +kernel, rfl, by decide +kernel, by decide +kernel⟩
theorem s_empty : ("" : Str) = S [] := by decide +kernel
theorem take_snoc {α : Type} {l : List α} {i : Nat} (h : i < l.length) : l.take (i + 1) = l.take i ++ [l[i]] := by rw [List.take_add_one, List.getElem?_eq_getElem h]; rfl
theorem same_upd {H H' : Hp} {p : Addr} {o : HO} (h : Same H H') (hp : H p = none) : Same H (upd H' p o) := fun b x e => by
  rw [upd_ne (fun z => by rw [z, hp] at e; cases e)]
  exact h b x e
theorem c_words (T : TxtW K mg) : Cb P w K mg base 1 "words_of" ["row"] spWords := by
  refine T.dWords.cb scWords (fun vs H Q E h => ?_) (fun f cdv A outer s H vs Q E hr h => ?_)
  · obtain ⟨n, rfl, _⟩ := h
    rfl
  · obtain ⟨w, rfl, hl, k⟩ := h
    refine ⟨_, pss_one (ps_ret (pe_lc (own := [("word", 1)]) (g := gName 1) rfl scWords.nd (pi_list (pe_split (pv 0) pe_str)) (blkOk_by (own := [("word", 1)]) (N := ["row", "word"]) (sc := defScope sWords) (by decide +kernel))
      (fun _ _ _ _ _ => pg_name (i := 1) scWords.nd rfl (Or.inl rfl)) (fun _ _ _ _ _ => pts_one (pt_cmpR op_ne (pv 1) pe_str (nomark _))) (fun _ _ _ _ _ => pv 1))), ?_⟩
    have hlen := splitAt_len 32 w []
    refine ⟨_, rfl, ⟨_, rfl⟩, _, _, rfl, rfl, by rw [s_bl, S_len]; rfl, big (by rw [S_len]; omega), fun a ha => ?_⟩
    rw [s_bl, split_S rfl (by decide), List.map_map]
    refine ⟨a, rfl, ⟨_, SqL.of upd_same⟩, fun D hD => ?_⟩
    have naD : a ≠ D := fun z => by rw [z, upd_same] at hD; cases hD
    have hD0 : H D = none := by rw [upd_ne naD.symm] at hD; exact hD
    refine lc_it (walk_list (K := K) (a := a) (xs := (Kp.splitAt 32 [] w).map (V.str ∘ S))) (fun i H' => Same H H' ∧ H' a = some (.lst ((Kp.splitAt 32 [] w).map (V.str ∘ S))) ∧ H' D = some (.lst (vS (((Kp.splitAt 32 [] w).take i).filter (fun x => x ≠ [])))))
      ⟨same_upd (same_upd (Same.refl H) ha) hD0, by rw [upd_ne naD]; exact upd_same, upd_same⟩ (fun i H' _ h => SqL.of h.2.1) ?_ ?_
    · rintro i x H' H2 hi ⟨s1, h1, h2⟩ ⟨rfl, hx⟩
      rw [List.length_map] at hi
      rw [List.getElem?_map, List.getElem?_eq_getElem hi] at hx
      cases hx
      have lt : (((Kp.splitAt 32 [] w).take i).filter (fun x => x ≠ [])).length ≤ 1001 := Nat.le_trans (List.length_filter_le ..) (by rw [List.length_take]; omega)
      refine ⟨rfl, _, rfl, rfl, _, rfl, ?_⟩
      rw [s_empty]
      by_cases e : (Kp.splitAt 32 [] w)[i] = []
      · refine ifF (by simp [e]) ⟨s1, h1, ?_⟩
        rw [h2, take_snoc hi, List.filter_append]; simp [e]
      · refine ifT (by simp [S_inj, e]) ⟨_, rfl, _, h2, bigLt (by unfold vS; rw [List.length_map]; omega), same_upd s1 hD0, by rw [upd_ne naD]; exact h1, ?_⟩
        rw [upd_same, take_snoc hi, List.filter_append]; simp [e, vS]
    · rintro H' ⟨s1, h1, h2⟩
      rw [List.length_map, List.take_length] at h2
      exact k D H' s1 hD0 h2
end
end Kq
namespace Kq
open PySem PySem.Spec PyProof.Rows L2
section
variable {P : Program} {w : World} {K : PySem.W.Frag} {mg : Str → Option Value} {base : Heap}
theorem lcYes {A B : Hp → Prop} {H : Hp} {σ : L2.St} (h : A H) : tYes σ H (fun b H3 => if b = true then A H3 else B H3) := by
  show if true = true then A H else B H
  rw [if_pos rfl]
  exact h
def vI (l : List Nat) : List V := l.map fun (n : Nat) => V.int (n : Int)
/-- a list of lists of words -/
def RowsAt (H : Hp) (p : Addr) (wss : List (List (List Nat))) : Prop := ∃ qs : List Addr, H p = some (.lst (qs.map V.ref)) ∧ qs.length = wss.length ∧ ∀ (i : Nat) (q : Addr) (ws : List (List Nat)), qs[i]? = some q → wss[i]? = some ws → H q = some (.lst (vS ws))
theorem RowsAt.same {H H' : Hp} {p : Addr} {wss : List (List (List Nat))} (h : RowsAt H p wss) (s : Same H H') : RowsAt H' p wss := by
  obtain ⟨qs, a, b, c⟩ := h
  exact ⟨qs, s _ _ a, b, fun i q ws h1 h2 => s _ _ (c i q ws h1 h2)⟩
theorem join_S (l : List (List Nat)) : Txt.join (S []) (l.map S) = S l.flatten := by
  rw [TL.join_eq]
  apply TL.ext_tl
  rw [TL.tl_join]
  have e : ∀ l : List (List Nat), TL.joinL [] l = l.flatten := by
    intro l
    induction l with
    | nil => rfl
    | cons a l ih =>
      cases l with
      | nil => simp [TL.joinL]
      | cons b l =>
        show a ++ ([] ++ TL.joinL [] (b :: l)) = _
        rw [ih]; simp
  have e2 : (l.map S).map TL.tl = l := by
    rw [List.map_map]
    conv => rhs; rw [← List.map_id l]
    refine List.map_congr_left fun x _ => ?_
    simp [S, TL.tl]
  have e3 : TL.tl (S []) = [] := rfl
  rw [e2, e3, e]
  simp [S, TL.tl]
def spRows (K : PySem.W.Frag) : Sp := fun vs H Q _ => ∃ (a : Addr) (ns : List Nat), vs = [.ref a] ∧ SqL K H a (vI ns) ∧ ns.length ≤ 1000 ∧ ∀ p H', Same H H' → H p = none → RowsAt H' p (Kp.wordsOf ns) → Q (.ref p) H'
theorem scRows : FnScope ["text", "signs", "byte", "row"] ["text"] (defScope sRows) := ⟨rfl, rfl, rfl, by decide +kernel, rfl, by decide +kernel, by decide +kernel⟩
theorem flat_one (l : List Nat) : (l.map fun n => [Kp.col n]).flatten = l.map Kp.col := by
  induction l with
  | nil => rfl
  | cons a l ih => simp [ih]
theorem splitAt_mem (c : Nat) : ∀ (w r x : List Nat), x ∈ Kp.splitAt c r w → x.length ≤ w.length + r.length
  | [], r, x, h => by
    have : x = r.reverse := by simpa [Kp.splitAt] using h
    subst this; simp
  | a :: w, r, x, h => by
    unfold Kp.splitAt at h
    by_cases e : a = c
    · rw [if_pos e] at h
      rcases List.mem_cons.mp h with z | z
      · subst z; simp <;> omega
      · have := splitAt_mem c w [] x z; simp at this ⊢; omega
    · rw [if_neg e] at h
      have := splitAt_mem c w (a :: r) x h; simp at this ⊢; omega
theorem c_rows (T : TxtW K mg) : Cb P w K mg base 2 "rows_of" ["text"] (spRows K) := by
  refine T.dRows.cb scRows (fun vs H Q E h => ?_) (fun f cdv A outer s H vs Q E hr h => ?_)
  · obtain ⟨a, n, rfl, _⟩ := h
    rfl
  · obtain ⟨a, ns, rfl, hS, hl, k⟩ := h
    refine ⟨_, pss_cons (ps_set (i := 1) scRows.nd rfl (Or.inl rfl) (pe_join pe_str (pe_lc (own := [("byte", 2)]) (g := gName 2) rfl scRows.nd (pi_list (pv 0)) (blkOk_by (own := [("byte", 2)]) (N := ["text", "signs", "byte", "row"]) (sc := defScope sRows) (by decide +kernel))
      (fun _ _ _ _ _ => pg_name (i := 2) scRows.nd rfl (Or.inl rfl)) (fun _ _ _ _ _ => pts_nil) (fun _ _ _ _ _ => pe_cb (c_sign T) hr rfl (pa_cons (pv 2) pa_nil)))))
      (pss_one (ps_ret (pe_lc (own := [("row", 3)]) (g := gName 3) rfl scRows.nd (pi_list (pe_split (pv 1) pe_str)) (blkOk_by (own := [("row", 3)]) (N := ["text", "signs", "byte", "row"]) (sc := defScope sRows) (by decide +kernel))
      (fun _ _ _ _ _ => pg_name (i := 3) scRows.nd rfl (Or.inl rfl)) (fun _ _ _ _ _ => pts_nil) (fun _ _ _ _ _ => pe_cb (c_words T) hr rfl (pa_cons (pv 3) pa_nil))))), ?_⟩
    refine ⟨⟨_, rfl⟩, _, rfl, a, rfl, ⟨_, hS⟩, fun D hD => ?_⟩
    refine lc_it (walk_list (K := K) (a := a) (xs := vI ns)) (fun i H' => Same H H' ∧ H' D = some (.lst (vS ((ns.take i).map fun n => [Kp.col n]))))
      ⟨same_upd (Same.refl H) hD, upd_same⟩ (fun i H' _ h => h.1.seq hS) ?_ ?_
    · rintro i x H' H2 hi ⟨s1, h2⟩ ⟨rfl, hx⟩
      unfold vI at hi hx
      rw [List.length_map] at hi
      rw [List.getElem?_map, List.getElem?_eq_getElem hi] at hx
      cases hx
      refine ⟨rfl, ?_⟩
      refine lcYes ?_
      refine ⟨_, rfl, ns[i], rfl, _, h2, bigLt (by simp [vS]; omega), same_upd s1 hD, ?_⟩
      rw [upd_same, take_snoc hi, List.map_append]
      unfold vS
      rw [List.map_append]; rfl
    · rintro H1 ⟨s1, h1⟩
      have el : (vI ns).length = ns.length := by simp [vI]
      rw [el, List.take_length] at h1
      have e1 : vS (ns.map fun n => [Kp.col n]) = ((ns.map fun n => [Kp.col n]).map S).map V.str := by simp [vS]
      rw [e1] at h1
      refine ⟨_, D, _, rfl, rfl, .inl (SqL.of h1), ?_, ?_⟩
      · have : ∀ l : List Nat, ((((l.map fun n => [Kp.col n]).map S)).map (·.length)).sum = l.length := by
          intro l
          induction l with
          | nil => rfl
          | cons a l ih => rw [List.map_cons, List.map_cons, List.map_cons, List.sum_cons, ih, S_len]; simp; omega
        rw [this, s_empty, S_len]
        simp; omega
      rw [s_empty, join_S, flat_one]
      have hlen := splitAt_len 10 (ns.map Kp.col) []
      rw [List.length_map] at hlen
      refine ⟨_, rfl, ⟨_, rfl⟩, _, _, rfl, rfl, by rw [s_nl, S_len]; rfl, big (by rw [S_len, List.length_map]; omega), fun b hb => ?_⟩
      rw [s_nl, split_S rfl (by decide)]
      refine ⟨b, rfl, ⟨_, SqL.of upd_same⟩, fun D2 hD2 => ?_⟩
      have nb : b ≠ D2 := fun z => by rw [z, upd_same] at hD2; cases hD2
      have hD20 : H1 D2 = none := by rw [upd_ne nb.symm] at hD2; exact hD2
      have hb0 := s1.free hb
      refine lc_it (walk_list (K := K) (a := b) (xs := ((Kp.splitAt 10 [] (ns.map Kp.col)).map S).map V.str)) (fun i H' => Same H H' ∧ H' b = some (.lst (((Kp.splitAt 10 [] (ns.map Kp.col)).map S).map V.str)) ∧ 
          ∃ qs : List Addr, H' D2 = some (.lst (qs.map V.ref)) ∧ qs.length = i ∧ (∀ q ∈ qs, q ≠ D2) ∧ ∀ (j : Nat) (q : Addr) (r : List Nat), qs[j]? = some q → (Kp.splitAt 10 [] (ns.map Kp.col))[j]? = some r → H' q = some (.lst (vS ((Kp.splitAt 32 [] r).filter (fun x => x ≠ [])))))
        ⟨same_upd (same_upd s1 hb0) (s1.free hD20), by rw [upd_ne nb]; exact upd_same, ⟨[], upd_same, rfl, (fun q h => by simp at h), fun i q ws h => by simp at h⟩⟩ (fun i H' _ h => SqL.of h.2.1) ?_ ?_
      · rintro i x H' H2 hi ⟨s2, h3, qs, h4, h5, h6, h7⟩ ⟨rfl, hx⟩
        rw [List.length_map, List.length_map] at hi
        rw [List.getElem?_map, List.getElem?_map, List.getElem?_eq_getElem hi] at hx
        cases hx
        have hm := splitAt_mem 10 (ns.map Kp.col) [] _ (List.getElem_mem hi)
        simp only [List.length_map, List.length_nil, Nat.add_zero] at hm
        refine ⟨rfl, ?_⟩
        refine lcYes ?_
        refine ⟨_, rfl, (Kp.splitAt 10 [] (ns.map Kp.col))[i], rfl, by omega, fun q H3 s3 hq h8 => ?_⟩
        have hD3 : H3 D2 = some (.lst (qs.map V.ref)) := s3 _ _ h4
        have nq : q ≠ D2 := fun z => by rw [z, h4] at hq; cases hq
        refine ⟨_, hD3, bigLt (by rw [List.length_map]; omega), same_upd (s2.trans s3) (s1.free hD20), by rw [upd_ne nb]; exact s3 _ _ h3, qs ++ [q], by rw [upd_same]; simp, by simp [h5], ?_, ?_⟩
        · intro q' hq'
          rcases List.mem_append.mp hq' with z | z
          · exact h6 q' z
          · rw [List.mem_singleton.mp z]; exact nq
        · intro j q' r hj hr'
          by_cases c : j < qs.length
          · rw [List.getElem?_append_left c] at hj
            rw [upd_ne (h6 q' (List.mem_of_getElem? hj))]
            exact s3 _ _ (h7 j q' r hj hr')
          · have hj2 := (List.getElem?_eq_some_iff.mp hj).1
            rw [List.length_append, List.length_singleton] at hj2
            have e : j = i := by omega
            subst e
            rw [List.getElem?_append_right (by omega), h5] at hj
            simp at hj
            subst hj
            rw [List.getElem?_eq_getElem hi] at hr'
            cases hr'
            rw [upd_ne nq]
            exact h8
      · rintro H' ⟨s2, h3, qs, h4, h5, h6, h7⟩
        rw [List.length_map, List.length_map] at h5
        refine k D2 H' s2 (s1.free hD20) ⟨qs, h4, by rw [h5]; simp [Kp.wordsOf], ?_⟩
        intro i q ws hq hw
        unfold Kp.wordsOf at hw
        rw [List.getElem?_map] at hw
        cases e : (Kp.splitAt 10 [] (ns.map Kp.col))[i]? with
        | none => rw [e] at hw; cases hw
        | some r =>
          rw [e] at hw
          cases hw
          exact h7 i q r hq e
end
end Kq
namespace Kq
open PySem PySem.Spec PyProof.Rows L2
section
variable {P : Program} {w : World} {K : PySem.W.Frag} {mg : Str → Option Value} {base : Heap}
/-- sign in SIGNS for each sign of a word in slot 0, the sign in slot 1 -/
theorem lc_signs {Z : Str} {u : List Nat} {H : Hp} {Q : VK} {b : Option V} (hl : u.length ≤ 1000)
    (k : ∀ D H', Same H H' → H D = none → H' D = some (.lst ((u.map fun c => decide (c ∈ Z.cps.toList)).map V.bl)) → Q (.ref D) H') :
    tLc (iStr (tVar 0)) (gName 1) tYes (tOp (fun x y H Q => ∃ (c : Nat) (z : Str), x = .str ⟨#[c]⟩ ∧ y = .str z ∧ Q (.bl (decide (c ∈ z.cps.toList))) H) (tVar 1) (tC (.str Z))) [1] [some (.str (S u)), b] H Q := by
  refine ⟨_, rfl, _, rfl, fun D hD => ?_⟩
  refine lc_it (walk_str (z := S u)) (fun i H' => Same H H' ∧ H' D = some (.lst (((u.take i).map fun c => decide (c ∈ Z.cps.toList)).map V.bl)))
    ⟨same_upd (Same.refl H) hD, upd_same⟩ (fun _ _ _ _ => trivial) ?_ ?_
  · rintro i x H' H2 hi ⟨s1, h2⟩ ⟨rfl, c, hc, rfl⟩
    have hi' : i < u.length := by simpa [S] using hi
    have hc : c = u[i] := by
      have : (S u).cps[i]? = some u[i] := by simp [S, hi']
      rw [this] at hc; exact (Option.some.inj hc).symm
    subst hc
    refine ⟨rfl, ?_⟩
    refine lcYes ?_
    refine ⟨_, rfl, u[i], Z, rfl, rfl, _, h2, bigLt (by simp; omega), same_upd s1 hD, ?_⟩
    rw [upd_same, take_snoc hi', List.map_append, List.map_append]
    rfl
  · rintro H1 ⟨s1, h1⟩
    have e : (S u).cps.size = u.length := by simp [S]
    rw [e, List.take_length] at h1
    exact k D H1 s1 hD h1
theorem dig_mem : ∀ c : Nat, c ∈ ("0123456789" : Str).cps.toList ↔ (48 ≤ c ∧ c ≤ 57) := by
  have e : ("0123456789" : Str).cps.toList = [48, 49, 50, 51, 52, 53, 54, 55, 56, 57] := by decide +kernel
  intro c; rw [e]; simp; omega
theorem let_mem : ∀ c : Nat, c ∈ ("abcdefghijklmnopqrstuvwxyz" : Str).cps.toList ↔ (97 ≤ c ∧ c ≤ 122) := by
  have e : ("abcdefghijklmnopqrstuvwxyz" : Str).cps.toList = [97, 98, 99, 100, 101, 102, 103, 104, 105, 106, 107, 108, 109, 110, 111, 112, 113, 114, 115, 116, 117, 118, 119, 120, 121, 122] := by decide +kernel
  intro c; rw [e]; simp; omega
theorem dig_all (u : List Nat) : (u.map fun c => decide (c ∈ ("0123456789" : Str).cps.toList)).all id = u.all Hx01.digit := by
  rw [List.all_map]
  congr 1
  funext c
  show decide (c ∈ ("0123456789" : Str).cps.toList) = Hx01.digit c
  unfold Hx01.digit
  rw [← Bool.decide_and]
  exact decide_eq_decide.mpr (dig_mem c)
theorem let_all (u : List Nat) : (u.map fun c => decide (c ∈ ("abcdefghijklmnopqrstuvwxyz" : Str).cps.toList)).all id = (u.all fun c => decide (97 ≤ c) && decide (c ≤ 122)) := by
  rw [List.all_map]
  congr 1
  funext c
  show decide (c ∈ ("abcdefghijklmnopqrstuvwxyz" : Str).cps.toList) = _
  rw [← Bool.decide_and]
  exact decide_eq_decide.mpr (let_mem c)
/-! number_of -/
def oV (o : Option Nat) : V := match o with | none => .non | some n => .int (n : Nat)
def spNumber : Sp := fun vs H Q _ => ∃ u : List Nat, vs = [.str (S u)] ∧ u.length ≤ 1000 ∧ ∀ H', Same H H' → Q (oV (Hx01.number u)) H'
theorem scNumber : FnScope ["word", "sign"] ["word"] (defScope sNumber) := ⟨rfl, rfl, rfl, by decide +kernel, rfl, by decide +kernel, by decide +kernel⟩
theorem s_zero : ("0" : Str) = S [48] := by decide +kernel
theorem val_eq (u : List Nat) : NumText.digitsVal u = u.foldl (fun n c => 10 * n + (c - 48)) 0 := by
  unfold NumText.digitsVal
  congr 1
  funext a c
  omega
theorem c_number (T : TxtW K mg) : Cb P w K mg base 1 "number_of" ["word"] spNumber := by
  refine T.dNumber.cb scNumber (fun vs H Q E h => ?_) (fun f cdv A outer s H vs Q E hr h => ?_)
  · obtain ⟨n, rfl, _⟩ := h
    rfl
  · obtain ⟨u, rfl, hl, k⟩ := h
    refine ⟨_, pss_cons (ps_if (PW.pt (pw_or (pt_not (pt_chain op_le op_le pe_int (pe_callB call_len_str (by rfl) T.len PySem.boot_len (pa_cons (pv 0) pa_nil)) pe_int))
        (pw_or1 (pt_not (pt_val (pe_callB (cr_all rfl) (by rfl) T.all (by decide +kernel) (pa_cons (pe_lc (own := [("sign", 1)]) (g := gName 1) rfl scNumber.nd (pi_str (pv 0)) (blkOk_by (own := [("sign", 1)]) (N := ["word", "sign"]) (sc := defScope sNumber) (by decide +kernel))
          (fun _ _ _ _ _ => pg_name (i := 1) scNumber.nd rfl (Or.inl rfl)) (fun _ _ _ _ _ => pts_nil) (fun _ _ _ _ _ => pe_cmpR op_in_sign (pv 1) (pe_gS T.digits rfl) rfl)) pa_nil)))))))
        (pss_one (ps_ret pe_non)) pss_nil)
      (pss_cons (ps_if (PW.pt (pw_and (pt_cmpR op_gt (pe_callB call_len_str (by rfl) T.len PySem.boot_len (pa_cons (pv 0) pa_nil)) pe_int (nomark _)) (pw_and1 (pt_cmpR op_eq (pe_item_str (pv 0) pe_int (fun _ _ => rfl)) pe_str (nomark _))))) (pss_one (ps_ret pe_non)) pss_nil)
      (pss_one (ps_ret (pe_callTy call_int_str (by rfl) T.int_ (by decide +kernel) (pa_cons (pv 0) pa_nil))))), ?_⟩
    have hz : (S u).length ≤ sizeLine := big (by rw [S_len]; omega)
    have bad : (¬ (1 ≤ u.length ∧ u.length ≤ 3) ∨ u.all Hx01.digit = false) → Hx01.number u = none := by
      intro h
      unfold Hx01.number
      rw [if_pos]
      rcases h with h | h
      · by_cases e : u = []
        · exact .inl e
        · right; left
          have : u.length ≠ 0 := fun z => e (List.length_eq_zero_iff.mp z)
          omega
      · exact .inr (.inr (.inl h))
    refine ⟨_, rfl, _, rfl, hz, _, _, rfl, rfl, _, rfl, ?_⟩
    rw [S_len]
    refine if2 (fun e1 => ?_) (fun e1 => ?_)
    rotate_left
    · have e1 := of_decide_eq_false e1
      refine ⟨_, rfl, ?_⟩
      refine ifT rfl ?_
      refine ifT rfl ?_
      have := k H (Same.refl H)
      rw [bad (.inl (by omega))] at this
      exact this
    have e1 := of_decide_eq_true e1
    refine ⟨_, _, rfl, rfl, _, rfl, ?_⟩
    by_cases e2 : u.length ≤ 3
    rotate_left
    · rw [decide_eq_false (show ¬ ((u.length : Nat) : Int) ≤ 3 by omega)]
      refine ifT rfl ?_
      refine ifT rfl ?_
      have := k H (Same.refl H)
      rw [bad (.inl (by omega))] at this
      exact this
    rw [decide_eq_true (show ((u.length : Nat) : Int) ≤ 3 by omega)]
    refine ifF rfl ?_
    unfold tNot tB tCB tCons
    refine lc_signs (u := u) (b := none) hl fun D H1 s1 hD h1 => ?_
    refine ⟨D, _, rfl, SqL.of h1, _, rfl, ?_⟩
    rw [dig_all]
    by_cases e3 : u.all Hx01.digit = true
    rotate_left
    · have e3 := Bool.eq_false_iff.mpr e3
      rw [e3]
      refine ifT rfl ?_
      have := k H1 s1
      rw [bad (.inr e3)] at this
      exact this
    rw [e3]
    refine ifF rfl ?_
    refine ⟨_, rfl, _, rfl, hz, _, _, rfl, rfl, _, rfl, ?_⟩
    rw [S_len]
    have ne : u ≠ [] := fun z => by rw [z] at e1; simp at e1
    match u, ne with
    | a :: u, _ =>
    have good : ¬ (1 < (a :: u).length ∧ (a :: u).head? = some 48) → (a :: u).length ≤ 640 ∧ PySem.intText? (S (a :: u)) = some (((a :: u).foldl (fun n c => 10 * n + (c - 48)) 0 : Nat) : Int) ∧ Hx01.number (a :: u) = some ((a :: u).foldl (fun n c => 10 * n + (c - 48)) 0) := by
      intro h
      refine ⟨by omega, ?_, ?_⟩
      · rw [← val_eq]
        refine PySem.intText_digits (x := S (a :: u)) ?_ (by simp [S]) (by rw [S_len]; omega)
        intro c hc
        have hc : c ∈ a :: u := by simpa [S] using hc
        have := List.all_eq_true.mp e3 c hc
        simpa [Hx01.digit] using this
      · unfold Hx01.number
        rw [if_neg]
        intro z
        rcases z with z | z | z | z
        · cases z
        · omega
        · rw [e3] at z; cases z
        · exact h z
    have ret : ¬ (1 < (a :: u).length ∧ (a :: u).head? = some 48) → ∃ v, some (some (V.str (S (a :: u)))) = some (some v) ∧ ∃ a n, [v] = [.str a] ∧ PySem.intText? a = some n ∧ a.length ≤ 640 ∧ Q (.int n) H1 := by
      intro h
      obtain ⟨g1, g2, g3⟩ := good h
      refine ⟨_, rfl, _, _, rfl, g2, by rw [S_len]; exact g1, ?_⟩
      have := k H1 s1
      rw [g3] at this
      exact this
    refine if2 (fun e4 => ?_) (fun e4 => ?_)
    · have e4 := of_decide_eq_true e4
      refine ⟨_, rfl, _, _, a, rfl, rfl, by decide, by decide, by rw [S_len]; omega, rfl, rfl, _, rfl, ?_⟩
      rw [s_zero]
      refine if2 (fun e5 => ?_) (fun e5 => ?_)
      · have e5 := of_decide_eq_true e5
        have e5 : a = 48 := by
          have : S [a] = S [48] := V.str.inj e5
          simpa using S_inj.mp this
        have := k H1 s1
        have hn : Hx01.number (a :: u) = none := by
          unfold Hx01.number
          rw [if_pos]
          right; right; right
          exact ⟨by simp at e4 ⊢; omega, by rw [e5]; rfl⟩
        rw [hn] at this
        exact this
      · have e5 := of_decide_eq_false e5
        refine ret fun z => e5 ?_
        have : a = 48 := by simpa using z.2
        rw [this]; rfl
    · have e4 := of_decide_eq_false e4
      refine ifF rfl ?_
      refine ret fun z => e4 ?_
      have := z.1
      show (1 : Int) < _
      omega
/-! is_name -/
def spName : Sp := fun vs H Q _ => ∃ u : List Nat, vs = [.str (S u)] ∧ u.length ≤ 1000 ∧ ∀ H', Same H H' → Q (.bl (Hx01.isName u)) H'
theorem scName : FnScope ["word", "sign"] ["word"] (defScope sName) := ⟨rfl, rfl, rfl, by decide +kernel, rfl, by decide +kernel, by decide +kernel⟩
theorem s_nil : ("nil" : Str) = S Hx01.wNil := by decide +kernel
theorem c_name (T : TxtW K mg) : Cb P w K mg base 1 "is_name" ["word"] spName := by
  refine T.dName.cb scName (fun vs H Q E h => ?_) (fun f cdv A outer s H vs Q E hr h => ?_)
  · obtain ⟨n, rfl, _⟩ := h
    rfl
  · obtain ⟨u, rfl, hl, k⟩ := h
    refine ⟨_, pss_cons (ps_if (PW.pt (pw_or (pt_not (pt_chain op_le op_le pe_int (pe_callB call_len_str (by rfl) T.len PySem.boot_len (pa_cons (pv 0) pa_nil)) pe_int))
        (pw_or1 (pt_cmpR op_eq (pv 0) pe_str (nomark _)))))
        (pss_one (ps_ret pe_bl)) pss_nil)
      (pss_one (ps_ret (pe_callB (cr_all rfl) (by rfl) T.all (by decide +kernel) (pa_cons (pe_lc (own := [("sign", 1)]) (g := gName 1) rfl scName.nd (pi_str (pv 0)) (blkOk_by (own := [("sign", 1)]) (N := ["word", "sign"]) (sc := defScope sName) (by decide +kernel))
          (fun _ _ _ _ _ => pg_name (i := 1) scName.nd rfl (Or.inl rfl)) (fun _ _ _ _ _ => pts_nil) (fun _ _ _ _ _ => pe_cmpR op_in_sign (pv 1) (pe_gS T.letters rfl) rfl)) pa_nil)))), ?_⟩
    have hz : (S u).length ≤ sizeLine := big (by rw [S_len]; omega)
    refine ⟨_, rfl, _, rfl, hz, _, _, rfl, rfl, _, rfl, ?_⟩
    rw [S_len]
    refine if2 (fun e1 => ?_) (fun e1 => ?_)
    rotate_left
    · have e1 := of_decide_eq_false e1
      refine ⟨_, rfl, ?_⟩
      refine ifT rfl ?_
      refine ifT rfl ?_
      have := k H (Same.refl H)
      have hn : Hx01.isName u = false := by
        unfold Hx01.isName
        rw [decide_eq_false (by omega)]; rfl
      rw [hn] at this
      exact this
    have e1 := of_decide_eq_true e1
    refine ⟨_, _, rfl, rfl, _, rfl, ?_⟩
    by_cases e2 : u.length ≤ 8
    rotate_left
    · rw [decide_eq_false (show ¬ ((u.length : Nat) : Int) ≤ 8 by omega)]
      refine ifT rfl ?_
      refine ifT rfl ?_
      have := k H (Same.refl H)
      have hn : Hx01.isName u = false := by
        unfold Hx01.isName
        rw [decide_eq_false e2]; simp
      rw [hn] at this
      exact this
    rw [decide_eq_true (show ((u.length : Nat) : Int) ≤ 8 by omega)]
    refine ifF rfl ?_
    refine ⟨_, rfl, rfl, _, rfl, ?_⟩
    rw [s_nil]
    have e1' : 1 ≤ u.length := by omega
    refine if2 (fun e3 => ?_) (fun e3 => ?_)
    · have e3 := V.str.inj (of_decide_eq_true e3)
      have e3 := S_inj.mp e3
      have := k H (Same.refl H)
      have hn : Hx01.isName u = false := by rw [e3]; decide
      rw [hn] at this
      exact this
    · have e3 := of_decide_eq_false e3
      have e3 : (u == Hx01.wNil) = false := by
        rw [beq_eq_false_iff_ne]
        intro z; exact e3 (by rw [z])
      unfold tNext tRet tCB tCons
      dsimp only
      refine lc_signs (u := u) (b := none) hl fun D H1 s1 hD h1 => ?_
      refine ⟨D, _, rfl, SqL.of h1, ?_⟩
      rw [let_all]
      have := k H1 s1
      unfold Hx01.isName at this
      rw [decide_eq_true e1', decide_eq_true e2, e3] at this
      simpa using this
end
end Kq
namespace Kq
open PySem PySem.Spec PyProof.Rows L2
open Kp (wd such counts)
open Hx01 (wClass wNew wSet wGet wLet wTimes wEnd wSnap wNil)
abbrev sSuch : Stmt := top 78
abbrev sNames : Stmt := top 79
abbrev sReads : Stmt := top 81
abbrev sFaultNo : Stmt := top 87
/-- words of a row, handed in -/
structure Ws (K : PySem.W.Frag) (H : Hp) (q : Addr) (ws : List (List Nat)) : Prop where
  at_ : SqL K H q (vS ws)
  ne : ws ≠ []
  len : ws.length ≤ 1000
  each : ∀ x ∈ ws, x.length ≤ 1000
  asc : ∀ x ∈ ws, ∀ c ∈ x, c < 128
structure TxtP (w : World) (K : PySem.W.Frag) (mg : Str → Option Value) : Prop extends TxtW K mg where
  counts_ : ∃ d es n, mg "WORD_COUNTS" = some (.ref d) ∧ KDict K w d es n ∧ ∀ c : List Nat, match counts c with
    | none => PySem.W.nsIn K d (S c) = some none
    | some (lo, hi) => ∃ a, PySem.W.nsIn K d (S c) = some (some (.ref a)) ∧ ∀ H, SqT K H a [.int (lo : Nat), .int (hi : Nat)]
  getting : ∃ d, mg "GETTING" = some (.ref d) ∧ ∀ H, SqT K H d [.str (S wNew), .str (S wGet), .str (S wLet)]
  rounds_ : ∃ t, mg "MOST_ROUNDS" = some (.int 9 t)
  dSuch : Dd K mg "is_such_row" sSuch ["words"]
  dNames : Dd K mg "words_for_names" sNames ["words"]
  dReads : Dd K mg "variables_read" sReads ["words"]
  dFaultNo : Dd K mg "fault_number" sFaultNo ["row", "fault"]
theorem s_class : ("class" : Str) = S wClass := by decide +kernel
theorem s_new : ("new" : Str) = S wNew := by decide +kernel
theorem s_set : ("set" : Str) = S wSet := by decide +kernel
theorem s_get : ("get" : Str) = S wGet := by decide +kernel
theorem s_let : ("let" : Str) = S wLet := by decide +kernel
theorem s_times : ("times" : Str) = S wTimes := by decide +kernel
theorem s_end : ("end" : Str) = S wEnd := by decide +kernel
theorem s_snap : ("snap" : Str) = S wSnap := by decide +kernel
theorem strEq {a b : List Nat} : decide (V.str (S a) = V.str (S b)) = decide (a = b) := decide_eq_decide.mpr ⟨fun h => S_inj.mp (V.str.inj h), fun h => by rw [h]⟩
theorem wat {ws : List (List Nat)} {i : Nat} (h : i < ws.length) : atI (vS ws) (i : Int) = some (.str (S (wd ws i))) := by
  refine atI_nat ?_
  unfold vS
  rw [List.getElem?_map, List.getElem?_eq_getElem h, wd, List.getD_eq_getElem?_getD, List.getElem?_eq_getElem h]
  rfl
theorem wd_len {ws : List (List Nat)} (h : ∀ x ∈ ws, x.length ≤ 1000) (i : Nat) : (wd ws i).length ≤ 1000 := by
  by_cases c : i < ws.length
  · rw [wd, List.getD_eq_getElem?_getD, List.getElem?_eq_getElem c]
    exact h _ (List.getElem_mem c)
  · rw [wd, List.getD_eq_getElem?_getD, List.getElem?_eq_none (by omega)]
    exact Nat.zero_le _
theorem vS_len (ws : List (List Nat)) : (vS ws).length = ws.length := by simp [vS]
theorem Ws.pos {K : PySem.W.Frag} {H : Hp} {q : Addr} {ws : List (List Nat)} (h : Ws K H q ws) : 0 < ws.length := by
  cases e : ws with
  | nil => exact absurd e h.ne
  | cons a l => simp
theorem Ws.same {K : PySem.W.Frag} {H H' : Hp} {q : Addr} {ws : List (List Nat)} (h : Ws K H q ws) (s : Same H H') : Ws K H' q ws := ⟨s.seq h.at_, h.ne, h.len, h.each, h.asc⟩
section
variable {P : Program} {w : World} {K : PySem.W.Frag} {mg : Str → Option Value} {base : Heap}
/-! is_such_row -/
def spSuch (K : PySem.W.Frag) : Sp := fun vs H Q _ => ∃ (q : Addr) (ws : List (List Nat)), vs = [.ref q] ∧ Ws K H q ws ∧ ∀ H', Same H H' → Q (.bl (such ws)) H'
theorem scSuch : FnScope ["words", "first", "counts", "size", "rounds"] ["words"] (defScope sSuch) := ⟨rfl, rfl, rfl, by decide +kernel, rfl, by decide +kernel, by decide +kernel⟩
theorem c_such (T : TxtP w K mg) : Cb P w K mg base 2 "is_such_row" ["words"] (spSuch K) := by
  obtain ⟨d, es, n, hd, KD, hc⟩ := T.counts_
  refine T.dSuch.cb scSuch (fun vs H Q E h => ?_) (fun f cdv A outer s H vs Q E hr h => ?_)
  · obtain ⟨q, ws, rfl, _⟩ := h
    rfl
  · obtain ⟨q, ws, rfl, hw, k⟩ := h
    refine ⟨_, pss_cons (ps_set (i := 1) scSuch.nd rfl (Or.inl rfl) (pe_ix ix_list (pv 0) pe_int (fun _ _ => rfl)))
      (pss_cons (ps_if (pt_cmpR (op_notIn_kd KD) (pv 1) (pe_glob (v := .ref d) rfl hd rfl) rfl) (pss_one (ps_ret pe_bl)) pss_nil)
      (pss_cons (ps_set (i := 2) scSuch.nd rfl (Or.inl rfl) (pe_ix ix_kdict (pe_glob (v := .ref d) rfl hd rfl) (pv 1) (fun _ _ => rfl)))
      (pss_cons (ps_if (pt_not (pt_chain op_le op_le (pe_ix ix_tup (pv 2) pe_int (fun _ _ => rfl)) (pe_callB call_len_seq (by rfl) T.len PySem.boot_len (pa_cons (pv 0) pa_nil)) (pe_ix ix_tup (pv 2) pe_int (fun _ _ => rfl)))) (pss_one (ps_ret pe_bl)) pss_nil)
      (pss_cons (ps_if (pt_cmpR op_eq (pv 1) pe_str (nomark _)) (pss_cons (ps_set (i := 3) scSuch.nd rfl (Or.inl rfl) (pe_cb (c_number T.toTxtW) hr rfl (pa_cons (pe_ix ix_list (pv 0) pe_int (fun _ _ => rfl)) pa_nil)))
          (pss_one (ps_ret (pe_and (pe_cmp (pc_notN (pv 3)) rfl) (pe_one (pe_cmpR op_gt (pv 3) pe_int (nomark _))))))) pss_nil)
      (pss_cons (ps_if (pt_cmpR op_eq (pv 1) pe_str (nomark _)) (pss_cons (ps_set (i := 4) scSuch.nd rfl (Or.inl rfl) (pe_cb (c_number T.toTxtW) hr rfl (pa_cons (pe_ix ix_list (pv 0) pe_int (fun _ _ => rfl)) pa_nil)))
          (pss_one (ps_ret (pe_and (pe_cmp (pc_notN (pv 4)) rfl) (pe_one (pe_cmpR op_le (pv 4) (pe_gI T.rounds_ rfl) (nomark _))))))) pss_nil)
      (pss_one (ps_ret pe_bl))))))), ?_⟩
    have hp := hw.pos
    refine ⟨_, rfl, q, _, _, _, rfl, rfl, hw.at_, wat hp, ?_⟩
    have hcc := hc (wd ws 0)
    have k0 := k H (Same.refl H)
    unfold such at k0
    cases e : counts (wd ws 0) with
    | none =>
      rw [e] at hcc k0
      refine ⟨_, rfl, _, _, rfl, rfl, hcc, _, rfl, ?_⟩
      refine ifT rfl ?_
      exact k0
    | some lh =>
      obtain ⟨lo, hi⟩ := lh
      rw [e] at hcc k0
      obtain ⟨a, hn, ht⟩ := hcc
      refine ⟨_, rfl, _, _, rfl, rfl, hn, _, rfl, ?_⟩
      refine ifF rfl ?_
      refine ⟨_, rfl, d, _, .ref a, rfl, rfl, ⟨es, n, _, KD.at_, KD.lit, hn, rfl⟩, ?_⟩
      refine ⟨_, rfl, a, _, _, _, rfl, rfl, ht _, atI_nat (j := 0) rfl, _, rfl, q, _, rfl, .inl hw.at_, _, _, rfl, rfl, _, rfl, ?_⟩
      rw [vS_len]
      dsimp only at k0
      refine if2 (fun e1 => ?_) (fun e1 => ?_)
      rotate_left
      · have e1 := of_decide_eq_false e1
        rw [if_neg (by omega)] at k0
        refine ⟨_, rfl, ?_⟩
        refine ifT rfl ?_
        exact k0
      have e1 := of_decide_eq_true e1
      refine ⟨_, rfl, a, _, _, _, rfl, rfl, ht _, atI_nat (j := 1) rfl, _, _, rfl, rfl, _, rfl, ?_⟩
      by_cases e2 : ws.length ≤ hi
      rotate_left
      · rw [decide_eq_false (show ¬ ((ws.length : Nat) : Int) ≤ ((hi : Nat) : Int) by omega)]
        rw [if_neg (by omega)] at k0
        refine ifT rfl ?_
        exact k0
      rw [decide_eq_true (show ((ws.length : Nat) : Int) ≤ ((hi : Nat) : Int) by omega)]
      refine ifF rfl ?_
      have kk : ∀ H', Same H H' → Q (.bl (if wd ws 0 = wClass then (match Hx01.number (wd ws 2) with | none => false | some n => decide (0 < n)) else if wd ws 0 = wTimes then (match Hx01.number (wd ws 1) with | none => false | some n => decide (n ≤ 9)) else true)) H' := by
        intro H' sm
        have z := k H' sm
        unfold such at z
        rw [e] at z
        dsimp only at z
        rw [if_pos (by omega)] at z
        exact z
      refine ⟨_, rfl, rfl, _, rfl, ?_⟩
      rw [s_class, strEq]
      refine if2 (fun e3 => ?_) (fun e3 => ?_)
      · have e3 := of_decide_eq_true e3
        have hlen : 2 < ws.length := by
          rw [e3] at e
          have : counts wClass = some (3, 5) := by decide
          rw [this] at e
          cases e
          omega
        refine ⟨_, rfl, q, _, _, _, rfl, rfl, hw.at_, wat (i := 2) hlen, wd ws 2, rfl, wd_len hw.each 2, fun H1 s1 => ?_⟩
        refine ⟨_, rfl, _, rfl, ?_⟩
        have z := kk H1 s1
        rw [if_pos e3] at z
        cases en : Hx01.number (wd ws 2) with
        | none =>
          rw [en] at z
          exact ifF rfl z
        | some v =>
          rw [en] at z
          refine ifT rfl ?_
          refine ⟨_, rfl, _, _, rfl, rfl, ?_⟩
          show Q (V.bl (decide ((0 : Int) < (v : Int)))) H1
          have : decide ((0 : Int) < (v : Int)) = decide (0 < v) := decide_eq_decide.mpr (by omega)
          rw [this]
          exact z
      · have e3 := of_decide_eq_false e3
        refine ⟨_, rfl, rfl, _, rfl, ?_⟩
        rw [s_times, strEq]
        refine if2 (fun e4 => ?_) (fun e4 => ?_)
        · have e4 := of_decide_eq_true e4
          have hlen : 1 < ws.length := by
            rw [e4] at e
            have : counts wTimes = some (2, 2) := by decide
            rw [this] at e
            cases e
            omega
          refine ⟨_, rfl, q, _, _, _, rfl, rfl, hw.at_, wat (i := 1) hlen, wd ws 1, rfl, wd_len hw.each 1, fun H1 s1 => ?_⟩
          refine ⟨_, rfl, _, rfl, ?_⟩
          have z := kk H1 s1
          rw [if_neg e3, if_pos e4] at z
          cases en : Hx01.number (wd ws 1) with
          | none =>
            rw [en] at z
            exact ifF rfl z
          | some v =>
            rw [en] at z
            refine ifT rfl ?_
            refine ⟨_, rfl, _, _, rfl, rfl, ?_⟩
            show Q (V.bl (decide ((v : Int) ≤ (9 : Int)))) H1
            have : decide ((v : Int) ≤ (9 : Int)) = decide (v ≤ 9) := decide_eq_decide.mpr (by omega)
            rw [this]
            exact z
        · have e4 := of_decide_eq_false e4
          have z := kk H (Same.refl H)
          rw [if_neg e3, if_neg e4] at z
          exact z
/-! fault_number -/
def spFaultNo : Sp := fun vs H Q _ => ∃ (r e : Nat), vs = [.int r, .int e] ∧ r ≤ 100000 ∧ Q (.int (-1000 - 10 * (r : Int) - (e : Int))) H
theorem scFaultNo : FnScope ["row", "fault"] ["row", "fault"] (defScope sFaultNo) := ⟨rfl, rfl, rfl, by decide +kernel, rfl, by decide +kernel, by decide +kernel⟩
theorem c_faultNo (T : TxtP w K mg) : Cb P w K mg base 1 "fault_number" ["row", "fault"] spFaultNo := by
  refine T.dFaultNo.cb scFaultNo (fun vs H Q E h => ?_) (fun f cdv A outer s H vs Q E hr h => ?_)
  · obtain ⟨r, e, rfl, _⟩ := h
    rfl
  · obtain ⟨r, e, rfl, hl, k⟩ := h
    refine ⟨_, pss_one (ps_ret (pe_op op_sub (pe_op op_sub (pe_un un_neg pe_int) (pe_op op_mul pe_int (pv 0))) (pv 1))), ?_⟩
    refine ⟨_, rfl, _, rfl, _, _, rfl, rfl, .inl ⟨by decide, by decide⟩, _, _, rfl, rfl, _, rfl, _, _, rfl, rfl, k⟩
end
end Kq
namespace Kq
open PySem PySem.Spec PyProof.Rows L2
open Kp (wd such counts)
open Hx01 (wClass wNew wSet wGet wLet wTimes wEnd wSnap wNil)
theorem such_count {ws : List (List Nat)} (h : such ws = true) : ∃ lo hi, counts (wd ws 0) = some (lo, hi) ∧ lo ≤ ws.length ∧ ws.length ≤ hi := by
  unfold such at h
  cases e : counts (wd ws 0) with
  | none => rw [e] at h; cases h
  | some lh =>
    obtain ⟨lo, hi⟩ := lh
    rw [e] at h
    dsimp only at h
    by_cases c : lo ≤ ws.length ∧ ws.length ≤ hi
    · exact ⟨lo, hi, rfl, c⟩
    · rw [if_neg c] at h; cases h
theorem such_at {ws : List (List Nat)} (h : such ws = true) {c : List Nat} {lo hi : Nat} (e : wd ws 0 = c) (hc : counts c = some (lo, hi)) : lo ≤ ws.length ∧ ws.length ≤ hi := by
  obtain ⟨lo', hi', h1, h2⟩ := such_count h
  rw [e, hc] at h1
  cases h1
  exact h2
theorem n_class : counts wClass = some (3, 5) := by decide
theorem n_new : counts wNew = some (3, 3) := by decide
theorem n_set : counts wSet = some (4, 4) := by decide
theorem n_get : counts wGet = some (4, 4) := by decide
theorem n_let : counts wLet = some (3, 3) := by decide
theorem n_times : counts wTimes = some (2, 2) := by decide
theorem n_end : counts wEnd = some (1, 1) := by decide
theorem n_snap : counts wSnap = some (1, 1) := by decide
theorem cut_drop (ws : List (List Nat)) (k : Nat) (h : k ≤ ws.length) : cutV (vS ws) (some (k : Int)) none = vS (ws.drop k) := by
  have e1 : HT.sIx (vS ws).length 0 (some (k : Int)) = k := by
    rw [HT.sIx_nat, vS_len]
    omega
  have e2 : HT.sIx (vS ws).length (vS ws).length none = (vS ws).length := rfl
  unfold cutV
  rw [e1, e2, List.take_of_length_le (by rw [List.length_drop]; exact Nat.le_refl _)]
  unfold vS
  rw [List.map_drop]
section
variable {P : Program} {w : World} {K : PySem.W.Frag} {mg : Str → Option Value} {base : Heap}
theorem in_getting (c : List Nat) : inV (.str (S c)) [.str (S wNew), .str (S wGet), .str (S wLet)] = decide (Kp.Getting c) := by
  have e : ∀ a b : List Nat, (S a == S b) = decide (b = a) := by
    intro a b
    rw [Bool.eq_iff_iff, beq_iff_eq, decide_eq_true_iff, S_inj, eq_comm]
  simp only [inV, List.any_cons, List.any_nil, eqV, e, Bool.or_false, Kp.Getting]
  simp [Bool.decide_or]
/-! words_for_names -/
def spNames (K : PySem.W.Frag) : Sp := fun vs H Q _ => ∃ (q : Addr) (ws : List (List Nat)), vs = [.ref q] ∧ Ws K H q ws ∧ such ws = true ∧ ∀ p H', Same H H' → H p = none → H' p = some (.lst (vS (Kp.names ws))) → Q (.ref p) H'
theorem scNames : FnScope ["words", "first"] ["words"] (defScope sNames) := ⟨rfl, rfl, rfl, by decide +kernel, rfl, by decide +kernel, by decide +kernel⟩
theorem c_names (T : TxtP w K mg) : Cb P w K mg base 1 "words_for_names" ["words"] (spNames K) := by
  obtain ⟨d, hd, ht⟩ := T.getting
  refine T.dNames.cb scNames (fun vs H Q E h => ?_) (fun f cdv A outer s H vs Q E hr h => ?_)
  · obtain ⟨q, ws, rfl, _⟩ := h
    rfl
  · obtain ⟨q, ws, rfl, hw, hs, k⟩ := h
    refine ⟨_, pss_cons (ps_set (i := 1) scNames.nd rfl (Or.inl rfl) (pe_ix ix_list (pv 0) pe_int (fun _ _ => rfl)))
      (pss_cons (ps_if (pt_cmpR op_eq (pv 1) pe_str (nomark _)) (pss_one (ps_ret (pe_op op_cat (pe_lst (pa_cons (pe_ix ix_list (pv 0) pe_int (fun _ _ => rfl)) pa_nil)) (pe_slice sl_list (pv 0) (po_some pe_int) po_none)))) pss_nil)
      (pss_cons (ps_if (pt_cmpR op_eq (pv 1) pe_str (nomark _)) (pss_one (ps_ret (pe_lst (pa_cons (pe_ix ix_list (pv 0) pe_int (fun _ _ => rfl)) pa_nil)))) pss_nil)
      (pss_cons (ps_if (pt_cmpR op_eq (pv 1) pe_str (nomark _)) (pss_one (ps_ret (pe_lst (pa_cons (pe_ix ix_list (pv 0) pe_int (fun _ _ => rfl)) (pa_cons (pe_ix ix_list (pv 0) pe_int (fun _ _ => rfl)) pa_nil))))) pss_nil)
      (pss_cons (ps_if (pt_cmpR op_in_seq (pv 1) (pe_glob (v := .ref d) rfl hd rfl) rfl) (pss_one (ps_ret (pe_lst (pa_cons (pe_ix ix_list (pv 0) pe_int (fun _ _ => rfl)) pa_nil)))) pss_nil)
      (pss_one (ps_ret (pe_lst pa_nil))))))), ?_⟩
    have hp := hw.pos
    refine ⟨_, rfl, q, _, _, _, rfl, rfl, hw.at_, wat hp, ?_⟩
    unfold Kp.names at k
    refine ⟨_, rfl, rfl, _, rfl, ?_⟩
    rw [s_class, strEq]
    refine if2 (fun e => ?_) (fun e => ?_)
    · have e := of_decide_eq_true e
      have l := such_at hs e n_class
      refine ⟨_, rfl, q, _, _, _, rfl, rfl, hw.at_, wat (i := 1) (by omega), big (by simp), fun p hp => ?_⟩
      have nq : SqL K (upd H p (.lst [V.str (S (wd ws 1))])) q (vS ws) := (same_upd (Same.refl H) hp).seq hw.at_
      refine ⟨_, rfl, _, rfl, q, _, rfl, nq, fun r hr' => ?_⟩
      rw [show (3 : Int) = ((3 : Nat) : Int) from rfl, cut_drop ws 3 (by omega)]
      have npr : p ≠ r := fun z => by rw [z, upd_same] at hr'; cases hr'
      have hr0 : H r = none := by rw [upd_ne npr.symm] at hr'; exact hr'
      refine ⟨p, r, _, _, rfl, rfl, by rw [upd_ne npr]; exact upd_same, upd_same, big (by simp [vS]; have := hw.len; omega), fun x hx => ?_⟩
      have s1 : Same H (upd (upd H p (.lst [V.str (S (wd ws 1))])) r (.lst (vS (ws.drop 3)))) := same_upd (same_upd (Same.refl H) hp) hr0
      have hx0 := s1.free hx
      refine k x _ (same_upd s1 hx0) hx0 ?_
      rw [if_pos e, upd_same]
      rfl
    have e := of_decide_eq_false e
    rw [if_neg e] at k
    refine ⟨_, rfl, rfl, _, rfl, ?_⟩
    rw [s_set, strEq]
    refine if2 (fun e => ?_) (fun e => ?_)
    · have e := of_decide_eq_true e
      have l := such_at hs e n_set
      refine ⟨_, rfl, q, _, _, _, rfl, rfl, hw.at_, wat (i := 2) (by omega), big (by simp), fun p hp => ?_⟩
      refine k p _ (same_upd (Same.refl H) hp) hp ?_
      rw [if_pos e, upd_same]
      rfl
    have e := of_decide_eq_false e
    rw [if_neg e] at k
    refine ⟨_, rfl, rfl, _, rfl, ?_⟩
    rw [s_get, strEq]
    refine if2 (fun e => ?_) (fun e => ?_)
    · have e := of_decide_eq_true e
      have l := such_at hs e n_get
      refine ⟨_, rfl, q, _, _, _, rfl, rfl, hw.at_, wat (i := 1) (by omega), _, rfl, q, _, _, _, rfl, rfl, hw.at_, wat (i := 3) (by omega), big (by simp), fun p hp => ?_⟩
      refine k p _ (same_upd (Same.refl H) hp) hp ?_
      rw [if_pos e, upd_same]
      rfl
    have e := of_decide_eq_false e
    rw [if_neg e] at k
    refine ⟨_, rfl, d, _, rfl, .inr (ht H), rfl, rfl, _, rfl, ?_⟩
    show if (if false = true then _ else inV (.str (S (wd ws 0))) [.str (S wNew), .str (S wGet), .str (S wLet)]) = true then _ else _
    rw [if_neg Bool.false_ne_true, in_getting]
    refine if2 (fun e => ?_) (fun e => ?_)
    · have e := of_decide_eq_true e
      have l : 1 < ws.length := by
        rcases e with z | z | z
        · have := such_at hs z n_new; omega
        · have := such_at hs z n_get; omega
        · have := such_at hs z n_let; omega
      refine ⟨_, rfl, q, _, _, _, rfl, rfl, hw.at_, wat (i := 1) l, big (by simp), fun p hp => ?_⟩
      refine k p _ (same_upd (Same.refl H) hp) hp ?_
      rw [if_pos e, upd_same]
      rfl
    · have e := of_decide_eq_false e
      refine ⟨big (by simp), fun p hp => ?_⟩
      refine k p _ (same_upd (Same.refl H) hp) hp ?_
      rw [if_neg e, upd_same]
      rfl
/-! variables_read -/
def spReads (K : PySem.W.Frag) : Sp := fun vs H Q _ => ∃ (q : Addr) (ws : List (List Nat)), vs = [.ref q] ∧ Ws K H q ws ∧ such ws = true ∧ ∀ p H', Same H H' → H p = none → H' p = some (.lst (vS (Kp.reads ws))) → Q (.ref p) H'
theorem scReads : FnScope ["words", "first"] ["words"] (defScope sReads) := ⟨rfl, rfl, rfl, by decide +kernel, rfl, by decide +kernel, by decide +kernel⟩
theorem c_reads (T : TxtP w K mg) : Cb P w K mg base 1 "variables_read" ["words"] (spReads K) := by
  refine T.dReads.cb scReads (fun vs H Q E h => ?_) (fun f cdv A outer s H vs Q E hr h => ?_)
  · obtain ⟨q, ws, rfl, _⟩ := h
    rfl
  · obtain ⟨q, ws, rfl, hw, hs, k⟩ := h
    refine ⟨_, pss_cons (ps_set (i := 1) scReads.nd rfl (Or.inl rfl) (pe_ix ix_list (pv 0) pe_int (fun _ _ => rfl)))
      (pss_cons (ps_if (pt_cmpR op_eq (pv 1) pe_str (nomark _)) (pss_one (ps_ret (pe_lst (pa_cons (pe_ix ix_list (pv 0) pe_int (fun _ _ => rfl)) pa_nil)))) pss_nil)
      (pss_cons (ps_if (pt_cmpR op_eq (pv 1) pe_str (nomark _)) (pss_one (ps_ret (pe_ifExp (pt_cmpR op_eq (pe_ix ix_list (pv 0) pe_int (fun _ _ => rfl)) pe_str (nomark _)) (pe_lst pa_nil) (pe_lst (pa_cons (pe_ix ix_list (pv 0) pe_int (fun _ _ => rfl)) pa_nil))))) pss_nil)
      (pss_cons (ps_if (pt_cmpR op_eq (pv 1) pe_str (nomark _)) (pss_one (ps_ret (pe_ifExp (pt_cmpR op_eq (pe_ix ix_list (pv 0) pe_int (fun _ _ => rfl)) pe_str (nomark _)) (pe_lst (pa_cons (pe_ix ix_list (pv 0) pe_int (fun _ _ => rfl)) pa_nil))
         (pe_lst (pa_cons (pe_ix ix_list (pv 0) pe_int (fun _ _ => rfl)) (pa_cons (pe_ix ix_list (pv 0) pe_int (fun _ _ => rfl)) pa_nil)))))) pss_nil)
      (pss_one (ps_ret (pe_lst pa_nil)))))), ?_⟩
    have hp := hw.pos
    refine ⟨_, rfl, q, _, _, _, rfl, rfl, hw.at_, wat hp, ?_⟩
    unfold Kp.reads at k
    refine ⟨_, rfl, rfl, _, rfl, ?_⟩
    rw [s_get, strEq]
    refine if2 (fun e => ?_) (fun e => ?_)
    · have e := of_decide_eq_true e
      have l := such_at hs e n_get
      refine ⟨_, rfl, q, _, _, _, rfl, rfl, hw.at_, wat (i := 2) (by omega), big (by simp), fun p hp => ?_⟩
      refine k p _ (same_upd (Same.refl H) hp) hp ?_
      rw [if_pos e, upd_same]
      rfl
    have e := of_decide_eq_false e
    rw [if_neg e] at k
    refine ⟨_, rfl, rfl, _, rfl, ?_⟩
    rw [s_let, strEq]
    refine if2 (fun e => ?_) (fun e => ?_)
    · have e := of_decide_eq_true e
      have l := such_at hs e n_let
      rw [if_pos e] at k
      refine ⟨_, rfl, q, _, _, _, rfl, rfl, hw.at_, wat (i := 2) (by omega), rfl, _, rfl, ?_⟩
      rw [s_nil, strEq]
      refine if2 (fun e2 => ?_) (fun e2 => ?_)
      · have e2 := of_decide_eq_true e2
        refine ⟨big (by simp), fun p hp => ?_⟩
        refine k p _ (same_upd (Same.refl H) hp) hp ?_
        rw [if_pos e2, upd_same]
        rfl
      · have e2 := of_decide_eq_false e2
        refine ⟨_, rfl, q, _, _, _, rfl, rfl, hw.at_, wat (i := 2) (by omega), big (by simp), fun p hp => ?_⟩
        refine k p _ (same_upd (Same.refl H) hp) hp ?_
        rw [if_neg e2, upd_same]
        rfl
    have e := of_decide_eq_false e
    rw [if_neg e] at k
    refine ⟨_, rfl, rfl, _, rfl, ?_⟩
    rw [s_set, strEq]
    refine if2 (fun e => ?_) (fun e => ?_)
    · have e := of_decide_eq_true e
      have l := such_at hs e n_set
      rw [if_pos e] at k
      refine ⟨_, rfl, q, _, _, _, rfl, rfl, hw.at_, wat (i := 3) (by omega), rfl, _, rfl, ?_⟩
      rw [s_nil, strEq]
      refine if2 (fun e2 => ?_) (fun e2 => ?_)
      · have e2 := of_decide_eq_true e2
        refine ⟨_, rfl, q, _, _, _, rfl, rfl, hw.at_, wat (i := 1) (by omega), big (by simp), fun p hp => ?_⟩
        refine k p _ (same_upd (Same.refl H) hp) hp ?_
        rw [if_pos e2, upd_same]
        rfl
      · have e2 := of_decide_eq_false e2
        refine ⟨_, rfl, q, _, _, _, rfl, rfl, hw.at_, wat (i := 1) (by omega), _, rfl, q, _, _, _, rfl, rfl, hw.at_, wat (i := 3) (by omega), big (by simp), fun p hp => ?_⟩
        refine k p _ (same_upd (Same.refl H) hp) hp ?_
        rw [if_neg e2, upd_same]
        rfl
    have e := of_decide_eq_false e
    rw [if_neg e] at k
    refine ⟨big (by simp), fun p hp => ?_⟩
    refine k p _ (same_upd (Same.refl H) hp) hp ?_
    rw [upd_same]
    rfl
end
end Kq
namespace Kq
open PySem PySem.Spec PyProof.Rows L2
open Kp (wd such counts)
open Hx01 (wClass wNew wSet wGet wLet wTimes wEnd wSnap wNil)
/-! == with [] -/
theorem flat_shaped {ds : List PyData} (h : ∀ d ∈ ds, d.canLay0 = true ∧ d.depth = 0) : SeqAt.shaped (.list ds) = true := by
  have h1 : ∀ ds : List PyData, (∀ d ∈ ds, d.canLay0 = true ∧ d.depth = 0) → PyData.canLayAll0 ds = true := by
    intro ds h
    induction ds with
    | nil => rfl
    | cons a l ih =>
      show (a.canLay0 && PyData.canLayAll0 l) = true
      rw [(h a (List.mem_cons_self ..)).1, ih fun d hd => h d (List.mem_cons_of_mem _ hd)]; rfl
  have h2 : ∀ ds : List PyData, (∀ d ∈ ds, d.canLay0 = true ∧ d.depth = 0) → PyData.depthAll ds ≤ 1 := by
    intro ds h
    induction ds with
    | nil => simp [PyData.depthAll]
    | cons a l ih =>
      have := ih fun d hd => h d (List.mem_cons_of_mem _ hd)
      simp only [PyData.depthAll, (h a (List.mem_cons_self ..)).2]
      omega
  unfold SeqAt.shaped
  have e : (PyData.list ds).canLay0 = true := by simp only [PyData.canLay0]; exact h1 ds h
  have e2 : (PyData.list ds).depth ≤ 64 := by
    have := h2 ds h
    simp only [PyData.depth]
    omega
  rw [e, decide_eq_true e2]; rfl
theorem eqv_nil (ds : List PyData) : PyData.eqv (.list ds) (.list []) = decide (ds = []) := by
  cases ds with
  | nil => simp [PyData.eqv, PyData.eqvAll]
  | cons a l => simp [PyData.eqv, PyData.eqvAll]
theorem dp_ints {K : PySem.W.Frag} {H : Hp} : ∀ l : List Int, DpAll K H (l.map V.int) (l.map PyData.int)
  | [] => .nil
  | a :: l => .cons (.int a) (dp_ints l)
theorem dp_strs {K : PySem.W.Frag} {H : Hp} : ∀ l : List (List Nat), DpAll K H (vS l) (l.map fun x => PyData.str (S x))
  | [] => .nil
  | a :: l => .cons (.str _) (dp_strs l)
theorem sh_ints (l : List Int) : SeqAt.shaped (.list (l.map PyData.int)) = true := flat_shaped fun d hd => by
  obtain ⟨i, _, rfl⟩ := List.mem_map.mp hd
  exact ⟨by simp only [PyData.canLay0], by simp only [PyData.depth]⟩
theorem sh_strs {l : List (List Nat)} (h : ∀ x ∈ l, ∀ c ∈ x, c < 128) : SeqAt.shaped (.list (l.map fun x => PyData.str (S x))) = true := flat_shaped fun d hd => by
  obtain ⟨x, hx, rfl⟩ := List.mem_map.mp hd
  refine ⟨?_, by simp only [PyData.depth]⟩
  simp only [PyData.canLay0]
  unfold PyData.strOk
  simp only [S, List.all_toArray, List.all_eq_true, decide_eq_true_eq]
  intro c hc
  have := h x hx c hc
  omega
/-! numbered names -/
def num (l : List (List Nat)) : List (Key × V) := l.zipIdx.map fun x => (Sum.inr (S x.1), V.int (x.2 : Nat))
def eN (l : List (Nat × Nat)) : List (Key × V) := l.map fun x => (Sum.inl ((x.1 : Nat) : Int), V.int (x.2 : Nat))
theorem num_len (l : List (List Nat)) : (num l).length = l.length := by simp [num]
theorem val_num_from (w : List Nat) : ∀ (l : List (List Nat)) (k : Nat), valV ((l.zipIdx k).map fun x => ((Sum.inr (S x.1) : Key), V.int (x.2 : Nat))) (Sum.inr (S w)) = (Hx01.indexOf l w).map fun i => V.int ((i + k : Nat) : Int)
  | [], k => rfl
  | a :: l, k => by
    unfold Hx01.indexOf
    rw [List.findIdx?_cons, List.zipIdx_cons, List.map_cons]
    by_cases e : a = w
    · subst e
      rw [valV_pos rfl]
      simp
    · have h1 : (a == w) = false := by simpa using e
      have h2 : ((Sum.inr (S a) : Key), V.int (k : Nat)).1 ≠ Sum.inr (S w) := by
        intro z
        exact e (S_inj.mp (Sum.inr.inj z))
      have ih := val_num_from w l (k + 1)
      unfold Hx01.indexOf at ih
      rw [h1]
      unfold valV at ih ⊢
      rw [List.find?_cons_of_neg (by simpa using h2), ih]
      simp only [Bool.false_eq_true, if_false, Option.map_map]
      congr 1
      funext i
      show V.int _ = V.int _
      congr 1
      simp only [Function.comp]
      omega
theorem val_num (l : List (List Nat)) (w : List Nat) : valV (num l) (Sum.inr (S w)) = (Hx01.indexOf l w).map fun i => V.int (i : Nat) := val_num_from w l 0
theorem num_has (l : List (List Nat)) (w : List Nat) : (valV (num l) (Sum.inr (S w))).isSome = decide (w ∈ l) := by
  rw [val_num]
  by_cases h : w ∈ l
  · rw [Kp.indexOf_some h]; simp [h]
  · rw [Kp.indexOf_mem.mpr h]; simp [h]
theorem num_get {l : List (List Nat)} {w : List Nat} (h : w ∈ l) : valV (num l) (Sum.inr (S w)) = some (.int (Kp.idx l w : Nat)) := by
  rw [val_num, Kp.indexOf_some h]; rfl
theorem num_put {l : List (List Nat)} {w : List Nat} (h : w ∉ l) : putK (num l) (Sum.inr (S w)) (.int (l.length : Nat)) = num (l ++ [w]) := by
  have hn : ((num l).any fun kv => decide (kv.1 = Sum.inr (S w))) = false := by
    rw [List.any_eq_false]
    intro x hx
    obtain ⟨y, hy, rfl⟩ := List.mem_map.mp hx
    have hm : y.1 ∈ l := by
      obtain ⟨a, b⟩ := y
      exact (List.mem_zipIdx hy).2.2 ▸ List.getElem_mem _
    simp only [decide_eq_true_eq]
    intro z
    exact h (S_inj.mp (Sum.inr.inj z) ▸ hm)
  unfold putK
  rw [hn, if_neg Bool.false_ne_true]
  unfold num
  rw [List.zipIdx_append, List.map_append]
  simp
theorem eN_get {es : List (Nat × Nat)} {b e : Nat} (h : es.lookup b = some e) : valV (eN es) (Sum.inl (b : Int)) = some (.int (e : Nat)) := by
  induction es with
  | nil => cases h
  | cons x es ih =>
    by_cases c : b = x.1
    · rw [List.lookup_cons, show (b == x.1) = true by simpa using c] at h
      cases h
      unfold eN
      rw [List.map_cons, valV_pos (by simp [c])]
    · rw [List.lookup_cons] at h
      have hb : (b == x.1) = false := by simpa using c
      rw [hb] at h
      have := ih h
      unfold eN valV at this ⊢
      rw [List.map_cons, List.find?_cons_of_neg (by simp; intro z; exact c (by omega)), this]
theorem eN_put {es : List (Nat × Nat)} {b e : Nat} (h : b ∉ es.map (fun x => x.1)) : putK (eN es) (Sum.inl (b : Int)) (.int (e : Nat)) = eN (es ++ [(b, e)]) := by
  have hn : ((eN es).any fun kv => decide (kv.1 = Sum.inl (b : Int))) = false := by
    rw [List.any_eq_false]
    intro x hx
    obtain ⟨y, hy, rfl⟩ := List.mem_map.mp hx
    simp only [decide_eq_true_eq]
    intro z
    have z := Sum.inl.inj z
    exact h (List.mem_map.mpr ⟨y, hy, by omega⟩)
  unfold putK
  rw [hn, if_neg Bool.false_ne_true]
  simp [eN]
/-! the program's object -/
structure CA where
  thing : Addr
  heap : Addr
  kind : Addr
  prog : Addr
  run : Addr
  house : Addr
structure PF where
  a : Addr
  dx : Addr
  lr : Addr
  lk : Addr
  dk : Addr
  dv : Addr
  de : Addr
  lu : Addr
def PF.mut (f : PF) : List Addr := [f.lk, f.dk, f.dv, f.de, f.lu]
def prF (f : PF) : List (Str × V) := [("rows", .ref f.lr), ("kinds", .ref f.lk), ("kind_numbers", .ref f.dk), ("variables", .ref f.dv), ("ends", .ref f.de), ("unended", .ref f.lu)]
theorem prF_rows (f : PF) : (prF f).lookup ("rows" : Str) = some (.ref f.lr) := lk_here
theorem prF_kinds (f : PF) : (prF f).lookup ("kinds" : Str) = some (.ref f.lk) := (lk_past (by decide +kernel)).trans lk_here
theorem prF_kn (f : PF) : (prF f).lookup ("kind_numbers" : Str) = some (.ref f.dk) := (lk_past (by decide +kernel)).trans ((lk_past (by decide +kernel)).trans lk_here)
theorem prF_vars (f : PF) : (prF f).lookup ("variables" : Str) = some (.ref f.dv) := (lk_past (by decide +kernel)).trans ((lk_past (by decide +kernel)).trans ((lk_past (by decide +kernel)).trans lk_here))
theorem prF_ends (f : PF) : (prF f).lookup ("ends" : Str) = some (.ref f.de) := (lk_past (by decide +kernel)).trans ((lk_past (by decide +kernel)).trans ((lk_past (by decide +kernel)).trans ((lk_past (by decide +kernel)).trans lk_here)))
theorem prF_un (f : PF) : (prF f).lookup ("unended" : Str) = some (.ref f.lu) := (lk_past (by decide +kernel)).trans ((lk_past (by decide +kernel)).trans ((lk_past (by decide +kernel)).trans ((lk_past (by decide +kernel)).trans ((lk_past (by decide +kernel)).trans lk_here))))
def kdF (b : Nat) (lf : Addr) : List (Str × V) := [("size", .int (b : Nat)), ("fields", .ref lf)]
theorem kdF_size (b : Nat) (lf : Addr) : (kdF b lf).lookup ("size" : Str) = some (.int (b : Nat)) := lk_here
theorem kdF_fields (b : Nat) (lf : Addr) : (kdF b lf).lookup ("fields" : Str) = some (.ref lf) := (lk_past (by decide +kernel)).trans lk_here
def KindsAt (CK : Addr) (H : Hp) (ks : List Addr) (cs : List Hx01.Class) : Prop := ks.length = cs.length ∧ ∀ (i : Nat) (k : Addr) (c : Hx01.Class), ks[i]? = some k → cs[i]? = some c → ∃ dx lf, H k = some (.ins CK dx (kdF c.bytes lf)) ∧ H lf = some (.lst (vS c.fields))
theorem KindsAt.same {CK : Addr} {H H' : Hp} {ks : List Addr} {cs : List Hx01.Class} (h : KindsAt CK H ks cs) (s : Same H H') : KindsAt CK H' ks cs := ⟨h.1, fun i k c h1 h2 => by
  obtain ⟨dx, lf, a, b⟩ := h.2 i k c h1 h2
  exact ⟨dx, lf, s _ _ a, s _ _ b⟩⟩
/-- a program's object as its rows have been read: H0 holds all of it that is never changed -/
structure PrAt (A : CA) (H : Hp) (f : PF) (H0 : Hp) (wss : List (List (List Nat))) (p : Hx01.Program) (ks : List Addr) : Prop where
  same : Same H0 H
  nd : f.mut.Nodup
  free : ∀ x ∈ f.mut, H0 x = none
  obj : H0 f.a = some (.ins A.prog f.dx (prF f))
  rows : RowsAt H0 f.lr wss
  knd : KindsAt A.kind H0 ks p.classes
  lk : H f.lk = some (.lst (ks.map V.ref))
  dk : H f.dk = some (.dK (num (p.classes.map fun x => x.name)))
  dv : H f.dv = some (.dK (num p.vars))
  de : H f.de = some (.dK (eN (Kp.nest p.acts).ends))
  lu : H f.lu = some (.lst ((Kp.nest p.acts).stk.reverse.map fun n => V.int (n : Nat)))
theorem PrAt.go {A : CA} {H H' : Hp} {f : PF} {H0 : Hp} {wss : List (List (List Nat))} {p : Hx01.Program} {ks : List Addr} (h : PrAt A H f H0 wss p ks) (s : Same H H') : PrAt A H' f H0 wss p ks :=
  ⟨h.same.trans s, h.nd, h.free, h.obj, h.rows, h.knd, s _ _ h.lk, s _ _ h.dk, s _ _ h.dv, s _ _ h.de, s _ _ h.lu⟩
end Kq
namespace Kq
open PySem PySem.Spec PyProof.Rows L2
open Kp (wd such counts)
open Hx01 (wClass wNew wSet wGet wLet wTimes wEnd wSnap wNil)
abbrev sKindI : Stmt := inClass (top 76) 0
abbrev sProgI : Stmt := inClass (top 77) 0
abbrev sMis : Stmt := top 80
abbrev sUnt : Stmt := top 82
abbrev sBad : Stmt := top 83
abbrev sMany : Stmt := top 84
abbrev sFault : Stmt := top 85
abbrev sTake : Stmt := top 86
abbrev sRead : Stmt := top 88
structure TxtQ (A : CA) (w : World) (K : PySem.W.Frag) (mg : Str → Option Value) : Prop extends TxtP w K mg where
  any : mg "any" = none
  enumerate_ : mg "enumerate" = none
  cKind : Cl K mg "Kind" "Kind.__init__" A.kind sKindI ["self", "size", "fields"] ["size", "fields"]
  cProg : Cl K mg "Program" "Program.__init__" A.prog sProgI ["self", "rows"] ["rows", "kinds", "kind_numbers", "variables", "ends", "unended"]
  cst0 : ∃ t, mg "NO_FAULT" = some (.int 0 t)
  cst1 : ∃ t, mg "NO_SUCH_ROW" = some (.int 1 t)
  cst2 : ∃ t, mg "NO_NAME" = some (.int 2 t)
  cst3 : ∃ t, mg "NOT_TOLD" = some (.int 3 t)
  cst4 : ∃ t, mg "NOT_NESTED" = some (.int 4 t)
  cst5 : ∃ t, mg "TOO_MANY" = some (.int 5 t)
  cstC : ∃ t, mg "MOST_CLASSES" = some (.int 5 t)
  cstV : ∃ t, mg "MOST_VARIABLES" = some (.int 6 t)
  cstD : ∃ t, mg "DEEPEST" = some (.int 2 t)
  dMis : Dd K mg "is_misnamed" sMis ["program", "words"]
  dUnt : Dd K mg "is_untold" sUnt ["program", "words"]
  dBad : Dd K mg "is_badly_nested" sBad ["program", "words"]
  dMany : Dd K mg "is_one_too_many" sMany ["program", "words"]
  dFault : Dd K mg "fault_of" sFault ["program", "words"]
  dTake : Dd K mg "take_row" sTake ["program", "number", "words"]
  dRead : Dd K mg "read_rows" sRead ["program"]
section
variable {P : Program} {w : World} {K : PySem.W.Frag} {mg : Str → Option Value} {base : Heap} {A : CA}
/-- a def that looks at the program and a row -/
def spLook (A : CA) (K : PySem.W.Frag) (ok : List (List Nat) → Prop) (r : Hx01.Program → List (List Nat) → V) : Sp := fun vs H Q _ =>
  ∃ (f : PF) (H0 : Hp) (wss : List (List (List Nat))) (p : Hx01.Program) (ks : List Addr) (q : Addr) (ws : List (List Nat)), vs = [.ref f.a, .ref q] ∧ PrAt A H f H0 wss p ks ∧ Ws K H q ws ∧ ok ws ∧ ∀ H', Same H H' → Q (r p ws) H'
theorem spLook_len {ok : List (List Nat) → Prop} {r : Hx01.Program → List (List Nat) → V} {vs : List V} {H : Hp} {Q : VK} {E : XK} (h : spLook A K ok r vs H Q E) : vs.length = 2 := by
  obtain ⟨f, H0, wss, p, ks, q, ws, rfl, _⟩ := h
  rfl
/-! is_misnamed -/
theorem scMis : FnScope ["program", "words", "word"] ["program", "words"] (defScope sMis) := ⟨rfl, rfl, rfl, by decide +kernel, rfl, by decide +kernel, by decide +kernel⟩
theorem names_ok {ws : List (List Nat)} (h1 : ∀ x ∈ ws, x.length ≤ 1000) (h2 : ws.length ≤ 1000) : (Kp.names ws).length ≤ 1001 ∧ ∀ x ∈ Kp.names ws, x.length ≤ 1000 := by
  have hw := wd_len h1
  unfold Kp.names
  split
  · refine ⟨by simp; omega, fun x hx => ?_⟩
    rcases List.mem_cons.mp hx with z | z
    · rw [z]; exact hw 1
    · exact h1 x (List.mem_of_mem_drop z)
  split
  · exact ⟨by simp, fun x hx => by rw [List.mem_singleton.mp hx]; exact hw 2⟩
  split
  · refine ⟨by simp, fun x hx => ?_⟩
    simp at hx
    rcases hx with z | z
    · rw [z]; exact hw 1
    · rw [z]; exact hw 3
  split
  · exact ⟨by simp, fun x hx => by rw [List.mem_singleton.mp hx]; exact hw 1⟩
  · exact ⟨by simp, fun x hx => by cases hx⟩
theorem c_mis (T : TxtQ A w K mg) : Cb P w K mg base 2 "is_misnamed" ["program", "words"] (spLook A K (fun ws => such ws = true) fun p ws => .bl (Kp.misnamed p ws)) := by
  refine T.dMis.cb scMis (fun vs H Q E h => spLook_len h) (fun fa cdv Ar outer s H vs Q E hr h => ?_)
  obtain ⟨f, H0, wss, p, ks, q, ws, rfl, hP, hw, hs, k⟩ := h
  refine ⟨_, pss_cons (ps_if (pt_not (pt_val (pe_callB (cr_all rfl) (by rfl) T.all (by decide +kernel) (pa_cons (pe_lc (own := [("word", 2)]) (g := gName 2) rfl scMis.nd (pi_list (pe_cb (c_names T.toTxtP) hr rfl (pa_cons (pv 1) pa_nil)))
        (blkOk_by (own := [("word", 2)]) (N := ["program", "words", "word"]) (sc := defScope sMis) (by decide +kernel)) (fun _ _ _ _ _ => pg_name (i := 2) scMis.nd rfl (Or.inl rfl)) (fun _ _ _ _ _ => pts_nil) (fun _ _ _ _ _ => pe_cb (c_name T.toTxtW) hr rfl (pa_cons (pv 2) pa_nil))) pa_nil))))
        (pss_one (ps_ret pe_bl)) pss_nil)
    (pss_cons (ps_if (pt_cmpR op_ne (pe_ix ix_list (pv 1) pe_int (fun _ _ => rfl)) pe_str (nomark _)) (pss_one (ps_ret pe_bl)) pss_nil)
    (pss_one (ps_ret (pe_or (pe_cmp (pc_din (hu_of hr) (pe_ix ix_list (pv 1) pe_int (fun _ _ => rfl)) (pe_fld (pv 0) rfl)) rfl)
      (pe_one (pe_and (pe_cmpR op_eq (pe_callB call_len_seq (by rfl) T.len PySem.boot_len (pa_cons (pv 1) pa_nil)) pe_int (nomark _)) (pe_one (pe_cmpR op_eq (pe_ix ix_list (pv 1) pe_int (fun _ _ => rfl)) (pe_ix ix_list (pv 1) pe_int (fun _ _ => rfl)) (nomark _))))))))), ?_⟩
  obtain ⟨nl, ne⟩ := names_ok hw.each hw.len
  refine ⟨_, rfl, q, ws, rfl, hw, hs, fun a H1 s1 ha h1 => ?_⟩
  refine ⟨a, rfl, ⟨_, SqL.of h1⟩, fun D hD => ?_⟩
  have naD : a ≠ D := fun z => by rw [z] at h1; rw [h1] at hD; cases hD
  refine lc_it (walk_list (K := K) (a := a) (xs := vS (Kp.names ws))) (fun i H' => Same H1 H' ∧ H' D = some (.lst (((Kp.names ws).take i).map fun x => .bl (Hx01.isName x))))
    ⟨same_upd (Same.refl H1) hD, upd_same⟩ (fun i H' _ h => SqL.of (h.1 _ _ h1)) ?_ ?_
  · rintro i x H' H2 hi ⟨s2, h2⟩ ⟨rfl, hx⟩
    rw [vS_len] at hi
    unfold vS at hx
    rw [List.getElem?_map, List.getElem?_eq_getElem hi] at hx
    cases hx
    refine ⟨rfl, ?_⟩
    refine lcYes ?_
    refine ⟨_, rfl, _, rfl, ne _ (List.getElem_mem hi), fun H3 s3 => ?_⟩
    refine ⟨_, s3 _ _ h2, bigLt (by simp; omega), same_upd (s2.trans s3) hD, ?_⟩
    rw [upd_same, take_snoc hi, List.map_append]
    rfl
  rintro H2 ⟨s2, h2⟩
  rw [vS_len, List.take_length] at h2
  have e1 : ((Kp.names ws).map fun x => V.bl (Hx01.isName x)) = ((Kp.names ws).map Hx01.isName).map V.bl := by simp
  rw [e1] at h2
  have sm := s1.trans s2
  refine ⟨D, _, rfl, SqL.of h2, _, rfl, ?_⟩
  have e2 : ((Kp.names ws).map Hx01.isName).all id = (Kp.names ws).all Hx01.isName := by rw [List.all_map]; rfl
  rw [e2]
  have k : Q (.bl (Kp.misnamed p ws)) H2 := k H2 sm
  unfold Kp.misnamed at k
  have hw2 := hw.same sm
  have hp := hw.pos
  cases ea : (Kp.names ws).all Hx01.isName with
  | false =>
    rw [ea, if_neg Bool.false_ne_true] at k
    refine ifT rfl ?_
    exact k
  | true =>
    rw [ea, if_pos rfl] at k
    refine ifF rfl ?_
    refine ⟨_, rfl, q, _, _, _, rfl, rfl, hw2.at_, wat (i := 0) hp, rfl, _, rfl, ?_⟩
    rw [s_class, strEq]
    by_cases c : wd ws 0 = wClass
    · rw [if_pos c] at k
      have l := such_at hs c n_class
      refine ifF (by rw [decide_eq_true c]; rfl) ?_
      have hP2 := hP.go sm
      refine ⟨_, rfl, q, _, _, _, rfl, rfl, hw2.at_, wat (i := 1) (by omega), _, rfl, f.a, A.prog, f.dx, _, _, rfl, hP2.same _ _ hP2.obj, T.cProg.cl, T.cProg.na _ (by decide +kernel), prF_kn f, f.dk, _, rfl, DGet.k (k := Sum.inr (S (wd ws 1))) hP2.dk, _, rfl, ?_⟩
      rw [num_has]
      by_cases c1 : wd ws 1 ∈ p.classes.map fun x => x.name
      · rw [decide_eq_true c1] at k ⊢
        refine ifT rfl ?_
        exact k
      · rw [decide_eq_false c1, Bool.false_or] at k
        rw [decide_eq_false c1]
        refine ifF rfl ?_
        refine ⟨_, rfl, q, _, rfl, .inl hw2.at_, rfl, _, rfl, ?_⟩
        rw [vS_len]
        by_cases c2 : ws.length = 5
        · rw [decide_eq_true c2, Bool.true_and] at k
          refine ifT (by simp [c2]) ?_
          refine ⟨_, rfl, q, _, _, _, rfl, rfl, hw2.at_, wat (i := 3) (by omega), _, rfl, q, _, _, _, rfl, rfl, hw2.at_, wat (i := 4) (by omega), rfl, ?_⟩
          rw [strEq]
          exact k
        · rw [decide_eq_false c2, Bool.false_and] at k
          refine ifF ?_ ?_
          · rw [decide_eq_false]
            intro z
            have z := V.int.inj z
            exact c2 (by omega)
          · exact k
    · rw [if_neg c] at k
      refine ifT (by rw [decide_eq_false c]; rfl) ?_
      exact k
/-! is_untold -/
theorem scUnt : FnScope ["program", "words", "word"] ["program", "words"] (defScope sUnt) := ⟨rfl, rfl, rfl, by decide +kernel, rfl, by decide +kernel, by decide +kernel⟩
theorem reads_ok (ws : List (List Nat)) : (Kp.reads ws).length ≤ 2 := by
  unfold Kp.reads
  repeat' split
  all_goals simp
theorem c_unt (T : TxtQ A w K mg) : Cb P w K mg base 2 "is_untold" ["program", "words"] (spLook A K (fun ws => such ws = true) fun p ws => .bl (Kp.untold p ws)) := by
  refine T.dUnt.cb scUnt (fun vs H Q E h => spLook_len h) (fun fa cdv Ar outer s H vs Q E hr h => ?_)
  obtain ⟨f, H0, wss, p, ks, q, ws, rfl, hP, hw, hs, k⟩ := h
  refine ⟨_, pss_cons (ps_if (PW.pt (pw_and (pt_cmpR op_eq (pe_ix ix_list (pv 1) pe_int (fun _ _ => rfl)) pe_str (nomark _)) (pw_and1 (pt_cmp (pc_dnotin (hu_of hr) (pe_ix ix_list (pv 1) pe_int (fun _ _ => rfl)) (pe_fld (pv 0) rfl)) rfl)))) (pss_one (ps_ret pe_bl)) pss_nil)
    (pss_one (ps_ret (pe_callB (cr_any rfl) (by rfl) T.any (by decide +kernel) (pa_cons (pe_lc (own := [("word", 2)]) (g := gName 2) (tt := tYes) (te := tDNotIn (tVar 2) (tFld K (tVar 0) "variables")) rfl scUnt.nd (pi_list (pe_cb (c_reads T.toTxtP) hr rfl (pa_cons (pv 1) pa_nil)))
        (blkOk_by (own := [("word", 2)]) (N := ["program", "words", "word"]) (sc := defScope sUnt) (by decide +kernel)) (fun _ _ _ _ _ => pg_name (i := 2) scUnt.nd rfl (Or.inl rfl)) (fun _ _ _ _ _ => pts_nil)
        (fun _ _ _ _ _ => pe_cmp (pc_dnotin (by exact hu_of hr) (pv 2) (pe_fld (pv 0) rfl)) rfl)) pa_nil)))), ?_⟩
  have hp := hw.pos
  have rl := reads_ok ws
  refine ⟨_, rfl, q, _, _, _, rfl, rfl, hw.at_, wat (i := 0) hp, rfl, _, rfl, ?_⟩
  rw [s_new, strEq]
  have rest : ¬ (wd ws 0 = wNew ∧ wd ws 2 ∉ p.classes.map (fun x => x.name)) → tRet (tCB (rAny K) (tCons (tLc (iList K (tCall (spReads K) [] E0 (tCons (tVar 1) tNil))) (gName 2) tYes (tDNotIn (tVar 2) (tFld K (tVar 0) "variables")) [2]) tNil)) { nx := fun _ H' => Q .non H', rt := Q } (L2.start ["program", "words", "word"] [V.ref f.a, V.ref q]) H := by
    intro hc
    refine ⟨_, rfl, q, ws, rfl, hw, hs, fun a H1 s1 ha h1 => ?_⟩
    refine ⟨a, rfl, ⟨_, SqL.of h1⟩, fun D hD => ?_⟩
    have naD : a ≠ D := fun z => by rw [z] at h1; rw [h1] at hD; cases hD
    refine lc_it (walk_list (K := K) (a := a) (xs := vS (Kp.reads ws))) (fun i H' => Same H1 H' ∧ H' D = some (.lst (((Kp.reads ws).take i).map fun x => .bl (decide (x ∉ p.vars)))))
      ⟨same_upd (Same.refl H1) hD, upd_same⟩ (fun i H' _ h => SqL.of (h.1 _ _ h1)) ?_ ?_
    · rintro i x H' H2 hi ⟨s2, h2⟩ ⟨rfl, hx⟩
      rw [vS_len] at hi
      unfold vS at hx
      rw [List.getElem?_map, List.getElem?_eq_getElem hi] at hx
      cases hx
      refine ⟨rfl, ?_⟩
      refine lcYes ?_
      have hP2 := hP.go (s1.trans s2)
      refine ⟨_, rfl, _, rfl, f.a, A.prog, f.dx, _, _, rfl, hP2.same _ _ hP2.obj, T.cProg.cl, T.cProg.na _ (by decide +kernel), prF_vars f, f.dv, _, rfl, DGet.k (k := Sum.inr (S (Kp.reads ws)[i])) hP2.dv, ?_⟩
      rw [num_has]
      refine ⟨_, h2, bigLt (by simp; omega), same_upd s2 hD, ?_⟩
      rw [upd_same, take_snoc hi, List.map_append]
      simp
    · rintro H2 ⟨s2, h2⟩
      rw [vS_len, List.take_length] at h2
      have e1 : ((Kp.reads ws).map fun x => V.bl (decide (x ∉ p.vars))) = ((Kp.reads ws).map fun x => decide (x ∉ p.vars)).map V.bl := by simp
      rw [e1] at h2
      have k : Q (.bl (Kp.untold p ws)) H2 := k H2 (s1.trans s2)
      refine ⟨D, _, rfl, SqL.of h2, ?_⟩
      have e2 : ((Kp.reads ws).map fun x => decide (x ∉ p.vars)).any id = (Kp.reads ws).any fun x => decide (x ∉ p.vars) := by rw [List.any_map]; rfl
      rw [e2]
      unfold Kp.untold at k
      rw [if_neg hc] at k
      exact k
  refine if2 (fun e => ?_) (fun e => ?_)
  · have e := of_decide_eq_true e
    have l := such_at hs e n_new
    refine ⟨_, rfl, q, _, _, _, rfl, rfl, hw.at_, wat (i := 2) (by omega), _, rfl, f.a, A.prog, f.dx, _, _, rfl, hP.same _ _ hP.obj, T.cProg.cl, T.cProg.na _ (by decide +kernel), prF_kn f, f.dk, _, rfl, DGet.k (k := Sum.inr (S (wd ws 2))) hP.dk, _, rfl, ?_⟩
    rw [num_has]
    by_cases c : wd ws 2 ∈ p.classes.map (fun x => x.name)
    · rw [decide_eq_true c]
      refine ifF rfl ?_
      exact rest fun z => z.2 c
    · rw [decide_eq_false c]
      refine ifT rfl ?_
      have k : Q (.bl (Kp.untold p ws)) H := k H (Same.refl H)
      unfold Kp.untold at k
      rw [if_pos ⟨e, c⟩] at k
      exact k
  · have e := of_decide_eq_false e
    refine ifF rfl ?_
    exact rest fun z => e z.1
/-! is_badly_nested -/
theorem scBad : FnScope ["program", "words"] ["program", "words"] (defScope sBad) := ⟨rfl, rfl, rfl, by decide +kernel, rfl, by decide +kernel, by decide +kernel⟩
theorem c_bad (T : TxtQ A w K mg) : Cb P w K mg base 1 "is_badly_nested" ["program", "words"] (spLook A K (fun ws => True) fun p ws => .bl (Kp.badly p ws)) := by
  refine T.dBad.cb scBad (fun vs H Q E h => spLook_len h) (fun fa cdv Ar outer s H vs Q E hr h => ?_)
  obtain ⟨f, H0, wss, p, ks, q, ws, rfl, hP, hw, _, k⟩ := h
  have hu64 : (Ar.deeper (envOfC (Str.ofString "is_badly_nested") (defScope sBad) s.heap.objs.size fa cdv)).units + 64 < cLine := by have := hr.un; omega
  refine ⟨_, pss_cons (ps_if (pt_cmpR op_eq (pe_ix ix_list (pv 1) pe_int (fun _ _ => rfl)) pe_str (nomark _)) (pss_one (ps_ret (pe_cmpR op_eq (pe_callB call_len_seq (by rfl) T.len PySem.boot_len (pa_cons (pe_fld (pv 0) rfl) pa_nil)) (pe_gI T.cstD rfl) (nomark _)))) pss_nil)
    (pss_one (ps_ret (pe_and (pe_cmpR op_eq (pe_ix ix_list (pv 1) pe_int (fun _ _ => rfl)) pe_str (nomark _)) (pe_one (pe_cmpR (op_eqD hu64) (pe_fld (pv 0) rfl) (pe_lst pa_nil) (nomark _)))))), ?_⟩
  have hp := hw.pos
  have k0 : Q (.bl (Kp.badly p ws)) H := k H (Same.refl H)
  unfold Kp.badly at k0
  rw [Kp.openTimes_nest] at k0
  refine ⟨_, rfl, q, _, _, _, rfl, rfl, hw.at_, wat (i := 0) hp, rfl, _, rfl, ?_⟩
  rw [s_times, strEq]
  refine if2 (fun e => ?_) (fun e => ?_)
  · have e := of_decide_eq_true e
    rw [if_pos e] at k0
    refine ⟨_, rfl, f.a, A.prog, f.dx, _, _, rfl, hP.same _ _ hP.obj, T.cProg.cl, T.cProg.na _ (by decide +kernel), prF_un f, f.lu, _, rfl, .inl (SqL.of hP.lu), rfl, ?_⟩
    have : decide (V.int ((((Kp.nest p.acts).stk.reverse.map fun n => V.int (n : Nat)).length : Nat) : Int) = V.int 2) = decide ((Kp.nest p.acts).stk.length = 2) := by
      refine decide_eq_decide.mpr ?_
      rw [List.length_map, List.length_reverse]
      constructor
      · intro z; have z := V.int.inj z; omega
      · intro z; rw [z]; rfl
    rw [this]
    exact k0
  · have e := of_decide_eq_false e
    rw [if_neg e] at k0
    refine ⟨_, rfl, q, _, _, _, rfl, rfl, hw.at_, wat (i := 0) hp, rfl, _, rfl, ?_⟩
    rw [s_end, strEq]
    by_cases c : wd ws 0 = wEnd
    · rw [decide_eq_true c]
      refine ifT rfl ?_
      refine ⟨_, rfl, f.a, A.prog, f.dx, _, _, rfl, hP.same _ _ hP.obj, T.cProg.cl, T.cProg.na _ (by decide +kernel), prF_un f, big (by simp), fun x hx => ?_⟩
      have hx0 : Same H (upd H x (.lst [])) := same_upd (Same.refl H) hx
      have hl := hx0 _ _ hP.lu
      have e2 : ((Kp.nest p.acts).stk.reverse.map fun n => V.int (n : Nat)) = ((Kp.nest p.acts).stk.reverse.map fun n : Nat => (n : Int)).map V.int := by simp
      rw [e2] at hl
      refine ⟨_, _, .lst (SqL.of hl) (dp_ints _), .lst (SqL.of upd_same) .nil, sh_ints _, flat_shaped (fun d hd => by cases hd), ?_⟩
      rw [eqv_nil]
      have k1 : Q (.bl (Kp.badly p ws)) _ := k _ hx0
      unfold Kp.badly at k1
      rw [Kp.openTimes_nest, if_neg e, decide_eq_true c, Bool.true_and] at k1
      have : decide ((((Kp.nest p.acts).stk.reverse.map fun n : Nat => (n : Int)).map PyData.int) = []) = decide ((Kp.nest p.acts).stk.length = 0) := by
        refine decide_eq_decide.mpr ?_
        simp
      rw [this]
      exact k1
    · rw [decide_eq_false c, Bool.false_and] at k0
      rw [decide_eq_false c]
      refine ifF rfl ?_
      exact k0
/-! is_one_too_many -/
theorem scMany : FnScope ["program", "words"] ["program", "words"] (defScope sMany) := ⟨rfl, rfl, rfl, by decide +kernel, rfl, by decide +kernel, by decide +kernel⟩
theorem intEq {a b : Nat} : decide (V.int (a : Int) = V.int (b : Int)) = decide (a = b) := decide_eq_decide.mpr ⟨fun z => by have z := V.int.inj z; omega, fun z => by rw [z]⟩
theorem c_many (T : TxtQ A w K mg) : Cb P w K mg base 1 "is_one_too_many" ["program", "words"] (spLook A K (fun ws => such ws = true) fun p ws => .bl (Kp.tooMany p ws)) := by
  obtain ⟨d, hd, ht⟩ := T.getting
  refine T.dMany.cb scMany (fun vs H Q E h => spLook_len h) (fun fa cdv Ar outer s H vs Q E hr h => ?_)
  obtain ⟨f, H0, wss, p, ks, q, ws, rfl, hP, hw, hs, k⟩ := h
  refine ⟨_, pss_cons (ps_if (pt_cmpR op_eq (pe_ix ix_list (pv 1) pe_int (fun _ _ => rfl)) pe_str (nomark _)) (pss_one (ps_ret (pe_cmpR op_eq (pe_callB call_len_seq (by rfl) T.len PySem.boot_len (pa_cons (pe_fld (pv 0) rfl) pa_nil)) (pe_gI T.cstC rfl) (nomark _)))) pss_nil)
    (pss_cons (ps_if (PW.pt (pw_and (pt_cmpR op_in_seq (pe_ix ix_list (pv 1) pe_int (fun _ _ => rfl)) (pe_glob (v := .ref d) rfl hd rfl) rfl) (pw_and1 (pt_cmp (pc_dnotin (hu_of hr) (pe_ix ix_list (pv 1) pe_int (fun _ _ => rfl)) (pe_fld (pv 0) rfl)) rfl))))
      (pss_one (ps_ret (pe_cmpR op_eq (pe_callB call_lenD (by rfl) T.len PySem.boot_len (pa_cons (pe_fld (pv 0) rfl) pa_nil)) (pe_gI T.cstV rfl) (nomark _)))) pss_nil)
    (pss_one (ps_ret pe_bl))), ?_⟩
  have hp := hw.pos
  have k0 : Q (.bl (Kp.tooMany p ws)) H := k H (Same.refl H)
  unfold Kp.tooMany at k0
  refine ⟨_, rfl, q, _, _, _, rfl, rfl, hw.at_, wat (i := 0) hp, rfl, _, rfl, ?_⟩
  rw [s_class, strEq]
  refine if2 (fun e => ?_) (fun e => ?_)
  · have e := of_decide_eq_true e
    rw [if_pos e] at k0
    refine ⟨_, rfl, f.a, A.prog, f.dx, _, _, rfl, hP.same _ _ hP.obj, T.cProg.cl, T.cProg.na _ (by decide +kernel), prF_kinds f, f.lk, _, rfl, .inl (SqL.of hP.lk), rfl, ?_⟩
    rw [List.length_map, hP.knd.1, show (5 : Int) = ((5 : Nat) : Int) from rfl, intEq]
    exact k0
  · have e := of_decide_eq_false e
    rw [if_neg e] at k0
    refine ⟨_, rfl, q, _, _, _, rfl, rfl, hw.at_, wat (i := 0) hp, d, _, rfl, .inr (ht H), rfl, rfl, _, rfl, ?_⟩
    show if (if false = true then _ else inV (.str (S (wd ws 0))) [.str (S wNew), .str (S wGet), .str (S wLet)]) = true then _ else _
    rw [if_neg Bool.false_ne_true, in_getting]
    by_cases c : Kp.Getting (wd ws 0)
    · rw [decide_eq_true c]
      refine ifT rfl ?_
      have l : 1 < ws.length := by
        rcases c with z | z | z
        · have := such_at hs z n_new; omega
        · have := such_at hs z n_get; omega
        · have := such_at hs z n_let; omega
      refine ⟨_, rfl, q, _, _, _, rfl, rfl, hw.at_, wat (i := 1) l, _, rfl, f.a, A.prog, f.dx, _, _, rfl, hP.same _ _ hP.obj, T.cProg.cl, T.cProg.na _ (by decide +kernel), prF_vars f, f.dv, _, rfl, DGet.k (k := Sum.inr (S (wd ws 1))) hP.dv, _, rfl, ?_⟩
      rw [num_has]
      by_cases c2 : wd ws 1 ∈ p.vars
      · rw [if_neg (fun z => z.2 c2)] at k0
        rw [decide_eq_true c2]
        refine ifF rfl ?_
        exact k0
      · rw [if_pos ⟨c, c2⟩] at k0
        rw [decide_eq_false c2]
        refine ifT rfl ?_
        refine ⟨_, rfl, f.a, A.prog, f.dx, _, _, rfl, hP.same _ _ hP.obj, T.cProg.cl, T.cProg.na _ (by decide +kernel), prF_vars f, f.dv, _, rfl, hP.dv, rfl, ?_⟩
        rw [num_len, show (6 : Int) = ((6 : Nat) : Int) from rfl, intEq]
        exact k0
    · rw [if_neg (fun z => c z.1)] at k0
      rw [decide_eq_false c]
      refine ifF rfl ?_
      exact k0
/-! fault_of -/
theorem scFault : FnScope ["program", "words"] ["program", "words"] (defScope sFault) := ⟨rfl, rfl, rfl, by decide +kernel, rfl, by decide +kernel, by decide +kernel⟩
theorem c_fault (T : TxtQ A w K mg) : Cb P w K mg base 3 "fault_of" ["program", "words"] (spLook A K (fun ws => True) fun p ws => .int (Kp.faultOf p ws : Nat)) := by
  refine T.dFault.cb scFault (fun vs H Q E h => spLook_len h) (fun fa cdv Ar outer s H vs Q E hr h => ?_)
  obtain ⟨f, H0, wss, p, ks, q, ws, rfl, hP, hw, _, k⟩ := h
  have hr1 : Room 1 _ := hr.mono (by decide)
  refine ⟨_, pss_cons (ps_if (pt_not (pt_val (pe_cb (c_such T.toTxtP) hr rfl (pa_cons (pv 1) pa_nil)))) (pss_one (ps_ret (pe_gI T.cst1 rfl))) pss_nil)
    (pss_cons (ps_if (pt_val (pe_cb (c_mis T) hr rfl (pa_cons (pv 0) (pa_cons (pv 1) pa_nil)))) (pss_one (ps_ret (pe_gI T.cst2 rfl))) pss_nil)
    (pss_cons (ps_if (pt_val (pe_cb (c_unt T) hr rfl (pa_cons (pv 0) (pa_cons (pv 1) pa_nil)))) (pss_one (ps_ret (pe_gI T.cst3 rfl))) pss_nil)
    (pss_cons (ps_if (pt_val (pe_cb (c_bad T) hr1 rfl (pa_cons (pv 0) (pa_cons (pv 1) pa_nil)))) (pss_one (ps_ret (pe_gI T.cst4 rfl))) pss_nil)
    (pss_cons (ps_if (pt_val (pe_cb (c_many T) hr1 rfl (pa_cons (pv 0) (pa_cons (pv 1) pa_nil)))) (pss_one (ps_ret (pe_gI T.cst5 rfl))) pss_nil)
    (pss_one (ps_ret (pe_gI T.cst0 rfl))))))), ?_⟩
  have k : ∀ H', Same H H' → Q (.int (Kp.faultOf p ws : Nat)) H' := k
  unfold Kp.faultOf at k
  refine ⟨_, rfl, q, ws, rfl, hw, fun H1 s1 => ⟨_, rfl, ?_⟩⟩
  cases e1 : such ws with
  | false =>
    refine ifT rfl ?_
    have := k H1 s1
    rw [e1] at this
    exact this
  | true =>
  refine ifF rfl ?_
  refine ⟨_, rfl, _, rfl, f, H0, wss, p, ks, q, ws, rfl, hP.go s1, hw.same s1, e1, fun H2 s2 => ⟨_, rfl, ?_⟩⟩
  have s2 := s1.trans s2
  rw [e1] at k
  cases e2 : Kp.misnamed p ws with
  | true =>
    refine ifT rfl ?_
    have := k H2 s2
    rw [e2] at this
    exact this
  | false =>
  refine ifF rfl ?_
  refine ⟨_, rfl, _, rfl, f, H0, wss, p, ks, q, ws, rfl, hP.go s2, hw.same s2, e1, fun H3 s3 => ⟨_, rfl, ?_⟩⟩
  have s3 := s2.trans s3
  rw [e2] at k
  cases e3 : Kp.untold p ws with
  | true =>
    refine ifT rfl ?_
    have := k H3 s3
    rw [e3] at this
    exact this
  | false =>
  refine ifF rfl ?_
  refine ⟨_, rfl, _, rfl, f, H0, wss, p, ks, q, ws, rfl, hP.go s3, hw.same s3, trivial, fun H4 s4 => ⟨_, rfl, ?_⟩⟩
  have s4 := s3.trans s4
  rw [e3] at k
  cases e4 : Kp.badly p ws with
  | true =>
    refine ifT rfl ?_
    have := k H4 s4
    rw [e4] at this
    exact this
  | false =>
  refine ifF rfl ?_
  refine ⟨_, rfl, _, rfl, f, H0, wss, p, ks, q, ws, rfl, hP.go s4, hw.same s4, e1, fun H5 s5 => ⟨_, rfl, ?_⟩⟩
  have s5 := s4.trans s5
  rw [e4] at k
  have := k H5 s5
  cases e5 : Kp.tooMany p ws with
  | true =>
    refine ifT rfl ?_
    rw [e5] at this
    exact this
  | false =>
    refine ifF rfl ?_
    rw [e5] at this
    exact this
end
end Kq
namespace Kq
open PySem PySem.Spec PyProof.Rows L2
open Kp (wd such counts)
open Hx01 (wClass wNew wSet wGet wLet wTimes wEnd wSnap wNil)
theorem putF_new {f : Str} {v : V} : ∀ {fs : List (Str × V)}, f ∉ fs.map Prod.fst → putF f v fs = fs ++ [(f, v)]
  | [], _ => rfl
  | x :: fs, h => by
    have h1 : ¬ x.1 = f := fun z => h (by rw [← z]; exact List.mem_cons_self ..)
    show (if x.1 = f then (x.1, v) :: fs else x :: putF f v fs) = _
    rw [if_neg h1, putF_new fun z => h (List.mem_cons_of_mem _ z)]
    rfl
theorem plen {f : Str} {v : V} {n : Nat} : ∀ {fs : List (Str × V)}, fs.length ≤ n → (putF f v fs).length ≤ n + 1
  | [], _ => by show 1 ≤ n + 1; omega
  | x :: fs, h => by
    show (if x.1 = f then (x.1, v) :: fs else x :: putF f v fs).length ≤ n + 1
    by_cases c : x.1 = f
    · rw [if_pos c]; simp at h ⊢; omega
    · rw [if_neg c]
      have : fs.length ≤ n - 1 := by simp at h; omega
      have := plen (f := f) (v := v) this
      simp at h ⊢; omega
theorem plt {f : List (Str × V)} {n : Nat} (h : f.length ≤ n) (hn : n < 1000) : f.length < 1000 := Nat.lt_of_le_of_lt h hn
/-- all but m is as it was -/
def Frame (m : List Addr) (H H' : Hp) : Prop := ∀ b o, H b = some o → b ∉ m → H' b = some o
theorem Frame.of {m : List Addr} {H H' : Hp} (s : Same H H') : Frame m H H' := fun b o e _ => s b o e
theorem Frame.trans {m : List Addr} {H H' H'' : Hp} (a : Frame m H H') (b : Frame m H' H'') : Frame m H H'' := fun c o e n => b c o (a c o e n) n
theorem Frame.upd {m : List Addr} {H H' : Hp} {x : Addr} {o : HO} (a : Frame m H H') (h : x ∈ m) : Frame m H (upd H' x o) := fun c y e n => by
  rw [upd_ne (fun z => n (by rw [z]; exact h))]
  exact a c y e n
section
variable {P : Program} {w : World} {K : PySem.W.Frag} {mg : Str → Option Value} {base : Heap} {A : CA}
/-! Kind(size, fields) -/
def spKindI (A : CA) : Sp := fun vs H Q _ => ∃ (p dx lf : Addr) (n : Nat), vs = [.ref p, .int n, .ref lf] ∧ H p = some (.ins A.kind dx []) ∧ ∀ H' : Hp, H' p = some (.ins A.kind dx (kdF n lf)) → (∀ b, b ≠ p → H' b = H b) → Q .non H'
theorem scKindI : FnScope ["self", "size", "fields"] ["self", "size", "fields"] (defScope sKindI) := ⟨rfl, rfl, rfl, by decide +kernel, rfl, by decide +kernel, by decide +kernel⟩
theorem c_kind (T : TxtQ A w K mg) : Cm P w K mg base 1 "Kind" A.kind ["self", "size", "fields"] (spKindI A) := by
  refine T.cKind.cm scKindI (fun vs H Q E h => ?_) (fun fa cdv Ar outer s H vs Q E hr h => ?_)
  · obtain ⟨p, dx, lf, n, rfl, _⟩ := h
    rfl
  obtain ⟨p, dx, lf, n, rfl, hp, k⟩ := h
  refine ⟨_, pss_cons (ps_fld (pv 0) (pv 1) rfl) (pss_one (ps_fld (pv 0) (pv 2) rfl)), ?_⟩
  refine ⟨_, rfl, _, rfl, p, A.kind, dx, _, rfl, hp, T.cKind.cl, T.cKind.na _ (by decide +kernel), (by show 0 < 1000; decide), ?_⟩
  refine ⟨_, rfl, _, rfl, p, A.kind, dx, _, rfl, upd_same, T.cKind.cl, T.cKind.na _ (by decide +kernel), (by show 1 < 1000; decide), ?_⟩
  refine k _ (upd_same.trans (congrArg (fun q => some (HO.ins A.kind dx q)) ?_)) fun b hb => by rw [upd_ne hb, upd_ne hb]
  exact (put_past (by decide +kernel)).trans rfl
/-! Program(rows) -/
def spProgI (A : CA) : Sp := fun vs H Q _ => ∃ (p dx lr : Addr), vs = [.ref p, .ref lr] ∧ H p = some (.ins A.prog dx []) ∧
  ∀ (f : PF) (H' : Hp), f.a = p → f.dx = dx → f.lr = lr → f.mut.Nodup → (∀ x ∈ f.mut, H x = none) → H' p = some (.ins A.prog dx (prF f)) → H' f.lk = some (.lst []) → H' f.dk = some (.dK []) → H' f.dv = some (.dK []) → H' f.de = some (.dK []) → H' f.lu = some (.lst []) →
    (∀ b o, H b = some o → b ≠ p → H' b = some o) → Q .non H'
theorem scProgI : FnScope ["self", "rows"] ["self", "rows"] (defScope sProgI) := ⟨rfl, rfl, rfl, by decide +kernel, rfl, by decide +kernel, by decide +kernel⟩
theorem c_prog (T : TxtQ A w K mg) : Cm P w K mg base 1 "Program" A.prog ["self", "rows"] (spProgI A) := by
  refine T.cProg.cm scProgI (fun vs H Q E h => ?_) (fun fa cdv Ar outer s H vs Q E hr h => ?_)
  · obtain ⟨p, dx, lr, rfl, _⟩ := h
    rfl
  obtain ⟨p, dx, lr, rfl, hp, k⟩ := h
  refine ⟨_, pss_cons (ps_fld (pv 0) (pv 1) rfl) (pss_cons (ps_fld (pv 0) (pe_lst pa_nil) rfl) (pss_cons (ps_fld (pv 0) pe_dnewK rfl) (pss_cons (ps_fld (pv 0) pe_dnewK rfl) (pss_cons (ps_fld (pv 0) pe_dnewK rfl) (pss_one (ps_fld (pv 0) (pe_lst pa_nil) rfl)))))), ?_⟩
  have cl := T.cProg.cl
  refine ⟨_, rfl, _, rfl, p, A.prog, dx, _, rfl, hp, cl, T.cProg.na _ (by decide +kernel), (by show 0 < 1000; decide), ?_⟩
  refine ⟨big (by simp), fun lk hlk => ?_⟩
  have n1 : p ≠ lk := fun z => by rw [z, upd_same] at hlk; cases hlk
  have h1 : H lk = none := by rw [upd_ne n1.symm] at hlk; exact hlk
  refine ⟨_, rfl, p, A.prog, dx, _, rfl, (upd_ne n1).trans upd_same, cl, T.cProg.na _ (by decide +kernel), (by show 1 < 1000; decide), ?_⟩
  intro dk hdk
  have n2 : p ≠ dk := fun z => by rw [z, upd_same] at hdk; cases hdk
  have n21 : lk ≠ dk := fun z => by rw [upd_ne n2.symm, z, upd_same] at hdk; cases hdk
  have h2 : H dk = none := by rw [upd_ne n2.symm, upd_ne n21.symm, upd_ne n2.symm] at hdk; exact hdk
  refine ⟨_, rfl, p, A.prog, dx, _, rfl, (upd_ne n2).trans upd_same, cl, T.cProg.na _ (by decide +kernel), plt (plen (plen (n := 0) (Nat.le_refl _))) (by decide), ?_⟩
  intro dv hdv
  have n3 : p ≠ dv := fun z => by rw [z, upd_same] at hdv; cases hdv
  have n32 : dk ≠ dv := fun z => by rw [upd_ne n3.symm, z, upd_same] at hdv; cases hdv
  have n31 : lk ≠ dv := fun z => by rw [upd_ne n3.symm, upd_ne n32.symm, upd_ne n3.symm, z, upd_same] at hdv; cases hdv
  have h3 : H dv = none := by rw [upd_ne n3.symm, upd_ne n32.symm, upd_ne n3.symm, upd_ne n31.symm, upd_ne n3.symm] at hdv; exact hdv
  refine ⟨_, rfl, p, A.prog, dx, _, rfl, (upd_ne n3).trans upd_same, cl, T.cProg.na _ (by decide +kernel), plt (plen (plen (plen (n := 0) (Nat.le_refl _)))) (by decide), ?_⟩
  intro de hde
  have n4 : p ≠ de := fun z => by rw [z, upd_same] at hde; cases hde
  have n43 : dv ≠ de := fun z => by rw [upd_ne n4.symm, z, upd_same] at hde; cases hde
  have n42 : dk ≠ de := fun z => by rw [upd_ne n4.symm, upd_ne n43.symm, upd_ne n4.symm, z, upd_same] at hde; cases hde
  have n41 : lk ≠ de := fun z => by rw [upd_ne n4.symm, upd_ne n43.symm, upd_ne n4.symm, upd_ne n42.symm, upd_ne n4.symm, z, upd_same] at hde; cases hde
  have h4 : H de = none := by rw [upd_ne n4.symm, upd_ne n43.symm, upd_ne n4.symm, upd_ne n42.symm, upd_ne n4.symm, upd_ne n41.symm, upd_ne n4.symm] at hde; exact hde
  refine ⟨_, rfl, p, A.prog, dx, _, rfl, (upd_ne n4).trans upd_same, cl, T.cProg.na _ (by decide +kernel), plt (plen (plen (plen (plen (n := 0) (Nat.le_refl _))))) (by decide), ?_⟩
  refine ⟨big (by simp), fun lu hlu => ?_⟩
  have n5 : p ≠ lu := fun z => by rw [z, upd_same] at hlu; cases hlu
  have n54 : de ≠ lu := fun z => by rw [upd_ne n5.symm, z, upd_same] at hlu; cases hlu
  have n53 : dv ≠ lu := fun z => by rw [upd_ne n5.symm, upd_ne n54.symm, upd_ne n5.symm, z, upd_same] at hlu; cases hlu
  have n52 : dk ≠ lu := fun z => by rw [upd_ne n5.symm, upd_ne n54.symm, upd_ne n5.symm, upd_ne n53.symm, upd_ne n5.symm, z, upd_same] at hlu; cases hlu
  have n51 : lk ≠ lu := fun z => by rw [upd_ne n5.symm, upd_ne n54.symm, upd_ne n5.symm, upd_ne n53.symm, upd_ne n5.symm, upd_ne n52.symm, upd_ne n5.symm, z, upd_same] at hlu; cases hlu
  have h5 : H lu = none := by rw [upd_ne n5.symm, upd_ne n54.symm, upd_ne n5.symm, upd_ne n53.symm, upd_ne n5.symm, upd_ne n52.symm, upd_ne n5.symm, upd_ne n51.symm, upd_ne n5.symm] at hlu; exact hlu
  refine ⟨_, rfl, p, A.prog, dx, _, rfl, (upd_ne n5).trans upd_same, cl, T.cProg.na _ (by decide +kernel), plt (plen (plen (plen (plen (plen (n := 0) (Nat.le_refl _)))))) (by decide), ?_⟩
  have e1 : putF ("rows" : Str) (V.ref lr) [] = ([("rows", V.ref lr)] : List (Str × V)) := rfl
  have e2 : putF ("kinds" : Str) (V.ref lk) ([("rows", V.ref lr)] : List (Str × V)) = ([("rows", V.ref lr), ("kinds", V.ref lk)] : List (Str × V)) := putF_new (fs := ([("rows", V.ref lr)] : List (Str × V))) (show ("kinds" : Str) ∉ [("rows" : Str)] by decide +kernel)
  have e3 : putF ("kind_numbers" : Str) (V.ref dk) ([("rows", V.ref lr), ("kinds", V.ref lk)] : List (Str × V)) = ([("rows", V.ref lr), ("kinds", V.ref lk), ("kind_numbers", V.ref dk)] : List (Str × V)) := putF_new (fs := ([("rows", V.ref lr), ("kinds", V.ref lk)] : List (Str × V))) (show ("kind_numbers" : Str) ∉ [("rows" : Str), "kinds"] by decide +kernel)
  have e4 : putF ("variables" : Str) (V.ref dv) ([("rows", V.ref lr), ("kinds", V.ref lk), ("kind_numbers", V.ref dk)] : List (Str × V)) = ([("rows", V.ref lr), ("kinds", V.ref lk), ("kind_numbers", V.ref dk), ("variables", V.ref dv)] : List (Str × V)) := putF_new (fs := ([("rows", V.ref lr), ("kinds", V.ref lk), ("kind_numbers", V.ref dk)] : List (Str × V))) (show ("variables" : Str) ∉ [("rows" : Str), "kinds", "kind_numbers"] by decide +kernel)
  have e5 : putF ("ends" : Str) (V.ref de) ([("rows", V.ref lr), ("kinds", V.ref lk), ("kind_numbers", V.ref dk), ("variables", V.ref dv)] : List (Str × V)) = ([("rows", V.ref lr), ("kinds", V.ref lk), ("kind_numbers", V.ref dk), ("variables", V.ref dv), ("ends", V.ref de)] : List (Str × V)) := putF_new (fs := ([("rows", V.ref lr), ("kinds", V.ref lk), ("kind_numbers", V.ref dk), ("variables", V.ref dv)] : List (Str × V))) (show ("ends" : Str) ∉ [("rows" : Str), "kinds", "kind_numbers", "variables"] by decide +kernel)
  have e6 : putF ("unended" : Str) (V.ref lu) ([("rows", V.ref lr), ("kinds", V.ref lk), ("kind_numbers", V.ref dk), ("variables", V.ref dv), ("ends", V.ref de)] : List (Str × V)) = prF ⟨p, dx, lr, lk, dk, dv, de, lu⟩ := putF_new (fs := ([("rows", V.ref lr), ("kinds", V.ref lk), ("kind_numbers", V.ref dk), ("variables", V.ref dv), ("ends", V.ref de)] : List (Str × V))) (show ("unended" : Str) ∉ [("rows" : Str), "kinds", "kind_numbers", "variables", "ends"] by decide +kernel)
  rw [e1, e2, e3, e4, e5, e6]
  refine k ⟨p, dx, lr, lk, dk, dv, de, lu⟩ _ rfl rfl rfl ?_ ?_ upd_same ?_ ?_ ?_ ?_ ?_ ?_
  · show [lk, dk, dv, de, lu].Nodup
    simp [n21, n31, n41, n51, n32, n42, n52, n43, n53, n54]
  · intro x hx
    simp only [PF.mut, List.mem_cons, List.mem_nil_iff, or_false] at hx
    rcases hx with z | z | z | z | z <;> rw [z] <;> assumption
  · show upd _ _ _ lk = _
    rw [upd_ne n1.symm, upd_ne n51, upd_ne n1.symm, upd_ne n41, upd_ne n1.symm, upd_ne n31, upd_ne n1.symm, upd_ne n21, upd_ne n1.symm, upd_same]
  · show upd _ _ _ dk = _
    rw [upd_ne n2.symm, upd_ne n52, upd_ne n2.symm, upd_ne n42, upd_ne n2.symm, upd_ne n32, upd_ne n2.symm, upd_same]
  · show upd _ _ _ dv = _
    rw [upd_ne n3.symm, upd_ne n53, upd_ne n3.symm, upd_ne n43, upd_ne n3.symm, upd_same]
  · show upd _ _ _ de = _
    rw [upd_ne n4.symm, upd_ne n54, upd_ne n4.symm, upd_same]
  · show upd _ _ _ lu = _
    rw [upd_ne n5.symm, upd_same]
  · intro b o hb nb
    have q1 := ne_of_none hb h1
    have q2 := ne_of_none hb h2
    have q3 := ne_of_none hb h3
    have q4 := ne_of_none hb h4
    have q5 := ne_of_none hb h5
    rw [upd_ne nb, upd_ne q5, upd_ne nb, upd_ne q4, upd_ne nb, upd_ne q3, upd_ne nb, upd_ne q2, upd_ne nb, upd_ne q1, upd_ne nb]
    exact hb
end
end Kq
namespace Kq
open PySem PySem.Spec PyProof.Rows L2
open Kp (wd such counts)
open Hx01 (wClass wNew wSet wGet wLet wTimes wEnd wSnap wNil)
theorem PF.ne {f : PF} (h : f.mut.Nodup) : (f.lk ≠ f.dk ∧ f.lk ≠ f.dv ∧ f.lk ≠ f.de ∧ f.lk ≠ f.lu) ∧ (f.dk ≠ f.dv ∧ f.dk ≠ f.de ∧ f.dk ≠ f.lu) ∧ (f.dv ≠ f.de ∧ f.dv ≠ f.lu) ∧ f.de ≠ f.lu := by
  unfold PF.mut at h
  simp only [List.nodup_cons, List.mem_cons, List.mem_nil_iff, or_false, not_or, List.nodup_nil, and_true] at h
  exact ⟨h.1, h.2.1, h.2.2.1, h.2.2.2.1⟩
theorem nest_plain {l : List Hx01.Act} {a : Hx01.Act} (h1 : ∀ k, a ≠ .times k) (h2 : a ≠ .end_) : (Kp.nest (l ++ [a])).stk = (Kp.nest l).stk ∧ (Kp.nest (l ++ [a])).ends = (Kp.nest l).ends := by
  rw [Kp.nest_snoc]
  unfold Kp.nestStep
  cases a <;> first | exact ⟨rfl, rfl⟩ | exact absurd rfl (h1 _) | exact absurd rfl h2
theorem ends_len (l : List Hx01.Act) : (Kp.nest l).ends.length ≤ l.length := by
  have h : ∀ (l : List Hx01.Act) (s : Kp.Nest), (l.foldl Kp.nestStep s).ends.length ≤ s.ends.length + l.length := by
    intro l
    induction l with
    | nil => intro s; simp
    | cons a l ih =>
      intro s
      rw [List.foldl_cons]
      have h1 := ih (Kp.nestStep s a)
      have h2 : (Kp.nestStep s a).ends.length ≤ s.ends.length + 1 := by
        unfold Kp.nestStep
        cases a with
        | end_ => cases s.stk <;> simp
        | _ => simp
      rw [List.length_cons]
      omega
  have := h l ⟨0, [], []⟩
  unfold Kp.nest
  simpa using this
theorem PrAt.to {A : CA} {H : Hp} {f : PF} {H0 : Hp} {wss : List (List (List Nat))} {p q : Hx01.Program} {ks : List Addr} (h : PrAt A H f H0 wss p ks) (e1 : q.classes = p.classes) (e2 : q.vars = p.vars) (e3 : (Kp.nest q.acts).stk = (Kp.nest p.acts).stk) (e4 : (Kp.nest q.acts).ends = (Kp.nest p.acts).ends) : PrAt A H f H0 wss q ks :=
  ⟨h.same, h.nd, h.free, h.obj, h.rows, e1 ▸ h.knd, h.lk, e1 ▸ h.dk, e2 ▸ h.dv, e4 ▸ h.de, e3 ▸ h.lu⟩
theorem act_class {p : Hx01.Program} {ws : List (List Nat)} (h : wd ws 0 = wClass) : Kp.actOf p ws = .nothing := by
  unfold Kp.actOf
  rw [h, if_neg (by decide), if_neg (by decide), if_neg (by decide), if_neg (by decide), if_neg (by decide), if_neg (by decide), if_neg (by decide)]
theorem act_times {p : Hx01.Program} {ws : List (List Nat)} (h : wd ws 0 = wTimes) : ∃ k, Kp.actOf p ws = .times k := by
  unfold Kp.actOf
  rw [h, if_neg (by decide), if_neg (by decide), if_neg (by decide), if_neg (by decide), if_pos rfl]
  exact ⟨_, rfl⟩
theorem act_end {p : Hx01.Program} {ws : List (List Nat)} (h : wd ws 0 = wEnd) : Kp.actOf p ws = .end_ := by
  unfold Kp.actOf
  rw [h, if_neg (by decide), if_neg (by decide), if_neg (by decide), if_neg (by decide), if_neg (by decide), if_pos rfl]
theorem act_plain {p : Hx01.Program} {ws : List (List Nat)} (h1 : wd ws 0 ≠ wTimes) (h2 : wd ws 0 ≠ wEnd) : (∀ k, Kp.actOf p ws ≠ .times k) ∧ Kp.actOf p ws ≠ .end_ :=
  ⟨fun k z => h1 (Kp.actOf_times z), fun z => h2 (Kp.actOf_end z)⟩
theorem told_same {p : Hx01.Program} {ws : List (List Nat)} (h1 : wd ws 0 ≠ wClass) (h2 : ¬ (Kp.Getting (wd ws 0) ∧ wd ws 1 ∉ p.vars)) : Kp.told p ws = p := by
  unfold Kp.told
  rw [if_neg h1, if_neg h2]
theorem told_var {p : Hx01.Program} {ws : List (List Nat)} (h1 : wd ws 0 ≠ wClass) (h2 : Kp.Getting (wd ws 0) ∧ wd ws 1 ∉ p.vars) : Kp.told p ws = { p with vars := p.vars ++ [wd ws 1] } := by
  unfold Kp.told
  rw [if_neg h1, if_pos h2]
section
variable {P : Program} {w : World} {K : PySem.W.Frag} {mg : Str → Option Value} {base : Heap} {A : CA}
/-! take_row -/
def spTake (A : CA) (K : PySem.W.Frag) : Sp := fun vs H Q _ => ∃ (f : PF) (H0 : Hp) (wss : List (List (List Nat))) (p : Hx01.Program) (ks : List Addr) (q : Addr) (ws : List (List Nat)),
  vs = [.ref f.a, .int (p.acts.length : Nat), .ref q] ∧ PrAt A H f H0 wss p ks ∧ Ws K H q ws ∧ p.acts.length ≤ 1000 ∧ Kp.Bnd p ∧ Kp.faultOf p ws = 0 ∧ ∀ H' H0' ks', PrAt A H' f H0' wss (Kp.takeW p ws) ks' → Frame f.mut H H' → Q .non H'
theorem scTake : FnScope ["program", "number", "words", "first"] ["program", "number", "words"] (defScope sTake) := ⟨rfl, rfl, rfl, by decide +kernel, rfl, by decide +kernel, by decide +kernel⟩
theorem c_take (T : TxtQ A w K mg) : Cb P w K mg base 3 "take_row" ["program", "number", "words"] (spTake A K) := by
  obtain ⟨d, hd, ht⟩ := T.getting
  refine T.dTake.cb scTake (fun vs H Q E h => ?_) (fun fa cdv Ar outer s H vs Q E hr h => ?_)
  · obtain ⟨f, H0, wss, p, ks, q, ws, rfl, _⟩ := h
    rfl
  obtain ⟨f, H0, wss, p, ks, q, ws, rfl, hP, hw, hal, hB, hF, k⟩ := h
  have hr1 : Room 1 _ := hr.mono (by decide)
  refine ⟨_, pss_cons (ps_set (i := 3) scTake.nd rfl (Or.inl rfl) (pe_ix ix_list (pv 2) pe_int (fun _ _ => rfl)))
    (pss_one (ps_if (pt_cmpR op_eq (pv 3) pe_str (nomark _))
      (pss_cons (ps_dput (hu_of hr) (pe_fld (pv 0) rfl) (pe_ix ix_list (pv 2) pe_int (fun _ _ => rfl)) (pe_callB call_len_seq (by rfl) T.len PySem.boot_len (pa_cons (pe_fld (pv 0) rfl) pa_nil)) rfl)
        (pss_one (ps_expr (pe_bm PySem.F.plainAttrs_list PySem.F.slot_list_append PySem.F.type_list_append mt_append (pe_fld (pv 0) rfl)
          (pa_cons (pe_cm (c_kind T) hr rfl (pa_cons (pe_cb (c_number T.toTxtW) hr1 rfl (pa_cons (pe_ix ix_list (pv 2) pe_int (fun _ _ => rfl)) pa_nil)) (pa_cons (pe_slice sl_list (pv 2) (po_some pe_int) po_none) pa_nil))) pa_nil)))))
      (pss_one (ps_if (PW.pt (pw_and (pt_cmpR op_in_seq (pv 3) (pe_glob (v := .ref d) rfl hd rfl) rfl) (pw_and1 (pt_cmp (pc_dnotin (hu_of hr) (pe_ix ix_list (pv 2) pe_int (fun _ _ => rfl)) (pe_fld (pv 0) rfl)) rfl))))
        (pss_one (ps_dput (hu_of hr) (pe_fld (pv 0) rfl) (pe_ix ix_list (pv 2) pe_int (fun _ _ => rfl)) (pe_callB call_lenD (by rfl) T.len PySem.boot_len (pa_cons (pe_fld (pv 0) rfl) pa_nil)) rfl))
        (pss_one (ps_if (pt_cmpR op_eq (pv 3) pe_str (nomark _))
          (pss_one (ps_expr (pe_bm PySem.F.plainAttrs_list PySem.F.slot_list_append PySem.F.type_list_append mt_append (pe_fld (pv 0) rfl) (pa_cons (pv 1) pa_nil))))
          (pss_one (ps_if (pt_cmpR op_eq (pv 3) pe_str (nomark _))
            (pss_one (ps_dput (hu_of hr) (pe_fld (pv 0) rfl) (pe_bm0 PySem.F.plainAttrs_list PySem.F.slot_list_pop PySem.F.type_list_pop mt_pop (pe_fld (pv 0) rfl)) (pv 1) rfl)) pss_nil)))))))), ?_⟩
  obtain ⟨hs, hm, hun, hbad, hmany⟩ := Kp.fault_zero hF
  have hp := hw.pos
  obtain ⟨⟨na, nb, nc, nd⟩, ⟨ne_, nf, ng⟩, ⟨nh, ni⟩, nj⟩ := PF.ne hP.nd
  have cl := T.cProg.cl
  have ob := hP.same _ _ hP.obj
  refine ⟨_, rfl, q, _, _, _, rfl, rfl, hw.at_, wat (i := 0) hp, ?_⟩
  refine ⟨_, rfl, rfl, _, rfl, ?_⟩
  rw [s_class, strEq]
  refine if2 (fun e => ?_) (fun e => ?_)
  · -- class
    have e := of_decide_eq_true e
    have l := such_at hs e n_class
    have en : ∃ b, Hx01.number (wd ws 2) = some b := by
      unfold such at hs
      rw [e, n_class] at hs
      dsimp only at hs
      rw [if_pos (by omega), if_pos rfl] at hs
      cases en : Hx01.number (wd ws 2) with
      | none => rw [en] at hs; cases hs
      | some b => exact ⟨b, rfl⟩
    obtain ⟨b, en⟩ := en
    have hnew : wd ws 1 ∉ p.classes.map fun x => x.name := by
      intro z
      unfold Kp.misnamed at hm
      by_cases c : (Kp.names ws).all Hx01.isName = true
      · rw [if_pos c, if_pos e, decide_eq_true z] at hm; cases hm
      · rw [if_neg c] at hm; cases hm
    refine ⟨_, rfl, f.a, A.prog, f.dx, _, _, rfl, ob, cl, T.cProg.na _ (by decide +kernel), prF_kinds f, f.lk, _, rfl, .inl (SqL.of hP.lk), _, rfl, f.a, A.prog, f.dx, _, _, rfl, ob, cl, T.cProg.na _ (by decide +kernel), prF_kn f, _, rfl, q, _, _, _, rfl, rfl, hw.at_, wat (i := 1) (by omega), f.dk, _, rfl,
      DPut.k (k := Sum.inr (S (wd ws 1))) hP.dk (bigLt (by rw [num_len, List.length_map]; have := hB.cls; omega)), ?_⟩
    have el : ((ks.map V.ref).length : Int) = ((p.classes.map fun x => x.name).length : Nat) := by rw [List.length_map, List.length_map, hP.knd.1]
    rw [el, num_put hnew]
    have s1 : Same H0 (upd H f.dk (.dK (num ((p.classes.map fun x => x.name) ++ [wd ws 1])))) := same_upd hP.same (hP.free _ (by simp [PF.mut]))
    have hw1 : SqL K (upd H f.dk (.dK (num ((p.classes.map fun x => x.name) ++ [wd ws 1])))) q (vS ws) := by
      rcases hw.at_ with (z | ⟨o, z⟩) | z
      · exact .inl (.inl (by rw [upd_ne (fun y => by rw [y, hP.dk] at z; cases z)]; exact z))
      · exact .inl (.inr ⟨o, by rw [upd_ne (fun y => by rw [y, hP.dk] at z; cases z)]; exact z⟩)
      · exact .inr z
    refine ⟨_, rfl, f.a, A.prog, f.dx, _, _, rfl, s1 _ _ hP.obj, cl, T.cProg.na _ (by decide +kernel), prF_kinds f, .inl ⟨rfl, _, SqL.of ((upd_ne na).trans hP.lk)⟩, ?_⟩
    refine ⟨_, rfl, q, _, _, _, rfl, rfl, hw1, wat (i := 2) (by omega), _, rfl, wd_len hw.each 2, fun H2 s2 => ?_⟩
    rw [en]
    refine ⟨_, rfl, _, rfl, q, _, rfl, s2.seq hw1, fun lf hlf => ?_⟩
    rw [show (3 : Int) = ((3 : Nat) : Int) from rfl, cut_drop ws 3 (by omega)]
    intro x dx nx ndx nex
    have s3 : Same (upd H f.dk (.dK (num ((p.classes.map fun x => x.name) ++ [wd ws 1])))) (upd H2 lf (.lst (vS (ws.drop 3)))) := same_upd s2 (s2.free hlf)
    refine ⟨x, dx, lf, b, rfl, upd_same, fun H5 hx5 ho5 => ⟨rfl, ?_⟩⟩
    -- the heap behind the new kind
    have nxl : lf ≠ x := fun z => by rw [← z, upd_same] at nx; cases nx
    have ndl : lf ≠ dx := fun z => by rw [← z, upd_same] at ndx; cases ndx
    have hlf5 : H5 lf = some (.lst (vS (ws.drop 3))) := by
      rw [ho5 _ nxl, upd_ne nxl, upd_ne ndl, upd_same]
    have s5 : Same (upd H f.dk (.dK (num ((p.classes.map fun x => x.name) ++ [wd ws 1])))) H5 := fun c o hc => by
      have h3 := s3 c o hc
      rw [ho5 _ (ne_of_none h3 nx), upd_ne (ne_of_none h3 nx), upd_ne (ne_of_none h3 ndx)]
      exact h3
    have hx1 := s3.free nx
    have hl1 := s2.free hlf
    have hlk5 : H5 f.lk = some (.lst (ks.map V.ref)) := s5 _ _ ((upd_ne na).trans hP.lk)
    refine ⟨f.lk, _, _, rfl, rfl, hlk5, bigLt (by rw [List.length_map, hP.knd.1]; have := hB.cls; omega), ?_⟩
    have xm : ∀ y ∈ f.mut, y ≠ x ∧ y ≠ lf := by
      intro y hy
      have : ∃ o, upd H f.dk (.dK (num ((p.classes.map fun x => x.name) ++ [wd ws 1]))) y = some o := by
        by_cases c : y = f.dk
        · exact ⟨_, by rw [c]; exact upd_same⟩
        · rw [upd_ne c]
          simp only [PF.mut, List.mem_cons, List.mem_nil_iff, or_false] at hy
          rcases hy with z | z | z | z | z <;> rw [z]
          · exact ⟨_, hP.lk⟩
          · exact ⟨_, hP.dk⟩
          · exact ⟨_, hP.dv⟩
          · exact ⟨_, hP.de⟩
          · exact ⟨_, hP.lu⟩
      obtain ⟨o, ho⟩ := this
      exact ⟨ne_of_none ho hx1, ne_of_none ho hl1⟩
    have hx0 : H0 x = none := s1.free hx1
    have hl0 : H0 lf = none := s1.free hl1
    have etell : Kp.takeW p ws = Hx01.act { p with classes := p.classes ++ [⟨wd ws 1, b, ws.drop 3⟩] } .nothing := by
      unfold Kp.takeW Kp.told
      rw [if_pos e, en, act_class e]
      rfl
    have n1 := nest_plain (l := p.acts) (a := .nothing) (by intro; simp) (by simp)
    refine k _ (upd (upd H0 x (.ins A.kind dx (kdF b lf))) lf (.lst (vS (ws.drop 3)))) (ks ++ [x]) ?_ ?_
    · rw [etell]
      have n0x : ∀ c o, H0 c = some o → c ≠ x ∧ c ≠ lf := fun c o hc => ⟨ne_of_none hc hx0, ne_of_none hc hl0⟩
      have sk : Same H0 (upd (upd H0 x (.ins A.kind dx (kdF b lf))) lf (.lst (vS (ws.drop 3)))) := same_upd (same_upd (Same.refl H0) hx0) hl0
      refine ⟨?_, hP.nd, ?_, sk _ _ hP.obj, hP.rows.same sk, ⟨by simp [hP.knd.1, Hx01.act], ?_⟩, ?_, ?_, ?_, ?_, ?_⟩
      · intro c o hc
        by_cases c1 : c = lf
        · subst c1
          rw [upd_same] at hc
          rw [upd_ne (fun z => (xm f.lk (by simp [PF.mut])).2 z.symm), hlf5]
          exact hc
        · rw [upd_ne c1] at hc
          by_cases c2 : c = x
          · subst c2
            rw [upd_same] at hc
            rw [upd_ne (fun z => (xm f.lk (by simp [PF.mut])).1 z.symm), hx5]
            exact hc
          · rw [upd_ne c2] at hc
            rw [upd_ne (fun z => by rw [z, hP.free _ (by simp [PF.mut])] at hc; cases hc)]
            exact s5 _ _ (s1 _ _ hc)
      · intro y hy
        rw [upd_ne (xm y hy).2, upd_ne (xm y hy).1]
        exact hP.free y hy
      · intro i k' c hk hc
        have hlen := hP.knd.1
        by_cases c1 : i < ks.length
        · rw [List.getElem?_append_left c1] at hk
          have hc : (p.classes ++ [(⟨wd ws 1, b, ws.drop 3⟩ : Hx01.Class)])[i]? = some c := hc
          rw [List.getElem?_append_left (by omega)] at hc
          obtain ⟨dx', lf', g1, g2⟩ := hP.knd.2 i k' c hk hc
          exact ⟨dx', lf', sk _ _ g1, sk _ _ g2⟩
        · have hi2 := (List.getElem?_eq_some_iff.mp hk).1
          rw [List.length_append, List.length_singleton] at hi2
          have ei : i = ks.length := by omega
          subst ei
          have hc : (p.classes ++ [(⟨wd ws 1, b, ws.drop 3⟩ : Hx01.Class)])[ks.length]? = some c := hc
          rw [List.getElem?_append_right (Nat.le_refl _)] at hk
          rw [List.getElem?_append_right (by omega), hlen] at hc
          simp at hk hc
          subst hk hc
          exact ⟨dx, lf, by rw [upd_ne nxl.symm, upd_same], upd_same⟩
      · rw [upd_same]; simp
      · rw [upd_ne na.symm]
        have := s5 f.dk _ upd_same
        rw [this]
        simp [Hx01.act]
      · rw [upd_ne nb.symm]
        exact s5 _ _ ((upd_ne ne_.symm).trans hP.dv)
      · rw [upd_ne nc.symm, show (Kp.nest (Hx01.act { p with classes := p.classes ++ [⟨wd ws 1, b, ws.drop 3⟩] } .nothing).acts).ends = (Kp.nest p.acts).ends from n1.2]
        exact s5 _ _ ((upd_ne nf.symm).trans hP.de)
      · rw [upd_ne nd.symm, show (Kp.nest (Hx01.act { p with classes := p.classes ++ [⟨wd ws 1, b, ws.drop 3⟩] } .nothing).acts).stk = (Kp.nest p.acts).stk from n1.1]
        exact s5 _ _ ((upd_ne ng.symm).trans hP.lu)
    · refine Frame.upd ?_ (by simp [PF.mut])
      exact Frame.trans (Frame.upd (Frame.of (Same.refl H)) (by simp [PF.mut])) (Frame.of s5)
  have e := of_decide_eq_false e
  refine ⟨_, rfl, d, _, rfl, .inr (ht H), rfl, rfl, _, rfl, ?_⟩
  show if (if false = true then _ else inV (.str (S (wd ws 0))) [.str (S wNew), .str (S wGet), .str (S wLet)]) = true then _ else _
  rw [if_neg Bool.false_ne_true, in_getting]
  have rest : ¬ (Kp.Getting (wd ws 0) ∧ wd ws 1 ∉ p.vars) → (if decide (wd ws 0 = wTimes) = true then tDrop (tBM K "list" rAppend (tFld K (tVar 0) "unended") (tCons (tVar 1) tNil)) { nx := fun _ H' => Q .non H', rt := Q } [some (.ref f.a), some (.int (p.acts.length : Nat)), some (.ref q), some (.str (S (wd ws 0)))] H
      else tIfS (tTest (tOp rEq (tVar 3) (tC (.str "end")))) (sDPut (tFld K (tVar 0) "ends") (tBM0 K "list" rPop (tFld K (tVar 0) "unended")) (tVar 1)) tNext { nx := fun _ H' => Q .non H', rt := Q } [some (.ref f.a), some (.int (p.acts.length : Nat)), some (.ref q), some (.str (S (wd ws 0)))] H) := by
    intro hg
    have et := told_same e hg
    refine if2 (fun e1 => ?_) (fun e1 => ?_)
    · have e1 := of_decide_eq_true e1
      obtain ⟨kk, ea⟩ := act_times (p := p) e1
      refine ⟨_, rfl, f.a, A.prog, f.dx, _, _, rfl, ob, cl, T.cProg.na _ (by decide +kernel), prF_un f, .inl ⟨rfl, _, SqL.of hP.lu⟩, _, rfl, f.lu, _, _, rfl, rfl, hP.lu, bigLt (by rw [List.length_map, List.length_reverse, ← Kp.openTimes_nest]; have := hB.opn; omega), ?_⟩
      refine k _ H0 ks ?_ (Frame.upd (Frame.of (Same.refl H)) (by simp [PF.mut]))
      have eq1 : Kp.takeW p ws = Hx01.act p (.times kk) := by
        unfold Kp.takeW
        rw [et, ea]
      have n1 : Kp.nest (Hx01.act p (.times kk)).acts = ⟨p.acts.length + 1, p.acts.length :: (Kp.nest p.acts).stk, (Kp.nest p.acts).ends⟩ := by
        show Kp.nest (p.acts ++ [.times kk]) = _
        rw [Kp.nest_snoc]
        unfold Kp.nestStep
        rw [Kp.nest_at]
      rw [eq1]
      refine ⟨same_upd hP.same (hP.free _ (by simp [PF.mut])), hP.nd, hP.free, hP.obj, hP.rows, hP.knd, (upd_ne nd).trans hP.lk, (upd_ne ng).trans hP.dk, (upd_ne ni).trans hP.dv, ?_, ?_⟩
      · rw [n1]; exact (upd_ne nj).trans hP.de
      · rw [n1, upd_same]; simp
    · have e1 := of_decide_eq_false e1
      refine ⟨_, rfl, rfl, _, rfl, ?_⟩
      rw [s_end, strEq]
      refine if2 (fun e2 => ?_) (fun e2 => ?_)
      · have e2 := of_decide_eq_true e2
        have ea := act_end (p := p) e2
        have hne : Hx01.openTimes p ≠ 0 := by
          unfold Kp.badly at hbad
          rw [if_neg e1, decide_eq_true e2, Bool.true_and] at hbad
          exact of_decide_eq_false hbad
        rw [Kp.openTimes_nest] at hne
        cases es : (Kp.nest p.acts).stk with
        | nil => rw [es] at hne; exact absurd rfl hne
        | cons b r =>
          have inv := Kp.NInv.nest p.acts
          have hlu := hP.lu
          rw [es, List.reverse_cons, List.map_append] at hlu
          have hl1 : ((List.map (fun n : Nat => V.int (n : Int)) r.reverse) ++ List.map (fun n : Nat => V.int (n : Int)) [b]).length = r.length + 1 := by simp
          refine ⟨_, rfl, _, rfl, f.a, A.prog, f.dx, _, _, rfl, ob, cl, T.cProg.na _ (by decide +kernel), prF_ends f, ?_⟩
          refine ⟨_, rfl, f.a, A.prog, f.dx, _, _, rfl, ob, cl, T.cProg.na _ (by decide +kernel), prF_un f, .inl ⟨rfl, _, SqL.of hlu⟩, f.lu, _, V.int (b : Nat), rfl, rfl, hlu, by rw [hl1]; simp, ?_⟩
          have hde : upd H f.lu (.lst (((List.map (fun n : Nat => V.int (n : Int)) r.reverse) ++ List.map (fun n : Nat => V.int (n : Int)) [b]).dropLast)) f.de = some (.dK (eN (Kp.nest p.acts).ends)) := (upd_ne nj).trans hP.de
          refine ⟨f.de, _, rfl, DPut.k (k := Sum.inl ((b : Nat) : Int)) hde (bigLt ?_), ?_⟩
          · have := ends_len p.acts; simp only [eN, List.length_map]; omega
          · rw [eN_put (e := p.acts.length) ?_]
            · refine k _ H0 ks ?_ (Frame.upd (Frame.upd (Frame.of (Same.refl H)) (by simp [PF.mut])) (by simp [PF.mut]))
              have eq1 : Kp.takeW p ws = Hx01.act p .end_ := by
                unfold Kp.takeW
                rw [et, ea]
              have n1 : Kp.nest (Hx01.act p .end_).acts = ⟨p.acts.length + 1, r, (Kp.nest p.acts).ends ++ [(b, p.acts.length)]⟩ := by
                show Kp.nest (p.acts ++ [.end_]) = _
                rw [Kp.nest_snoc]
                unfold Kp.nestStep
                rw [es, Kp.nest_at]
              rw [eq1]
              refine ⟨same_upd (same_upd hP.same (hP.free _ (by simp [PF.mut]))) (hP.free _ (by simp [PF.mut])), hP.nd, hP.free, hP.obj, hP.rows, hP.knd, ?_, ?_, ?_, ?_, ?_⟩
              · rw [upd_ne nc, upd_ne nd]; exact hP.lk
              · rw [upd_ne nf, upd_ne ng]; exact hP.dk
              · rw [upd_ne nh, upd_ne ni]; exact hP.dv
              · rw [n1, upd_same]
              · rw [n1, upd_ne nj.symm, upd_same]; simp
            · intro z
              obtain ⟨x, hx, hx2⟩ := List.mem_map.mp z
              have := (inv.key x hx).2
              rw [es, hx2] at this
              exact this (List.mem_cons_self ..)
      · have e2 := of_decide_eq_false e2
        obtain ⟨a1, a2⟩ := act_plain (p := p) e1 e2
        have n1 := nest_plain (l := p.acts) a1 a2
        refine k H H0 ks ?_ (Frame.of (Same.refl H))
        have eq1 : Kp.takeW p ws = Hx01.act p (Kp.actOf p ws) := by
          unfold Kp.takeW
          rw [et]
        rw [eq1]
        exact hP.to rfl rfl n1.1 n1.2
  by_cases c : Kp.Getting (wd ws 0)
  · rw [decide_eq_true c]
    refine ifT rfl ?_
    have l : 1 < ws.length := by
      rcases c with z | z | z
      · have := such_at hs z n_new; omega
      · have := such_at hs z n_get; omega
      · have := such_at hs z n_let; omega
    refine ⟨_, rfl, q, _, _, _, rfl, rfl, hw.at_, wat (i := 1) l, _, rfl, f.a, A.prog, f.dx, _, _, rfl, ob, cl, T.cProg.na _ (by decide +kernel), prF_vars f, f.dv, _, rfl, DGet.k (k := Sum.inr (S (wd ws 1))) hP.dv, _, rfl, ?_⟩
    rw [num_has]
    by_cases c2 : wd ws 1 ∈ p.vars
    · rw [decide_eq_true c2]
      refine ifF rfl ?_
      refine ⟨_, rfl, rfl, _, rfl, ?_⟩
      rw [s_times, strEq]
      exact rest fun z => z.2 c2
    · rw [decide_eq_false c2]
      refine ifT rfl ?_
      refine ⟨_, rfl, f.a, A.prog, f.dx, _, _, rfl, ob, cl, T.cProg.na _ (by decide +kernel), prF_vars f, f.dv, _, rfl, hP.dv, _, rfl, f.a, A.prog, f.dx, _, _, rfl, ob, cl, T.cProg.na _ (by decide +kernel), prF_vars f, _, rfl, q, _, _, _, rfl, rfl, hw.at_, wat (i := 1) l, f.dv, _, rfl,
        DPut.k (k := Sum.inr (S (wd ws 1))) hP.dv (bigLt (by rw [num_len]; have := hB.vars; omega)), ?_⟩
      rw [num_len, num_put c2]
      have et := told_var e ⟨c, c2⟩
      have nt : wd ws 0 ≠ wTimes := by
        intro z; rw [z] at c; exact absurd c (by decide)
      have ne2 : wd ws 0 ≠ wEnd := by
        intro z; rw [z] at c; exact absurd c (by decide)
      obtain ⟨a1, a2⟩ := act_plain (p := Kp.told p ws) nt ne2
      have n1 := nest_plain (l := p.acts) a1 a2
      refine k _ H0 ks ?_ (Frame.upd (Frame.of (Same.refl H)) (by simp [PF.mut]))
      have eq1 : (Kp.takeW p ws).classes = p.classes ∧ (Kp.takeW p ws).vars = p.vars ++ [wd ws 1] ∧ (Kp.takeW p ws).acts = p.acts ++ [Kp.actOf (Kp.told p ws) ws] := by
        refine ⟨?_, ?_, ?_⟩
        · show (Kp.told p ws).classes = _; rw [et]
        · show (Kp.told p ws).vars = _; rw [et]
        · show (Kp.told p ws).acts ++ _ = _; rw [Kp.told_acts]
      refine ⟨same_upd hP.same (hP.free _ (by simp [PF.mut])), hP.nd, hP.free, hP.obj, hP.rows, by rw [eq1.1]; exact hP.knd, (upd_ne nb).trans hP.lk, ?_, ?_, ?_, ?_⟩
      · rw [eq1.1]; exact (upd_ne ne_).trans hP.dk
      · rw [eq1.2.1, upd_same]
      · rw [eq1.2.2, n1.2]; exact (upd_ne nh.symm).trans hP.de
      · rw [eq1.2.2, n1.1]; exact (upd_ne ni.symm).trans hP.lu
  · rw [decide_eq_false c]
    refine ifF rfl ?_
    refine ⟨_, rfl, rfl, _, rfl, ?_⟩
    rw [s_times, strEq]
    exact rest fun z => c z.1
end
end Kq
namespace Kq
open PySem PySem.Spec PyProof.Rows L2
open Kp (wd such counts)
open Hx01 (wClass wNew wSet wGet wLet wTimes wEnd wSnap wNil)
/-- rows of words as they come from a text -/
structure WOk (wss : List (List (List Nat))) : Prop where
  len : wss.length ≤ 1000
  row : ∀ ws ∈ wss, ws.length ≤ 1000 ∧ ∀ x ∈ ws, x.length ≤ 1000 ∧ ∀ c ∈ x, c < 128
theorem WOk.ws {wss : List (List (List Nat))} (h : WOk wss) {K : PySem.W.Frag} {H : Hp} {q : Addr} {ws : List (List Nat)} (hm : ws ∈ wss) (hq : H q = some (.lst (vS ws))) (hn : ws ≠ []) : Ws K H q ws :=
  ⟨SqL.of hq, hn, (h.row ws hm).1, fun x hx => ((h.row ws hm).2 x hx).1, fun x hx => ((h.row ws hm).2 x hx).2⟩
section
variable {P : Program} {w : World} {K : PySem.W.Frag} {mg : Str → Option Value} {base : Heap} {A : CA}
/-! read_rows -/
def spRead (A : CA) : Sp := fun vs H Q _ => ∃ (f : PF) (H0 : Hp) (wss : List (List (List Nat))), vs = [.ref f.a] ∧ PrAt A H f H0 wss ⟨[], [], []⟩ [] ∧ WOk wss ∧
  (∀ i e, Kp.progW 0 ⟨[], [], []⟩ wss = .error (i, e) → ∀ H', Frame f.mut H H' → Q (.int (-1000 - 10 * (i : Int) - (e : Int))) H') ∧
  (∀ p, Kp.progW 0 ⟨[], [], []⟩ wss = .ok p → Kp.Whole wss p → ∀ H' H0' ks', PrAt A H' f H0' wss p ks' → Frame f.mut H H' → Q (.int 0) H')
theorem scRead : FnScope ["program", "number", "words", "fault"] ["program"] (defScope sRead) := ⟨rfl, rfl, rfl, by decide +kernel, rfl, by decide +kernel, by decide +kernel⟩
theorem c_read (T : TxtQ A w K mg) : Cb P w K mg base 4 "read_rows" ["program"] (spRead A) := by
  refine T.dRead.cb scRead (fun vs H Q E h => ?_) (fun fa cdv Ar outer s H vs Q E hr h => ?_)
  · obtain ⟨f, H0, wss, rfl, _⟩ := h
    rfl
  obtain ⟨f, H0, wss, rfl, hP, hW, kE, kO⟩ := h
  have hr1 : Room 1 _ := hr.mono (by decide)
  have hu64 : (Ar.deeper (envOfC (Str.ofString "read_rows") (defScope sRead) s.heap.objs.size fa cdv)).units + 64 < cLine := by have := hr.un; omega
  refine ⟨_, pss_cons (ps_for PassesOwn.never rfl (pi_enum (by rfl) T.enumerate_ (pa_cons (pe_fld (pv 0) rfl) pa_nil)) (pg_tup rfl (pgs_cons (pg_name (i := 1) scRead.nd rfl (.inl rfl)) (pgs_cons (pg_name (i := 2) scRead.nd rfl (.inl rfl)) pgs_nil)))
      (pss_one (ps_if (pt_cmpR (op_neD hu64) (pv 2) (pe_lst pa_nil) (nomark _))
        (pss_cons (ps_set (i := 3) scRead.nd rfl (Or.inl rfl) (pe_cb (c_fault T) hr rfl (pa_cons (pv 0) (pa_cons (pv 2) pa_nil))))
        (pss_cons (ps_if (pt_cmpR op_ne (pv 3) (pe_gI T.cst0 rfl) (nomark _)) (pss_one (ps_ret (pe_cb (c_faultNo T.toTxtP) hr1 rfl (pa_cons (pv 1) (pa_cons (pv 3) pa_nil))))) pss_nil)
        (pss_one (ps_expr (pe_cb (c_take T) hr rfl (pa_cons (pv 0) (pa_cons (pv 1) (pa_cons (pv 2) pa_nil)))))))) pss_nil)))
    (pss_cons (ps_if (pt_cmpR (op_neD hu64) (pe_fld (pv 0) rfl) (pe_lst pa_nil) (nomark _)) (pss_one (ps_ret (pe_cb (c_faultNo T.toTxtP) hr1 rfl (pa_cons (pe_callB call_len_seq (by rfl) T.len PySem.boot_len (pa_cons (pe_fld (pv 0) rfl) pa_nil)) (pa_cons (pe_gI T.cst4 rfl) pa_nil))))) pss_nil)
    (pss_one (ps_ret pe_int))), ?_⟩
  obtain ⟨qs, hq1, hq2, hq3⟩ := hP.rows
  have cl := T.cProg.cl
  have fm : ∀ b o, H0 b = some o → b ∉ f.mut := fun b o e z => by rw [hP.free b z] at e; cases e
  have fH : ∀ {H'}, Frame f.mut H H' → ∀ b o, H0 b = some o → H' b = some o := fun F b o e => F b o (hP.same _ _ e) (fm b o e)
  refine ⟨_, rfl, f.a, A.prog, f.dx, _, _, rfl, hP.same _ _ hP.obj, cl, T.cProg.na _ (by decide +kernel), prF_rows f, f.lr, _, rfl, SqL.of (hP.same _ _ hq1), ?_⟩
  refine for_it (walk_enum (K := K) (a := f.lr) (xs := qs.map V.ref)) (fun i σ H' => ∃ v1 v2 v3, σ = [some (.ref f.a), v1, v2, v3] ∧ ∃ H0' p ks', PrAt A H' f H0' wss p ks' ∧ Kp.Read wss i p ∧ Frame f.mut H H')
    ⟨none, none, none, rfl, H0, ⟨[], [], []⟩, [], hP, Kp.Read.start wss, Frame.of (Same.refl H)⟩ ?_ ?_ ?_
  · rintro i σ H' _ ⟨_, _, _, _, _, _, _, _, _, F⟩
    exact SqL.of (fH F _ _ hq1)
  · rintro i x σ H' H2 hi ⟨v1, v2, v3, rfl, H0', p, ks', hP', hR, F⟩ ⟨Tt, x1, y1, rfl, hT, rfl, hx1, hy1⟩
    rw [List.length_map] at hi
    have hiw : i < wss.length := by omega
    have hx1 := Option.some.inj hx1
    subst hx1
    have hy1 : (qs.map V.ref)[i]? = some y1 := hy1
    rw [List.getElem?_map, List.getElem?_eq_getElem hi] at hy1
    have hy1 := Option.some.inj hy1
    subst hy1
    have s1 : Same H' (upd H' Tt (.tup [V.int (i : Nat), V.ref qs[i]])) := same_upd (Same.refl H') hT
    have F1 : Frame f.mut H (upd H' Tt (.tup [V.int (i : Nat), V.ref qs[i]])) := F.trans (Frame.of s1)
    have P1 := hP'.go s1
    have hqi : ∀ {H''}, Frame f.mut H H'' → H'' qs[i] = some (.lst (vS wss[i])) := fun F => fH F _ _ (hq3 i qs[i] wss[i] (List.getElem?_eq_getElem hi) (List.getElem?_eq_getElem hiw))
    have hwi : wss[i]? = some wss[i] := List.getElem?_eq_getElem hiw
    refine ⟨Tt, _, rfl, .inl (.inl upd_same), rfl, _, _, rfl, _, _, rfl, rfl, ?_⟩
    refine ⟨_, rfl, big (by simp), fun e he => ?_⟩
    have s2 : Same (upd H' Tt (.tup [V.int (i : Nat), V.ref qs[i]])) (upd (upd H' Tt (.tup [V.int (i : Nat), V.ref qs[i]])) e (.lst [])) := same_upd (Same.refl _) he
    have F2 := F1.trans (Frame.of s2)
    have P2 := P1.go s2
    refine ⟨_, _, .lst (SqL.of (hqi F2)) (dp_strs _), .lst (SqL.of upd_same) .nil, sh_strs (fun x hx => ((hW.row _ (List.getElem_mem hiw)).2 x hx).2), flat_shaped (fun d hd => by cases hd), _, rfl, ?_⟩
    rw [eqv_nil]
    by_cases hn : wss[i] = []
    · refine ifF (by simp [hn]) ?_
      have n1 := nest_plain (l := p.acts) (a := .nothing) (by intro; simp) (by simp)
      exact ⟨_, _, _, rfl, H0', Hx01.act p .nothing, ks', P2.to rfl rfl n1.1 n1.2, hR.blank (by rw [hwi, hn]), F2⟩
    · refine ifT (by simp [hn]) ?_
      have hw := hW.ws (K := K) (List.getElem_mem hiw) (hqi F2) hn
      refine ⟨_, rfl, _, rfl, f, H0', wss, p, ks', qs[i], wss[i], rfl, P2, hw, trivial, fun H3 s3 => ?_⟩
      have F3 := F2.trans (Frame.of s3)
      have P3 := P2.go s3
      refine ⟨_, rfl, rfl, _, rfl, ?_⟩
      rw [show V.int (0 : Int) = V.int ((0 : Nat) : Int) from rfl, intEq]
      by_cases hf : Kp.faultOf p wss[i] = 0
      · rw [decide_eq_true hf]
        refine ifF rfl ?_
        have el : i = p.acts.length := hR.len.symm
        refine ⟨_, rfl, _, rfl, _, rfl, f, H0', wss, p, ks', qs[i], wss[i], by rw [← el]; rfl, P3, hw.same s3, by have := hW.len; omega, hR.bnd, hf, fun H4 H04 ks4 P4 F4 => ?_⟩
        exact ⟨_, _, _, rfl, H04, _, ks4, P4, hR.good hwi hn hf, F3.trans F4⟩
      · rw [decide_eq_false hf]
        refine ifT rfl ?_
        refine ⟨_, rfl, _, rfl, i, Kp.faultOf p wss[i], rfl, by have := hW.len; omega, ?_⟩
        exact kE i _ (hR.fault hwi hn hf) H3 F3
  · rintro σ H' ⟨v1, v2, v3, rfl, H0', p, ks', hP', hR, F⟩
    rw [List.length_map, hq2] at hR
    have ob := hP'.same _ _ hP'.obj
    have hlu := hP'.lu
    have e2 : ((Kp.nest p.acts).stk.reverse.map fun n => V.int (n : Nat)) = ((Kp.nest p.acts).stk.reverse.map fun n : Nat => (n : Int)).map V.int := by simp
    rw [e2] at hlu
    refine ⟨_, rfl, f.a, A.prog, f.dx, _, _, rfl, ob, cl, T.cProg.na _ (by decide +kernel), prF_un f, big (by simp), fun e he => ?_⟩
    have s2 : Same H' (upd H' e (.lst [])) := same_upd (Same.refl _) he
    refine ⟨_, _, .lst (SqL.of (s2 _ _ hlu)) (dp_ints _), .lst (SqL.of upd_same) .nil, sh_ints _, flat_shaped (fun d hd => by cases hd), _, rfl, ?_⟩
    rw [eqv_nil]
    have e3 : decide ((((Kp.nest p.acts).stk.reverse.map fun n : Nat => (n : Int)).map PyData.int) = []) = decide (Hx01.openTimes p = 0) := by
      refine decide_eq_decide.mpr ?_
      rw [Kp.openTimes_nest]
      simp
    rw [e3]
    have F2 := F.trans (Frame.of s2)
    have P2 := hP'.go s2
    have dn := hR.done
    by_cases ho : Hx01.openTimes p = 0
    · rw [decide_eq_true ho]
      rw [if_pos ho] at dn
      refine ifF rfl ?_
      exact kO p dn ⟨hR, ho⟩ _ _ _ P2 F2
    · rw [decide_eq_false ho]
      rw [if_neg ho] at dn
      refine ifT rfl ?_
      refine ⟨_, rfl, f.a, A.prog, f.dx, _, _, rfl, P2.same _ _ P2.obj, cl, T.cProg.na _ (by decide +kernel), prF_rows f, f.lr, _, rfl, .inl (SqL.of (fH F2 _ _ hq1)), wss.length, 4, by rw [List.length_map, hq2]; rfl, by have := hW.len; omega, ?_⟩
      exact kE _ _ dn _ F2
end
end Kq
namespace Kq
open PySem PySem.Spec PyProof.Rows L2
/-! a call of what an expression gives; xs[i] op= e -/
def tCallE (S : Addr → Sp → Prop) (tf : TE) (t : TA) : TE := fun σ H Q => tf σ H fun v H1 => ∃ f sp, v = .ref f ∧ S f sp ∧ t σ H1 fun vs H2 => sp vs H2 Q E0
section
variable {X : Cx} {k : Nat} {S : Addr → Sp → Prop} {pos : Pos} {func e : Expr} {es : List Expr} {tf : TE} {t : TA}
theorem pe_callE (A : ∀ f sp, S f sp → ∃ fd ps, FnOk X.prog X.w X.K X.mg X.base CX0 k f fd ps sp ∧ PySem.W.keepIn X.K (.ref f) = true ∧ Binds X.K fd ps []) (hf : PE X func tf) (hr : Room k X.A) (ha : PA X (e :: es) t)
    (hev : eval (.Call func (e :: es) [] pos) X.env = (do callWith pos (← eval func X.env) [] (backTo pos (starEach (e :: es) X.env)) (backToKw pos (keywordEach [] X.env))) := by rfl)
    (he : starEach (e :: es) X.env = (false, eval e X.env) :: starEach es X.env := by rfl) (hpl : (backTo pos (starEach es X.env)).any (·.1) = false := by rfl) (px : Passes CX0 X E0 := by exact pass0) :
    PE X (.Call func (e :: es) [] pos) (tCallE S tf t) := by
  refine ⟨fun pins s σ H Q I h => ?_⟩
  refine Call_ (thn (hf.run pins s σ H _ I h) fun u s1 ⟨v, H1, I1, r1, f, sp, ev, hS, q1⟩ => ?_) hev
  subst ev
  cases r1
  obtain ⟨fd, ps, F, kp, b⟩ := A f sp hS
  refine PySem.W.callWith_K (h₀ := X.base) I.ok.mod.kin kp (thn (ha.run pos pins s1 σ H1 _ I1 q1) fun us s2 ⟨vs, H2, I2, r, q2⟩ => ⟨I2.kIn, ?_⟩) he hpl
  refine run_fn (dvs := []) (ds := []) F hr b .nil px I2 r ?_
  rw [List.append_nil]
  exact q2
theorem get_list : PGet X (rIxL X.K) := by
  rintro pins s σ H _ _ _ _ Q J ro ri ⟨l, items, k, x, rfl, rfl, at_, got, fin⟩
  cases ro
  obtain ⟨tok, rfl⟩ := ri
  obtain ⟨us, vals, plain, _⟩ := J.list at_
  obtain ⟨n, ix, item, _, below, above⟩ := atI_get got
  obtain ⟨u, hu, rel⟩ := vals.get item
  have len := vals.length
  have big63 := line63
  have done : EP X pins σ Q u s := ⟨x, H, J, rel, fin⟩
  by_cases pos : 0 ≤ k
  · rw [seqIndex_of pos above, Option.some.injEq] at ix
    subst ix
    exact wpAny_getItem_list plain.isList pos (by omega) (by simpa using hu) done
  · rw [seqIndex_neg (by omega) below, Option.some.injEq] at ix
    subst ix
    exact wpAny_getItem_list_neg plain.isList (by omega) (by rw [List.size_toArray, ← len]; omega) (by omega) (by rw [List.size_toArray, ← len]; simpa using hu) done
end
end Kq
namespace Kq
open PySem PySem.Spec PyProof.Rows L2
open Kp (wd such counts)
open Hx01 (wClass wNew wSet wGet wLet wTimes wEnd wSnap wNil)
abbrev sThingI : Stmt := inClass (top 1) 0
abbrev sHeapI : Stmt := inClass (top 2) 0
abbrev sSnapOf : Stmt := top 3
abbrev sRunI : Stmt := inClass (top 93) 0
abbrev sHeldBy : Stmt := top 94
abbrev sHold : Stmt := top 95
abbrev sPlace : Stmt := top 96
abbrev sDoNew : Stmt := top 97
abbrev sDoSet : Stmt := top 98
abbrev sDoGet : Stmt := top 99
abbrev sDoLet : Stmt := top 100
abbrev sDoTimes : Stmt := top 101
abbrev sDoEnd : Stmt := top 102
abbrev sDoSnap : Stmt := top 103
abbrev sBehind : Stmt := top 105
abbrev sRunP : Stmt := top 106
abbrev sStopped : Stmt := top 107
structure TxtR (A : CA) (w : World) (K : PySem.W.Frag) (mg : Str → Option Value) : Prop extends TxtQ A w K mg where
  cThing : Cl K mg "Thing" "Thing.__init__" A.thing sThingI ["self", "kind", "row", "size", "fields"] ["kind", "row", "size", "fields"]
  cHeap : Cl K mg "Heap" "Heap.__init__" A.heap sHeapI ["self", "kind_count", "things", "variables"] ["kind_count", "things", "variables"]
  cRun : Cl K mg "Run" "Run.__init__" A.run sRunI ["self", "program"] ["program", "heap", "snapshots", "steps", "row", "rounds"]
  cstS : ∃ t, mg "MOST_STEPS" = some (.int 300 t)
  cstT : ∃ t, mg "MOST_THINGS" = some (.int 16 t)
  cstN : ∃ t, mg "MOST_SNAPSHOTS" = some (.int 8 t)
  dSnapOf : Dd K mg "snapshot_of" sSnapOf ["heap"]
  dHeldBy : Dd K mg "held_by" sHeldBy ["run", "variable"]
  dHold : Dd K mg "hold" sHold ["run", "variable", "held"]
  dPlace : Dd K mg "place_of_field" sPlace ["run", "number", "field"]
  dNew : Dd K mg "do_new" sDoNew ["run", "words"]
  dSet : Dd K mg "do_set" sDoSet ["run", "words"]
  dGet : Dd K mg "do_get" sDoGet ["run", "words"]
  dLet : Dd K mg "do_let" sDoLet ["run", "words"]
  dTimes : Dd K mg "do_times" sDoTimes ["run", "words"]
  dEnd : Dd K mg "do_end" sDoEnd ["run", "words"]
  dSnap : Dd K mg "do_snap" sDoSnap ["run", "words"]
  dBehind : Dd K mg "row_behind" sBehind ["run"]
  dRunP : Dd K mg "run_program" sRunP ["program"]
  dStopped : Dd K mg "stopped_at" sStopped ["run"]
/-! objects of a run -/
structure RG where
  a : Addr
  dx : Addr
  h : Addr
  hd : Addr
  lt : Addr
  lv : Addr
  ls : Addr
  lo : Addr
def rnF (g : RG) (pa : Addr) (steps row : Nat) : List (Str × V) := [("program", .ref pa), ("heap", .ref g.h), ("snapshots", .ref g.ls), ("steps", .int (steps : Nat)), ("row", .int (row : Nat)), ("rounds", .ref g.lo)]
def hpF (n : Nat) (lt lv : Addr) : List (Str × V) := [("kind_count", .int (n : Nat)), ("things", .ref lt), ("variables", .ref lv)]
def thF (c r s : Nat) (lf : Addr) : List (Str × V) := [("kind", .int (c : Nat)), ("row", .int (r : Nat)), ("size", .int (s : Nat)), ("fields", .ref lf)]
section
variable (g : RG) (pa : Addr) (s r : Nat)
theorem rnF_prog : (rnF g pa s r).lookup ("program" : Str) = some (.ref pa) := lk_here
theorem rnF_heap : (rnF g pa s r).lookup ("heap" : Str) = some (.ref g.h) := (lk_past (by decide +kernel)).trans lk_here
theorem rnF_snaps : (rnF g pa s r).lookup ("snapshots" : Str) = some (.ref g.ls) := (lk_past (by decide +kernel)).trans ((lk_past (by decide +kernel)).trans lk_here)
theorem rnF_steps : (rnF g pa s r).lookup ("steps" : Str) = some (.int (s : Nat)) := (lk_past (by decide +kernel)).trans ((lk_past (by decide +kernel)).trans ((lk_past (by decide +kernel)).trans lk_here))
theorem rnF_row : (rnF g pa s r).lookup ("row" : Str) = some (.int (r : Nat)) := (lk_past (by decide +kernel)).trans ((lk_past (by decide +kernel)).trans ((lk_past (by decide +kernel)).trans ((lk_past (by decide +kernel)).trans lk_here)))
theorem rnF_rounds : (rnF g pa s r).lookup ("rounds" : Str) = some (.ref g.lo) := (lk_past (by decide +kernel)).trans ((lk_past (by decide +kernel)).trans ((lk_past (by decide +kernel)).trans ((lk_past (by decide +kernel)).trans ((lk_past (by decide +kernel)).trans lk_here))))
theorem rnF_steps_put (s' : Nat) : putF "steps" (.int (s' : Nat)) (rnF g pa s r) = rnF g pa s' r := (put_past (by decide +kernel)).trans (congrArg _ ((put_past (by decide +kernel)).trans (congrArg _ ((put_past (by decide +kernel)).trans (congrArg _ put_here)))))
theorem rnF_row_put (r' : Nat) : putF "row" (.int (r' : Nat)) (rnF g pa s r) = rnF g pa s r' := (put_past (by decide +kernel)).trans (congrArg _ ((put_past (by decide +kernel)).trans (congrArg _ ((put_past (by decide +kernel)).trans (congrArg _ ((put_past (by decide +kernel)).trans (congrArg _ put_here)))))))
end
theorem hpF_count {n : Nat} (lt lv : Addr) : (hpF n lt lv).lookup ("kind_count" : Str) = some (.int (n : Nat)) := lk_here
theorem hpF_things {n : Nat} (lt lv : Addr) : (hpF n lt lv).lookup ("things" : Str) = some (.ref lt) := (lk_past (by decide +kernel)).trans lk_here
theorem hpF_vars {n : Nat} (lt lv : Addr) : (hpF n lt lv).lookup ("variables" : Str) = some (.ref lv) := (lk_past (by decide +kernel)).trans ((lk_past (by decide +kernel)).trans lk_here)
theorem thF_kind (c r s : Nat) (lf : Addr) : (thF c r s lf).lookup ("kind" : Str) = some (.int (c : Nat)) := lk_here
theorem thF_row (c r s : Nat) (lf : Addr) : (thF c r s lf).lookup ("row" : Str) = some (.int (r : Nat)) := (lk_past (by decide +kernel)).trans lk_here
theorem thF_size (c r s : Nat) (lf : Addr) : (thF c r s lf).lookup ("size" : Str) = some (.int (s : Nat)) := (lk_past (by decide +kernel)).trans ((lk_past (by decide +kernel)).trans lk_here)
theorem thF_fields (c r s : Nat) (lf : Addr) : (thF c r s lf).lookup ("fields" : Str) = some (.ref lf) := (lk_past (by decide +kernel)).trans ((lk_past (by decide +kernel)).trans ((lk_past (by decide +kernel)).trans lk_here))
/-- a program's object that is changed no more -/
structure PrFz (A : CA) (H : Hp) (f : PF) (wss : List (List (List Nat))) (p : Hx01.Program) (ks : List Addr) : Prop where
  obj : H f.a = some (.ins A.prog f.dx (prF f))
  rows : RowsAt H f.lr wss
  knd : KindsAt A.kind H ks p.classes
  lk : H f.lk = some (.lst (ks.map V.ref))
  dk : H f.dk = some (.dK (num (p.classes.map fun x => x.name)))
  dv : H f.dv = some (.dK (num p.vars))
  de : H f.de = some (.dK (eN (Kp.nest p.acts).ends))
theorem PrAt.fz {A : CA} {H : Hp} {f : PF} {H0 : Hp} {wss : List (List (List Nat))} {p : Hx01.Program} {ks : List Addr} (h : PrAt A H f H0 wss p ks) : PrFz A H f wss p ks :=
  ⟨h.same _ _ h.obj, h.rows.same h.same, h.knd.same h.same, h.lk, h.dk, h.dv, h.de⟩
theorem PrFz.go {A : CA} {H H' : Hp} {f : PF} {wss : List (List (List Nat))} {p : Hx01.Program} {ks : List Addr} (h : PrFz A H f wss p ks) (s : Same H H') : PrFz A H' f wss p ks :=
  ⟨s _ _ h.obj, h.rows.same s, h.knd.same s, s _ _ h.lk, s _ _ h.dk, s _ _ h.dv, s _ _ h.de⟩
def sizeOf (p : Hx01.Program) (c : Nat) : Nat := (p.classes[c]?).elim 0 fun x => x.bytes
def ThingAt (A : CA) (H : Hp) (p : Hx01.Program) (o lf : Addr) (t : Hx01.Thing) : Prop := ∃ dx, H o = some (.ins A.thing dx (thF t.cls t.row (sizeOf p t.cls) lf))
/-- things in a frozen heap H0, their fields' lists in H -/
def ThingsAt (A : CA) (H0 H : Hp) (p : Hx01.Program) (ts fs : List Addr) (l : List Hx01.Thing) : Prop :=
  ts.length = l.length ∧ fs.length = l.length ∧ ∀ (i : Nat) (o lf : Addr) (t : Hx01.Thing), ts[i]? = some o → fs[i]? = some lf → l[i]? = some t → ThingAt A H0 p o lf t ∧ H lf = some (.lst (t.fields.map oV))
/-- a heap's object -/
def HpAt (A : CA) (H : Hp) (p : Hx01.Program) (s : Addr) (h : Hx01.Heap) : Prop := ∃ (dx lt lv : Addr) (ts fs : List Addr), H s = some (.ins A.heap dx (hpF p.classes.length lt lv)) ∧ H lt = some (.lst (ts.map V.ref)) ∧ H lv = some (.lst (h.vars.map oV)) ∧ ThingsAt A H H p ts fs h.things
theorem ThingsAt.same {A : CA} {H0 H0' H H' : Hp} {p : Hx01.Program} {ts fs : List Addr} {l : List Hx01.Thing} (h : ThingsAt A H0 H p ts fs l) (s0 : Same H0 H0') (s : Same H H') : ThingsAt A H0' H' p ts fs l := by
  obtain ⟨a, b, c⟩ := h
  refine ⟨a, b, fun i o lf t h1 h2 h3 => ?_⟩
  obtain ⟨⟨dx, e1⟩, e2⟩ := c i o lf t h1 h2 h3
  exact ⟨⟨dx, s0 _ _ e1⟩, s _ _ e2⟩
theorem HpAt.same {A : CA} {H H' : Hp} {p : Hx01.Program} {s : Addr} {h : Hx01.Heap} (k : HpAt A H p s h) (sm : Same H H') : HpAt A H' p s h := by
  obtain ⟨dx, lt, lv, ts, fs, a, b, c, d⟩ := k
  exact ⟨dx, lt, lv, ts, fs, sm _ _ a, sm _ _ b, sm _ _ c, d.same sm sm⟩
def SnapsAt (A : CA) (H : Hp) (p : Hx01.Program) (ss : List Addr) (l : List Hx01.Heap) : Prop := ss.length = l.length ∧ ∀ (i : Nat) (s : Addr) (h : Hx01.Heap), ss[i]? = some s → l[i]? = some h → HpAt A H p s h
theorem SnapsAt.same {A : CA} {H H' : Hp} {p : Hx01.Program} {ss : List Addr} {l : List Hx01.Heap} (k : SnapsAt A H p ss l) (sm : Same H H') : SnapsAt A H' p ss l := ⟨k.1, fun i s h h1 h2 => (k.2 i s h h1 h2).same sm⟩
def RG.mut (g : RG) (fs rs : List Addr) : List Addr := g.a :: g.lt :: g.lv :: g.ls :: g.lo :: (fs ++ rs)
/-- rounds of the times that are open, the innermost last -/
def RoundsAt (H : Hp) (rs : List Addr) (o : List (Nat × Nat)) : Prop := rs.length = o.length ∧ ∀ (i : Nat) (r : Addr) (x : Nat × Nat), rs[i]? = some r → o.reverse[i]? = some x → H r = some (.lst [V.int (x.1 : Nat), V.int ((x.2 + 1 : Nat) : Int)])
/-- **A run's object.** -/
structure RunAt (A : CA) (H : Hp) (g : RG) (H0 : Hp) (f : PF) (wss : List (List (List Nat))) (p : Hx01.Program) (ks : List Addr) (row : Nat) (o : List (Nat × Nat)) (w : Hx01.Way) (ts fs rs ss : List Addr) : Prop where
  same : Same H0 H
  nd : (g.mut fs rs).Nodup
  free : ∀ x ∈ g.mut fs rs, H0 x = none
  pr : PrFz A H0 f wss p ks
  obj : H g.a = some (.ins A.run g.dx (rnF g f.a w.steps row))
  hobj : H0 g.h = some (.ins A.heap g.hd (hpF p.classes.length g.lt g.lv))
  lt : H g.lt = some (.lst (ts.map V.ref))
  lv : H g.lv = some (.lst (w.heap.vars.map oV))
  things : ThingsAt A H0 H p ts fs w.heap.things
  ls : H g.ls = some (.lst (ss.map V.ref))
  snaps : SnapsAt A H0 p ss w.snaps
  lo : H g.lo = some (.lst (rs.map V.ref))
  rounds : RoundsAt H rs o
section
variable {A : CA} {H H' : Hp} {g : RG} {H0 : Hp} {f : PF} {wss : List (List (List Nat))} {p : Hx01.Program} {ks : List Addr} {row : Nat} {o : List (Nat × Nat)} {w : Hx01.Way} {ts fs rs ss : List Addr}
theorem RunAt.go (h : RunAt A H g H0 f wss p ks row o w ts fs rs ss) (s : Same H H') : RunAt A H' g H0 f wss p ks row o w ts fs rs ss :=
  ⟨h.same.trans s, h.nd, h.free, h.pr, s _ _ h.obj, h.hobj, s _ _ h.lt, s _ _ h.lv, h.things.same (Same.refl _) s, s _ _ h.ls, h.snaps, s _ _ h.lo, ⟨h.rounds.1, fun i r x h1 h2 => s _ _ (h.rounds.2 i r x h1 h2)⟩⟩
theorem RunAt.hp (h : RunAt A H g H0 f wss p ks row o w ts fs rs ss) : HpAt A H p g.h w.heap := ⟨g.hd, g.lt, g.lv, ts, fs, h.same _ _ h.hobj, h.lt, h.lv, h.things.same h.same (Same.refl _)⟩
/-- apart -/
theorem RunAt.ne (h : RunAt A H g H0 f wss p ks row o w ts fs rs ss) : (g.a ≠ g.lt ∧ g.a ≠ g.lv ∧ g.a ≠ g.ls ∧ g.a ≠ g.lo) ∧ (g.lt ≠ g.lv ∧ g.lt ≠ g.ls ∧ g.lt ≠ g.lo) ∧ (g.lv ≠ g.ls ∧ g.lv ≠ g.lo) ∧ g.ls ≠ g.lo := by
  have nd := h.nd
  unfold RG.mut at nd
  simp only [List.nodup_cons, List.mem_cons, not_or] at nd
  exact ⟨⟨nd.1.1, nd.1.2.1, nd.1.2.2.1, nd.1.2.2.2.1⟩, ⟨nd.2.1.1, nd.2.1.2.1, nd.2.1.2.2.1⟩, ⟨nd.2.2.1.1, nd.2.2.1.2.1⟩, nd.2.2.2.1.1⟩
theorem RunAt.fne (h : RunAt A H g H0 f wss p ks row o w ts fs rs ss) {x : Addr} (hx : x ∈ fs ++ rs) : x ≠ g.a ∧ x ≠ g.lt ∧ x ≠ g.lv ∧ x ≠ g.ls ∧ x ≠ g.lo := by
  have nd := h.nd
  unfold RG.mut at nd
  simp only [List.nodup_cons, List.mem_cons, not_or] at nd
  refine ⟨fun z => ?_, fun z => ?_, fun z => ?_, fun z => ?_, fun z => ?_⟩ <;> subst z
  · exact nd.1.2.2.2.2 hx
  · exact nd.2.1.2.2.2 hx
  · exact nd.2.2.1.2.2 hx
  · exact nd.2.2.2.1.2 hx
  · exact nd.2.2.2.2.1 hx
end
end Kq
namespace Kq
open PySem PySem.Spec PyProof.Rows L2
open Kp (wd such counts)
open Hx01 (wClass wNew wSet wGet wLet wTimes wEnd wSnap wNil)
section
variable {A : CA} {H H' : Hp} {g : RG} {H0 : Hp} {f : PF} {wss : List (List (List Nat))} {p : Hx01.Program} {ks : List Addr} {row : Nat} {o : List (Nat × Nat)} {w : Hx01.Way} {ts fs rs ss : List Addr}
theorem RunAt.fsne (h : RunAt A H g H0 f wss p ks row o w ts fs rs ss) {i : Nat} {x : Addr} (hx : fs[i]? = some x) : x ≠ g.a ∧ x ≠ g.lt ∧ x ≠ g.lv ∧ x ≠ g.ls ∧ x ≠ g.lo := h.fne (List.mem_append_left _ (List.mem_of_getElem? hx))
theorem RunAt.rsne (h : RunAt A H g H0 f wss p ks row o w ts fs rs ss) {i : Nat} {x : Addr} (hx : rs[i]? = some x) : x ≠ g.a ∧ x ≠ g.lt ∧ x ≠ g.lv ∧ x ≠ g.ls ∧ x ≠ g.lo := h.fne (List.mem_append_right _ (List.mem_of_getElem? hx))
theorem RunAt.mem_a (h : RunAt A H g H0 f wss p ks row o w ts fs rs ss) : H0 g.a = none := h.free _ (by simp [RG.mut])
theorem RunAt.mem_lt (h : RunAt A H g H0 f wss p ks row o w ts fs rs ss) : H0 g.lt = none := h.free _ (by simp [RG.mut])
theorem RunAt.mem_lv (h : RunAt A H g H0 f wss p ks row o w ts fs rs ss) : H0 g.lv = none := h.free _ (by simp [RG.mut])
theorem RunAt.mem_ls (h : RunAt A H g H0 f wss p ks row o w ts fs rs ss) : H0 g.ls = none := h.free _ (by simp [RG.mut])
theorem RunAt.mem_lo (h : RunAt A H g H0 f wss p ks row o w ts fs rs ss) : H0 g.lo = none := h.free _ (by simp [RG.mut])
/-- a variable gets something -/
theorem RunAt.putv (h : RunAt A H g H0 f wss p ks row o w ts fs rs ss) (i : Nat) (x : Option Nat) : RunAt A (upd H g.lv (.lst ((w.heap.vars.set i x).map oV))) g H0 f wss p ks row o { w with heap := Hx01.put w.heap i x } ts fs rs ss := by
  obtain ⟨⟨n1, n2, n3, n4⟩, ⟨n5, n6, n7⟩, ⟨n8, n9⟩, n10⟩ := h.ne
  refine ⟨same_upd h.same h.mem_lv, h.nd, h.free, h.pr, (upd_ne n2).trans h.obj, h.hobj, (upd_ne n5).trans h.lt, upd_same, ⟨h.things.1, h.things.2.1, fun j q lf t h1 h2 h3 => ?_⟩, (upd_ne n8.symm).trans h.ls, h.snaps, (upd_ne n9.symm).trans h.lo, ⟨h.rounds.1, fun j r x h1 h2 => ?_⟩⟩
  · obtain ⟨e1, e2⟩ := h.things.2.2 j q lf t h1 h2 h3
    exact ⟨e1, (upd_ne (h.fsne h2).2.2.1).trans e2⟩
  · exact (upd_ne (h.rsne h1).2.2.1).trans (h.rounds.2 j r x h1 h2)
theorem oV_get {l : List (Option Nat)} {i : Nat} (h : i < l.length) : atI (l.map oV) (i : Int) = some (oV ((l[i]?).bind fun x => x)) := by
  refine atI_nat ?_
  rw [List.getElem?_map, List.getElem?_eq_getElem h]
  rfl
theorem dget_num {H : Hp} {d : Addr} {l : List (List Nat)} {v : List Nat} (h : H d = some (.dK (num l))) (hv : v ∈ l) : DGet H d (.str (S v)) (some (.int (Kp.idx l v : Nat))) := by
  have := DGet.k (k := Sum.inr (S v)) h
  rw [num_get hv] at this
  exact this
theorem ixN_nat {n i : Nat} (h : i < n) : ixN n (i : Int) = some i := by
  unfold ixN
  rw [if_pos (by omega), if_pos (by omega)]
  simp
end
section
variable {P : Program} {w : World} {K : PySem.W.Frag} {mg : Str → Option Value} {base : Heap} {A : CA}
/-! held_by -/
def spHeldBy (A : CA) : Sp := fun vs H Q _ => ∃ (g : RG) (H0 : Hp) (f : PF) (wss : List (List (List Nat))) (p : Hx01.Program) (ks : List Addr) (row : Nat) (o : List (Nat × Nat)) (wy : Hx01.Way) (ts fs rs ss : List Addr) (v : List Nat),
  vs = [.ref g.a, .str (S v)] ∧ RunAt A H g H0 f wss p ks row o wy ts fs rs ss ∧ v ∈ p.vars ∧ wy.heap.vars.length = p.vars.length ∧ Q (oV (Hx01.held wy.heap (Kp.idx p.vars v))) H
theorem scHeldBy : FnScope ["run", "variable"] ["run", "variable"] (defScope sHeldBy) := ⟨rfl, rfl, rfl, by decide +kernel, rfl, by decide +kernel, by decide +kernel⟩
theorem c_heldBy (T : TxtR A w K mg) : Cb P w K mg base 1 "held_by" ["run", "variable"] (spHeldBy A) := by
  refine T.dHeldBy.cb scHeldBy (fun vs H Q E h => ?_) (fun fa cdv Ar outer s H vs Q E hr h => ?_)
  · obtain ⟨g, H0, f, wss, p, ks, row, o, wy, ts, fs, rs, ss, v, rfl, _⟩ := h
    rfl
  obtain ⟨g, H0, f, wss, p, ks, row, o, wy, ts, fs, rs, ss, v, rfl, R, hv, hl, k⟩ := h
  refine ⟨_, pss_one (ps_ret (pe_ix ix_list (pe_fld (pe_fld (pv 0) rfl) rfl) (pe_dget (hu_of hr) (pe_fld (pe_fld (pv 0) rfl) rfl) (pv 1) (fun _ _ => rfl)) (fun _ _ => rfl))), ?_⟩
  have c1 := T.cRun.cl
  have c2 := T.cHeap.cl
  have c3 := T.cProg.cl
  have pr := R.pr.go R.same
  refine ⟨_, rfl, g.a, A.run, g.dx, _, _, rfl, R.obj, c1, T.cRun.na _ (by decide +kernel), rnF_heap _ _ _ _, g.h, A.heap, g.hd, _, _, rfl, R.same _ _ R.hobj, c2, T.cHeap.na _ (by decide +kernel), hpF_vars _ _, ?_⟩
  refine ⟨_, rfl, g.a, A.run, g.dx, _, _, rfl, R.obj, c1, T.cRun.na _ (by decide +kernel), rnF_prog _ _ _ _, f.a, A.prog, f.dx, _, _, rfl, pr.obj, c3, T.cProg.na _ (by decide +kernel), prF_vars f, _, rfl, f.dv, _, rfl, dget_num pr.dv hv, ?_⟩
  · refine ⟨g.lv, _, _, _, rfl, rfl, SqL.of R.lv, oV_get (by rw [hl]; exact Kp.idx_lt hv), k⟩
/-! hold -/
def spHold (A : CA) : Sp := fun vs H Q _ => ∃ (g : RG) (H0 : Hp) (f : PF) (wss : List (List (List Nat))) (p : Hx01.Program) (ks : List Addr) (row : Nat) (o : List (Nat × Nat)) (wy : Hx01.Way) (ts fs rs ss : List Addr) (v : List Nat) (x : Option Nat),
  vs = [.ref g.a, .str (S v), oV x] ∧ RunAt A H g H0 f wss p ks row o wy ts fs rs ss ∧ v ∈ p.vars ∧ wy.heap.vars.length = p.vars.length ∧ Q .non (upd H g.lv (.lst ((wy.heap.vars.set (Kp.idx p.vars v) x).map oV)))
theorem scHold : FnScope ["run", "variable", "held"] ["run", "variable", "held"] (defScope sHold) := ⟨rfl, rfl, rfl, by decide +kernel, rfl, by decide +kernel, by decide +kernel⟩
theorem c_hold (T : TxtR A w K mg) : Cb P w K mg base 1 "hold" ["run", "variable", "held"] (spHold A) := by
  refine T.dHold.cb scHold (fun vs H Q E h => ?_) (fun fa cdv Ar outer s H vs Q E hr h => ?_)
  · obtain ⟨g, H0, f, wss, p, ks, row, o, wy, ts, fs, rs, ss, v, x, rfl, _⟩ := h
    rfl
  obtain ⟨g, H0, f, wss, p, ks, row, o, wy, ts, fs, rs, ss, v, x, rfl, R, hv, hl, k⟩ := h
  refine ⟨_, pss_one (ps_asg (pv 2) (pg_sub (pe_fld (pe_fld (pv 0) rfl) rfl) (pe_dget (hu_of hr) (pe_fld (pe_fld (pv 0) rfl) rfl) (pv 1) (fun _ _ => rfl)) set_list)), ?_⟩
  have c1 := T.cRun.cl
  have c2 := T.cHeap.cl
  have c3 := T.cProg.cl
  have pr := R.pr.go R.same
  refine ⟨_, rfl, _, rfl, g.a, A.run, g.dx, _, _, rfl, R.obj, c1, T.cRun.na _ (by decide +kernel), rnF_heap _ _ _ _, g.h, A.heap, g.hd, _, _, rfl, R.same _ _ R.hobj, c2, T.cHeap.na _ (by decide +kernel), hpF_vars _ _, ?_⟩
  refine ⟨_, rfl, g.a, A.run, g.dx, _, _, rfl, R.obj, c1, T.cRun.na _ (by decide +kernel), rnF_prog _ _ _ _, f.a, A.prog, f.dx, _, _, rfl, pr.obj, c3, T.cProg.na _ (by decide +kernel), prF_vars f, _, rfl, f.dv, _, rfl, dget_num pr.dv hv, ?_⟩
  · refine ⟨g.lv, _, _, _, rfl, rfl, R.lv, ixN_nat (by rw [List.length_map, hl]; exact Kp.idx_lt hv), ?_⟩
    rw [show ((wy.heap.vars.map oV).set (Kp.idx p.vars v) (oV x)) = (wy.heap.vars.set (Kp.idx p.vars v) x).map oV from (List.map_set).symm]
    exact k
/-! place_of_field -/
def spPlace (A : CA) : Sp := fun vs H Q _ => ∃ (g : RG) (H0 : Hp) (f : PF) (wss : List (List (List Nat))) (p : Hx01.Program) (ks : List Addr) (row : Nat) (o : List (Nat × Nat)) (wy : Hx01.Way) (ts fs rs ss : List Addr) (n : Option Nat) (fd : List Nat),
  vs = [.ref g.a, oV n, .str (S fd)] ∧ RunAt A H g H0 f wss p ks row o wy ts fs rs ss ∧ Kp.HOk p wy.heap ∧ (∀ q, n = some q → q < wy.heap.things.length) ∧ Q (oV (n.bind fun q => Hx01.fieldOf p wy.heap q fd)) H
theorem scPlace : FnScope ["run", "number", "field", "fields"] ["run", "number", "field"] (defScope sPlace) := ⟨rfl, rfl, rfl, by decide +kernel, rfl, by decide +kernel, by decide +kernel⟩
theorem inV_S (c : List Nat) (l : List (List Nat)) : inV (.str (S c)) (vS l) = decide (c ∈ l) := by
  unfold inV vS
  rw [List.any_map, Bool.eq_iff_iff, List.any_eq_true, decide_eq_true_iff]
  constructor
  · rintro ⟨x, hx, e⟩
    have e : (S x == S c) = true := e
    rw [beq_iff_eq, S_inj] at e
    rw [← e]; exact hx
  · intro h
    exact ⟨c, h, by show (S c == S c) = true; simp⟩
theorem flat_S (l : List (List Nat)) : (vS l).all flatV = true := by
  rw [List.all_eq_true]
  intro x hx
  obtain ⟨y, _, rfl⟩ := List.mem_map.mp hx
  rfl
theorem c_place (T : TxtR A w K mg) : Cb P w K mg base 1 "place_of_field" ["run", "number", "field"] (spPlace A) := by
  refine T.dPlace.cb scPlace (fun vs H Q E h => ?_) (fun fa cdv Ar outer s H vs Q E hr h => ?_)
  · obtain ⟨g, H0, f, wss, p, ks, row, o, wy, ts, fs, rs, ss, n, fd, rfl, _⟩ := h
    rfl
  obtain ⟨g, H0, f, wss, p, ks, row, o, wy, ts, fs, rs, ss, n, fd, rfl, R, hO, hn, k⟩ := h
  refine ⟨_, pss_cons (ps_if (pt_cmp (pc_isN (pv 1))) (pss_one (ps_ret pe_non)) pss_nil)
    (pss_cons (ps_set (i := 3) scPlace.nd rfl (Or.inl rfl) (pe_fld (pe_ix ix_list (pe_fld (pe_fld (pv 0) rfl) rfl) (pe_fld (pe_ix ix_list (pe_fld (pe_fld (pv 0) rfl) rfl) (pv 1) (fun _ _ => rfl)) rfl) (fun _ _ => rfl)) rfl))
    (pss_one (ps_ret (pe_ifExp (pt_cmpR op_in_seq (pv 2) (pv 3) rfl) (pe_bm PySem.F.plainAttrs_list PySem.F.slot_list_index PySem.F.type_list_index mt_index (pv 3) (pa_cons (pv 2) pa_nil)) pe_non)))), ?_⟩
  have c1 := T.cRun.cl
  have c2 := T.cHeap.cl
  have c3 := T.cProg.cl
  have pr := R.pr.go R.same
  refine ⟨_, rfl, _, rfl, ?_⟩
  cases n with
  | none =>
    refine ifT rfl ?_
    exact k
  | some q =>
    refine ifF rfl ?_
    have hq := hn q rfl
    have hqt : wy.heap.things[q]? = some wy.heap.things[q] := List.getElem?_eq_getElem hq
    obtain ⟨cl, g1, g2, g3⟩ := hO.cls _ (List.getElem_mem hq)
    have t1 := R.things.1
    have t2 := R.things.2.1
    have hts : ts[q]? = some ts[q] := List.getElem?_eq_getElem (by omega)
    have hfs : fs[q]? = some fs[q] := List.getElem?_eq_getElem (by omega)
    obtain ⟨⟨dt, e1⟩, e2⟩ := R.things.2.2 q _ _ _ hts hfs hqt
    have e1 := R.same _ _ e1
    have hci : wy.heap.things[q].cls < p.classes.length := (List.getElem?_eq_some_iff.mp g1).1
    have hk1 := pr.knd.1
    have hks : ks[wy.heap.things[q].cls]? = some ks[wy.heap.things[q].cls] := List.getElem?_eq_getElem (by omega)
    obtain ⟨dk, lf, k1, k2⟩ := pr.knd.2 _ _ _ hks g1
    refine ⟨_, rfl, g.a, A.run, g.dx, _, _, rfl, R.obj, c1, T.cRun.na _ (by decide +kernel), rnF_prog _ _ _ _, f.a, A.prog, f.dx, _, _, rfl, pr.obj, c3, T.cProg.na _ (by decide +kernel), prF_kinds f, ?_⟩
    refine ⟨_, rfl, g.a, A.run, g.dx, _, _, rfl, R.obj, c1, T.cRun.na _ (by decide +kernel), rnF_heap _ _ _ _, g.h, A.heap, g.hd, _, _, rfl, R.same _ _ R.hobj, c2, T.cHeap.na _ (by decide +kernel), hpF_things _ _, ?_⟩
    refine ⟨_, rfl, g.lt, _, _, _, rfl, rfl, SqL.of R.lt, atI_nat (j := q) (by rw [List.getElem?_map, hts]; rfl), _, A.thing, dt, _, _, rfl, e1, T.cThing.cl, T.cThing.na _ (by decide +kernel), thF_kind _ _ _ _, ?_⟩
    refine ⟨f.lk, _, _, _, rfl, rfl, SqL.of pr.lk, atI_nat (j := wy.heap.things[q].cls) (by rw [List.getElem?_map, hks]; rfl), _, A.kind, dk, _, _, rfl, k1, T.cKind.cl, T.cKind.na _ (by decide +kernel), kdF_fields _ _, ?_⟩
    have ef : ((some q).bind fun q => Hx01.fieldOf p wy.heap q fd) = Hx01.indexOf cl.fields fd := by
      show Hx01.fieldOf p wy.heap q fd = _
      unfold Hx01.fieldOf
      rw [hqt]
      show ((p.classes[wy.heap.things[q].cls]?).bind fun c => Hx01.indexOf c.fields fd) = _
      rw [g1]
      rfl
    rw [ef] at k
    refine ⟨_, rfl, _, rfl, lf, _, rfl, .inl (SqL.of k2), rfl, flat_S _, _, rfl, ?_⟩
    show if (if false = true then _ else inV (.str (S fd)) (vS cl.fields)) = true then _ else _
    rw [if_neg Bool.false_ne_true, inV_S]
    by_cases hm : fd ∈ cl.fields
    · rw [decide_eq_true hm]
      refine ifT rfl ?_
      have ei := Kp.indexOf_some hm
      rw [ei] at k
      have ei2 := ei
      unfold Hx01.indexOf at ei2
      rw [List.findIdx?_eq_some_iff_getElem] at ei2
      obtain ⟨i1, i2, i3⟩ := ei2
      refine ⟨_, rfl, .inl ⟨rfl, _, SqL.of k2⟩, _, rfl, lf, _, _, Kp.idx cl.fields fd, .str (S fd), rfl, rfl, SqL.of k2, rfl, flat_S _, ?_, ?_, ?_, k⟩
      · unfold vS
        rw [List.getElem?_map, List.getElem?_eq_getElem i1]
        have : cl.fields[Kp.idx cl.fields fd] = fd := by simpa using i2
        rw [this]; rfl
      · show (S fd == S fd) = true; simp
      · intro m z hm2 hz
        unfold vS at hz
        rw [List.getElem?_map, List.getElem?_eq_getElem (by omega)] at hz
        cases hz
        show (S _ == S fd) = false
        rw [beq_eq_false_iff_ne]
        intro z
        have z := S_inj.mp z
        have := i3 m hm2
        simp [z] at this
    · rw [decide_eq_false hm]
      refine ifF rfl ?_
      rw [Kp.indexOf_mem.mpr hm] at k
      exact k
end
end Kq
namespace Kq
open PySem PySem.Spec PyProof.Rows L2
open Kp (wd such counts)
open Hx01 (wClass wNew wSet wGet wLet wTimes wEnd wSnap wNil)
theorem made_same {H H' : Hp} {x dx C : Addr} (nx : H x = none) (ndx : H dx = none) (ho : ∀ b, b ≠ x → H' b = upd (upd H dx (.own x)) x (.ins C dx []) b) : Same H H' := fun b o e => by
  have n1 := ne_of_none e nx
  rw [ho b n1, upd_ne n1, upd_ne (ne_of_none e ndx)]
  exact e
/-- xs.copy() -/
def rCopy : V → List V → Hp → VK → Prop := fun x vs H Q => ∃ l xs, x = .ref l ∧ vs = [] ∧ H l = some (.lst xs) ∧ ∀ p, H p = none → Q (.ref p) (upd H p (.lst xs))
theorem mt_copy {X : Cx} : MtR X "list.copy" rCopy := by
  intro pins s σ H x vs v us Q I rx rv ⟨l, xs, ex, ev, hH, q⟩
  subst ex ev
  cases rx
  obtain rfl := rv.zero
  obtain ⟨z, its, n, r, hl, e⟩ := I.lstM hH
  refine call_meets PySem.F.slot_list_copy ⟨_, e, rfl⟩ PySem.F.entry_list_copy (PySem.F.args_list_copy_1 _) (AutoSeq1.list_copy_list_0 l its.toArray n (by rw [List.size_toArray]; omega)) ⟨e, ?_⟩
  exact ⟨.ref _, _, I.lnew (t' := s.toks) r (by omega), rfl, q _ I.fresh⟩
section
variable {P : Program} {w : World} {K : PySem.W.Frag} {mg : Str → Option Value} {base : Heap} {A : CA}
/-! Thing, Heap -/
def spThingI (A : CA) : Sp := fun vs H Q _ => ∃ (p dx lf : Addr) (c r s : Nat), vs = [.ref p, .int (c : Nat), .int (r : Nat), .int (s : Nat), .ref lf] ∧ H p = some (.ins A.thing dx []) ∧ ∀ H' : Hp, H' p = some (.ins A.thing dx (thF c r s lf)) → (∀ b, b ≠ p → H' b = H b) → Q .non H'
theorem scThingI : FnScope ["self", "kind", "row", "size", "fields"] ["self", "kind", "row", "size", "fields"] (defScope sThingI) := ⟨rfl, rfl, rfl, by decide +kernel, rfl, by decide +kernel, by decide +kernel⟩
theorem c_thing (T : TxtR A w K mg) : Cm P w K mg base 1 "Thing" A.thing ["self", "kind", "row", "size", "fields"] (spThingI A) := by
  refine T.cThing.cm scThingI (fun vs H Q E h => ?_) (fun fa cdv Ar outer s H vs Q E hr h => ?_)
  · obtain ⟨p, dx, lf, c, r, z, rfl, _⟩ := h
    rfl
  obtain ⟨p, dx, lf, c, r, z, rfl, hp, k⟩ := h
  refine ⟨_, pss_cons (ps_fld (pv 0) (pv 1) rfl) (pss_cons (ps_fld (pv 0) (pv 2) rfl) (pss_cons (ps_fld (pv 0) (pv 3) rfl) (pss_one (ps_fld (pv 0) (pv 4) rfl)))), ?_⟩
  have cl := T.cThing.cl
  refine ⟨_, rfl, _, rfl, p, A.thing, dx, _, rfl, hp, cl, T.cThing.na _ (by decide +kernel), (by show 0 < 1000; decide), ?_⟩
  refine ⟨_, rfl, _, rfl, p, A.thing, dx, _, rfl, upd_same, cl, T.cThing.na _ (by decide +kernel), (by show 1 < 1000; decide), ?_⟩
  refine ⟨_, rfl, _, rfl, p, A.thing, dx, _, rfl, upd_same, cl, T.cThing.na _ (by decide +kernel), plt (plen (plen (n := 0) (Nat.le_refl _))) (by decide), ?_⟩
  refine ⟨_, rfl, _, rfl, p, A.thing, dx, _, rfl, upd_same, cl, T.cThing.na _ (by decide +kernel), plt (plen (plen (plen (n := 0) (Nat.le_refl _)))) (by decide), ?_⟩
  refine k _ (upd_same.trans (congrArg (fun q => some (HO.ins A.thing dx q)) ?_)) fun b hb => by rw [upd_ne hb, upd_ne hb, upd_ne hb, upd_ne hb]
  have e1 : putF ("kind" : Str) (V.int (c : Nat)) [] = ([("kind", V.int (c : Nat))] : List (Str × V)) := rfl
  have e2 : putF ("row" : Str) (V.int (r : Nat)) ([("kind", V.int (c : Nat))] : List (Str × V)) = ([("kind", V.int (c : Nat)), ("row", V.int (r : Nat))] : List (Str × V)) := putF_new (fs := ([("kind", V.int (c : Nat))] : List (Str × V))) (show ("row" : Str) ∉ [("kind" : Str)] by decide +kernel)
  have e3 : putF ("size" : Str) (V.int (z : Nat)) ([("kind", V.int (c : Nat)), ("row", V.int (r : Nat))] : List (Str × V)) = ([("kind", V.int (c : Nat)), ("row", V.int (r : Nat)), ("size", V.int (z : Nat))] : List (Str × V)) := putF_new (fs := ([("kind", V.int (c : Nat)), ("row", V.int (r : Nat))] : List (Str × V))) (show ("size" : Str) ∉ [("kind" : Str), "row"] by decide +kernel)
  have e4 : putF ("fields" : Str) (V.ref lf) ([("kind", V.int (c : Nat)), ("row", V.int (r : Nat)), ("size", V.int (z : Nat))] : List (Str × V)) = thF c r z lf := putF_new (fs := ([("kind", V.int (c : Nat)), ("row", V.int (r : Nat)), ("size", V.int (z : Nat))] : List (Str × V))) (show ("fields" : Str) ∉ [("kind" : Str), "row", "size"] by decide +kernel)
  rw [e1, e2, e3, e4]
def spHeapI (A : CA) : Sp := fun vs H Q _ => ∃ (p dx lt lv : Addr) (n : Nat), vs = [.ref p, .int (n : Nat), .ref lt, .ref lv] ∧ H p = some (.ins A.heap dx []) ∧ ∀ H' : Hp, H' p = some (.ins A.heap dx (hpF n lt lv)) → (∀ b, b ≠ p → H' b = H b) → Q .non H'
theorem scHeapI : FnScope ["self", "kind_count", "things", "variables"] ["self", "kind_count", "things", "variables"] (defScope sHeapI) := ⟨rfl, rfl, rfl, by decide +kernel, rfl, by decide +kernel, by decide +kernel⟩
theorem c_heap (T : TxtR A w K mg) : Cm P w K mg base 1 "Heap" A.heap ["self", "kind_count", "things", "variables"] (spHeapI A) := by
  refine T.cHeap.cm scHeapI (fun vs H Q E h => ?_) (fun fa cdv Ar outer s H vs Q E hr h => ?_)
  · obtain ⟨p, dx, lt, lv, n, rfl, _⟩ := h
    rfl
  obtain ⟨p, dx, lt, lv, n, rfl, hp, k⟩ := h
  refine ⟨_, pss_cons (ps_fld (pv 0) (pv 1) rfl) (pss_cons (ps_fld (pv 0) (pv 2) rfl) (pss_one (ps_fld (pv 0) (pv 3) rfl))), ?_⟩
  refine ⟨_, rfl, _, rfl, p, A.heap, dx, _, rfl, hp, T.cHeap.cl, T.cHeap.na _ (by decide +kernel), (by show 0 < 1000; decide), ?_⟩
  refine ⟨_, rfl, _, rfl, p, A.heap, dx, _, rfl, upd_same, T.cHeap.cl, T.cHeap.na _ (by decide +kernel), plt (plen (n := 0) (Nat.le_refl _)) (by decide), ?_⟩
  refine ⟨_, rfl, _, rfl, p, A.heap, dx, _, rfl, upd_same, T.cHeap.cl, T.cHeap.na _ (by decide +kernel), plt (plen (plen (n := 0) (Nat.le_refl _))) (by decide), ?_⟩
  refine k _ (upd_same.trans (congrArg (fun q => some (HO.ins A.heap dx q)) ?_)) fun b hb => by rw [upd_ne hb, upd_ne hb, upd_ne hb]
  have e1 : putF ("kind_count" : Str) (V.int (n : Nat)) [] = ([("kind_count", V.int (n : Nat))] : List (Str × V)) := rfl
  have e2 : putF ("things" : Str) (V.ref lt) ([("kind_count", V.int (n : Nat))] : List (Str × V)) = ([("kind_count", V.int (n : Nat)), ("things", V.ref lt)] : List (Str × V)) := putF_new (fs := ([("kind_count", V.int (n : Nat))] : List (Str × V))) (show ("things" : Str) ∉ [("kind_count" : Str)] by decide +kernel)
  have e3 : putF ("variables" : Str) (V.ref lv) ([("kind_count", V.int (n : Nat)), ("things", V.ref lt)] : List (Str × V)) = hpF n lt lv := putF_new (fs := ([("kind_count", V.int (n : Nat)), ("things", V.ref lt)] : List (Str × V))) (show ("variables" : Str) ∉ [("kind_count" : Str), "things"] by decide +kernel)
  rw [e1, e2, e3]
/-! snapshot_of -/
/-- a new part of the heap -/
def Fresh (H Hn H' : Hp) : Prop := ∀ b o, Hn b = some o → H b = none ∧ H' b = some o
def spSnapOf (A : CA) : Sp := fun vs H Q _ => ∃ (s : Addr) (p : Hx01.Program) (h : Hx01.Heap), vs = [.ref s] ∧ HpAt A H p s h ∧ h.things.length ≤ 100 ∧
  ∀ (s' : Addr) (Hn H' : Hp), Same H H' → Fresh H Hn H' → HpAt A Hn p s' h → Q (.ref s') H'
theorem scSnapOf : FnScope ["heap", "things", "thing"] ["heap"] (defScope sSnapOf) := ⟨rfl, rfl, rfl, by decide +kernel, rfl, by decide +kernel, by decide +kernel⟩
theorem c_snapOf (T : TxtR A w K mg) : Cb P w K mg base 3 "snapshot_of" ["heap"] (spSnapOf A) := by
  refine T.dSnapOf.cb scSnapOf (fun vs H Q E h => ?_) (fun fa cdv Ar outer s H vs Q E hr h => ?_)
  · obtain ⟨s, p, h, rfl, _⟩ := h
    rfl
  obtain ⟨sa, p, h, rfl, ⟨dh, lt, lv, ts, fs, h1, h2, h3, t1, t2, t3⟩, hlen, k⟩ := h
  refine ⟨_, pss_cons (ps_setLc (i := 1) (own := [("thing", 2)]) (g := gName 2) (tt := tYes) (te := tMake A.thing (spThingI A) [] E0 (tCons (tFld K (tVar 2) "kind") (tCons (tFld K (tVar 2) "row") (tCons (tFld K (tVar 2) "size") (tCons (tBM0 K "list" rCopy (tFld K (tVar 2) "fields")) tNil)))))
      rfl scSnapOf.nd rfl rfl (sw_true rfl rfl rfl (by decide +kernel)) (pi_list (pe_fld (pv 0) rfl)) (blkOk_by (own := [("thing", 2)]) (N := ["heap", "things", "thing"]) (sc := defScope sSnapOf) (by decide +kernel)) (fun _ _ _ _ _ => pg_name (i := 2) scSnapOf.nd rfl (Or.inl rfl)) (fun _ _ _ _ _ => pts_nil)
      (fun _ _ _ _ _ => pe_cm (c_thing T) hr rfl (pa_cons (pe_fld (pv 2) rfl) (pa_cons (pe_fld (pv 2) rfl) (pa_cons (pe_fld (pv 2) rfl) (pa_cons (pe_bm0 PySem.F.plainAttrs_list PySem.F.slot_list_copy PySem.F.type_list_copy mt_copy (pe_fld (pv 2) rfl)) pa_nil))))))
    (pss_one (ps_ret (pe_cm (c_heap T) hr rfl (pa_cons (pe_fld (pv 0) rfl) (pa_cons (pv 1) (pa_cons (pe_bm0 PySem.F.plainAttrs_list PySem.F.slot_list_copy PySem.F.type_list_copy mt_copy (pe_fld (pv 0) rfl)) pa_nil)))))), ?_⟩
  have cl := T.cHeap.cl
  have ct := T.cThing.cl
  refine ⟨_, rfl, sa, A.heap, dh, _, _, rfl, h1, cl, T.cHeap.na _ (by decide +kernel), hpF_things _ _, lt, rfl, ⟨_, SqL.of h2⟩, fun D hD => ?_⟩
  refine lc_it (walk_list (K := K) (a := lt) (xs := ts.map V.ref)) (fun i H' => Same H H' ∧ ∃ (Hn : Hp) (ts' fs' : List Addr), Fresh H Hn H' ∧ Hn D = none ∧ H' D = some (.lst (ts'.map V.ref)) ∧ ThingsAt A Hn Hn p ts' fs' (h.things.take i))
    ⟨same_upd (Same.refl H) hD, fun _ => none, [], [], (fun b o e => by cases e), rfl, upd_same, rfl, rfl, fun i o lf t e => by simp at e⟩ (fun i H' _ h => SqL.of (h.1 _ _ h2)) ?_ ?_
  · rintro i x H' H2 hi ⟨s1, Hn, ts', fs', fr, hnD, hD1, u1, u2, u3⟩ ⟨rfl, hx⟩
    rw [List.length_map] at hi
    rw [List.getElem?_map, List.getElem?_eq_getElem hi] at hx
    cases hx
    have hit : i < h.things.length := by omega
    obtain ⟨⟨dt, e1⟩, e2⟩ := t3 i ts[i] fs[i] h.things[i] (List.getElem?_eq_getElem hi) (List.getElem?_eq_getElem (by omega)) (List.getElem?_eq_getElem hit)
    have e1 := s1 _ _ e1
    have e2 := s1 _ _ e2
    rw [List.length_take, Nat.min_eq_left (by omega)] at u1 u2
    refine ⟨rfl, ?_⟩
    refine lcYes ?_
    refine ⟨_, rfl, _, A.thing, dt, _, _, rfl, e1, ct, T.cThing.na _ (by decide +kernel), thF_kind _ _ _ _, _, rfl, _, A.thing, dt, _, _, rfl, e1, ct, T.cThing.na _ (by decide +kernel), thF_row _ _ _ _, _, rfl, _, A.thing, dt, _, _, rfl, e1, ct, T.cThing.na _ (by decide +kernel), thF_size _ _ _ _, _, rfl, _, A.thing, dt, _, _, rfl, e1, ct, T.cThing.na _ (by decide +kernel), thF_fields _ _ _ _, .inl ⟨rfl, _, SqL.of e2⟩, fs[i], _, rfl, rfl, e2, fun lf hlf => ?_⟩
    intro y dy ny ndy nyd
    refine ⟨y, dy, lf, _, _, _, rfl, upd_same, fun H3 hy3 ho3 => ⟨rfl, ?_⟩⟩
    have nly : lf ≠ y := fun z => by rw [← z, upd_same] at ny; cases ny
    have ndl : lf ≠ dy := fun z => by rw [← z, upd_same] at ndy; cases ndy
    have ny2 : H2 y = none := by rw [upd_ne nly.symm] at ny; exact ny
    have s2 : Same (upd H2 lf (.lst (h.things[i].fields.map oV))) H3 := made_same ny ndy ho3
    have s23 : Same H2 H3 := (same_upd (Same.refl H2) hlf).trans s2
    have hl3 : H3 lf = some (.lst (h.things[i].fields.map oV)) := s2 _ _ upd_same
    have hD3 : H3 D = some (.lst (ts'.map V.ref)) := s23 _ _ hD1
    have nDl : D ≠ lf := ne_of_none hD1 hlf
    have nDy : D ≠ y := ne_of_none hD1 ny2
    have hly0 : H lf = none := s1.free hlf
    have hy0 : H y = none := s1.free ny2
    have hnl : Hn lf = none := by
      cases z : Hn lf with
      | none => rfl
      | some o => have := (fr _ _ z).2; rw [hlf] at this; cases this
    have hny : Hn y = none := by
      cases z : Hn y with
      | none => rfl
      | some o => have := (fr _ _ z).2; rw [ny2] at this; cases this
    have sn : Same Hn (upd (upd Hn y (.ins A.thing dy (thF h.things[i].cls h.things[i].row (sizeOf p h.things[i].cls) lf))) lf (.lst (h.things[i].fields.map oV))) := same_upd (same_upd (Same.refl Hn) hny) hnl
    refine ⟨_, hD3, bigLt (by rw [List.length_map]; omega), same_upd (s1.trans s23) (by have := hD; exact this), upd (upd Hn y (.ins A.thing dy (thF h.things[i].cls h.things[i].row (sizeOf p h.things[i].cls) lf))) lf (.lst (h.things[i].fields.map oV)), ts' ++ [y], fs' ++ [lf], ?_, ?_, ?_, ?_⟩
    · intro b o hb
      by_cases c1 : b = lf
      · subst c1
        rw [upd_same] at hb
        refine ⟨hly0, ?_⟩
        rw [upd_ne nDl.symm, hl3]; exact hb
      · rw [upd_ne c1] at hb
        by_cases c2 : b = y
        · subst c2
          rw [upd_same] at hb
          refine ⟨hy0, ?_⟩
          rw [upd_ne nDy.symm, hy3]; exact hb
        · rw [upd_ne c2] at hb
          obtain ⟨f1, f2⟩ := fr b o hb
          refine ⟨f1, ?_⟩
          rw [upd_ne (fun z => by rw [z, hnD] at hb; cases hb)]
          exact s23 _ _ f2
    · rw [upd_ne nDl, upd_ne nDy]; exact hnD
    · rw [upd_same]; simp
    · refine ⟨by simp [u1]; omega, by simp [u2]; omega, ?_⟩
      intro j q lf' t hq hlf' ht
      by_cases c : j < i
      · rw [List.getElem?_append_left (by omega)] at hq hlf'
        rw [List.getElem?_take_of_lt (by omega)] at ht
        have := u3 j q lf' t hq hlf' (by rw [List.getElem?_take_of_lt c]; exact ht)
        exact ⟨⟨_, sn _ _ this.1.choose_spec⟩, sn _ _ this.2⟩
      · have hj := (List.getElem?_eq_some_iff.mp hq).1
        rw [List.length_append, List.length_singleton] at hj
        have ej : j = i := by omega
        subst ej
        rw [List.getElem?_append_right (by omega), u1] at hq
        rw [List.getElem?_append_right (by omega), u2] at hlf'
        rw [List.getElem?_take_of_lt (by omega), List.getElem?_eq_getElem hit] at ht
        simp at hq hlf'
        subst hq hlf'
        cases ht
        exact ⟨⟨dy, by rw [upd_ne nly.symm, upd_same]⟩, upd_same⟩
  · rintro H1 ⟨s1, Hn, ts', fs', fr, hnD, hD1, u⟩
    rw [List.length_map, t1, List.take_length] at u
    refine ⟨_, rfl, sa, A.heap, dh, _, _, rfl, s1 _ _ h1, cl, T.cHeap.na _ (by decide +kernel), hpF_count _ _, _, rfl, _, rfl, sa, A.heap, dh, _, _, rfl, s1 _ _ h1, cl, T.cHeap.na _ (by decide +kernel), hpF_vars _ _, .inl ⟨rfl, _, SqL.of (s1 _ _ h3)⟩, lv, _, rfl, rfl, s1 _ _ h3, fun v' hv' => ?_⟩
    intro y dy ny ndy nyd
    refine ⟨y, dy, D, v', p.classes.length, rfl, upd_same, fun H3 hy3 ho3 => ⟨rfl, ?_⟩⟩
    have nvy : v' ≠ y := fun z => by rw [← z, upd_same] at ny; cases ny
    have ny1 : H1 y = none := by rw [upd_ne nvy.symm] at ny; exact ny
    have s2 : Same (upd H1 v' (.lst (h.vars.map oV))) H3 := made_same ny ndy ho3
    have s13 : Same H1 H3 := (same_upd (Same.refl H1) hv').trans s2
    have nDv : D ≠ v' := ne_of_none hD1 hv'
    have nDy : D ≠ y := ne_of_none hD1 ny1
    have hnv : Hn v' = none := by
      cases z : Hn v' with
      | none => rfl
      | some o => have := (fr _ _ z).2; rw [hv'] at this; cases this
    have hny : Hn y = none := by
      cases z : Hn y with
      | none => rfl
      | some o => have := (fr _ _ z).2; rw [ny1] at this; cases this
    refine k y (upd (upd (upd Hn D (.lst (ts'.map V.ref))) v' (.lst (h.vars.map oV))) y (.ins A.heap dy (hpF p.classes.length D v'))) H3 (s1.trans s13) ?_ ?_
    · intro b o hb
      by_cases c1 : b = y
      · subst c1; rw [upd_same] at hb
        exact ⟨s1.free ny1, by rw [hy3]; exact hb⟩
      rw [upd_ne c1] at hb
      by_cases c2 : b = v'
      · subst c2; rw [upd_same] at hb
        exact ⟨s1.free hv', by rw [s2 _ _ upd_same]; exact hb⟩
      rw [upd_ne c2] at hb
      by_cases c3 : b = D
      · subst c3; rw [upd_same] at hb
        exact ⟨hD, by rw [s13 _ _ hD1]; exact hb⟩
      rw [upd_ne c3] at hb
      obtain ⟨f1, f2⟩ := fr b o hb
      exact ⟨f1, s13 _ _ f2⟩
    · have sn : Same Hn (upd (upd (upd Hn D (.lst (ts'.map V.ref))) v' (.lst (h.vars.map oV))) y (.ins A.heap dy (hpF p.classes.length D v'))) := same_upd (same_upd (same_upd (Same.refl Hn) hnD) hnv) hny
      exact ⟨dy, D, v', ts', fs', upd_same, by rw [upd_ne nDy, upd_ne nDv, upd_same], by rw [upd_ne nvy, upd_same], u.same sn sn⟩
end
end Kq
namespace Kq
open PySem PySem.Spec PyProof.Rows L2
open Kp (wd such counts)
open Hx01 (wClass wNew wSet wGet wLet wTimes wEnd wSnap wNil)
theorem get_some {α : Type} {l : List α} {i : Nat} (h : i < l.length) : ∃ a, l[i]? = some a := ⟨_, List.getElem?_eq_getElem h⟩
/-- a row that is come to, the step counted -/
structure DeedIn (A : CA) (H : Hp) (g : RG) (H0 : Hp) (f : PF) (wss : List (List (List Nat))) (p : Hx01.Program) (ks : List Addr) (row : Nat) (o : List (Nat × Nat)) (wy : Hx01.Way) (ts fs rs ss : List Addr) (q : Addr) (ws : List (List Nat)) : Prop where
  run : RunAt A H g H0 f wss p ks row o wy ts fs rs ss
  wh : Kp.Whole wss p
  ok : WOk wss
  row_ : wss[row]? = some ws
  ne : ws ≠ []
  hq : H0 q = some (.lst (vS ws))
  heap : Kp.HOk p wy.heap
  stk : o.map (fun x => x.1) = Kp.stackAt p.acts row
  snaps : wy.snaps.length ≤ 8
section
variable {A : CA} {H H' : Hp} {g : RG} {H0 : Hp} {f : PF} {wss : List (List (List Nat))} {p : Hx01.Program} {ks : List Addr} {row : Nat} {o : List (Nat × Nat)} {wy : Hx01.Way} {ts fs rs ss : List Addr} {q : Addr} {ws : List (List Nat)}
theorem DeedIn.told (d : DeedIn A H g H0 f wss p ks row o wy ts fs rs ss q ws) : Kp.Told p ws := by
  have hi := (List.getElem?_eq_some_iff.mp d.row_).1
  exact (d.wh.rd.row row ws hi d.row_).2 d.ne
theorem DeedIn.act (d : DeedIn A H g H0 f wss p ks row o wy ts fs rs ss q ws) : p.acts[row]? = some (Kp.actOf p ws) := by
  have hi := (List.getElem?_eq_some_iff.mp d.row_).1
  have := (d.wh.rd.row row ws hi d.row_).1
  rw [this]
  unfold Kp.actAt
  rw [if_neg d.ne]
theorem DeedIn.words (d : DeedIn A H g H0 f wss p ks row o wy ts fs rs ss q ws) (K : PySem.W.Frag) : Ws K H q ws := d.ok.ws (List.mem_of_getElem? d.row_) (d.run.same _ _ d.hq) d.ne
theorem DeedIn.lt (d : DeedIn A H g H0 f wss p ks row o wy ts fs rs ss q ws) : row < 1000 := by
  have hi := (List.getElem?_eq_some_iff.mp d.row_).1
  have := d.ok.len
  omega
end
/-- what a deed does: it stops there, or goes on -/
def spDeed (A : CA) (c : List Nat) : Sp := fun vs H Q _ => ∃ (g : RG) (H0 : Hp) (f : PF) (wss : List (List (List Nat))) (p : Hx01.Program) (ks : List Addr) (row : Nat) (o : List (Nat × Nat)) (wy : Hx01.Way) (ts fs rs ss : List Addr) (q : Addr) (ws : List (List Nat)),
  vs = [.ref g.a, .ref q] ∧ DeedIn A H g H0 f wss p ks row o wy ts fs rs ss q ws ∧ wd ws 0 = c ∧
  (Kp.doRow p row o wy (Kp.actOf p ws) = none → ∀ H', RunAt A H' g H0 f wss p ks row o wy ts fs rs ss → Q .non H') ∧
  (∀ i' o' wy', Kp.doRow p row o wy (Kp.actOf p ws) = some (i', o', wy') → ∀ H' H0' ts' fs' rs' ss', RunAt A H' g H0' f wss p ks row o' wy' ts' fs' rs' ss' → Same H0 H0' → Q (.int (i' : Nat)) H')
theorem spDeed_len {A : CA} {c : List Nat} {vs : List V} {H : Hp} {Q : VK} {E : XK} (h : spDeed A c vs H Q E) : vs.length = 2 := by
  obtain ⟨g, H0, f, wss, p, ks, row, o, wy, ts, fs, rs, ss, q, ws, rfl, _⟩ := h
  rfl
section
variable {P : Program} {w : World} {K : PySem.W.Frag} {mg : Str → Option Value} {base : Heap} {A : CA}
/-! do_let -/
theorem scDo : FnScope ["run", "words"] ["run", "words"] (defScope sDoLet) := ⟨rfl, rfl, rfl, by decide +kernel, rfl, by decide +kernel, by decide +kernel⟩
theorem act_let {p : Hx01.Program} {ws : List (List Nat)} (h : wd ws 0 = wLet) : Kp.actOf p ws = .let_ (Kp.idx p.vars (wd ws 1)) (Kp.orNil p.vars (wd ws 2)) := by
  unfold Kp.actOf
  rw [h, if_neg (by decide), if_neg (by decide), if_neg (by decide), if_pos rfl]
theorem act_get {p : Hx01.Program} {ws : List (List Nat)} (h : wd ws 0 = wGet) : Kp.actOf p ws = .get (Kp.idx p.vars (wd ws 1)) (Kp.idx p.vars (wd ws 2)) (wd ws 3) := by
  unfold Kp.actOf
  rw [h, if_neg (by decide), if_neg (by decide), if_pos rfl]
theorem act_set {p : Hx01.Program} {ws : List (List Nat)} (h : wd ws 0 = wSet) : Kp.actOf p ws = .set (Kp.idx p.vars (wd ws 1)) (wd ws 2) (Kp.orNil p.vars (wd ws 3)) := by
  unfold Kp.actOf
  rw [h, if_neg (by decide), if_pos rfl]
theorem act_new {p : Hx01.Program} {ws : List (List Nat)} (h : wd ws 0 = wNew) : Kp.actOf p ws = .new (Kp.idx p.vars (wd ws 1)) (Kp.idx (p.classes.map fun x => x.name) (wd ws 2)) := by
  unfold Kp.actOf
  rw [h, if_pos rfl]
theorem act_snap {p : Hx01.Program} {ws : List (List Nat)} (h : wd ws 0 = wSnap) : Kp.actOf p ws = .snap := by
  unfold Kp.actOf
  rw [h, if_neg (by decide), if_neg (by decide), if_neg (by decide), if_neg (by decide), if_neg (by decide), if_neg (by decide), if_pos rfl]
theorem act_times2 {p : Hx01.Program} {ws : List (List Nat)} (h : wd ws 0 = wTimes) : Kp.actOf p ws = .times ((Hx01.number (wd ws 1)).getD 0) := by
  unfold Kp.actOf
  rw [h, if_neg (by decide), if_neg (by decide), if_neg (by decide), if_neg (by decide), if_pos rfl]
/-- None if word == 'nil' else held_by(run, word), the word the i-th -/
theorem rd_orNil {H : Hp} {g : RG} {H0 : Hp} {f : PF} {wss : List (List (List Nat))} {p : Hx01.Program} {ks : List Addr} {row : Nat} {o : List (Nat × Nat)} {wy : Hx01.Way} {ts fs rs ss : List Addr} {q : Addr} {ws : List (List Nat)} {σ : L2.St} {Q : VK} {i : Nat}
    (d : DeedIn A H g H0 f wss p ks row o wy ts fs rs ss q ws) (hi : i < ws.length) (ht : wd ws i ≠ wNil → wd ws i ∈ p.vars) (s0 : σ[0]? = some (some (.ref g.a))) (s1 : σ[1]? = some (some (.ref q)))
    (k : Q (oV ((Kp.orNil p.vars (wd ws i)).bind (Hx01.held wy.heap))) H) :
    tIf (tTest (tOp rEq (tOp (rIxL K) (tVar 1) (tC (.int (i : Int)))) (tC (.str "nil")))) (tC .non) (tCall (spHeldBy A) [] E0 (tCons (tVar 0) (tCons (tOp (rIxL K) (tVar 1) (tC (.int (i : Int)))) tNil))) σ H Q := by
  have hw := d.words K
  refine ⟨_, s1, q, _, _, _, rfl, rfl, hw.at_, wat hi, rfl, _, rfl, ?_⟩
  rw [s_nil, strEq]
  unfold Kp.orNil at k
  by_cases c : wd ws i = wNil
  · rw [decide_eq_true c]
    rw [if_pos c] at k
    exact ifT rfl k
  · rw [decide_eq_false c]
    rw [if_neg c] at k
    refine ifF rfl ?_
    exact ⟨_, s0, _, s1, q, _, _, _, rfl, rfl, hw.at_, wat hi, g, H0, f, wss, p, ks, row, o, wy, ts, fs, rs, ss, wd ws i, rfl, d.run, ht c, d.heap.vars, k⟩
theorem c_doLet (T : TxtR A w K mg) : Cb P w K mg base 2 "do_let" ["run", "words"] (spDeed A wLet) := by
  refine T.dLet.cb scDo (fun vs H Q E h => spDeed_len h) (fun fa cdv Ar outer s H vs Q E hr h => ?_)
  obtain ⟨g, H0, f, wss, p, ks, row, o, wy, ts, fs, rs, ss, q, ws, rfl, d, e, kN, kS⟩ := h
  refine ⟨_, pss_cons (ps_expr (pe_cb (c_hold T) hr rfl (pa_cons (pv 0) (pa_cons (pe_ix ix_list (pv 1) pe_int (fun _ _ => rfl)) (pa_cons (pe_ifExp (pt_cmpR op_eq (pe_ix ix_list (pv 1) pe_int (fun _ _ => rfl)) pe_str (nomark _)) pe_non (pe_cb (c_heldBy T) hr rfl (pa_cons (pv 0) (pa_cons (pe_ix ix_list (pv 1) pe_int (fun _ _ => rfl)) pa_nil)))) pa_nil)))))
    (pss_one (ps_ret (pe_op op_add (pe_fld (pv 0) rfl) pe_int))), ?_⟩
  have R := d.run
  have hw := d.words K
  have td := d.told
  have l := such_at td.ok e n_let
  obtain ⟨t1, t2⟩ := td.let_ e
  have ea := act_let (p := p) e
  refine ⟨_, rfl, _, rfl, q, _, _, _, rfl, rfl, hw.at_, wat (i := 1) (by omega), ?_⟩
  refine rd_orNil (i := 2) d (by omega) t2 rfl rfl ?_
  refine ⟨g, H0, f, wss, p, ks, row, o, wy, ts, fs, rs, ss, wd ws 1, _, rfl, R, t1, d.heap.vars, ?_⟩
  have R2 := R.putv (Kp.idx p.vars (wd ws 1)) ((Kp.orNil p.vars (wd ws 2)).bind (Hx01.held wy.heap))
  refine ⟨_, rfl, g.a, A.run, g.dx, _, _, rfl, R2.obj, T.cRun.cl, T.cRun.na _ (by decide +kernel), rnF_row _ _ _ _, _, _, rfl, rfl, ?_⟩
  exact kS (row + 1) o _ (by rw [ea]; rfl) _ H0 ts fs rs ss R2 (Same.refl H0)
/-! do_get -/
theorem scGet : FnScope ["run", "words", "number", "place"] ["run", "words"] (defScope sDoGet) := ⟨rfl, rfl, rfl, by decide +kernel, rfl, by decide +kernel, by decide +kernel⟩
theorem field_lt {p : Hx01.Program} {h : Hx01.Heap} (ho : Kp.HOk p h) {q k : Nat} {fd : List Nat} (e : Hx01.fieldOf p h q fd = some k) : ∃ t, h.things[q]? = some t ∧ k < t.fields.length := by
  unfold Hx01.fieldOf at e
  cases g : h.things[q]? with
  | none => rw [g] at e; cases e
  | some t =>
    rw [g] at e
    have e : ((p.classes[t.cls]?).bind fun c => Hx01.indexOf c.fields fd) = some k := e
    obtain ⟨c, h1, h2, _⟩ := ho.cls t (List.mem_of_getElem? g)
    rw [h1] at e
    have e : Hx01.indexOf c.fields fd = some k := e
    unfold Hx01.indexOf at e
    have := (List.findIdx?_eq_some_iff_findIdx_eq.mp e).1
    exact ⟨t, rfl, by omega⟩
theorem c_doGet (T : TxtR A w K mg) : Cb P w K mg base 2 "do_get" ["run", "words"] (spDeed A wGet) := by
  refine T.dGet.cb scGet (fun vs H Q E h => spDeed_len h) (fun fa cdv Ar outer s H vs Q E hr h => ?_)
  obtain ⟨g, H0, f, wss, p, ks, row, o, wy, ts, fs, rs, ss, q, ws, rfl, d, e, kN, kS⟩ := h
  refine ⟨_, pss_cons (ps_set (i := 2) scGet.nd rfl (Or.inl rfl) (pe_cb (c_heldBy T) hr rfl (pa_cons (pv 0) (pa_cons (pe_ix ix_list (pv 1) pe_int (fun _ _ => rfl)) pa_nil))))
    (pss_cons (ps_set (i := 3) scGet.nd rfl (Or.inl rfl) (pe_cb (c_place T) hr rfl (pa_cons (pv 0) (pa_cons (pv 2) (pa_cons (pe_ix ix_list (pv 1) pe_int (fun _ _ => rfl)) pa_nil)))))
    (pss_cons (ps_if (pt_cmp (pc_isN (pv 3))) (pss_one (ps_ret pe_non)) pss_nil)
    (pss_cons (ps_expr (pe_cb (c_hold T) hr rfl (pa_cons (pv 0) (pa_cons (pe_ix ix_list (pv 1) pe_int (fun _ _ => rfl)) (pa_cons (pe_ix ix_list (pe_fld (pe_ix ix_list (pe_fld (pe_fld (pv 0) rfl) rfl) (pv 2) (fun _ _ => rfl)) rfl) (pv 3) (fun _ _ => rfl)) pa_nil)))))
    (pss_one (ps_ret (pe_op op_add (pe_fld (pv 0) rfl) pe_int)))))), ?_⟩
  have R := d.run
  have hw := d.words K
  have td := d.told
  have l := such_at td.ok e n_get
  obtain ⟨t1, t2⟩ := td.get e
  have ea := act_get (p := p) e
  refine ⟨_, rfl, _, rfl, q, _, _, _, rfl, rfl, hw.at_, wat (i := 2) (by omega), g, H0, f, wss, p, ks, row, o, wy, ts, fs, rs, ss, wd ws 2, rfl, R, t2, d.heap.vars, ?_⟩
  refine ⟨_, rfl, _, rfl, _, rfl, q, _, _, _, rfl, rfl, hw.at_, wat (i := 3) (by omega), g, H0, f, wss, p, ks, row, o, wy, ts, fs, rs, ss, _, wd ws 3, rfl, R, d.heap, fun z hz => Kp.held_lt d.heap hz, ?_⟩
  refine ⟨_, rfl, _, rfl, ?_⟩
  rw [ea] at kN kS
  simp only [Kp.doRow] at kN kS
  cases eh : Hx01.held wy.heap (Kp.idx p.vars (wd ws 2)) with
  | none =>
    rw [eh] at kN
    refine ifT rfl ?_
    exact kN rfl H R
  | some z =>
    rw [eh] at kN kS
    dsimp only at kN kS
    have ef : ((some z).bind fun q => Hx01.fieldOf p wy.heap q (wd ws 3)) = Hx01.fieldOf p wy.heap z (wd ws 3) := rfl
    rw [ef]
    cases e2 : Hx01.fieldOf p wy.heap z (wd ws 3) with
    | none =>
      rw [e2] at kN
      refine ifT rfl ?_
      exact kN rfl H R
    | some kk =>
      rw [e2] at kS
      obtain ⟨t, ht, hk⟩ := field_lt d.heap e2
      rw [ht] at kS
      refine ifF rfl ?_
      have hz : z < wy.heap.things.length := (List.getElem?_eq_some_iff.mp ht).1
      obtain ⟨tz, hts⟩ := get_some (l := ts) (i := z) (by have := R.things.1; omega)
      obtain ⟨fz, hfs⟩ := get_some (l := fs) (i := z) (by have := R.things.2.1; omega)
      obtain ⟨⟨dt, g1⟩, g2⟩ := R.things.2.2 z _ _ _ hts hfs ht
      have g1 := R.same _ _ g1
      refine ⟨_, rfl, _, rfl, q, _, _, _, rfl, rfl, hw.at_, wat (i := 1) (by omega), _, rfl, g.a, A.run, g.dx, _, _, rfl, R.obj, T.cRun.cl, T.cRun.na _ (by decide +kernel), rnF_heap _ _ _ _, g.h, A.heap, g.hd, _, _, rfl, R.same _ _ R.hobj, T.cHeap.cl, T.cHeap.na _ (by decide +kernel), hpF_things _ _, ?_⟩
      refine ⟨_, rfl, g.lt, _, _, _, rfl, rfl, SqL.of R.lt, atI_nat (j := z) (by rw [List.getElem?_map, hts]; rfl), _, A.thing, dt, _, _, rfl, g1, T.cThing.cl, T.cThing.na _ (by decide +kernel), thF_fields _ _ _ _, _, rfl, fz, _, _, _, rfl, rfl, SqL.of g2, oV_get hk, ?_⟩
      refine ⟨g, H0, f, wss, p, ks, row, o, wy, ts, fs, rs, ss, wd ws 1, _, rfl, R, t1, d.heap.vars, ?_⟩
      have R2 := R.putv (Kp.idx p.vars (wd ws 1)) ((t.fields[kk]?).bind fun x => x)
      refine ⟨_, rfl, g.a, A.run, g.dx, _, _, rfl, R2.obj, T.cRun.cl, T.cRun.na _ (by decide +kernel), rnF_row _ _ _ _, _, _, rfl, rfl, ?_⟩
      exact kS (row + 1) o _ rfl _ H0 ts fs rs ss R2 (Same.refl H0)
end
end Kq
namespace Kq
open PySem PySem.Spec PyProof.Rows L2
open Kp (wd such counts)
open Hx01 (wClass wNew wSet wGet wLet wTimes wEnd wSnap wNil)
section
variable {A : CA} {H H' : Hp} {g : RG} {H0 : Hp} {f : PF} {wss : List (List (List Nat))} {p : Hx01.Program} {ks : List Addr} {row : Nat} {o : List (Nat × Nat)} {w : Hx01.Way} {ts fs rs ss : List Addr}
theorem RunAt.tracked (h : RunAt A H g H0 f wss p ks row o w ts fs rs ss) {x : Addr} (hx : x ∈ g.mut fs rs) : ∃ u, H x = some u := by
  unfold RG.mut at hx
  simp only [List.mem_cons, List.mem_append] at hx
  rcases hx with z | z | z | z | z | z | z
  · exact ⟨_, z ▸ h.obj⟩
  · exact ⟨_, z ▸ h.lt⟩
  · exact ⟨_, z ▸ h.lv⟩
  · exact ⟨_, z ▸ h.ls⟩
  · exact ⟨_, z ▸ h.lo⟩
  · obtain ⟨i, hi, e⟩ := List.getElem_of_mem z
    have hi2 : i < w.heap.things.length := by have := h.things.2.1; omega
    obtain ⟨tz, htz⟩ := get_some (l := ts) (i := i) (by have := h.things.1; omega)
    exact ⟨_, (h.things.2.2 i tz x _ htz (by rw [List.getElem?_eq_getElem hi, e]) (List.getElem?_eq_getElem hi2)).2⟩
  · obtain ⟨i, hi, e⟩ := List.getElem_of_mem z
    have hi2 : i < o.reverse.length := by have := h.rounds.1; rw [List.length_reverse]; omega
    exact ⟨_, h.rounds.2 i x _ (by rw [List.getElem?_eq_getElem hi, e]) (List.getElem?_eq_getElem hi2)⟩
theorem RunAt.ndf (h : RunAt A H g H0 f wss p ks row o w ts fs rs ss) : (fs ++ rs).Nodup := by
  have nd := h.nd
  unfold RG.mut at nd
  simp only [List.nodup_cons] at nd
  exact nd.2.2.2.2.2
/-- two places of a list without repeats -/
theorem nd_ne {l : List Addr} (h : l.Nodup) {i j : Nat} {x y : Addr} (hx : l[i]? = some x) (hy : l[j]? = some y) (n : i ≠ j) : x ≠ y := by
  intro e
  subst e
  obtain ⟨h1, e1⟩ := List.getElem?_eq_some_iff.mp hx
  obtain ⟨h2, e2⟩ := List.getElem?_eq_some_iff.mp hy
  rcases Nat.lt_or_gt_of_ne n with c | c
  · exact List.pairwise_iff_getElem.mp h i j h1 h2 c (e1.trans e2.symm)
  · exact List.pairwise_iff_getElem.mp h j i h2 h1 c (e2.trans e1.symm)
/-- a field gets something -/
theorem RunAt.setf (h : RunAt A H g H0 f wss p ks row o w ts fs rs ss) {q k : Nat} {t : Hx01.Thing} {lf : Addr} (x : Option Nat) (ht : w.heap.things[q]? = some t) (hf : fs[q]? = some lf) :
    RunAt A (upd H lf (.lst ((t.fields.set k x).map oV))) g H0 f wss p ks row o { w with heap := { w.heap with things := w.heap.things.set q { t with fields := t.fields.set k x } } } ts fs rs ss := by
  obtain ⟨n1, n2, n3, n4, n5⟩ := h.fsne hf
  have nd := h.ndf
  have hfm : lf ∈ fs := List.mem_of_getElem? hf
  refine ⟨same_upd h.same (h.free _ (by simp [RG.mut, hfm])), h.nd, h.free, h.pr, (upd_ne n1.symm).trans h.obj, h.hobj, (upd_ne n2.symm).trans h.lt, (upd_ne n3.symm).trans h.lv, ⟨?_, ?_, fun j u lf' t' h1 h2 h3 => ?_⟩, (upd_ne n4.symm).trans h.ls, h.snaps, (upd_ne n5.symm).trans h.lo, ⟨h.rounds.1, fun j r y h1 h2 => ?_⟩⟩
  · rw [List.length_set]; exact h.things.1
  · rw [List.length_set]; exact h.things.2.1
  · by_cases c : j = q
    · subst c
      have hq : j < w.heap.things.length := (List.getElem?_eq_some_iff.mp ht).1
      rw [List.getElem?_set_self hq] at h3
      have h3 := Option.some.inj h3
      subst h3
      rw [hf] at h2
      have h2 := Option.some.inj h2
      subst h2
      exact ⟨(h.things.2.2 j u lf t h1 hf ht).1, upd_same⟩
    · have h3 : (w.heap.things.set q { t with fields := t.fields.set k x })[j]? = some t' := h3
      rw [List.getElem?_set_ne (fun z => c z.symm)] at h3
      have := h.things.2.2 j u lf' t' h1 h2 h3
      have ndf : fs.Nodup := (List.nodup_append.mp nd).1
      exact ⟨this.1, (upd_ne (nd_ne ndf h2 hf c)).trans this.2⟩
  · have hd := (List.nodup_append.mp nd).2.2
    exact (upd_ne (fun z => hd lf hfm r (List.mem_of_getElem? h1) z.symm)).trans (h.rounds.2 j r y h1 h2)
/-- a times begins -/
theorem RunAt.addr (h : RunAt A H g H0 f wss p ks row o w ts fs rs ss) {r b k : Nat} {x : Addr} (hx : H x = none) (hb : r = k + 1) :
    RunAt A (upd (upd H x (.lst [V.int (b : Nat), V.int (r : Nat)])) g.lo (.lst ((rs.map V.ref) ++ [V.ref x]))) g H0 f wss p ks row ((b, k) :: o) w ts fs (rs ++ [x]) ss := by
  subst hb
  obtain ⟨⟨n1, n2, n3, n4⟩, ⟨n5, n6, n7⟩, ⟨n8, n9⟩, n10⟩ := h.ne
  have xm : ∀ y ∈ g.mut fs rs, y ≠ x := fun y hy => by
    obtain ⟨u, hu⟩ := h.tracked hy
    exact ne_of_none hu hx
  have ma := xm g.a (by simp [RG.mut])
  have mt := xm g.lt (by simp [RG.mut])
  have mv := xm g.lv (by simp [RG.mut])
  have ms := xm g.ls (by simp [RG.mut])
  have mo := xm g.lo (by simp [RG.mut])
  have em : g.mut fs (rs ++ [x]) = g.mut fs rs ++ [x] := by simp [RG.mut]
  refine ⟨same_upd (same_upd h.same (h.same.free hx)) h.mem_lo, ?_, ?_, h.pr, by rw [upd_ne n4, upd_ne ma]; exact h.obj, h.hobj, by rw [upd_ne n7, upd_ne mt]; exact h.lt, by rw [upd_ne n9, upd_ne mv]; exact h.lv, ⟨h.things.1, h.things.2.1, fun j u lf' t' h1 h2 h3 => ?_⟩, by rw [upd_ne n10, upd_ne ms]; exact h.ls, h.snaps, by rw [upd_same]; simp, ⟨by simp [h.rounds.1], fun j r y h1 h2 => ?_⟩⟩
  · rw [em, List.nodup_append]
    refine ⟨h.nd, by simp, ?_⟩
    intro y hy z hz
    rw [List.mem_singleton.mp hz]
    exact xm y hy
  · intro y hy
    rw [em] at hy
    rcases List.mem_append.mp hy with z | z
    · exact h.free y z
    · rw [List.mem_singleton.mp z]; exact h.same.free hx
  · have := h.things.2.2 j u lf' t' h1 h2 h3
    refine ⟨this.1, ?_⟩
    rw [upd_ne (h.fsne h2).2.2.2.2, upd_ne (xm lf' (by simp [RG.mut, List.mem_of_getElem? h2]))]
    exact this.2
  · rw [List.reverse_cons] at h2
    have hl := h.rounds.1
    by_cases c : j < rs.length
    · rw [List.getElem?_append_left c] at h1
      rw [List.getElem?_append_left (by rw [List.length_reverse]; omega)] at h2
      rw [upd_ne (h.rsne h1).2.2.2.2, upd_ne (xm r (by simp [RG.mut, List.mem_of_getElem? h1]))]
      exact h.rounds.2 j r y h1 h2
    · have hj := (List.getElem?_eq_some_iff.mp h1).1
      rw [List.length_append, List.length_singleton] at hj
      have ej : j = rs.length := by omega
      subst ej
      rw [List.getElem?_append_right (Nat.le_refl _)] at h1
      rw [List.getElem?_append_right (by rw [List.length_reverse]; omega), List.length_reverse, hl] at h2
      simp at h1 h2
      subst h1 h2
      rw [upd_ne mo.symm, upd_same]
/-- the innermost times ends -/
theorem RunAt.popr {b k : Nat} {o : List (Nat × Nat)} (h : RunAt A H g H0 f wss p ks row ((b, k) :: o) w ts fs rs ss) (hH : Same H0 H') (he : ∀ y ∈ g.mut fs rs, y ≠ g.lo → rs[rs.length - 1]? ≠ some y → H' y = H y) (hl : H' g.lo = some (.lst (rs.map V.ref).dropLast)) :
    RunAt A H' g H0 f wss p ks row o w ts fs rs.dropLast ss := by
  obtain ⟨⟨n1, n2, n3, n4⟩, ⟨n5, n6, n7⟩, ⟨n8, n9⟩, n10⟩ := h.ne
  have hlen : rs.length = o.length + 1 := h.rounds.1
  have nd := h.ndf
  have sub : ∀ y ∈ g.mut fs rs.dropLast, y ∈ g.mut fs rs := by
    intro y hy
    unfold RG.mut at hy ⊢
    simp only [List.mem_cons, List.mem_append] at hy ⊢
    rcases hy with z | z | z | z | z | z | z
    · exact .inl z
    · exact .inr (.inl z)
    · exact .inr (.inr (.inl z))
    · exact .inr (.inr (.inr (.inl z)))
    · exact .inr (.inr (.inr (.inr (.inl z))))
    · exact .inr (.inr (.inr (.inr (.inr (.inl z)))))
    · exact .inr (.inr (.inr (.inr (.inr (.inr (List.dropLast_subset _ z))))))
  have lastne : ∀ y, y ∈ [g.a, g.lt, g.lv, g.ls] → rs[rs.length - 1]? ≠ some y := by
    intro y hy e
    have := h.rsne e
    simp at hy
    rcases hy with z | z | z | z <;> rw [z] at this
    · exact this.1 rfl
    · exact this.2.1 rfl
    · exact this.2.2.1 rfl
    · exact this.2.2.2.1 rfl
  refine ⟨hH, ?_, fun y hy => h.free y (sub y hy), h.pr, ?_, h.hobj, ?_, ?_, ⟨h.things.1, h.things.2.1, fun j u lf' t' h1 h2 h3 => ?_⟩, ?_, h.snaps, by rw [hl, List.map_dropLast], ⟨by simp [hlen], fun j r y h1 h2 => ?_⟩⟩
  · have sl : (g.mut fs rs.dropLast).Sublist (g.mut fs rs) := by
      unfold RG.mut
      exact (List.Sublist.append (List.Sublist.refl fs) (List.dropLast_sublist rs)).cons₂ _ |>.cons₂ _ |>.cons₂ _ |>.cons₂ _ |>.cons₂ _
    exact h.nd.sublist sl
  · rw [he g.a (by simp [RG.mut]) n4 (lastne _ (by simp))]; exact h.obj
  · rw [he g.lt (by simp [RG.mut]) n7 (lastne _ (by simp))]; exact h.lt
  · rw [he g.lv (by simp [RG.mut]) n9 (lastne _ (by simp))]; exact h.lv
  · have := h.things.2.2 j u lf' t' h1 h2 h3
    have hm : lf' ∈ fs := List.mem_of_getElem? h2
    refine ⟨this.1, ?_⟩
    rw [he lf' (by simp [RG.mut, hm]) (h.fsne h2).2.2.2.2 ?_]
    · exact this.2
    · intro e
      exact (List.nodup_append.mp nd).2.2 lf' hm lf' (List.mem_of_getElem? e) rfl
  · rw [he g.ls (by simp [RG.mut]) n10 (lastne _ (by simp))]; exact h.ls
  · rw [List.getElem?_dropLast] at h1
    by_cases c : j < rs.length - 1
    · rw [if_pos c] at h1
      have ndr : rs.Nodup := (List.nodup_append.mp nd).2.1
      rw [he r (by simp [RG.mut, List.mem_of_getElem? h1]) (h.rsne h1).2.2.2.2 ?_]
      · refine h.rounds.2 j r y h1 ?_
        rw [List.reverse_cons, List.getElem?_append_left (by rw [List.length_reverse]; omega)]
        exact h2
      · intro e
        exact nd_ne ndr h1 e (by omega) rfl
    · rw [if_neg c] at h1; cases h1
/-- the innermost times goes on -/
theorem RunAt.decr {b k k' : Nat} {o : List (Nat × Nat)} (h : RunAt A H g H0 f wss p ks row ((b, k) :: o) w ts fs rs ss) {r : Addr} (hr : rs[rs.length - 1]? = some r) (hk : k = k' + 1) : RunAt A (upd H r (.lst [V.int (b : Nat), V.int (k : Nat)])) g H0 f wss p ks row ((b, k') :: o) w ts fs rs ss := by
  subst hk
  obtain ⟨n1, n2, n3, n4, n5⟩ := h.rsne hr
  have hlen : rs.length = o.length + 1 := h.rounds.1
  have nd := h.ndf
  have hrm : r ∈ rs := List.mem_of_getElem? hr
  refine ⟨same_upd h.same (h.free _ (by simp [RG.mut, hrm])), h.nd, h.free, h.pr, (upd_ne n1.symm).trans h.obj, h.hobj, (upd_ne n2.symm).trans h.lt, (upd_ne n3.symm).trans h.lv, ⟨h.things.1, h.things.2.1, fun j u lf' t' h1 h2 h3 => ?_⟩, (upd_ne n4.symm).trans h.ls, h.snaps, (upd_ne n5.symm).trans h.lo, ⟨h.rounds.1, fun j x y h1 h2 => ?_⟩⟩
  · have := h.things.2.2 j u lf' t' h1 h2 h3
    refine ⟨this.1, (upd_ne ?_).trans this.2⟩
    exact (List.nodup_append.mp nd).2.2 lf' (List.mem_of_getElem? h2) r hrm
  · rw [List.reverse_cons] at h2
    by_cases c : j = rs.length - 1
    · subst c
      rw [hr] at h1
      have h1 := Option.some.inj h1
      subst h1
      rw [List.getElem?_append_right (by rw [List.length_reverse]; omega), List.length_reverse] at h2
      have e0 : rs.length - 1 - o.length = 0 := by omega
      rw [e0] at h2
      simp at h2
      subst h2
      exact upd_same
    · have hj := (List.getElem?_eq_some_iff.mp h1).1
      have ndr : rs.Nodup := (List.nodup_append.mp nd).2.1
      rw [List.getElem?_append_left (by rw [List.length_reverse]; omega)] at h2
      rw [upd_ne (nd_ne ndr h1 hr c)]
      refine h.rounds.2 j x y h1 ?_
      rw [List.reverse_cons, List.getElem?_append_left (by rw [List.length_reverse]; omega)]
      exact h2
end
end Kq
namespace Kq
open PySem PySem.Spec PyProof.Rows L2
open Kp (wd such counts)
open Hx01 (wClass wNew wSet wGet wLet wTimes wEnd wSnap wNil)
section
variable {P : Program} {w : World} {K : PySem.W.Frag} {mg : Str → Option Value} {base : Heap} {A : CA}
/-! do_set -/
theorem scSet : FnScope ["run", "words", "number", "place"] ["run", "words"] (defScope sDoSet) := ⟨rfl, rfl, rfl, by decide +kernel, rfl, by decide +kernel, by decide +kernel⟩
theorem c_doSet (T : TxtR A w K mg) : Cb P w K mg base 2 "do_set" ["run", "words"] (spDeed A wSet) := by
  refine T.dSet.cb scSet (fun vs H Q E h => spDeed_len h) (fun fa cdv Ar outer s H vs Q E hr h => ?_)
  obtain ⟨g, H0, f, wss, p, ks, row, o, wy, ts, fs, rs, ss, q, ws, rfl, d, e, kN, kS⟩ := h
  refine ⟨_, pss_cons (ps_set (i := 2) scSet.nd rfl (Or.inl rfl) (pe_cb (c_heldBy T) hr rfl (pa_cons (pv 0) (pa_cons (pe_ix ix_list (pv 1) pe_int (fun _ _ => rfl)) pa_nil))))
    (pss_cons (ps_set (i := 3) scSet.nd rfl (Or.inl rfl) (pe_cb (c_place T) hr rfl (pa_cons (pv 0) (pa_cons (pv 2) (pa_cons (pe_ix ix_list (pv 1) pe_int (fun _ _ => rfl)) pa_nil)))))
    (pss_cons (ps_if (pt_cmp (pc_isN (pv 3))) (pss_one (ps_ret pe_non)) pss_nil)
    (pss_cons (ps_asg (pe_ifExp (pt_cmpR op_eq (pe_ix ix_list (pv 1) pe_int (fun _ _ => rfl)) pe_str (nomark _)) pe_non (pe_cb (c_heldBy T) hr rfl (pa_cons (pv 0) (pa_cons (pe_ix ix_list (pv 1) pe_int (fun _ _ => rfl)) pa_nil))))
      (pg_sub (pe_fld (pe_ix ix_list (pe_fld (pe_fld (pv 0) rfl) rfl) (pv 2) (fun _ _ => rfl)) rfl) (pv 3) set_list))
    (pss_one (ps_ret (pe_op op_add (pe_fld (pv 0) rfl) pe_int)))))), ?_⟩
  have R := d.run
  have hw := d.words K
  have td := d.told
  have l := such_at td.ok e n_set
  obtain ⟨t1, t2⟩ := td.set e
  have ea := act_set (p := p) e
  refine ⟨_, rfl, _, rfl, q, _, _, _, rfl, rfl, hw.at_, wat (i := 1) (by omega), g, H0, f, wss, p, ks, row, o, wy, ts, fs, rs, ss, wd ws 1, rfl, R, t1, d.heap.vars, ?_⟩
  refine ⟨_, rfl, _, rfl, _, rfl, q, _, _, _, rfl, rfl, hw.at_, wat (i := 2) (by omega), g, H0, f, wss, p, ks, row, o, wy, ts, fs, rs, ss, _, wd ws 2, rfl, R, d.heap, fun z hz => Kp.held_lt d.heap hz, ?_⟩
  refine ⟨_, rfl, _, rfl, ?_⟩
  rw [ea] at kN kS
  simp only [Kp.doRow] at kN kS
  cases eh : Hx01.held wy.heap (Kp.idx p.vars (wd ws 1)) with
  | none =>
    rw [eh] at kN
    refine ifT rfl ?_
    exact kN rfl H R
  | some z =>
    rw [eh] at kN kS
    dsimp only at kN kS
    have ef : ((some z).bind fun q => Hx01.fieldOf p wy.heap q (wd ws 2)) = Hx01.fieldOf p wy.heap z (wd ws 2) := rfl
    rw [ef]
    cases e2 : Hx01.fieldOf p wy.heap z (wd ws 2) with
    | none =>
      rw [e2] at kN
      refine ifT rfl ?_
      exact kN rfl H R
    | some kk =>
      rw [e2] at kS
      obtain ⟨t, ht, hk⟩ := field_lt d.heap e2
      rw [ht] at kS
      refine ifF rfl ?_
      have hz : z < wy.heap.things.length := (List.getElem?_eq_some_iff.mp ht).1
      obtain ⟨tz, hts⟩ := get_some (l := ts) (i := z) (by have := R.things.1; omega)
      obtain ⟨fz, hfs⟩ := get_some (l := fs) (i := z) (by have := R.things.2.1; omega)
      obtain ⟨⟨dt, g1⟩, g2⟩ := R.things.2.2 z _ _ _ hts hfs ht
      have g1 := R.same _ _ g1
      refine rd_orNil (i := 3) d (by omega) t2 rfl rfl ?_
      refine ⟨_, rfl, g.a, A.run, g.dx, _, _, rfl, R.obj, T.cRun.cl, T.cRun.na _ (by decide +kernel), rnF_heap _ _ _ _, g.h, A.heap, g.hd, _, _, rfl, R.same _ _ R.hobj, T.cHeap.cl, T.cHeap.na _ (by decide +kernel), hpF_things _ _, ?_⟩
      refine ⟨_, rfl, g.lt, _, _, _, rfl, rfl, SqL.of R.lt, atI_nat (j := z) (by rw [List.getElem?_map, hts]; rfl), _, A.thing, dt, _, _, rfl, g1, T.cThing.cl, T.cThing.na _ (by decide +kernel), thF_fields _ _ _ _, _, rfl, fz, _, _, _, rfl, rfl, g2, ixN_nat (by rw [List.length_map]; exact hk), ?_⟩
      rw [show ((t.fields.map oV).set kk (oV ((Kp.orNil p.vars (wd ws 3)).bind (Hx01.held wy.heap)))) = (t.fields.set kk ((Kp.orNil p.vars (wd ws 3)).bind (Hx01.held wy.heap))).map oV from (List.map_set).symm]
      have R2 := R.setf (k := kk) ((Kp.orNil p.vars (wd ws 3)).bind (Hx01.held wy.heap)) ht hfs
      refine ⟨_, rfl, g.a, A.run, g.dx, _, _, rfl, R2.obj, T.cRun.cl, T.cRun.na _ (by decide +kernel), rnF_row _ _ _ _, _, _, rfl, rfl, ?_⟩
      exact kS (row + 1) o _ rfl _ H0 ts fs rs ss R2 (Same.refl H0)
/-! do_times -/
theorem scTimes : FnScope ["run", "words", "rounds"] ["run", "words"] (defScope sDoTimes) := ⟨rfl, rfl, rfl, by decide +kernel, rfl, by decide +kernel, by decide +kernel⟩
theorem c_doTimes (T : TxtR A w K mg) : Cb P w K mg base 2 "do_times" ["run", "words"] (spDeed A wTimes) := by
  refine T.dTimes.cb scTimes (fun vs H Q E h => spDeed_len h) (fun fa cdv Ar outer s H vs Q E hr h => ?_)
  obtain ⟨g, H0, f, wss, p, ks, row, o, wy, ts, fs, rs, ss, q, ws, rfl, d, e, kN, kS⟩ := h
  refine ⟨_, pss_cons (ps_set (i := 2) scTimes.nd rfl (Or.inl rfl) (pe_cb (c_number T.toTxtW) hr rfl (pa_cons (pe_ix ix_list (pv 1) pe_int (fun _ _ => rfl)) pa_nil)))
    (pss_cons (ps_if (pt_cmpR op_eq (pv 2) pe_int (nomark _)) (pss_one (ps_ret (pe_op op_add (pe_dget (hu_of hr) (pe_fld (pe_fld (pv 0) rfl) rfl) (pe_fld (pv 0) rfl) (fun _ _ => rfl)) pe_int))) pss_nil)
    (pss_cons (ps_expr (pe_bm PySem.F.plainAttrs_list PySem.F.slot_list_append PySem.F.type_list_append mt_append (pe_fld (pv 0) rfl) (pa_cons (pe_lst (pa_cons (pe_fld (pv 0) rfl) (pa_cons (pv 2) pa_nil))) pa_nil)))
    (pss_one (ps_ret (pe_op op_add (pe_fld (pv 0) rfl) pe_int))))), ?_⟩
  have R := d.run
  have hw := d.words K
  have td := d.told
  have l := such_at td.ok e n_times
  have ea := act_times2 (p := p) e
  have en : ∃ b, Hx01.number (wd ws 1) = some b := by
    have hs := td.ok
    unfold such at hs
    rw [e, n_times] at hs
    dsimp only at hs
    rw [if_pos (by omega), if_neg (by decide), if_pos rfl] at hs
    cases en : Hx01.number (wd ws 1) with
    | none => rw [en] at hs; cases hs
    | some b => exact ⟨b, rfl⟩
  obtain ⟨b, en⟩ := en
  rw [en] at ea
  have ha := d.act
  rw [ea] at ha
  rw [ea] at kN kS
  refine ⟨_, rfl, q, _, _, _, rfl, rfl, hw.at_, wat (i := 1) (by omega), _, rfl, wd_len hw.each 1, fun H1 s1 => ?_⟩
  rw [en]
  have R1 := R.go s1
  refine ⟨_, rfl, rfl, _, rfl, ?_⟩
  show if decide (V.int (b : Nat) = V.int 0) = true then _ else _
  rw [show V.int (0 : Int) = V.int ((0 : Nat) : Int) from rfl, intEq]
  by_cases c : b = 0
  · rw [decide_eq_true c]
    refine ifT rfl ?_
    obtain ⟨en1, z1, z2, z3, z4, z5⟩ := Kp.times_end d.wh.stk ha
    have pr := R1.pr.go R1.same
    refine ⟨_, rfl, g.a, A.run, g.dx, _, _, rfl, R1.obj, T.cRun.cl, T.cRun.na _ (by decide +kernel), rnF_prog _ _ _ _, f.a, A.prog, f.dx, _, _, rfl, pr.obj, T.cProg.cl, T.cProg.na _ (by decide +kernel), prF_ends f, ?_⟩
    refine ⟨_, rfl, g.a, A.run, g.dx, _, _, rfl, R1.obj, T.cRun.cl, T.cRun.na _ (by decide +kernel), rnF_row _ _ _ _, f.de, V.int (en1 : Nat), rfl, ?_, _, _, rfl, rfl, ?_⟩
    · have := DGet.k (k := Sum.inl ((row : Nat) : Int)) pr.de
      rw [eN_get (Kp.lookup_ends z4)] at this
      exact this
    · have hd : Kp.doRow p row o wy (.times b) = some (en1 + 1, o, wy) := by
        simp only [Kp.doRow, c, if_true, z1]
      exact kS (en1 + 1) o wy hd H1 H0 ts fs rs ss R1 (Same.refl H0)
  · rw [decide_eq_false c]
    refine ifF rfl ?_
    refine ⟨_, rfl, g.a, A.run, g.dx, _, _, rfl, R1.obj, T.cRun.cl, T.cRun.na _ (by decide +kernel), rnF_rounds _ _ _ _, .inl ⟨rfl, _, SqL.of R1.lo⟩, ?_⟩
    refine ⟨_, rfl, g.a, A.run, g.dx, _, _, rfl, R1.obj, T.cRun.cl, T.cRun.na _ (by decide +kernel), rnF_row _ _ _ _, _, rfl, big (by simp), fun x hx => ?_⟩
    have nx : g.lo ≠ x := ne_of_none R1.lo hx
    have hlo := d.stk
    have hol : o.length ≤ row := by
      have h1 := (Kp.NInv.nest (p.acts.take row)).stk
      have h2 := (Kp.NInv.nest (p.acts.take row)).lt
      have h3 : o.length = (Kp.stackAt p.acts row).length := by rw [← hlo, List.length_map]
      rw [h3]
      have hb : ∀ (l : List Nat) (n : Nat), l.Pairwise (fun a b => b < a) → (∀ x ∈ l, x < n) → l.length ≤ n := by
        intro l
        induction l with
        | nil => intro n _ _; exact Nat.zero_le _
        | cons a l ih =>
          intro n hp hn
          have hp := List.pairwise_cons.mp hp
          have := ih a hp.2 hp.1
          have := hn a (List.mem_cons_self ..)
          rw [List.length_cons]; omega
      have := hb _ _ h1 h2
      have hat : (Kp.nest (p.acts.take row)).at_ ≤ row := by rw [Kp.nest_at, List.length_take]; omega
      unfold Kp.stackAt
      omega
    refine ⟨g.lo, _, _, rfl, rfl, (upd_ne nx).trans R1.lo, bigLt (by rw [List.length_map, R1.rounds.1]; have := d.lt; omega), ?_⟩
    obtain ⟨k', rfl⟩ : ∃ k', b = k' + 1 := ⟨b - 1, by omega⟩
    have R2 := R1.addr (r := k' + 1) (b := row) (k := k') hx rfl
    refine ⟨_, rfl, g.a, A.run, g.dx, _, _, rfl, R2.obj, T.cRun.cl, T.cRun.na _ (by decide +kernel), rnF_row _ _ _ _, _, _, rfl, rfl, ?_⟩
    have hd : Kp.doRow p row o wy (.times (k' + 1)) = some (row + 1, (row, k') :: o, wy) := by
      simp only [Kp.doRow, if_neg (Nat.succ_ne_zero k')]
      rfl
    exact kS (row + 1) _ wy hd _ H0 ts fs _ ss R2 (Same.refl H0)
end
end Kq
namespace Kq
open PySem PySem.Spec PyProof.Rows L2
open Kp (wd such counts)
open Hx01 (wClass wNew wSet wGet wLet wTimes wEnd wSnap wNil)
/-- a heap with a new part -/
def joinH (Hn H0 : Hp) : Hp := fun b => match Hn b with
  | some o => some o
  | none => H0 b
theorem joinH_new {Hn H0 : Hp} : Same Hn (joinH Hn H0) := fun b o e => by
  unfold joinH
  rw [e]
theorem joinH_old {Hn H0 : Hp} {b : Addr} (h : Hn b = none) : joinH Hn H0 b = H0 b := by
  unfold joinH
  rw [h]
section
variable {A : CA} {H H' : Hp} {g : RG} {H0 : Hp} {f : PF} {wss : List (List (List Nat))} {p : Hx01.Program} {ks : List Addr} {row : Nat} {o : List (Nat × Nat)} {w : Hx01.Way} {ts fs rs ss : List Addr}
theorem RunAt.adds (h : RunAt A H g H0 f wss p ks row o w ts fs rs ss) {Hn : Hp} {s' : Addr} (sm : Same H H') (fr : Fresh H Hn H') (hs : HpAt A Hn p s' w.heap) :
    RunAt A (upd H' g.ls (.lst ((ss.map V.ref) ++ [V.ref s']))) g (joinH Hn H0) f wss p ks row o { w with snaps := w.snaps ++ [w.heap] } ts fs rs (ss ++ [s']) ∧ Same H0 (joinH Hn H0) := by
  obtain ⟨⟨n1, n2, n3, n4⟩, ⟨n5, n6, n7⟩, ⟨n8, n9⟩, n10⟩ := h.ne
  have hn : ∀ b u, H b = some u → Hn b = none := fun b u e => by
    cases z : Hn b with
    | none => rfl
    | some v => have := (fr _ _ z).1; rw [e] at this; cases this
  have s0 : Same H0 (joinH Hn H0) := fun b u e => by rw [joinH_old (hn b u (h.same _ _ e))]; exact e
  have R1 := h.go sm
  refine ⟨⟨?_, h.nd, ?_, h.pr.go s0, (upd_ne n3).trans R1.obj, s0 _ _ h.hobj, (upd_ne n6).trans R1.lt, (upd_ne n8).trans R1.lv, ⟨h.things.1, h.things.2.1, fun j u lf' t' h1 h2 h3 => ?_⟩, by rw [upd_same]; simp, ⟨by simp [h.snaps.1], fun j u y h1 h2 => ?_⟩, (upd_ne n10.symm).trans R1.lo, ⟨h.rounds.1, fun j r y h1 h2 => ?_⟩⟩, s0⟩
  · intro b u e
    cases z : Hn b with
    | some v =>
      have e2 : joinH Hn H0 b = some v := joinH_new _ _ z
      rw [e2] at e
      rw [upd_ne (fun y => by have := (fr _ _ z).1; rw [y, h.ls] at this; cases this), ← e]
      exact (fr _ _ z).2
    | none =>
      rw [joinH_old z] at e
      rw [upd_ne (fun y => by rw [y, h.mem_ls] at e; cases e)]
      exact sm _ _ (h.same _ _ e)
  · intro x hx
    obtain ⟨u, hu⟩ := h.tracked hx
    rw [joinH_old (hn x u hu)]
    exact h.free x hx
  · have := R1.things.2.2 j u lf' t' h1 h2 h3
    obtain ⟨dx, e⟩ := this.1
    exact ⟨⟨dx, s0 _ _ e⟩, (upd_ne (h.fsne h2).2.2.2.1).trans this.2⟩
  · have hl := h.snaps.1
    by_cases c : j < ss.length
    · rw [List.getElem?_append_left c] at h1
      have h2 : (w.snaps ++ [w.heap])[j]? = some y := h2
      rw [List.getElem?_append_left (by omega)] at h2
      exact (h.snaps.2 j u y h1 h2).same s0
    · have hj := (List.getElem?_eq_some_iff.mp h1).1
      rw [List.length_append, List.length_singleton] at hj
      have ej : j = ss.length := by omega
      subst ej
      have h2 : (w.snaps ++ [w.heap])[ss.length]? = some y := h2
      rw [List.getElem?_append_right (Nat.le_refl _)] at h1
      rw [List.getElem?_append_right (by omega), hl] at h2
      simp at h1 h2
      subst h1 h2
      exact hs.same joinH_new
  · exact (upd_ne (h.rsne h1).2.2.2.1).trans (R1.rounds.2 j r y h1 h2)
/-- a thing is made -/
theorem RunAt.addt (h : RunAt A H g H0 f wss p ks row o w ts fs rs ss) {y lf dy : Addr} {t : Hx01.Thing} (sm : Same H H') (hy : H y = none) (hl : H lf = none) (ny : y ≠ lf) (ey : H' y = some (.ins A.thing dy (thF t.cls t.row (sizeOf p t.cls) lf))) (el : H' lf = some (.lst (t.fields.map oV))) :
    RunAt A (upd H' g.lt (.lst ((ts.map V.ref) ++ [V.ref y]))) g (upd H0 y (.ins A.thing dy (thF t.cls t.row (sizeOf p t.cls) lf))) f wss p ks row o { w with heap := { w.heap with things := w.heap.things ++ [t] } } (ts ++ [y]) (fs ++ [lf]) rs ss ∧ Same H0 (upd H0 y (.ins A.thing dy (thF t.cls t.row (sizeOf p t.cls) lf))) := by
  obtain ⟨⟨n1, n2, n3, n4⟩, ⟨n5, n6, n7⟩, ⟨n8, n9⟩, n10⟩ := h.ne
  have xm : ∀ x ∈ g.mut fs rs, x ≠ y ∧ x ≠ lf := fun x hx => by
    obtain ⟨u, hu⟩ := h.tracked hx
    exact ⟨ne_of_none hu hy, ne_of_none hu hl⟩
  have hy0 := h.same.free hy
  have hl0 := h.same.free hl
  have s0 : Same H0 (upd H0 y (.ins A.thing dy (thF t.cls t.row (sizeOf p t.cls) lf))) := same_upd (Same.refl H0) hy0
  have R1 := h.go sm
  have ltm : g.lt ∈ g.mut fs rs := by simp [RG.mut]
  have pm : (g.mut (fs ++ [lf]) rs).Perm (lf :: g.mut fs rs) := by
    unfold RG.mut
    have h1 : ((fs ++ [lf]) ++ rs).Perm (lf :: (fs ++ rs)) := by
      rw [List.append_assoc]
      exact List.perm_middle
    have : (g.a :: g.lt :: g.lv :: g.ls :: g.lo :: ((fs ++ [lf]) ++ rs)).Perm (g.a :: g.lt :: g.lv :: g.ls :: g.lo :: (lf :: (fs ++ rs))) := (((((h1.cons _).cons _).cons _).cons _).cons _)
    exact this.trans (List.perm_middle (l₁ := [g.a, g.lt, g.lv, g.ls, g.lo]))
  refine ⟨⟨?_, ?_, ?_, h.pr.go s0, (upd_ne n1).trans R1.obj, s0 _ _ h.hobj, by rw [upd_same]; simp, (upd_ne n5.symm).trans R1.lv, ⟨by simp [h.things.1], by simp [h.things.2.1], fun j u lf' t' h1 h2 h3 => ?_⟩, (upd_ne n6.symm).trans R1.ls, h.snaps.same s0, (upd_ne n7.symm).trans R1.lo, ⟨h.rounds.1, fun j r z h1 h2 => ?_⟩⟩, s0⟩
  · intro b u e
    by_cases c : b = y
    · subst c
      rw [upd_same] at e
      rw [upd_ne (xm _ ltm).1.symm, ey]; exact e
    · rw [upd_ne c] at e
      rw [upd_ne (fun z => by rw [z, h.mem_lt] at e; cases e)]
      exact sm _ _ (h.same _ _ e)
  · rw [pm.nodup_iff, List.nodup_cons]
    exact ⟨fun z => (xm lf z).2 rfl, h.nd⟩
  · intro x hx
    rcases List.mem_cons.mp (pm.mem_iff.mp hx) with z | z
    · rw [z, upd_ne ny.symm]; exact hl0
    · rw [upd_ne (xm x z).1]; exact h.free x z
  · have l1 := h.things.1
    have l2 := h.things.2.1
    by_cases c : j < w.heap.things.length
    · rw [List.getElem?_append_left (by omega)] at h1 h2
      have h3 : (w.heap.things ++ [t])[j]? = some t' := h3
      rw [List.getElem?_append_left c] at h3
      have := R1.things.2.2 j u lf' t' h1 h2 h3
      obtain ⟨dx, e⟩ := this.1
      exact ⟨⟨dx, s0 _ _ e⟩, (upd_ne (h.fsne h2).2.1).trans this.2⟩
    · have hj := (List.getElem?_eq_some_iff.mp h1).1
      rw [List.length_append, List.length_singleton] at hj
      have ej : j = w.heap.things.length := by omega
      subst ej
      have h3 : (w.heap.things ++ [t])[w.heap.things.length]? = some t' := h3
      rw [List.getElem?_append_right (by omega), l1] at h1
      rw [List.getElem?_append_right (by omega), l2] at h2
      rw [List.getElem?_append_right (Nat.le_refl _)] at h3
      simp at h1 h2 h3
      subst h1 h2 h3
      exact ⟨⟨dy, upd_same⟩, (upd_ne (xm _ ltm).2.symm).trans el⟩
  · exact (upd_ne (h.rsne h1).2.1).trans (R1.rounds.2 j r z h1 h2)
end
section
variable {P : Program} {w : World} {K : PySem.W.Frag} {mg : Str → Option Value} {base : Heap} {A : CA}
/-! do_snap -/
theorem scSnap : FnScope ["run", "words"] ["run", "words"] (defScope sDoSnap) := ⟨rfl, rfl, rfl, by decide +kernel, rfl, by decide +kernel, by decide +kernel⟩
theorem c_doSnap (T : TxtR A w K mg) : Cb P w K mg base 4 "do_snap" ["run", "words"] (spDeed A wSnap) := by
  refine T.dSnap.cb scSnap (fun vs H Q E h => spDeed_len h) (fun fa cdv Ar outer s H vs Q E hr h => ?_)
  obtain ⟨g, H0, f, wss, p, ks, row, o, wy, ts, fs, rs, ss, q, ws, rfl, d, e, kN, kS⟩ := h
  refine ⟨_, pss_cons (ps_if (pt_cmpR op_eq (pe_callB call_len_seq (by rfl) T.len PySem.boot_len (pa_cons (pe_fld (pv 0) rfl) pa_nil)) (pe_gI T.cstN rfl) (nomark _)) (pss_one (ps_ret pe_non)) pss_nil)
    (pss_cons (ps_expr (pe_bm PySem.F.plainAttrs_list PySem.F.slot_list_append PySem.F.type_list_append mt_append (pe_fld (pv 0) rfl) (pa_cons (pe_cb (c_snapOf T) hr rfl (pa_cons (pe_fld (pv 0) rfl) pa_nil)) pa_nil)))
    (pss_one (ps_ret (pe_op op_add (pe_fld (pv 0) rfl) pe_int)))), ?_⟩
  have R := d.run
  have ea := act_snap (p := p) e
  rw [ea] at kN kS
  simp only [Kp.doRow] at kN kS
  refine ⟨_, rfl, g.a, A.run, g.dx, _, _, rfl, R.obj, T.cRun.cl, T.cRun.na _ (by decide +kernel), rnF_snaps _ _ _ _, g.ls, _, rfl, .inl (SqL.of R.ls), rfl, _, rfl, ?_⟩
  rw [List.length_map, R.snaps.1, show (8 : Int) = ((8 : Nat) : Int) from rfl, intEq]
  have h8 := d.snaps
  by_cases c : wy.snaps.length = 8
  · rw [decide_eq_true c]
    refine ifT rfl ?_
    exact kN (if_pos (show 8 ≤ wy.snaps.length by omega)) H R
  · rw [decide_eq_false c]
    refine ifF rfl ?_
    rw [if_neg (show ¬ Hx01.SNAPS ≤ wy.snaps.length by show ¬ 8 ≤ _; omega)] at kS
    refine ⟨_, rfl, g.a, A.run, g.dx, _, _, rfl, R.obj, T.cRun.cl, T.cRun.na _ (by decide +kernel), rnF_snaps _ _ _ _, .inl ⟨rfl, _, SqL.of R.ls⟩, ?_⟩
    refine ⟨_, rfl, g.a, A.run, g.dx, _, _, rfl, R.obj, T.cRun.cl, T.cRun.na _ (by decide +kernel), rnF_heap _ _ _ _, g.h, p, wy.heap, rfl, R.hp, by have := d.heap.many; omega, fun s' Hn H' sm fr hs => ?_⟩
    refine ⟨g.ls, _, _, rfl, rfl, sm _ _ R.ls, bigLt (by rw [List.length_map, R.snaps.1]; omega), ?_⟩
    obtain ⟨R2, s0⟩ := R.adds sm fr hs
    refine ⟨_, rfl, g.a, A.run, g.dx, _, _, rfl, R2.obj, T.cRun.cl, T.cRun.na _ (by decide +kernel), rnF_row _ _ _ _, _, _, rfl, rfl, ?_⟩
    exact kS (row + 1) o _ rfl _ _ _ _ _ _ R2 s0
/-! do_end -/
theorem scEnd : FnScope ["run", "words", "innermost"] ["run", "words"] (defScope sDoEnd) := ⟨rfl, rfl, rfl, by decide +kernel, rfl, by decide +kernel, by decide +kernel⟩
theorem c_doEnd (T : TxtR A w K mg) : Cb P w K mg base 1 "do_end" ["run", "words"] (spDeed A wEnd) := by
  refine T.dEnd.cb scEnd (fun vs H Q E h => spDeed_len h) (fun fa cdv Ar outer s H vs Q E hr h => ?_)
  obtain ⟨g, H0, f, wss, p, ks, row, o, wy, ts, fs, rs, ss, q, ws, rfl, d, e, kN, kS⟩ := h
  refine ⟨_, pss_cons (ps_set (i := 2) scEnd.nd rfl (Or.inl rfl) (pe_ix ix_list (pe_fld (pv 0) rfl) (pe_un un_neg pe_int) (fun _ _ => rfl)))
    (pss_cons (ps_augS (pv 2) pe_int get_list pe_int ip_sub set_list)
    (pss_cons (ps_if (pt_cmpR op_gt (pe_ix ix_list (pv 2) pe_int (fun _ _ => rfl)) pe_int (nomark _)) (pss_one (ps_ret (pe_op op_add (pe_ix ix_list (pv 2) pe_int (fun _ _ => rfl)) pe_int))) pss_nil)
    (pss_cons (ps_expr (pe_bm0 PySem.F.plainAttrs_list PySem.F.slot_list_pop PySem.F.type_list_pop mt_pop (pe_fld (pv 0) rfl)))
    (pss_one (ps_ret (pe_op op_add (pe_fld (pv 0) rfl) pe_int)))))), ?_⟩
  have R := d.run
  have ea := act_end (p := p) e
  have ha := d.act
  rw [ea] at kN kS ha
  obtain ⟨b, k, l, rfl⟩ := d.wh.ends ha d.stk
  have hlen : rs.length = l.length + 1 := R.rounds.1
  obtain ⟨r, hr'⟩ := get_some (l := rs) (i := rs.length - 1) (by omega)
  have hrev : ((b, k) :: l).reverse[rs.length - 1]? = some (b, k) := by
    rw [List.reverse_cons, List.getElem?_append_right (by rw [List.length_reverse]; omega), List.length_reverse]
    have : rs.length - 1 - l.length = 0 := by omega
    rw [this]; rfl
  have hrl := R.rounds.2 _ r _ hr' hrev
  have hat : atI (rs.map V.ref) (-1) = some (.ref r) := by
    have h1 : rs.map V.ref = (rs.map V.ref).dropLast ++ [V.ref r] := by
      have hne : rs ≠ [] := fun z => by rw [z] at hlen; simp at hlen
      have h2 := List.dropLast_concat_getLast hne
      have h3 : rs.getLast hne = r := by
        rw [List.getLast_eq_getElem]
        rw [List.getElem?_eq_getElem (by omega)] at hr'
        exact Option.some.inj hr'
      rw [h3] at h2
      rw [List.map_dropLast.symm]
      conv => lhs; rw [← h2]
      simp
    rw [h1]
    exact atI_last _ _
  refine ⟨_, rfl, g.a, A.run, g.dx, _, _, rfl, R.obj, T.cRun.cl, T.cRun.na _ (by decide +kernel), rnF_rounds _ _ _ _, _, rfl, g.lo, _, _, _, rfl, rfl, SqL.of R.lo, hat, ?_⟩
  refine ⟨_, rfl, r, _, _, _, rfl, rfl, SqL.of hrl, atI_nat (j := 1) rfl, _, _, rfl, rfl, r, _, _, 1, rfl, rfl, hrl, ixN_nat (n := 2) (i := 1) (by decide), ?_⟩
  have ev : ([V.int (b : Nat), V.int ((k + 1 : Nat) : Int)].set 1 (V.int (((k + 1 : Nat) : Int) - 1))) = [V.int (b : Nat), V.int (k : Nat)] := by
    show [V.int (b : Nat), V.int (((k + 1 : Nat) : Int) - 1)] = _
    rw [show (((k + 1 : Nat) : Int) - 1) = (k : Nat) by omega]
  rw [ev]
  refine ⟨_, rfl, r, _, _, _, rfl, rfl, SqL.of upd_same, atI_nat (j := 1) rfl, _, _, rfl, rfl, _, rfl, ?_⟩
  simp only [Kp.doRow] at kS
  by_cases c : k = 0
  · rw [if_pos c] at kS
    subst c
    refine ifF (by decide) ?_
    obtain ⟨⟨n1, n2, n3, n4⟩, ⟨n5, n6, n7⟩, ⟨n8, n9⟩, n10⟩ := R.ne
    have nr := R.rsne hr'
    have obj1 := (upd_ne nr.1.symm (o := HO.lst [V.int (b : Nat), V.int ((0 : Nat) : Int)])).trans R.obj
    have lo1 := (upd_ne nr.2.2.2.2.symm (o := HO.lst [V.int (b : Nat), V.int ((0 : Nat) : Int)])).trans R.lo
    have hlast : (rs.map V.ref)[(rs.map V.ref).length - 1]? = some (.ref r) := by
      rw [List.length_map, List.getElem?_map, hr']; rfl
    refine ⟨_, rfl, g.a, A.run, g.dx, _, _, rfl, obj1, T.cRun.cl, T.cRun.na _ (by decide +kernel), rnF_rounds _ _ _ _, .inl ⟨rfl, _, SqL.of lo1⟩, g.lo, _, _, rfl, rfl, lo1, hlast, ?_⟩
    have hrm : r ∈ rs := List.mem_of_getElem? hr'
    have R2 := R.popr (H' := upd (upd H r (.lst [V.int (b : Nat), V.int ((0 : Nat) : Int)])) g.lo (.lst (rs.map V.ref).dropLast)) (same_upd (same_upd R.same (R.free _ (by simp [RG.mut, hrm]))) R.mem_lo)
      (fun y hy h1 h2 => by rw [upd_ne h1, upd_ne (fun z => h2 (by rw [z]; exact hr'))]) upd_same
    refine ⟨_, rfl, g.a, A.run, g.dx, _, _, rfl, R2.obj, T.cRun.cl, T.cRun.na _ (by decide +kernel), rnF_row _ _ _ _, _, _, rfl, rfl, ?_⟩
    exact kS (row + 1) l wy rfl _ H0 ts fs _ ss R2 (Same.refl H0)
  · rw [if_neg c] at kS
    refine ifT (decide_eq_true (show (0 : Int) < (k : Nat) by omega)) ?_
    obtain ⟨k', rfl⟩ : ∃ k', k = k' + 1 := ⟨k - 1, by omega⟩
    have R2 := R.decr (k' := k') hr' rfl
    refine ⟨_, rfl, r, _, _, _, rfl, rfl, SqL.of upd_same, atI_nat (j := 0) rfl, _, _, rfl, rfl, ?_⟩
    exact kS (b + 1) _ wy rfl _ H0 ts fs rs ss R2 (Same.refl H0)
/-! do_new -/
theorem scNew : FnScope ["run", "words", "number", "kind"] ["run", "words"] (defScope sDoNew) := ⟨rfl, rfl, rfl, by decide +kernel, rfl, by decide +kernel, by decide +kernel⟩
theorem rep_none (n : Nat) : (List.replicate n [V.non]).flatten = (List.replicate n (none : Option Nat)).map oV := by
  induction n with
  | zero => rfl
  | succ n ih => rw [List.replicate_succ, List.replicate_succ, List.flatten_cons, ih]; rfl
theorem idx_get {l : List (List Nat)} {v : List Nat} (h : v ∈ l) : Kp.idx l v < l.length := Kp.idx_lt h
theorem c_doNew (T : TxtR A w K mg) : Cb P w K mg base 3 "do_new" ["run", "words"] (spDeed A wNew) := by
  refine T.dNew.cb scNew (fun vs H Q E h => spDeed_len h) (fun fa cdv Ar outer s H vs Q E hr h => ?_)
  obtain ⟨g, H0, f, wss, p, ks, row, o, wy, ts, fs, rs, ss, q, ws, rfl, d, e, kN, kS⟩ := h
  have hr1 : Room 1 _ := hr.mono (by decide)
  refine ⟨_, pss_cons (ps_if (pt_cmpR op_eq (pe_callB call_len_seq (by rfl) T.len PySem.boot_len (pa_cons (pe_fld (pe_fld (pv 0) rfl) rfl) pa_nil)) (pe_gI T.cstT rfl) (nomark _)) (pss_one (ps_ret pe_non)) pss_nil)
    (pss_cons (ps_set (i := 2) scNew.nd rfl (Or.inl rfl) (pe_dget (hu_of hr) (pe_fld (pe_fld (pv 0) rfl) rfl) (pe_ix ix_list (pv 1) pe_int (fun _ _ => rfl)) (fun _ _ => rfl)))
    (pss_cons (ps_set (i := 3) scNew.nd rfl (Or.inl rfl) (pe_ix ix_list (pe_fld (pe_fld (pv 0) rfl) rfl) (pv 2) (fun _ _ => rfl)))
    (pss_cons (ps_expr (pe_cb (c_hold T) hr1 rfl (pa_cons (pv 0) (pa_cons (pe_ix ix_list (pv 1) pe_int (fun _ _ => rfl)) (pa_cons (pe_callB call_len_seq (by rfl) T.len PySem.boot_len (pa_cons (pe_fld (pe_fld (pv 0) rfl) rfl) pa_nil)) pa_nil)))))
    (pss_cons (ps_expr (pe_bm PySem.F.plainAttrs_list PySem.F.slot_list_append PySem.F.type_list_append mt_append (pe_fld (pe_fld (pv 0) rfl) rfl)
      (pa_cons (pe_cm (c_thing T) hr rfl (pa_cons (pv 2) (pa_cons (pe_fld (pv 0) rfl) (pa_cons (pe_fld (pv 3) rfl) (pa_cons (pe_op op_rep (pe_lst (pa_cons pe_non pa_nil)) (pe_callB call_len_seq (by rfl) T.len PySem.boot_len (pa_cons (pe_fld (pv 3) rfl) pa_nil))) pa_nil))))) pa_nil)))
    (pss_one (ps_ret (pe_op op_add (pe_fld (pv 0) rfl) pe_int))))))), ?_⟩
  have R := d.run
  have hw := d.words K
  have td := d.told
  have l := such_at td.ok e n_new
  obtain ⟨t1, t2⟩ := td.new e
  have ea := act_new (p := p) e
  rw [ea] at kN kS
  simp only [Kp.doRow] at kN kS
  have hm := d.heap.many
  have cr := T.cRun.cl
  have ch := T.cHeap.cl
  have cp := T.cProg.cl
  refine ⟨_, rfl, g.a, A.run, g.dx, _, _, rfl, R.obj, cr, T.cRun.na _ (by decide +kernel), rnF_heap _ _ _ _, g.h, A.heap, g.hd, _, _, rfl, R.same _ _ R.hobj, ch, T.cHeap.na _ (by decide +kernel), hpF_things _ _, g.lt, _, rfl, .inl (SqL.of R.lt), rfl, _, rfl, ?_⟩
  rw [List.length_map, R.things.1, show (16 : Int) = ((16 : Nat) : Int) from rfl, intEq]
  by_cases c : wy.heap.things.length = 16
  · rw [decide_eq_true c]
    refine ifT rfl ?_
    exact kN (if_pos (show 16 ≤ wy.heap.things.length by omega)) H R
  · rw [decide_eq_false c]
    refine ifF rfl ?_
    rw [if_neg (show ¬ Hx01.THINGS ≤ wy.heap.things.length by show ¬ 16 ≤ _; omega)] at kS
    have pr := R.pr.go R.same
    have hci := idx_get t2
    rw [List.length_map] at hci
    obtain ⟨cl, hcl⟩ := get_some (l := p.classes) (i := Kp.idx (p.classes.map fun x => x.name) (wd ws 2)) hci
    obtain ⟨kx, hkx⟩ := get_some (l := ks) (i := Kp.idx (p.classes.map fun x => x.name) (wd ws 2)) (by rw [pr.knd.1]; exact hci)
    obtain ⟨dk, lf0, k1, k2⟩ := pr.knd.2 _ _ _ hkx hcl
    refine ⟨_, rfl, g.a, A.run, g.dx, _, _, rfl, R.obj, cr, T.cRun.na _ (by decide +kernel), rnF_prog _ _ _ _, f.a, A.prog, f.dx, _, _, rfl, pr.obj, cp, T.cProg.na _ (by decide +kernel), prF_kn f, _, rfl, q, _, _, _, rfl, rfl, hw.at_, wat (i := 2) (by omega), f.dk, _, rfl, dget_num pr.dk t2, ?_⟩
    refine ⟨_, rfl, g.a, A.run, g.dx, _, _, rfl, R.obj, cr, T.cRun.na _ (by decide +kernel), rnF_prog _ _ _ _, f.a, A.prog, f.dx, _, _, rfl, pr.obj, cp, T.cProg.na _ (by decide +kernel), prF_kinds f, _, rfl, f.lk, _, _, _, rfl, rfl, SqL.of pr.lk, atI_nat (j := Kp.idx (p.classes.map fun x => x.name) (wd ws 2)) (by rw [List.getElem?_map, hkx]; rfl), ?_⟩
    refine ⟨_, rfl, _, rfl, q, _, _, _, rfl, rfl, hw.at_, wat (i := 1) (by omega), _, rfl, g.a, A.run, g.dx, _, _, rfl, R.obj, cr, T.cRun.na _ (by decide +kernel), rnF_heap _ _ _ _, g.h, A.heap, g.hd, _, _, rfl, R.same _ _ R.hobj, ch, T.cHeap.na _ (by decide +kernel), hpF_things _ _, g.lt, _, rfl, .inl (SqL.of R.lt), ?_⟩
    rw [List.length_map, R.things.1]
    refine ⟨g, H0, f, wss, p, ks, row, o, wy, ts, fs, rs, ss, wd ws 1, some wy.heap.things.length, rfl, R, t1, d.heap.vars, ?_⟩
    have R2 := R.putv (Kp.idx p.vars (wd ws 1)) (some wy.heap.things.length)
    have pr2 := R2.pr.go R2.same
    obtain ⟨dk2, lf2, j1, j2⟩ := pr2.knd.2 _ _ _ hkx hcl
    refine ⟨_, rfl, g.a, A.run, g.dx, _, _, rfl, R2.obj, cr, T.cRun.na _ (by decide +kernel), rnF_heap _ _ _ _, g.h, A.heap, g.hd, _, _, rfl, R2.same _ _ R2.hobj, ch, T.cHeap.na _ (by decide +kernel), hpF_things _ _, .inl ⟨rfl, _, SqL.of R2.lt⟩, ?_⟩
    refine ⟨_, rfl, _, rfl, g.a, A.run, g.dx, _, _, rfl, R2.obj, cr, T.cRun.na _ (by decide +kernel), rnF_row _ _ _ _, _, rfl, kx, A.kind, dk2, _, _, rfl, j1, T.cKind.cl, T.cKind.na _ (by decide +kernel), kdF_size _ _, big (by simp), fun x hx => ?_⟩
    have sx := same_upd (o := HO.lst [V.non]) (Same.refl (upd H g.lv (.lst ((wy.heap.vars.set (Kp.idx p.vars (wd ws 1)) (some wy.heap.things.length)).map oV)))) hx
    refine ⟨_, rfl, kx, A.kind, dk2, _, _, rfl, sx _ _ j1, T.cKind.cl, T.cKind.na _ (by decide +kernel), kdF_fields _ _, lf2, _, rfl, .inl (SqL.of (sx _ _ j2)), x, _, _, rfl, rfl, upd_same, ?_⟩
    rw [vS_len]
    have hfl : cl.fields.length ≤ 2 := d.wh.rd.bnd.fld cl (List.mem_of_getElem? hcl)
    refine ⟨by omega, by omega, big (by simp; omega), fun lf hlf => ?_⟩
    rw [Int.toNat_natCast, rep_none]
    intro y dy ny ndy nyd
    have esz : sizeOf p (Kp.idx (p.classes.map fun x => x.name) (wd ws 2)) = cl.bytes := by
      unfold sizeOf
      rw [hcl]; rfl
    refine ⟨y, dy, lf, Kp.idx (p.classes.map fun x => x.name) (wd ws 2), row, cl.bytes, rfl, upd_same, fun H5 hy5 ho5 => ⟨rfl, ?_⟩⟩
    have nyl : y ≠ lf := fun z => by rw [z, upd_same] at ny; cases ny
    have s4 := made_same ny ndy ho5
    have s3 := same_upd (o := HO.lst ((List.replicate cl.fields.length (none : Option Nat)).map oV)) (Same.refl _) hlf
    have s25 := (sx.trans s3).trans s4
    have hl5 := s4 _ _ upd_same
    have hl2 := sx.free hlf
    have hy2 := (sx.trans s3).free ny
    have efl : ((p.classes[Kp.idx (p.classes.map fun x => x.name) (wd ws 2)]?).elim [] fun x => x.fields).map (fun _ => (none : Option Nat)) = List.replicate cl.fields.length none := by
      rw [hcl]
      show cl.fields.map (fun _ => (none : Option Nat)) = _
      rw [List.map_const']
    obtain ⟨R3, s0⟩ := R2.addt (t := ⟨Kp.idx (p.classes.map fun x => x.name) (wd ws 2), row, List.replicate cl.fields.length none⟩) s25 hy2 hl2 nyl (by rw [esz]; exact hy5) hl5
    refine ⟨g.lt, _, _, rfl, rfl, s25 _ _ R2.lt, bigLt (by rw [List.length_map, R.things.1]; omega), ?_⟩
    refine ⟨_, rfl, g.a, A.run, g.dx, _, _, rfl, R3.obj, cr, T.cRun.na _ (by decide +kernel), rnF_row _ _ _ _, _, _, rfl, rfl, ?_⟩
    rw [efl] at kS
    exact kS (row + 1) o _ rfl _ _ _ _ _ _ R3 s0
end
end Kq
namespace Kq
open PySem PySem.Spec PyProof.Rows L2
open Kp (wd such counts)
open Hx01 (wClass wNew wSet wGet wLet wTimes wEnd wSnap wNil)
theorem Frame.free {m : List Addr} {H H' : Hp} (a : Frame m H H') {x : Addr} (h : H' x = none) (n : x ∉ m) : H x = none := by
  cases e : H x with
  | none => rfl
  | some o => rw [a x o e n] at h; cases h
section
variable {P : Program} {w : World} {K : PySem.W.Frag} {mg : Str → Option Value} {base : Heap} {A : CA}
/-! Run(program) -/
def way0 (p : Hx01.Program) : Hx01.Way := ⟨⟨[], p.vars.map fun _ => none⟩, [], 0⟩
def spRunI (A : CA) : Sp := fun vs H Q _ => ∃ (Hb : Hp) (a dx : Addr) (f : PF) (wss : List (List (List Nat))) (p : Hx01.Program) (ks : List Addr), vs = [.ref a, .ref f.a] ∧ H = upd (upd Hb dx (.own a)) a (.ins A.run dx []) ∧ Hb a = none ∧ Hb dx = none ∧ PrFz A Hb f wss p ks ∧ p.vars.length ≤ 100 ∧
  ∀ (g : RG) (H' H0 : Hp), g.a = a → Same Hb H0 → RunAt A H' g H0 f wss p ks 0 [] (way0 p) [] [] [] [] → Q .non H'
theorem scRunI : FnScope ["self", "program"] ["self", "program"] (defScope sRunI) := ⟨rfl, rfl, rfl, by decide +kernel, rfl, by decide +kernel, by decide +kernel⟩
theorem c_run (T : TxtR A w K mg) : Cm P w K mg base 3 "Run" A.run ["self", "program"] (spRunI A) := by
  refine T.cRun.cm scRunI (fun vs H Q E h => ?_) (fun fa cdv Ar outer s H vs Q E hr h => ?_)
  · obtain ⟨Hb, a, dx, f, wss, p, ks, rfl, _⟩ := h
    rfl
  obtain ⟨Hb, a, dx, f, wss, p, ks, rfl, rfl, ha0, hd0, pr, hvl, k⟩ := h
  refine ⟨_, pss_cons (ps_fld (pv 0) (pv 1) rfl) (pss_cons (ps_fld (pv 0) (pe_cm (c_heap T) hr rfl (pa_cons (pe_callB call_len_seq (by rfl) T.len PySem.boot_len (pa_cons (pe_fld (pv 1) rfl) pa_nil)) (pa_cons (pe_lst pa_nil) (pa_cons (pe_op op_rep (pe_lst (pa_cons pe_non pa_nil)) (pe_callB call_lenD (by rfl) T.len PySem.boot_len (pa_cons (pe_fld (pv 1) rfl) pa_nil))) pa_nil)))) rfl)
    (pss_cons (ps_fld (pv 0) (pe_lst pa_nil) rfl) (pss_cons (ps_fld (pv 0) pe_int rfl) (pss_cons (ps_fld (pv 0) pe_int rfl) (pss_one (ps_fld (pv 0) (pe_lst pa_nil) rfl)))))), ?_⟩
  have cr := T.cRun.cl
  have aa : a ∈ [a] := by simp
  have s0 : Same Hb (upd (upd Hb dx (.own a)) a (.ins A.run dx [])) := same_upd (same_upd (Same.refl Hb) hd0) ha0
  refine ⟨_, rfl, _, rfl, a, A.run, dx, _, rfl, upd_same, cr, T.cRun.na _ (by decide +kernel), (by show 0 < 1000; decide), ?_⟩
  generalize hH1 : upd (upd (upd Hb dx (.own a)) a (.ins A.run dx [])) a (.ins A.run dx (putF "program" (.ref f.a) [])) = H1
  have a1 : H1 a = some (.ins A.run dx (putF "program" (.ref f.a) [])) := by rw [← hH1]; exact upd_same
  have s1 : Same Hb H1 := by rw [← hH1]; exact same_upd s0 ha0
  clear hH1
  have pr1 := pr.go s1
  refine ⟨_, rfl, f.a, A.prog, f.dx, _, _, rfl, pr1.obj, T.cProg.cl, T.cProg.na _ (by decide +kernel), prF_kinds f, f.lk, _, rfl, .inl (SqL.of pr1.lk), ?_⟩
  rw [List.length_map, pr1.knd.1]
  refine ⟨big (by simp), fun lt hlt => ?_⟩
  have s2 : Same H1 (upd H1 lt (.lst [])) := same_upd (Same.refl _) hlt
  refine ⟨big (by simp), fun t0 ht0 => ?_⟩
  have s3 := s2.trans (same_upd (o := HO.lst [V.non]) (Same.refl _) ht0)
  have pr3 := pr.go (s1.trans s3)
  refine ⟨_, rfl, f.a, A.prog, f.dx, _, _, rfl, pr3.obj, T.cProg.cl, T.cProg.na _ (by decide +kernel), prF_vars f, f.dv, _, rfl, pr3.dv, t0, _, _, rfl, rfl, upd_same, ?_⟩
  rw [num_len]
  refine ⟨by omega, by omega, big (by simp; omega), fun lv hlv => ?_⟩
  rw [Int.toNat_natCast, rep_none]
  have s4 := s3.trans (same_upd (o := HO.lst ((List.replicate p.vars.length (none : Option Nat)).map oV)) (Same.refl _) hlv)
  have elt3 := (same_upd (o := HO.lst [V.non]) (Same.refl (upd H1 lt (.lst []))) ht0) lt _ upd_same
  have nltlv : lt ≠ lv := ne_of_none elt3 hlv
  intro y dy ny ndy nyd
  refine ⟨y, dy, lt, lv, p.classes.length, rfl, upd_same, fun H5 hy5 ho5 => ⟨rfl, ?_⟩⟩
  have s45 := made_same ny ndy ho5
  have s5 : Same H1 H5 := s4.trans s45
  have elt5 : H5 lt = some (.lst []) := s45 _ _ ((same_upd (o := HO.lst ((List.replicate p.vars.length (none : Option Nat)).map oV)) (Same.refl _) hlv) _ _ elt3)
  have elv5 : H5 lv = some (.lst ((List.replicate p.vars.length (none : Option Nat)).map oV)) := s45 _ _ upd_same
  have nal : a ≠ lt := ne_of_none a1 hlt
  have nav : a ≠ lv := ne_of_none (s3 _ _ a1) hlv
  have nay : a ≠ y := ne_of_none (s4 _ _ a1) ny
  have ylt : lt ≠ y := ne_of_none ((same_upd (o := HO.lst ((List.replicate p.vars.length (none : Option Nat)).map oV)) (Same.refl _) hlv) _ _ elt3) ny
  have ylv : lv ≠ y := fun z => by rw [← z, upd_same] at ny; cases ny
  refine ⟨_, rfl, a, A.run, dx, _, rfl, s5 _ _ a1, cr, T.cRun.na _ (by decide +kernel), plt (plen (n := 0) (Nat.le_refl _)) (by decide), ?_⟩
  generalize hH6 : upd H5 a (.ins A.run dx (putF "heap" (.ref y) (putF "program" (.ref f.a) []))) = H6
  have a6 : H6 a = some (.ins A.run dx (putF "heap" (.ref y) (putF "program" (.ref f.a) []))) := by rw [← hH6]; exact upd_same
  have F6 : Frame [a] H5 H6 := by rw [← hH6]; exact Frame.upd (Frame.of (Same.refl _)) aa
  clear hH6
  refine ⟨big (by simp), fun ls hls => ?_⟩
  have nas : a ≠ ls := ne_of_none a6 hls
  have s67 : Same H6 (upd H6 ls (.lst [])) := same_upd (Same.refl _) hls
  refine ⟨_, rfl, a, A.run, dx, _, rfl, s67 _ _ a6, cr, T.cRun.na _ (by decide +kernel), plt (plen (plen (n := 0) (Nat.le_refl _))) (by decide), ?_⟩
  refine ⟨_, rfl, a, A.run, dx, _, rfl, upd_same, cr, T.cRun.na _ (by decide +kernel), plt (plen (plen (plen (n := 0) (Nat.le_refl _)))) (by decide), ?_⟩
  refine ⟨_, rfl, a, A.run, dx, _, rfl, upd_same, cr, T.cRun.na _ (by decide +kernel), plt (plen (plen (plen (plen (n := 0) (Nat.le_refl _))))) (by decide), ?_⟩
  generalize hH8 : upd (upd (upd (upd H6 ls (.lst [])) a _) a _) a _ = H8
  have a8 := upd_same (H := upd (upd (upd H6 ls (.lst [])) a (.ins A.run dx (putF "snapshots" (.ref ls) (putF "heap" (.ref y) (putF "program" (.ref f.a) []))))) a (.ins A.run dx (putF "steps" (.int 0) (putF "snapshots" (.ref ls) (putF "heap" (.ref y) (putF "program" (.ref f.a) []))))))
    (a := a) (o := .ins A.run dx (putF "row" (.int 0) (putF "steps" (.int 0) (putF "snapshots" (.ref ls) (putF "heap" (.ref y) (putF "program" (.ref f.a) []))))))
  rw [hH8] at a8
  have F8 : Frame [a] (upd H6 ls (.lst [])) H8 := by rw [← hH8]; exact Frame.upd (Frame.upd (Frame.upd (Frame.of (Same.refl _)) aa) aa) aa
  clear hH8
  refine ⟨big (by simp), fun lo hlo => ?_⟩
  have nao : a ≠ lo := ne_of_none a8 hlo
  have s89 : Same H8 (upd H8 lo (.lst [])) := same_upd (Same.refl _) hlo
  refine ⟨_, rfl, a, A.run, dx, _, rfl, s89 _ _ a8, cr, T.cRun.na _ (by decide +kernel), plt (plen (plen (plen (plen (plen (n := 0) (Nat.le_refl _)))))) (by decide), ?_⟩
  generalize hH9 : upd (upd H8 lo (.lst [])) a _ = H9
  have e1 : putF ("program" : Str) (V.ref f.a) [] = ([("program", V.ref f.a)] : List (Str × V)) := rfl
  have e2 : putF ("heap" : Str) (V.ref y) ([("program", V.ref f.a)] : List (Str × V)) = ([("program", V.ref f.a), ("heap", V.ref y)] : List (Str × V)) := putF_new (fs := ([("program", V.ref f.a)] : List (Str × V))) (show ("heap" : Str) ∉ [("program" : Str)] by decide +kernel)
  have e3 : putF ("snapshots" : Str) (V.ref ls) ([("program", V.ref f.a), ("heap", V.ref y)] : List (Str × V)) = ([("program", V.ref f.a), ("heap", V.ref y), ("snapshots", V.ref ls)] : List (Str × V)) := putF_new (fs := ([("program", V.ref f.a), ("heap", V.ref y)] : List (Str × V))) (show ("snapshots" : Str) ∉ [("program" : Str), "heap"] by decide +kernel)
  have e4 : putF ("steps" : Str) (V.int 0) ([("program", V.ref f.a), ("heap", V.ref y), ("snapshots", V.ref ls)] : List (Str × V)) = ([("program", V.ref f.a), ("heap", V.ref y), ("snapshots", V.ref ls), ("steps", V.int 0)] : List (Str × V)) := putF_new (fs := ([("program", V.ref f.a), ("heap", V.ref y), ("snapshots", V.ref ls)] : List (Str × V))) (show ("steps" : Str) ∉ [("program" : Str), "heap", "snapshots"] by decide +kernel)
  have e5 : putF ("row" : Str) (V.int 0) ([("program", V.ref f.a), ("heap", V.ref y), ("snapshots", V.ref ls), ("steps", V.int 0)] : List (Str × V)) = ([("program", V.ref f.a), ("heap", V.ref y), ("snapshots", V.ref ls), ("steps", V.int 0), ("row", V.int 0)] : List (Str × V)) := putF_new (fs := ([("program", V.ref f.a), ("heap", V.ref y), ("snapshots", V.ref ls), ("steps", V.int 0)] : List (Str × V))) (show ("row" : Str) ∉ [("program" : Str), "heap", "snapshots", "steps"] by decide +kernel)
  have e6 : putF ("rounds" : Str) (V.ref lo) ([("program", V.ref f.a), ("heap", V.ref y), ("snapshots", V.ref ls), ("steps", V.int 0), ("row", V.int 0)] : List (Str × V)) = rnF ⟨a, dx, y, dy, lt, lv, ls, lo⟩ f.a 0 0 := putF_new (fs := ([("program", V.ref f.a), ("heap", V.ref y), ("snapshots", V.ref ls), ("steps", V.int 0), ("row", V.int 0)] : List (Str × V))) (show ("rounds" : Str) ∉ [("program" : Str), "heap", "snapshots", "steps", "row"] by decide +kernel)
  rw [e1, e2, e3, e4, e5, e6] at hH9
  have a9 : H9 a = some (.ins A.run dx (rnF ⟨a, dx, y, dy, lt, lv, ls, lo⟩ f.a 0 0)) := by rw [← hH9]; exact upd_same
  have F9 : Frame [a] (upd H8 lo (.lst [])) H9 := by rw [← hH9]; exact Frame.upd (Frame.of (Same.refl _)) aa
  clear hH9
  have F69 : Frame [a] H6 H9 := ((Frame.of s67).trans F8).trans ((Frame.of s89).trans F9)
  have F59 : Frame [a] H5 H9 := F6.trans F69
  have nm : ∀ {x : Addr}, a ≠ x → x ∉ [a] := fun h z => h (List.mem_singleton.mp z).symm
  have els8 : H8 ls = some (.lst []) := F8 _ _ upd_same (nm nas)
  have els9 : H9 ls = some (.lst []) := ((Frame.of s89).trans F9) _ _ els8 (nm nas)
  have elo9 : H9 lo = some (.lst []) := F9 _ _ upd_same (nm nao)
  have elt9 : H9 lt = some (.lst []) := F59 _ _ elt5 (nm nal)
  have elv9 : H9 lv = some (.lst ((List.replicate p.vars.length (none : Option Nat)).map oV)) := F59 _ _ elv5 (nm nav)
  have ey9 : H9 y = some (.ins A.heap dy (hpF p.classes.length lt lv)) := F59 _ _ hy5 (nm nay)
  have lt6 : H6 lt = some (.lst []) := F6 _ _ elt5 (nm nal)
  have lv6 : H6 lv = some (.lst ((List.replicate p.vars.length (none : Option Nat)).map oV)) := F6 _ _ elv5 (nm nav)
  have y6 : H6 y = some (.ins A.heap dy (hpF p.classes.length lt lv)) := F6 _ _ hy5 (nm nay)
  have F68 : Frame [a] H6 H8 := (Frame.of s67).trans F8
  have n1 := ne_of_none lt6 hls
  have n2 := ne_of_none lv6 hls
  have n3 := ne_of_none y6 hls
  have n4 := ne_of_none (F68 _ _ lt6 (nm nal)) hlo
  have n5 := ne_of_none (F68 _ _ lv6 (nm nav)) hlo
  have n6 := ne_of_none (F68 _ _ y6 (nm nay)) hlo
  have n7 := ne_of_none els8 hlo
  have b1 : Hb lt = none := s1.free hlt
  have b2 : Hb lv = none := (s1.trans s3).free hlv
  have b3 : Hb y = none := (s1.trans s4).free ny
  have FB5 : Frame [a] Hb H5 := Frame.of (s1.trans s5)
  have b4 : Hb ls = none := (FB5.trans F6).free hls (nm nas)
  have b5 : Hb lo = none := ((FB5.trans F6).trans F68).free hlo (nm nao)
  refine k ⟨a, dx, y, dy, lt, lv, ls, lo⟩ H9 (upd Hb y (.ins A.heap dy (hpF p.classes.length lt lv))) rfl (same_upd (Same.refl Hb) b3) ?_
  refine ⟨?_, ?_, ?_, pr.go (same_upd (Same.refl Hb) b3), a9, upd_same, elt9, ?_, ⟨rfl, rfl, fun i o lf t e => by simp at e⟩, els9, ⟨rfl, fun i s h e => by simp at e⟩, elo9, ⟨rfl, fun i r x e => by simp at e⟩⟩
  · intro b u e
    by_cases c : b = y
    · subst c; rw [upd_same] at e; rw [ey9]; exact e
    · rw [upd_ne c] at e
      exact (FB5.trans F59) b u e (nm (fun z => by rw [← z, ha0] at e; cases e))
  · show [a, lt, lv, ls, lo].Nodup
    simp [nal, nav, nas, nao, nltlv, n1, n2, n4, n5, n7]
  · intro x hx
    have hx : x ∈ [a, lt, lv, ls, lo] := hx
    simp only [List.mem_cons, List.mem_nil_iff, or_false] at hx
    rcases hx with z | z | z | z | z <;> subst z
    · rw [upd_ne nay]; exact ha0
    · rw [upd_ne ylt]; exact b1
    · rw [upd_ne ylv]; exact b2
    · rw [upd_ne n3.symm]; exact b4
    · rw [upd_ne n6.symm]; exact b5
  · rw [elv9]
    show _ = some (HO.lst ((p.vars.map fun _ => (none : Option Nat)).map oV))
    rw [List.map_const']
end
end Kq
namespace Kq
open PySem PySem.Spec PyProof.Rows L2
open Kp (wd such counts)
open Hx01 (wClass wNew wSet wGet wLet wTimes wEnd wSnap wNil)
/-- the deeds by their rows' first words -/
def deedName (c : List Nat) : Str := if c = wNew then "do_new" else if c = wSet then "do_set" else if c = wGet then "do_get" else if c = wLet then "do_let" else if c = wTimes then "do_times" else if c = wEnd then "do_end" else "do_snap"
def Deed (c : List Nat) : Prop := c = wNew ∨ c = wSet ∨ c = wGet ∨ c = wLet ∨ c = wTimes ∨ c = wEnd ∨ c = wSnap
structure TxtS (A : CA) (w : World) (K : PySem.W.Frag) (mg : Str → Option Value) : Prop extends TxtR A w K mg where
  deeds : ∃ d es n, mg "DEEDS" = some (.ref d) ∧ KDict K w d es n ∧ ∀ c, Deed c → ∃ f, PySem.W.nsIn K d (S c) = some (some (.ref f)) ∧ mg (deedName c) = some (.ref f)
theorem such_deed {ws : List (List Nat)} (h : such ws = true) (hc : wd ws 0 ≠ wClass) : Deed (wd ws 0) := by
  obtain ⟨lo, hi, e, _⟩ := such_count h
  unfold Kp.counts at e
  rw [if_neg hc] at e
  unfold Deed
  by_cases c1 : wd ws 0 = wNew
  · exact .inl c1
  rw [if_neg c1] at e
  by_cases c2 : wd ws 0 = wSet
  · exact .inr (.inl c2)
  rw [if_neg c2] at e
  by_cases c3 : wd ws 0 = wGet
  · exact .inr (.inr (.inl c3))
  rw [if_neg c3] at e
  by_cases c4 : wd ws 0 = wLet
  · exact .inr (.inr (.inr (.inl c4)))
  rw [if_neg c4] at e
  by_cases c5 : wd ws 0 = wTimes
  · exact .inr (.inr (.inr (.inr (.inl c5))))
  rw [if_neg c5] at e
  by_cases c6 : wd ws 0 = wEnd
  · exact .inr (.inr (.inr (.inr (.inr (.inl c6)))))
  rw [if_neg c6] at e
  by_cases c7 : wd ws 0 = wSnap
  · exact .inr (.inr (.inr (.inr (.inr (.inr c7)))))
  rw [if_neg c7] at e
  cases e
theorem deed_act {p : Hx01.Program} {ws : List (List Nat)} (h : Deed (wd ws 0)) : Kp.actOf p ws ≠ .nothing := by
  intro z
  rcases h with h | h | h | h | h | h | h
  · rw [act_new h] at z; cases z
  · rw [act_set h] at z; cases z
  · rw [act_get h] at z; cases z
  · rw [act_let h] at z; cases z
  · rw [act_times2 h] at z; cases z
  · rw [act_end h] at z; cases z
  · rw [act_snap h] at z; cases z
section
variable {P : Program} {w : World} {K : PySem.W.Frag} {mg : Str → Option Value} {base : Heap} {A : CA}
theorem deed_cb (T : TxtS A w K mg) {c : List Nat} (h : Deed c) : Cb P w K mg base 4 (deedName c) ["run", "words"] (spDeed A c) := by
  rcases h with h | h | h | h | h | h | h <;> subst h
  · exact (c_doNew T.toTxtR).mono (by decide)
  · exact (c_doSet T.toTxtR).mono (by decide)
  · exact (c_doGet T.toTxtR).mono (by decide)
  · exact (c_doLet T.toTxtR).mono (by decide)
  · exact (c_doTimes T.toTxtR).mono (by decide)
  · exact (c_doEnd T.toTxtR).mono (by decide)
  · exact c_doSnap T.toTxtR
theorem RunAt.stepped {H : Hp} {g : RG} {H0 : Hp} {f : PF} {wss : List (List (List Nat))} {p : Hx01.Program} {ks : List Addr} {row : Nat} {o : List (Nat × Nat)} {wy : Hx01.Way} {ts fs rs ss : List Addr} (h : RunAt A H g H0 f wss p ks row o wy ts fs rs ss) (n r : Nat) :
    RunAt A (upd H g.a (.ins A.run g.dx (rnF g f.a n r))) g H0 f wss p ks r o { wy with steps := n } ts fs rs ss := by
  obtain ⟨⟨n1, n2, n3, n4⟩, _⟩ := h.ne
  refine ⟨same_upd h.same h.mem_a, h.nd, h.free, h.pr, upd_same, h.hobj, (upd_ne n1.symm).trans h.lt, (upd_ne n2.symm).trans h.lv, ⟨h.things.1, h.things.2.1, fun j u lf' t' h1 h2 h3 => ?_⟩, (upd_ne n3.symm).trans h.ls, h.snaps, (upd_ne n4.symm).trans h.lo, ⟨h.rounds.1, fun j r y h1 h2 => ?_⟩⟩
  · have := h.things.2.2 j u lf' t' h1 h2 h3
    exact ⟨this.1, (upd_ne (h.fsne h2).1).trans this.2⟩
  · exact (upd_ne (h.rsne h1).1).trans (h.rounds.2 j r y h1 h2)
/-! row_behind -/
def spBehind (A : CA) : Sp := fun vs H Q _ => ∃ (g : RG) (H0 : Hp) (f : PF) (wss : List (List (List Nat))) (p : Hx01.Program) (ks : List Addr) (row : Nat) (o : List (Nat × Nat)) (wy : Hx01.Way) (ts fs rs ss : List Addr),
  vs = [.ref g.a] ∧ RunAt A H g H0 f wss p ks row o wy ts fs rs ss ∧ Kp.Whole wss p ∧ WOk wss ∧ row < wss.length ∧ Kp.HOk p wy.heap ∧ o.map (fun x => x.1) = Kp.stackAt p.acts row ∧ wy.snaps.length ≤ 8 ∧
  (p.acts[row]? = some .nothing → ∀ H', RunAt A H' g H0 f wss p ks row o wy ts fs rs ss → Q (.int ((row + 1 : Nat) : Int)) H') ∧
  (∀ a, p.acts[row]? = some a → a ≠ .nothing → wy.steps = 300 → ∀ H', RunAt A H' g H0 f wss p ks row o wy ts fs rs ss → Q .non H') ∧
  (∀ a, p.acts[row]? = some a → a ≠ .nothing → wy.steps ≠ 300 → Kp.doRow p row o { wy with steps := wy.steps + 1 } a = none → ∀ H', RunAt A H' g H0 f wss p ks row o { wy with steps := wy.steps + 1 } ts fs rs ss → Q .non H') ∧
  (∀ a i' o' wy', p.acts[row]? = some a → a ≠ .nothing → wy.steps ≠ 300 → Kp.doRow p row o { wy with steps := wy.steps + 1 } a = some (i', o', wy') → ∀ H' H0' ts' fs' rs' ss', RunAt A H' g H0' f wss p ks row o' wy' ts' fs' rs' ss' → Same H0 H0' → Q (.int (i' : Nat)) H')
theorem scBehind : FnScope ["run", "words"] ["run"] (defScope sBehind) := ⟨rfl, rfl, rfl, by decide +kernel, rfl, by decide +kernel, by decide +kernel⟩
theorem c_behind (T : TxtS A w K mg) : Cb P w K mg base 5 "row_behind" ["run"] (spBehind A) := by
  obtain ⟨dd, es, nn, hdd, KD, hds⟩ := T.deeds
  refine T.dBehind.cb scBehind (fun vs H Q E h => ?_) (fun fa cdv Ar outer s H vs Q E hr h => ?_)
  · obtain ⟨g, H0, f, wss, p, ks, row, o, wy, ts, fs, rs, ss, rfl, _⟩ := h
    rfl
  obtain ⟨g, H0, f, wss, p, ks, row, o, wy, ts, fs, rs, ss, rfl, R, W, hW, hrow, hO, hst, hsn, k1, k2, k3, k4⟩ := h
  have hu64 : (Ar.deeper (envOfC (Str.ofString "row_behind") (defScope sBehind) s.heap.objs.size fa cdv)).units + 64 < cLine := by have := hr.un; omega
  refine ⟨_, pss_cons (ps_set (i := 1) scBehind.nd rfl (Or.inl rfl) (pe_ix ix_list (pe_fld (pe_fld (pv 0) rfl) rfl) (pe_fld (pv 0) rfl) (fun _ _ => rfl)))
    (pss_cons (ps_if (PW.pt (pw_or (pt_cmpR (op_eqD hu64) (pv 1) (pe_lst pa_nil) (nomark _)) (pw_or1 (pt_cmpR op_eq (pe_ix ix_list (pv 1) pe_int (fun _ _ => rfl)) pe_str (nomark _))))) (pss_one (ps_ret (pe_op op_add (pe_fld (pv 0) rfl) pe_int))) pss_nil)
    (pss_cons (ps_if (pt_cmpR op_eq (pe_fld (pv 0) rfl) (pe_gI T.cstS rfl) (nomark _)) (pss_one (ps_ret pe_non)) pss_nil)
    (pss_cons (ps_fldaug (pv 0) pe_int in_add)
    (pss_one (ps_ret (pe_callE (S := fun f sp => ∃ c, Deed c ∧ sp = spDeed A c ∧ mg (deedName c) = some (.ref f)) (k := 4)
      (fun f sp ⟨c, hc, e1, e2⟩ => by
        obtain ⟨f', fd, F, m, kp, b⟩ := deed_cb (P := P) (base := base) T hc
        have : f' = f := by
          have := m.symm.trans e2
          cases this; rfl
        subst this e1
        exact ⟨fd, _, F, kp, b⟩)
      (pe_ix ix_kdict (pe_glob (v := .ref dd) rfl hdd rfl) (pe_ix ix_list (pv 1) pe_int (fun _ _ => rfl)) (fun _ _ => rfl)) hr (pa_cons (pv 0) (pa_cons (pv 1) pa_nil)))))))), ?_⟩
  have pr := R.pr.go R.same
  obtain ⟨qs, hq1, hq2, hq3⟩ := R.pr.rows
  have hq1' := R.same _ _ hq1
  obtain ⟨q, hq⟩ := get_some (l := qs) (i := row) (by omega)
  obtain ⟨ws, hws⟩ := get_some (l := wss) (i := row) hrow
  have hqw := hq3 row q ws hq hws
  have cr := T.cRun.cl
  have hact := (W.rd.row row ws hrow hws).1
  refine ⟨_, rfl, g.a, A.run, g.dx, _, _, rfl, R.obj, cr, T.cRun.na _ (by decide +kernel), rnF_prog _ _ _ _, f.a, A.prog, f.dx, _, _, rfl, pr.obj, T.cProg.cl, T.cProg.na _ (by decide +kernel), prF_rows f, ?_⟩
  refine ⟨_, rfl, g.a, A.run, g.dx, _, _, rfl, R.obj, cr, T.cRun.na _ (by decide +kernel), rnF_row _ _ _ _, f.lr, _, _, _, rfl, rfl, SqL.of hq1', atI_nat (j := row) (by rw [List.getElem?_map, hq]; rfl), ?_⟩
  refine ⟨_, rfl, big (by simp), fun e he => ?_⟩
  have s1 : Same H (upd H e (.lst [])) := same_upd (Same.refl _) he
  have R1 := R.go s1
  have hqw1 := R1.same _ _ hqw
  have hmem := List.mem_of_getElem? hws
  refine ⟨_, _, .lst (SqL.of hqw1) (dp_strs _), .lst (SqL.of upd_same) .nil, sh_strs (fun x hx => ((hW.row _ hmem).2 x hx).2), flat_shaped (fun d hd => by cases hd), _, rfl, ?_⟩
  rw [eqv_nil]
  by_cases hn : ws = []
  · refine ifT (by simp [hn]) ?_
    refine ifT rfl ?_
    refine ⟨_, rfl, g.a, A.run, g.dx, _, _, rfl, R1.obj, cr, T.cRun.na _ (by decide +kernel), rnF_row _ _ _ _, _, _, rfl, rfl, ?_⟩
    exact k1 (by rw [hact, hn]; rfl) _ R1
  · refine ifF (by simp [hn]) ?_
    have hw := hW.ws (K := K) hmem hqw1 hn
    have td := (W.rd.row row ws hrow hws).2 hn
    have hact2 : p.acts[row]? = some (Kp.actOf p ws) := by
      rw [hact]
      unfold Kp.actAt
      rw [if_neg hn]
    refine ⟨_, rfl, q, _, _, _, rfl, rfl, hw.at_, wat (i := 0) hw.pos, rfl, _, rfl, ?_⟩
    rw [s_class, strEq]
    by_cases hc : wd ws 0 = wClass
    · rw [decide_eq_true hc]
      refine ifT rfl ?_
      refine ⟨_, rfl, g.a, A.run, g.dx, _, _, rfl, R1.obj, cr, T.cRun.na _ (by decide +kernel), rnF_row _ _ _ _, _, _, rfl, rfl, ?_⟩
      exact k1 (by rw [hact2, act_class hc]) _ R1
    · rw [decide_eq_false hc]
      refine ifF rfl ?_
      have hdeed := such_deed td.ok hc
      have hnn := deed_act (p := p) hdeed
      refine ⟨_, rfl, g.a, A.run, g.dx, _, _, rfl, R1.obj, cr, T.cRun.na _ (by decide +kernel), rnF_steps _ _ _ _, rfl, _, rfl, ?_⟩
      rw [show (300 : Int) = ((300 : Nat) : Int) from rfl, intEq]
      by_cases h3 : wy.steps = 300
      · rw [decide_eq_true h3]
        refine ifT rfl ?_
        exact k2 _ hact2 hnn h3 _ R1
      · rw [decide_eq_false h3]
        refine ifF rfl ?_
        refine ⟨_, rfl, g.a, A.run, g.dx, _, _, rfl, R1.obj, cr, T.cRun.na _ (by decide +kernel), rnF_steps _ _ _ _, _, _, rfl, rfl, g.dx, _, R1.obj, (by show 6 < 1000; decide), ?_⟩
        have es' : V.int (((wy.steps : Nat) : Int) + 1) = V.int ((wy.steps + 1 : Nat) : Int) := by congr 1
        rw [es', rnF_steps_put]
        have R2 := R1.stepped (wy.steps + 1) row
        obtain ⟨fx, hn1, hn2⟩ := hds _ hdeed
        have hw2 : SqL K (upd (upd H e (.lst [])) g.a (.ins A.run g.dx (rnF g f.a (wy.steps + 1) row))) q (vS ws) := SqL.of (R2.same _ _ hqw)
        refine ⟨_, rfl, q, _, _, _, rfl, rfl, hw2, wat (i := 0) hw.pos, dd, _, .ref fx, rfl, rfl, ⟨es, nn, _, KD.at_, KD.lit, hn1, rfl⟩, fx, _, rfl, ⟨_, hdeed, rfl, hn2⟩, ?_⟩
        refine ⟨_, rfl, _, rfl, g, H0, f, wss, p, ks, row, o, { wy with steps := wy.steps + 1 }, ts, fs, rs, ss, q, ws, rfl, ⟨R2, W, hW, hws, hn, hqw, hO, hst, hsn⟩, rfl, fun hd H' R' => k3 _ hact2 hnn h3 hd H' R', fun i' o' wy' hd H' H0' ts' fs' rs' ss' R' s' => k4 _ i' o' wy' hact2 hnn h3 hd H' H0' ts' fs' rs' ss' R' s'⟩
/-! run_program -/
def spRunP (A : CA) : Sp := fun vs H Q _ => ∃ (f : PF) (wss : List (List (List Nat))) (p : Hx01.Program) (ks : List Addr), vs = [.ref f.a] ∧ PrFz A H f wss p ks ∧ Kp.Whole wss p ∧ WOk wss ∧
  ∀ (g : RG) (H' H0 : Hp) (row : Nat) (o : List (Nat × Nat)) (ts fs rs ss : List Addr), Same H H0 → RunAt A H' g H0 f wss p ks row o (Hx01.run p).1 ts fs rs ss → (∀ h ∈ (Hx01.run p).1.snaps, Kp.HOk p h) → (Hx01.run p).1.snaps.length ≤ 8 → (Hx01.run p).1.heap.things.length ≤ 16 →
    (match (Hx01.run p).2 with | none => wss.length ≤ row | some i => row = i ∧ i < wss.length) → Q (.ref g.a) H'
theorem scRunP : FnScope ["program", "run", "behind"] ["program"] (defScope sRunP) := ⟨rfl, rfl, rfl, by decide +kernel, rfl, by decide +kernel, by decide +kernel⟩
theorem c_runP (T : TxtS A w K mg) : Cb P w K mg base 6 "run_program" ["program"] (spRunP A) := by
  refine T.dRunP.cb scRunP (fun vs H Q E h => ?_) (fun fa cdv Ar outer s H vs Q E hr h => ?_)
  · obtain ⟨f, wss, p, ks, rfl, _⟩ := h
    rfl
  obtain ⟨f, wss, p, ks, rfl, pr, W, hW, k⟩ := h
  have hr4 : Room 4 _ := hr.mono (by decide)
  refine ⟨_, pss_cons (ps_set (i := 1) scRunP.nd rfl (Or.inl rfl) (pe_cm (c_run T.toTxtR) hr4 rfl (pa_cons (pv 0) pa_nil)))
    (pss_cons (ps_while PassesOwn.never (pt_cmpR op_lt (pe_fld (pv 1) rfl) (pe_callB call_len_seq (by rfl) T.len PySem.boot_len (pa_cons (pe_fld (pv 0) rfl) pa_nil)) (nomark _))
      (pss_cons (ps_set (i := 2) scRunP.nd rfl (Or.inl rfl) (pe_cb (c_behind T) hr rfl (pa_cons (pv 1) pa_nil)))
      (pss_cons (ps_if (pt_cmp (pc_isN (pv 2))) (pss_one (ps_ret (pv 1))) pss_nil)
      (pss_one (ps_fld (pv 1) (pv 2) rfl)))))
    (pss_one (ps_ret (pv 1)))), ?_⟩
  have cr := T.cRun.cl
  have hvl := W.rd.bnd.vars
  have hal : p.acts.length = wss.length := W.rd.len
  refine ⟨_, rfl, ?_⟩
  intro a dx na ndx nad
  refine ⟨H, a, dx, f, wss, p, ks, rfl, rfl, na, ndx, pr, by omega, fun g H1 H0 ega s0 R0 => ⟨rfl, ?_⟩⟩
  subst ega
  refine ⟨fun m σ H' => ∃ (v : Option V) (i : Nat) (o : List (Nat × Nat)) (wy : Hx01.Way) (H0' : Hp) (ts fs rs ss : List Addr), σ = [some (.ref f.a), some (.ref g.a), v] ∧ Kp.RInv p m i o wy ∧ Same H H0' ∧ RunAt A H' g H0' f wss p ks i o wy ts fs rs ss,
    ⟨_, none, 0, [], way0 p, H0, [], [], [], [], rfl, Kp.RInv.start p, s0, R0⟩, ?_⟩
  rintro m σ H' ⟨v, i, o, wy, H0', ts, fs, rs, ss, rfl, I, sm, R⟩
  have pr' := R.pr.go R.same
  obtain ⟨qs, hq1, hq2, hq3⟩ := pr'.rows
  refine ⟨_, rfl, g.a, A.run, g.dx, _, _, rfl, R.obj, cr, T.cRun.na _ (by decide +kernel), rnF_row _ _ _ _, _, rfl, f.a, A.prog, f.dx, _, _, rfl, pr'.obj, T.cProg.cl, T.cProg.na _ (by decide +kernel), prF_rows f, f.lr, _, rfl, .inl (SqL.of hq1), _, _, rfl, rfl, _, rfl, ?_⟩
  rw [List.length_map, hq2]
  by_cases hlt : i < wss.length
  · rw [decide_eq_true (show ((i : Nat) : Int) < ((wss.length : Nat) : Int) by omega)]
    refine ifT rfl ?_
    refine ⟨fun σ' H2 => ∃ m', m' < m ∧ ∃ (v : Option V) (i : Nat) (o : List (Nat × Nat)) (wy : Hx01.Way) (H0' : Hp) (ts fs rs ss : List Addr), σ' = [some (.ref f.a), some (.ref g.a), v] ∧ Kp.RInv p m' i o wy ∧ Same H H0' ∧ RunAt A H2 g H0' f wss p ks i o wy ts fs rs ss, fun σ' H2 h => h, ?_⟩
    have fin : ∀ {H2 H02 : Hp} {i' : Nat} {o' : List (Nat × Nat)} {wy' : Hx01.Way} {ts' fs' rs' ss' : List Addr} {m' : Nat}, RunAt A H2 g H02 f wss p ks i o' wy' ts' fs' rs' ss' → Same H H02 → m' < m → Kp.RInv p m' i' o' wy' →
        ∃ m', m' < m ∧ ∃ (v : Option V) (i : Nat) (o : List (Nat × Nat)) (wy : Hx01.Way) (H0' : Hp) (ts fs rs ss : List Addr), [some (V.ref f.a), some (V.ref g.a), some (V.int (i' : Nat))] = [some (.ref f.a), some (.ref g.a), v] ∧ Kp.RInv p m' i o wy ∧ Same H H0' ∧ RunAt A (upd H2 g.a (.ins A.run g.dx (rnF g f.a wy'.steps i'))) g H0' f wss p ks i o wy ts fs rs ss :=
      fun R2 s2 hm I2 => ⟨_, hm, _, _, _, _, _, _, _, _, _, rfl, I2, s2, R2.stepped _ _⟩
    refine ⟨_, rfl, g, H0', f, wss, p, ks, i, o, wy, ts, fs, rs, ss, rfl, R, W, hW, hlt, I.heap, I.stk, I.snaps, ?_, ?_, ?_, ?_⟩
    · intro ha H2 R2
      obtain ⟨m', em, I2⟩ := I.blank ha
      refine ⟨_, rfl, _, rfl, ?_⟩
      refine ifF rfl ?_
      refine ⟨_, rfl, _, rfl, g.a, A.run, g.dx, _, rfl, R2.obj, cr, T.cRun.na _ (by decide +kernel), (by show 6 < 1000; decide), ?_⟩
      rw [rnF_row_put]
      exact fin R2 sm (by omega) I2
    · intro ac ha hnn h3 H2 R2
      refine ⟨_, rfl, _, rfl, ?_⟩
      refine ifT rfl ?_
      refine ⟨_, rfl, ?_⟩
      have hd := I.full ha hnn h3
      exact k g H2 H0' i o ts fs rs ss sm (by rw [hd]; exact R2) (by rw [hd]; exact I.old) (by rw [hd]; exact I.snaps) (by rw [hd]; exact I.heap.many) (by rw [hd]; exact ⟨rfl, hlt⟩)
    · intro ac ha hnn h3 hdn H2 R2
      refine ⟨_, rfl, _, rfl, ?_⟩
      refine ifT rfl ?_
      refine ⟨_, rfl, ?_⟩
      have hd := I.stop ha hnn h3 hdn
      exact k g H2 H0' i o ts fs rs ss sm (by rw [hd]; exact R2) (by rw [hd]; exact I.old) (by rw [hd]; exact I.snaps) (by rw [hd]; exact I.heap.many) (by rw [hd]; exact ⟨rfl, hlt⟩)
    · intro ac i' o' wy' ha hnn h3 hds H2 H02 ts' fs' rs' ss' R2 s2
      obtain ⟨m', em, I2⟩ := I.next W ha hnn h3 hds
      refine ⟨_, rfl, _, rfl, ?_⟩
      refine ifF rfl ?_
      refine ⟨_, rfl, _, rfl, g.a, A.run, g.dx, _, rfl, R2.obj, cr, T.cRun.na _ (by decide +kernel), (by show 6 < 1000; decide), ?_⟩
      rw [rnF_row_put]
      exact fin R2 (sm.trans s2) (by omega) I2
  · rw [decide_eq_false (show ¬ ((i : Nat) : Int) < ((wss.length : Nat) : Int) by omega)]
    refine ifF rfl ?_
    refine ⟨_, rfl, ?_⟩
    have hd := I.done (by omega)
    exact k g H' H0' i o ts fs rs ss sm (by rw [hd]; exact R) (by rw [hd]; exact I.old) (by rw [hd]; exact I.snaps) (by rw [hd]; exact I.heap.many) (by rw [hd]; show wss.length ≤ i; omega)
/-! stopped_at -/
def spStopped (A : CA) : Sp := fun vs H Q _ => ∃ (g : RG) (H0 : Hp) (f : PF) (wss : List (List (List Nat))) (p : Hx01.Program) (ks : List Addr) (row : Nat) (o : List (Nat × Nat)) (wy : Hx01.Way) (ts fs rs ss : List Addr),
  vs = [.ref g.a] ∧ RunAt A H g H0 f wss p ks row o wy ts fs rs ss ∧ Q (.int (if row < wss.length then ((row + 1 : Nat) : Int) else 0)) H
theorem scStopped : FnScope ["run"] ["run"] (defScope sStopped) := ⟨rfl, rfl, rfl, by decide +kernel, rfl, by decide +kernel, by decide +kernel⟩
theorem c_stopped (T : TxtS A w K mg) : Cb P w K mg base 1 "stopped_at" ["run"] (spStopped A) := by
  refine T.dStopped.cb scStopped (fun vs H Q E h => ?_) (fun fa cdv Ar outer s H vs Q E hr h => ?_)
  · obtain ⟨g, H0, f, wss, p, ks, row, o, wy, ts, fs, rs, ss, rfl, _⟩ := h
    rfl
  obtain ⟨g, H0, f, wss, p, ks, row, o, wy, ts, fs, rs, ss, rfl, R, k⟩ := h
  refine ⟨_, pss_one (ps_ret (pe_ifExp (pt_cmpR op_lt (pe_fld (pv 0) rfl) (pe_callB call_len_seq (by rfl) T.len PySem.boot_len (pa_cons (pe_fld (pe_fld (pv 0) rfl) rfl) pa_nil)) (nomark _)) (pe_op op_add (pe_fld (pv 0) rfl) pe_int) pe_int)), ?_⟩
  have cr := T.cRun.cl
  have pr' := R.pr.go R.same
  obtain ⟨qs, hq1, hq2, hq3⟩ := pr'.rows
  refine ⟨_, rfl, g.a, A.run, g.dx, _, _, rfl, R.obj, cr, T.cRun.na _ (by decide +kernel), rnF_row _ _ _ _, _, rfl, g.a, A.run, g.dx, _, _, rfl, R.obj, cr, T.cRun.na _ (by decide +kernel), rnF_prog _ _ _ _, f.a, A.prog, f.dx, _, _, rfl, pr'.obj, T.cProg.cl, T.cProg.na _ (by decide +kernel), prF_rows f, f.lr, _, rfl, .inl (SqL.of hq1), _, _, rfl, rfl, _, rfl, ?_⟩
  rw [List.length_map, hq2]
  by_cases c : row < wss.length
  · rw [decide_eq_true (show ((row : Nat) : Int) < ((wss.length : Nat) : Int) by omega)]
    rw [if_pos c] at k
    refine ifT rfl ?_
    exact ⟨_, rfl, g.a, A.run, g.dx, _, _, rfl, R.obj, cr, T.cRun.na _ (by decide +kernel), rnF_row _ _ _ _, _, _, rfl, rfl, k⟩
  · rw [decide_eq_false (show ¬ ((row : Nat) : Int) < ((wss.length : Nat) : Int) by omega)]
    rw [if_neg c] at k
    refine ifF rfl ?_
    exact k
end
end Kq
namespace Kq
open PySem PySem.Spec PyProof.Rows L2
/-! sorted(d, key=f): d a dict with whole numbers for keys -/
section
variable {X : Cx} {pins : List (Addr × Obj)} {σ : L2.St} {H : Hp} {s : Shared}
/-- whole numbers by their values -/
def IsI (v : Value) (n : Int) : Prop := ∃ t, v = Value.int n t
theorem each_ints : ∀ {vs : List Value} {ns : List Int}, IntsAre vs ns → PySem.W.EachIs IsI vs ns
  | _, _, .nil => .nil
  | _, _, .cons n t h => .cons ⟨t, rfl⟩ (each_ints h)
theorem vals_each : ∀ {vs : List Value} {ns : List Int}, PySem.W.EachIs IsI vs ns → Vals (ns.map V.int) vs
  | _, _, .nil => .nil
  | _, _, .cons h r => .cons h (vals_each r)
theorem sorted_dict_key (hcalm : X.calm = true) (I : Inv X pins σ H s) {d f : Addr} {kvs : List (Key × V)} {ks : List Int} {key : Int → PyData} {Q : VK} (hd : H d = some (.dK kvs)) (hks : kvs.map (·.1) = ks.map Sum.inl) (h64 : ks.length < 1000)
    (hal : PySem.W.AllAlike (ks.map key)) (hsk : PySem.W.Sortable (ks.map key)) (hu : ∀ x, x ∈ ks → X.A.units + 2 + (key x).depth < cLine)
    (turn : ∀ (n : Int) (t : Tok), n ∈ ks → ∀ (h : Heap) (tk : Nat), (∀ b o, s.heap.get? b = some o → h.get? b = some o) →
      wpAny (model X.prog X.w) X.A.in1.in1 (call (.ref f) [.int n t]) (PySem.W.KeyPure (key n) { s with heap := h, toks := tk }) (fun _ _ => False) { s with heap := h, toks := tk })
    (q : ∀ p, H p = none → Q (.ref p) (upd H p (.lst ((ks.mergeSort (PySem.W.dataLe false key)).map V.int)))) :
    wpAny (model X.prog X.w) X.A (call (.builtin "sorted") [.ref d] [(Str.ofString "key", .ref f)]) (EP X pins σ Q) X.xe s := by
  obtain ⟨z, lo, vs, rel, dd⟩ := dk_rd I.hok (.inl hd)
  obtain ⟨ep, hat⟩ := dd.dictAt
  have hkeys := rel.keys.symm.trans hks
  have hl : vs.length = ks.length := by simpa using congrArg List.length hkeys
  have hsl : ks.length ≤ sizeLine := big (by omega)
  refine PyProof.Rows.call_function_entry_kw PyProof.Rows.kind_sorted PyProof.Rows.plain_sorted PyProof.Rows.entry_sorted (PyProof.Rows.ksk_s1 _ _) ?_
  unfold Builtin.«sorted»; refine wpAny_bind (m := checkCount "sorted" 1 1 _) (wpAny_pure ?_)
  refine wpAny_bind (PySem.W.kdu_collect (A := X.A.in1) (PySem.W.kdl_dict (knd := mixKind X.prog X.w) (kvs := vs) (ep := ep) lo) (I.ok.hd hcalm) hat (by rw [hl]; exact hsl) fun h' tk acc hk hacc => ?_)
  have hal' : acc.toList.length = ks.length := by rw [Array.length_toList, hacc.1, hl]
  have hS : IntsAre acc.toList ks := ints_each hal' fun j v e => by
    obtain ⟨k0, x0, e1, e2⟩ := hacc.2 j v (by rw [← Array.getElem?_toList]; exact e)
    have e3 : (vs.map (·.1))[j]? = some k0 := by rw [List.getElem?_map, e1]; rfl
    rw [hkeys, List.getElem?_map] at e3; obtain ⟨y, e4, e5⟩ := Option.map_eq_some_iff.mp e3; subst e5
    rcases keyIs_shape (show keyIs (Sum.inl y) v = true from e2) with ⟨i0, t, ek, ev⟩ | ⟨z0, t, ek, ev⟩
    · cases ek
      exact ⟨y, t, e4, ev⟩
    · cases ek
  have J : Inv X pins σ H { s with heap := h', toks := tk } := I.kept hk
  refine wpAny_bind (wpAny_newList ?_ (by rw [hal']; exact hsl))
  have hNew : (h'.push (seqObj "list" acc.toList.toArray 0)).get? h'.objs.size = some (seqObj "list" acc.toList.toArray 0) := Heap.get?_push_size _ rfl
  show wpAny _ _ _ _ _ { s with heap := h'.push (seqObj "list" acc.toList.toArray 0), toks := tk }; refine wpAny_bind (wpAny_holding (PyProof.Rows.wpAny_call_entry_kw PyProof.Rows.slot_list_sort ⟨_, hNew, rfl⟩ PyProof.Rows.entry_list_sort ?body (PyProof.Rows.ksk_l1 _ _)))
  case body =>
    rw [PyProof.Rows.ksk_t1]
    have eI := each_ints hS
    refine PySem.W.keyH_tree (kz := ks.map key) (s := { s with heap := h'.push (seqObj "list" acc.toList.toArray 0), toks := tk }) hNew (by rw [List.length_map, hal']) (by rw [hal']; exact hsl) hal hsk (PySem.W.bound_map (A := X.A.in1.in1) hu)
      (PySem.W.keyH_turns (s := { s with heap := h'.push (seqObj "list" acc.toList.toArray 0), toks := tk }) eI fun v n hR hn h tk2 kp => ?_) fun h2 tk2 out c kp hD ko => ⟨_, rfl, ?_⟩
    · obtain ⟨t, rfl⟩ := hR
      refine turn n t hn h tk2 fun b o e => kp b o ?_ (Heap.get?_push_of_some _ (hk b o e))
      exact Nat.ne_of_lt (Heap.lt_size (hk b o e))
    · have eO := PySem.W.keyedOut_each key ko eI
      have keep : ∀ b o, s.heap.get? b = some o → h2.get? b = some o := fun b o e => kp b o (Nat.ne_of_lt (Heap.lt_size (hk b o e))) (Heap.get?_push_of_some _ (hk b o e))
      have fr : H h'.objs.size = none := J.hok.fresh (Nat.le_refl _)
      have ln : ((ks.mergeSort (PySem.W.dataLe false key)).map V.int).length ≤ sizeLine := by rw [List.length_map, List.length_mergeSort]; exact hsl
      refine wpAny_pure ⟨_, rfl, .ref h'.objs.size, upd H h'.objs.size (.lst ((ks.mergeSort (PySem.W.dataLe false key)).map V.int)), J.laid (t' := tk2) (fun b u e => ?_) (Nat.le_refl _) (show ObjOk X.prog X.w _ _ _ (.lst _) from ⟨ln, out, c, vals_each eO, hD⟩), rfl, q _ fr⟩
      exact kp b u (Nat.ne_of_lt (Heap.lt_size e)) (Heap.get?_push_of_some _ e)
end
end Kq
namespace Kq
open PySem PySem.Spec PyProof.Rows L2 LamX
open PySem.W (WData Codec OpenSpec WellAll ReadsW)
/-! The end of a Spec row whose defs make lambdas: tables of code objects are tracked from the start. -/
theorem sq_go {K : PySem.W.Frag} {G H : Hp} {a : Addr} {xs : List V} (s : Same G H) : SqL K G a xs → SqL K H a xs
  | .inl (.inl q) => .inl (.inl (s _ _ q))
  | .inl (.inr ⟨o, q⟩) => .inl (.inr ⟨o, s _ _ q⟩)
  | .inr q => .inr q
theorem sqt_go {K : PySem.W.Frag} {G H : Hp} {a : Addr} {xs : List V} (s : Same G H) : SqT K G a xs → SqT K H a xs
  | .inl (.inl q) => .inl (.inl (s _ _ q))
  | .inl (.inr ⟨o, q⟩) => .inl (.inr ⟨o, s _ _ q⟩)
  | .inr q => .inr q
theorem at_mem {α : Type} {a : Nat} {b : α} : ∀ {l : List (Nat × α)}, l.lookup a = some b → (a, b) ∈ l
  | [], h => by cases h
  | (c, d) :: r, h => by
    by_cases e : a = c
    · subst e
      have : some d = some b := by rw [← h]; simp [List.lookup]
      cases this
      exact List.mem_cons_self
    · have e' : (a == c) = false := by simpa using e
      have : r.lookup a = some b := by rw [← h]; simp [List.lookup, e']
      exact List.mem_cons_of_mem _ (at_mem this)
mutual
theorem dw_go {K : PySem.W.Frag} {G H : Hp} (s : Same G H) : ∀ (d : WData) (v : V), Dw K G v d → Dw K H v d
  | _, _, .non => .non
  | _, _, .bl b => .bl b
  | _, _, .int i => .int i
  | _, _, .str x => .str x
  | _, _, .byt b => .byt b
  | _, _, .lst q r => .lst (sq_go s q) (dws_go s _ _ r)
  | _, _, .tup q r => .tup (sqt_go s q) (dws_go s _ _ r)
theorem dws_go {K : PySem.W.Frag} {G H : Hp} (s : Same G H) : ∀ (ds : List WData) (vs : List V), DwAll K G vs ds → DwAll K H vs ds
  | _, _, .nil => .nil
  | _, _, .cons a b => .cons (dw_go s _ _ a) (dws_go s _ _ b)
end
/-- a written part without a table that is empty still -/
def bare : Obj → Bool
  | ⟨.none, none, .fields us, sl⟩ => us.isEmpty && sl.isEmpty
  | _ => false
theorem bare_none {K : PySem.W.Frag} {h : Heap} {T : Addr} (hK : K.In h) (n : K.all (fun q => !bare q.2) = true) (e : h.get? T = some (PySem.W.tabObj #[])) : K.lookup T = none := by
  cases q : K.lookup T with
  | none => rfl
  | some o =>
    have m := List.all_eq_true.mp n _ (at_mem q)
    have z := hK T o q
    rw [e] at z
    cases z
    exact Bool.noConfusion (show false = true from m)
/-- tables over an abstract heap -/
def tabbed (ts : List Addr) (H : Hp) : Hp := fun b => if b ∈ ts then some (.tbl #[]) else H b
theorem tabbed_in {ts : List Addr} {H : Hp} {b : Addr} (h : b ∈ ts) : tabbed ts H b = some (.tbl #[]) := if_pos h
theorem tabbed_out {ts : List Addr} {H : Hp} {b : Addr} (h : b ∉ ts) : tabbed ts H b = H b := if_neg h
/-- what the end has to know of tables: code objects c with their tables T, in the heap h -/
structure Laid (K : PySem.W.Frag) (h : Heap) (cs : List (Addr × Addr)) : Prop where
  free : ∀ q ∈ cs, K.lookup q.2 = none
  void : ∀ q ∈ cs, h.get? q.2 = some (PySem.W.tabObj #[])
  head : ∀ q ∈ cs, PySem.W.CodeHd h q.1 q.2
section
variable {P : Program} {w : World} {K : PySem.W.Frag} {mg mb : Str → Option Value} {k : Nat} {fa : Addr} {fd : FuncData} {ps : List Str} {sp : Sp} {st : Shared} {cs : List (Addr × Addr)} {ar : List Addr}
theorem Laid.seq (L : Laid K st.heap cs) {a : Addr} (ha : a ∈ cs.map Prod.snd) : st.heap.get? a = some (PySem.W.tabObj #[]) := by
  obtain ⟨q, hq, rfl⟩ := List.mem_map.mp ha
  exact L.void q hq
theorem Laid.kno (L : Laid K st.heap cs) {a : Addr} (ha : a ∈ cs.map Prod.snd) : K.lookup a = none := by
  obtain ⟨q, hq, rfl⟩ := List.mem_map.mp ha
  exact L.free q hq
/-- an argument's object is no table -/
theorem Laid.apart (L : Laid K st.heap cs) (ha : ∀ a ∈ ar, ArgOb st.heap ar a) {b : Addr} {u : HO} (q : argH K st.heap ar b = some u) : b ∉ cs.map Prod.snd := fun z => by
  obtain ⟨_, vs, _, _, ⟨e, _⟩ | ⟨e, _⟩⟩ := argH_is ha q <;> (rw [L.seq z] at e; cases e)
theorem Laid.hok (L : Laid K st.heap cs) (ha : ∀ a ∈ ar, ArgOb st.heap ar a) : HOk P w (tabbed (cs.map Prod.snd) (argH K st.heap ar)) st.heap := fun b u q => by
  by_cases hb : b ∈ cs.map Prod.snd
  · rw [tabbed_in hb] at q
    cases q
    exact L.seq hb
  · rw [tabbed_out hb] at q
    refine (argH_ok ha b u q).stay (fun d v _ e => e) (fun d e => ?_) fun d xs e => ?_
    · rw [tabbed_out (L.apart ha e)]; exact e
    · rw [tabbed_out (L.apart ha e)]; exact e
end
end Kq
namespace Kq
open PySem PySem.Spec PyProof.Rows L2 LamX
open PySem.W (WData Codec OpenSpec WellAll ReadsW)
/-- the tables of defs, by their names -/
def TabsOf (mg : Str → Option Value) (h : Heap) (xs : List Str) (cs : List (Addr × Addr)) : Prop :=
  cs.length = xs.length ∧ ∀ (i : Nat) (x : Str) (q : Addr × Addr), xs[i]? = some x → cs[i]? = some q → ∃ a o fd, mg x = some (.ref a) ∧ h.get? a = some o ∧ o.data = .func fd ∧ fd.code = .ref q.1 ∧ h.get? q.2 = some (PySem.W.tabObj #[]) ∧ PySem.W.CodeHd h q.1 q.2
theorem tabs_of {mg : Str → Option Value} {h : Heap} {p : Program} (T : ∀ d ∈ recsOf p, ∃ a o fd c P, mg d.name = some (.ref a) ∧ h.get? a = some o ∧ o.data = .func fd ∧ fd.code = .ref c ∧ h.IsCode c P #[] ∧ h.TableAt c P #[]) :
    ∀ xs : List Str, (xs.all fun x => (recsOf p).any fun d => d.name == x) = true → ∃ cs, TabsOf mg h xs cs
  | [], _ => ⟨[], rfl, fun i x q e _ => by simp at e⟩
  | x :: r, hx => by
    obtain ⟨h1, h2⟩ := Bool.and_eq_true_iff.mp (show (((recsOf p).any fun d => d.name == x) && r.all fun x => (recsOf p).any fun d => d.name == x) = true from hx)
    obtain ⟨cs, l, k⟩ := tabs_of T r h2
    obtain ⟨d, hd, hn⟩ := List.any_eq_true.mp h1
    have hn : d.name = x := beq_iff_eq.mp hn
    obtain ⟨a, o, fd, c, t, e1, e2, e3, e4, e5, e6⟩ := T d hd
    refine ⟨(c, t) :: cs, congrArg (· + 1) l, fun i y q ey eq => ?_⟩
    cases i with
    | zero =>
      have ey : x = y := Option.some.inj ey
      have eq : (c, t) = q := Option.some.inj eq
      subst ey eq
      exact ⟨a, o, fd, by rw [← hn]; exact e1, e2, e3, e4, e6.2, .of e5 e6⟩
    | succ j => exact k j y q ey eq
end Kq
namespace Kq
open PySem PySem.Spec PyProof.Rows L2 LamX
/-! sorted(d, key=lambda x: (-d[x], x)), d a dict of the def's own -/
abbrev lamP (x : Str) (p : Pos) : Arguments := { posonlyargs := [], args := [{ arg := x, annotation := none, pos := p }], vararg := none, kwonlyargs := [], kw_defaults := [], kwarg := none, defaults := [] }
abbrev lamB (d x : Str) (p1 p2 p3 p4 p5 p6 : Pos) : Expr := .Tuple [.UnaryOp .USub (.Subscript (.Name d p1) (.Name x p2) p3) p4, .Name x p5] 0 p6
abbrev lamC (d x : Str) : Scope := { kind := .function, names := [(x, .local), (d, .free)], isGenerator := false, isCoroutine := false, more := [] }
section
variable {X : Cx} {pins : List (Addr × Obj)} {σ : L2.St} {H : Hp} {s : Shared} {d x : Str} {p0 p1 p2 p3 p4 p5 p6 : Pos}
theorem noSlName {x : Str} {p : Pos} : NoSl (.Name x p) := fun _ _ => rfl
theorem lam_turn (I : Inv X pins σ H s) {f c' dd cl : Addr} {qq : Str} {clo : List (Str × Addr)} {pm ctv : Value} {kvs : List (Key × V)} (hr : X.A.depth < recursionLimit) (hne : (d == x) = false)
    (hbind : ∀ (q : Str) (cl : List (Str × Addr)) (pm cv ctv v : Value), bindArgs (PySem.W.kla_fn "<lambda>" q (lamP x p0) (lamB d x p1 p2 p3 p4 p5 p6) (lamC d x) cl pm cv ctv) ⟨[v], []⟩ = pure [(x, v)])
    (hf : s.heap.get? f = some (PySem.W.kla_obj "<lambda>" qq (lamP x p0) (lamB d x p1 p2 p3 p4 p5 p6) (lamC d x) clo pm c' ctv)) (hco : H c' = some (CodeO c' qq)) (hclo : clo.lookup d = some cl) (hcell : s.heap.IsCell cl (some (.ref dd))) (hd : H dd = some (.dK kvs))
    {n m : Int} (t : Tok) (hv : valV kvs (Sum.inl n) = some (.int m)) (h : Heap) (tk : Nat) (kp : ∀ b o, s.heap.get? b = some o → h.get? b = some o)
    (d1 : (d == ("__debug__" : Str)) = false) (d2 : (x == ("__debug__" : Str)) = false) (d3 : (d == ("__classdict__" : Str)) = false) :
    wpAny (model X.prog X.w) X.A.in1.in1 (call (.ref f) [.int n t]) (PySem.W.KeyPure (.tuple [.int (-m), .int n]) { s with heap := h, toks := tk }) (fun _ _ => False) { s with heap := h, toks := tk } := by
  have I0 : Inv X pins σ H { s with heap := h, toks := tk } := I.kept kp
  obtain ⟨⟨oc, us, tq, e1, e2, e3⟩, _, _⟩ := I0.hok c' _ hco
  have rx : (x == x) = true := beq_self_eq_true x
  refine wpAny_call (PySem.W.kla_callFunE (A := X.A.in1.in1) hr (kp _ _ hf) rfl rfl rfl rfl ⟨c', oc, us, tq, rfl, e1, e2, e3⟩ ?_)
  rw [hbind]
  refine wpAny_pure (wpAny_newFunctionEnv (fun y hy => ?_) (fun y hy => ?_) (fun h1 hns hsb => ⟨I0.nolimit.fresh _ hsb, ?_⟩) rfl)
  · rcases List.mem_cons.mp hy with rfl | hy
    · intro z; cases z
    · rcases List.mem_cons.mp hy with rfl | hy
      · intro z; cases z
      · cases hy
  · rcases List.mem_cons.mp hy with rfl | hy
    · show List.lookup x ((x, NameKind.local) :: _) = _
      simp [List.lookup, rx]
    · cases hy
  have kp1 : ∀ b o, h.get? b = some o → h1.get? b = some o := fun b o e => hsb.extBut b o (Nat.ne_of_lt (Heap.lt_size e)) (Heap.get?_push_of_some _ e)
  have loc : (fun y => [(x, Value.int n t)].reverse.lookup y) x = some (.int n t) := by
    show List.lookup x [(x, Value.int n t)] = _
    simp [List.lookup, rx]
  refine PySem.W.kla_codeExpr ?_
  have kx : List.lookup x (lamC d x).names = some .local := by
    show List.lookup x ((x, NameKind.local) :: _) = _
    simp [List.lookup, rx]
  have kd : List.lookup d (lamC d x).names = some .free := by
    show List.lookup d ((x, NameKind.local) :: (d, NameKind.free) :: []) = _
    simp [List.lookup, hne]
  have I1 : Inv X pins σ H { s with heap := h1, toks := tk + 1 } := I.kept fun b o e => kp1 b o (kp b o e)
  refine wpAny_Tuple ?_
  show wpAny _ _ (spliced ((false, eval (.UnaryOp .USub (.Subscript (.Name d p1) (.Name x p2) p3) p4) _) :: (false, eval (.Name x p5) _) :: [])) _ _ _
  refine Calls.spliced_cons (wpAny_UnaryOp (subD_of PySem.F.slot_dict_getitem.lookup noSlName (wpAny_Name (wpAny_loadName_free rfl kd hclo (hcell.keeps fun b o e => kp1 b o (kp b o e)) (wpAny_Name (wpAny_loadName_local rfl kx hns loc ⟨?_, ?_⟩) d2) d3) d1)))
  · obtain ⟨z, _, vs, rel, dd⟩ := dk_rd I1.hok (.inl hd)
    exact dd.typeIs
  · obtain ⟨z, _, vs, rel, dd⟩ := dk_rd I1.hok (.inl hd)
    obtain ⟨u, hw, ⟨tu, ru⟩⟩ := RelO.some_of (v := .int m) (o := valueAt vs (Sum.inl n)) (by rw [← hv]; exact rel.val _)
    subst ru
    refine wpAny_getItem_of (kV_is (k := Sum.inl n) ⟨t, rfl⟩) dd.mapOf hw (neg_int (Calls.spliced_cons (wpAny_Name (wpAny_loadName_local rfl kx hns loc (Calls.spliced_nil ⟨show 2 ≤ sizeLine by decide, ?_⟩)) d2)))
    refine ⟨_, _, rfl, fun b o e => Heap.get?_push_of_some _ (kp1 b o e), ?_⟩
    exact Reads.tuple (Heap.get?_push_size _ rfl) rfl rfl (.cons (.int _ _) (.cons (.int _ _) .nil))
end
end Kq
namespace Kq
open PySem PySem.Spec PyProof.Rows L2 LamX
/-- a pair's order: the first falling, the second rising -/
def bigLe (g : Int → Int) : Int → Int → Bool := fun p q => decide (-g p < -g q ∨ (-g p = -g q ∧ p ≤ q))
def tSortLam (T : List (Addr × Str)) (i : Nat) : TE := fun σ H Q => ∃ (dd : Addr) (kvs : List (Key × V)) (ks : List Int) (g : Int → Int), σ[i]? = some (some (.ref dd)) ∧ H dd = some (.dK kvs) ∧ kvs.map (·.1) = ks.map Sum.inl ∧ (∀ n ∈ ks, valV kvs (Sum.inl n) = some (.int (g n))) ∧ ks.length < 1000 ∧ Tabs T H ∧
  ∀ H1 p, ExtN H H1 → Tabs T H1 → H1 p = none → Q (.ref p) (upd H1 p (.lst ((ks.mergeSort (bigLe g)).map V.int)))
section
variable {X : Cx} {d x : Str} {p0 p1 p2 p3 p4 p5 p6 p p' lpos kpos pos : Pos}
theorem pe_sortLam {T : List (Addr × Str)} {c P : Addr} {i k : Nat} (hc : X.calm = true) (hg : Gl X "sorted") (hm : X.mg "sorted" = none) (hN : X.N[i]? = some d) (hv : Vis X.env.scope d) (hsc : X.env.scope.names.lookup d = some .cell)
    (TB : TabB X.base X.mg c P) (hcode : X.env.code = .ref c) (hmT : (P, X.env.qual ++ "<lambda>") ∈ T) (hu : ∀ p ∈ T, p.1 = P → p.2 = X.env.qual ++ "<lambda>") (hr : Room k X.A)
    (hbind : ∀ (q : Str) (cl : List (Str × Addr)) (pm cv ctv v : Value), bindArgs (PySem.W.kla_fn "<lambda>" q (lamP x p0) (lamB d x p1 p2 p3 p4 p5 p6) (lamC d x) cl pm cv ctv) ⟨[v], []⟩ = pure [(x, v)])
    (hne : (d == x) = false) (d1 : (d == ("__debug__" : Str)) = false) (d2 : (x == ("__debug__" : Str)) = false) (d3 : (d == ("__classdict__" : Str)) = false) :
    PE X (.Call (.Name "sorted" p) [.Name d p'] [⟨some "key", .Lambda (lamP x p0) (lamB d x p1 p2 p3 p4 p5 p6) (lamC d x) lpos, kpos⟩] pos) (tSortLam T i) := by
  refine ⟨fun pins s σ H Q I h => ?_⟩
  obtain ⟨dd, kvs, ks, g, hσ, hd, hks, hval, hlt, hT, q⟩ := h
  have hfree : ∀ y ∈ (lamC d x).names, y.2 = .free → ∃ c, X.env.cells.lookup y.1 = some c := fun y hy e => by
    rcases List.mem_cons.mp hy with rfl | hy
    · cases e
    · rcases List.mem_cons.mp hy with rfl | hy
      · exact I.ok.has _ (.inl hsc)
      · cases hy
  refine wpAny_Call_Name_kw (ld_blt I hg hm rfl ?_)
  refine PyProof.Rows.callWith_kw (thn ((pa_cons (pe_var (pos := p') hN hv d1 d3) pa_nil).run pos pins s σ H (fun vs H1 => vs = [.ref dd] ∧ H1 = H) I ⟨.ref dd, hσ, rfl, rfl⟩) fun us s1 ⟨vs, H0, I0, r0, q0⟩ => ?_) rfl rfl rfl rfl
  obtain ⟨rfl, rfl⟩ := q0
  cases r0 with
  | cons r1 r2 =>
  cases r2
  have r1 := (show _ = Value.ref dd from r1)
  subst r1
  show wpAny _ _ (evalAll ((do let v ← eval (.Lambda (lamP x p0) (lamB d x p1 p2 p3 p4 p5 p6) (lamC d x) lpos) X.env; standAt pos; pure v) :: [])) _ _ s1
  refine wpAny_evalAll_cons (wpAny_bind (lam_make2 I0 TB hcode hmT hu hT rfl hfree fun f c' pm ctv H1 s2 I1 eN T1 hf hfn hfr hco => wpAny_bind (wpAny_standAt (wpAny_pure (wpAny_evalAll_nil ?_)))))
  have hd1 : H1 dd = some (.dK kvs) := eN _ _ hd (fun ps z => by cases z)
  obtain ⟨m, hn, hl⟩ := I1.loc
  obtain ⟨u, ru, l⟩ := hl i d (.ref dd) hN hσ hv
  have ru : u = Value.ref dd := ru
  subst ru
  obtain ⟨cl, hcl, hcell⟩ : ∃ cl, X.env.cells.lookup d = some cl ∧ s2.heap.IsCell cl (some (.ref dd)) := by
    rcases l with ⟨z, _⟩ | ⟨_, cl, e1, e2⟩
    · have z : X.env.scope.names.lookup d = some .local := z
      rw [hsc] at z
      cases z
    · exact ⟨cl, e1, e2⟩
  have hclo : (cloFrom X.env.cells (lamC d x).names []).lookup d = some cl := by
    show List.lookup d [(d, (X.env.cells.lookup d).getD 0)] = _
    rw [hcl]
    simp [List.lookup]
  have key : (PySem.W.dataLe false fun n : Int => PyData.tuple [.int (-g n), .int n]) = bigLe g := PySem.W.dataLe_ii (fun n => -g n) (fun n => n)
  have un := hr.un
  refine sorted_dict_key (f := f) (key := fun n => .tuple [.int (-g n), .int n]) hc I1 hd1 hks hlt (PySem.W.AllAlike.of fun _ _ => rfl) (PySem.W.Sortable.tuples fun n => ⟨_, _, rfl⟩) (fun n _ => ?_) (fun n t hn h tk kp => lam_turn I1 (by have := hr.dp; omega) hne hbind hf hco hclo hcell hd1 t (hval n hn) h tk kp d1 d2 d3) fun p hp => ?_
  · show X.A.units + 2 + _ < cLine
    have : (PyData.tuple [.int (-g n), .int n]).depth ≤ 20 := show 1 ≤ 20 by decide
    omega
  · rw [key]
    exact q H1 p eN T1 hp
end
end Kq
namespace Kq
open PySem PySem.Spec PyProof.Rows L2
open Hx01 (Link)
abbrev sLinks : Stmt := top 4
abbrev sAll : Stmt := top 5
abbrev sWays : Stmt := top 6
abbrev sCome : Stmt := top 7
abbrev sBytes : Stmt := top 8
abbrev sStill : Stmt := top 10
abbrev sLeft : Stmt := top 11
abbrev sFreed : Stmt := top 12
abbrev sGo : Stmt := top 15
abbrev sKept : Stmt := top 16
abbrev sKeeper : Stmt := top 17
abbrev sUses : Stmt := top 18
abbrev sUse : Stmt := top 19
abbrev sCan : Stmt := top 20
abbrev sFirst : Stmt := top 21
abbrev sFew : Stmt := top 22
abbrev sCounts : Stmt := top 24
abbrev sRising : Stmt := top 25
abbrev sGrow : Stmt := top 26
structure TxtH (A : CA) (w : World) (K : PySem.W.Frag) (mg : Str → Option Value) : Prop extends TxtS A w K mg where
  dLinks : Dd K mg "links_from" sLinks ["begins", "holders"]
  dAll : Dd K mg "all_links" sAll ["heap"]
  dWays : Dd K mg "shortest_ways" sWays ["heap", "cut"]
  dCome : Dd K mg "come_to" sCome ["heap"]
  dBytes : Dd K mg "bytes_of" sBytes ["heap", "numbers"]
  dStill : Dd K mg "still_held" sStill ["heap", "there"]
  dLeft : Dd K mg "left_by_counting" sLeft ["heap"]
  dFreed : Dd K mg "never_freed" sFreed ["heap"]
  dGo : Dd K mg "things_that_go" sGo ["heap", "cut"]
  dKept : Dd K mg "kept_by" sKept ["heap", "keeper"]
  dKeeper : Dd K mg "keeper_of" sKeeper ["heap", "thing"]
  dUses : Dd K mg "links_in_use" sUses ["heap"]
  dUse : Dd K mg "link_in_use" sUse ["heap", "begins", "which"]
  dCan : Dd K mg "can_go" sCan ["heap", "thing", "cut", "more"]
  dFirst : Dd K mg "first_row_of_cuts" sFirst ["heap", "thing", "count"]
  dFew : Dd K mg "fewest_cuts" sFew ["heap", "thing"]
  cCut : ∃ t, mg "MOST_CUT" = some (.int 3 t)
  dCounts : Dd K mg "counts_by_row" sCounts ["heap"]
  dRising : Dd K mg "is_rising" sRising ["counts"]
  dGrow : Dd K mg "rows_that_grow" sGrow ["heaps"]
  sorted_ : mg "sorted" = none
  sum_ : mg "sum" = none
  all_ : mg "all" = none
  range_ : mg "range" = none
  list_ : mg "list" = none
  zip_ : mg "zip" = none
/-! links as tuples -/
def LkAt (H : Hp) (a : Addr) (x : Link) : Prop := H a = some (.tup [.int (x.src : Nat), .int (x.slot : Nat), .int (x.to : Nat)])
def LksAt (H : Hp) (as : List Addr) (l : List Link) : Prop := as.length = l.length ∧ ∀ (i : Nat) (a : Addr) (x : Link), as[i]? = some a → l[i]? = some x → LkAt H a x
theorem LksAt.go {H H' : Hp} {as : List Addr} {l : List Link} (h : LksAt H as l) (s : Same H H') : LksAt H' as l := ⟨h.1, fun i a x e1 e2 => s _ _ (h.2 i a x e1 e2)⟩
theorem LksAt.nil {H : Hp} : LksAt H [] [] := ⟨rfl, fun i a x e => by simp at e⟩
theorem LksAt.upd {H : Hp} {as : List Addr} {l : List Link} {D : Addr} {xs : List V} {o : HO} (hD : H D = some (.lst xs)) (h : LksAt H as l) : LksAt (upd H D o) as l :=
  ⟨h.1, fun i a x e1 e2 => (upd_ne (fun z => by have := h.2 i a x e1 e2; rw [z] at this; unfold LkAt at this; rw [hD] at this; cases this)).trans (h.2 i a x e1 e2)⟩
theorem LksAt.snoc {H : Hp} {as : List Addr} {l : List Link} {a : Addr} {x : Link} (h : LksAt H as l) (k : LkAt H a x) : LksAt H (as ++ [a]) (l ++ [x]) := by
  refine ⟨by simp [h.1], fun i b y e1 e2 => ?_⟩
  by_cases c : i < as.length
  · rw [List.getElem?_append_left c] at e1
    rw [List.getElem?_append_left (by rw [← h.1]; exact c)] at e2
    exact h.2 i b y e1 e2
  · have hi := (List.getElem?_eq_some_iff.mp e1).1
    rw [List.length_append, List.length_singleton] at hi
    have : i = as.length := by omega
    subst this
    rw [List.getElem?_append_right (Nat.le_refl _), Nat.sub_self] at e1
    rw [h.1, List.getElem?_append_right (Nat.le_refl _), Nat.sub_self] at e2
    cases e1; cases e2
    exact k
section
variable {P : Program} {w : World} {K : PySem.W.Frag} {mg : Str → Option Value} {base : Heap} {A : CA}
def spLinks : Sp := fun vs H Q _ => ∃ (b : Nat) (lh : Addr) (l : List (Option Nat)), vs = [.int (b : Nat), .ref lh] ∧ H lh = some (.lst (l.map oV)) ∧ l.length ≤ 100 ∧
  ∀ (H' : Hp) (D : Addr) (as : List Addr), Same H H' → H D = none → H' D = some (.lst (as.map V.ref)) → LksAt H' as (Kp.lf b 0 l) → Q (.ref D) H'
theorem scLinks : FnScope ["begins", "holders", "which", "held"] ["begins", "holders"] (defScope sLinks) := ⟨rfl, rfl, rfl, by decide +kernel, rfl, by decide +kernel, by decide +kernel⟩
theorem c_links (T : TxtH A w K mg) : Cb P w K mg base 1 "links_from" ["begins", "holders"] spLinks := by
  refine T.dLinks.cb scLinks (fun vs H Q E h => ?_) (fun fa cdv Ar outer s H vs Q E hr h => ?_)
  · obtain ⟨b, lh, l, rfl, _⟩ := h
    rfl
  obtain ⟨b, lh, l, rfl, hlh, hlen, k⟩ := h
  refine ⟨_, pss_one (ps_ret (pe_lc (own := [("which", 2), ("held", 3)]) (g := gTup K 2 (gCons (gName 2) (gCons (gName 3) gNil))) (te := tTup (tCons (tVar 0) (tCons (tVar 2) (tCons (tVar 3) tNil)))) rfl scLinks.nd (pi_enum (by rfl) T.enumerate_ (pa_cons (pv 1) pa_nil))
    (blkOk_by (own := [("which", 2), ("held", 3)]) (N := ["begins", "holders", "which", "held"]) (sc := defScope sLinks) (by decide +kernel))
    (fun _ _ _ _ _ => pg_tup rfl (pgs_cons (pg_name (i := 2) scLinks.nd rfl (.inl rfl)) (pgs_cons (pg_name (i := 3) scLinks.nd rfl (.inl rfl)) pgs_nil)))
    (fun _ _ _ _ _ => pts_one (pt_cmp (pc_notN (pv 3)))) (fun _ _ _ _ _ => pe_tup (pa_cons (pv 0) (pa_cons (pv 2) (pa_cons (pv 3) pa_nil)))))), ?_⟩
  refine ⟨_, rfl, lh, _, rfl, SqL.of hlh, fun D hD => ?_⟩
  refine lc_it (walk_enum (K := K) (a := lh) (xs := l.map oV)) (fun i H' => Same H H' ∧ ∃ as, H' D = some (.lst (as.map V.ref)) ∧ LksAt H' as (Kp.lf b 0 (l.take i)))
    ⟨same_upd (Same.refl H) hD, [], upd_same, LksAt.nil⟩ (fun i H' _ h => SqL.of (h.1 _ _ hlh)) ?_ ?_
  · rintro i x H1 H2 hi ⟨s1, as, hD1, hL⟩ ⟨t, u, v, rfl, ht, rfl, hu, hv⟩
    cases hu
    rw [List.length_map] at hi
    have hv : (l.map oV)[i]? = some v := hv
    rw [List.getElem?_map, List.getElem?_eq_getElem hi] at hv
    cases hv
    have s2 : Same H1 (upd H1 t (.tup [.int (i : Nat), oV l[i]])) := same_upd (Same.refl _) ht
    have et : l.take (i + 1) = l.take i ++ [l[i]] := by rw [List.take_succ, List.getElem?_eq_getElem hi]; rfl
    have el : (l.take i).length = i := by rw [List.length_take]; omega
    refine ⟨t, _, rfl, SqT.of upd_same, rfl, _, _, rfl, _, _, rfl, rfl, rfl, _, rfl, ?_⟩
    rw [et, Kp.lf_snoc, el, Nat.zero_add]
    cases e : l[i] with
    | none =>
      refine ⟨_, rfl, ifF rfl ?_⟩
      rw [e] at s2
      refine ⟨s1.trans s2, as, s2 _ _ hD1, ?_⟩
      show LksAt _ as (_ ++ [])
      rw [List.append_nil]
      exact hL.go s2
    | some o =>
      refine ⟨_, rfl, ifT rfl ?_⟩
      rw [e] at s2
      refine ⟨_, rfl, _, rfl, _, rfl, big (show 3 ≤ 100000 by decide), fun q hq => ?_⟩
      have s3 : Same H1 (upd (upd H1 t (.tup [.int (i : Nat), oV (some o)])) q (.tup [.int (b : Nat), .int (i : Nat), .int (o : Nat)])) := s2.trans (same_upd (Same.refl _) hq)
      have ha : as.length ≤ 100 := by
        rw [hL.1]
        exact Nat.le_trans (Kp.lf_len _ _ _) (by rw [el]; omega)
      refine ⟨_, s3 _ _ hD1, bigLt (by rw [List.length_map]; omega), same_upd (s1.trans s3) hD, as ++ [q], by rw [upd_same, List.map_append]; rfl, ?_⟩
      refine LksAt.upd (s3 _ _ hD1) ?_
      exact (hL.go s3).snoc upd_same
  · rintro H1 ⟨s1, as, hD1, hL⟩
    rw [List.length_map, List.take_length] at hL
    exact k H1 D as s1 hD hD1 hL
end
end Kq
namespace Kq
open PySem PySem.Spec PyProof.Rows L2
open Hx01 (Link)
/-! ways as lists of links -/
/-- a heap without some addresses -/
def but (ds : List Addr) (H : Hp) : Hp := fun b => if b ∈ ds then none else H b
theorem but_in {ds : List Addr} {H : Hp} {b : Addr} (h : b ∈ ds) : but ds H b = none := if_pos h
theorem but_out {ds : List Addr} {H : Hp} {b : Addr} (h : b ∉ ds) : but ds H b = H b := if_neg h
theorem but_some {ds : List Addr} {H : Hp} {b : Addr} {o : HO} (h : but ds H b = some o) : b ∉ ds ∧ H b = some o := by
  by_cases c : b ∈ ds
  · rw [but_in c] at h; cases h
  · rw [but_out c] at h; exact ⟨c, h⟩
theorem but_same {ds : List Addr} {H H' : Hp} (s : Same H H') : Same (but ds H) (but ds H') := fun b o e => by
  obtain ⟨n, e⟩ := but_some e
  rw [but_out n]; exact s _ _ e
theorem but_le {ds : List Addr} {H : Hp} : Same (but ds H) H := fun b o e => (but_some e).2
theorem but_less {ds es : List Addr} {H : Hp} (h : ∀ b ∈ es, b ∈ ds) : Same (but ds H) (but es H) := fun b o e => by
  obtain ⟨n, e⟩ := but_some e
  rw [but_out (fun z => n (h b z))]; exact e
theorem but_upd {ds : List Addr} {H : Hp} {a : Addr} {o : HO} (h : a ∈ ds) : but ds (upd H a o) = but ds H := by
  funext b
  by_cases c : b ∈ ds
  · rw [but_in c, but_in c]
  · rw [but_out c, but_out c, upd_ne (fun z => c (by rw [z]; exact h))]
theorem but_out_of {ds : List Addr} {H H' : Hp} (s : Same H H') (h : ∀ b ∈ ds, H b = none) : Same H (but ds H') := fun b o e => by
  rw [but_out (fun z => by rw [h b z] at e; cases e)]; exact s _ _ e
def WyAt (H : Hp) (a : Addr) (l : List Link) : Prop := ∃ as, H a = some (.lst (as.map V.ref)) ∧ LksAt H as l
theorem WyAt.go {H H' : Hp} {a : Addr} {l : List Link} (h : WyAt H a l) (s : Same H H') : WyAt H' a l := by
  obtain ⟨as, h1, h2⟩ := h
  exact ⟨as, s _ _ h1, h2.go s⟩
def WysAt (H : Hp) (qs : List Addr) (l : Kp.Ways) : Prop := qs.length = l.length ∧ ∀ (i : Nat) (a : Addr) (x : Nat × List Link), qs[i]? = some a → l[i]? = some x → WyAt H a x.2
theorem WysAt.go {H H' : Hp} {qs : List Addr} {l : Kp.Ways} (h : WysAt H qs l) (s : Same H H') : WysAt H' qs l := ⟨h.1, fun i a x e1 e2 => (h.2 i a x e1 e2).go s⟩
theorem WysAt.nil {H : Hp} : WysAt H [] [] := ⟨rfl, fun i a x e => by simp at e⟩
theorem WysAt.app {H : Hp} {qs zs : List Addr} {l m : Kp.Ways} (h : WysAt H qs l) (k : WysAt H zs m) : WysAt H (qs ++ zs) (l ++ m) := by
  refine ⟨by rw [List.length_append, List.length_append, h.1, k.1], fun i a x e1 e2 => ?_⟩
  by_cases c : i < qs.length
  · rw [List.getElem?_append_left c] at e1
    rw [List.getElem?_append_left (by rw [← h.1]; exact c)] at e2
    exact h.2 i a x e1 e2
  · rw [List.getElem?_append_right (by omega)] at e1
    rw [List.getElem?_append_right (by rw [← h.1]; omega), ← h.1] at e2
    exact k.2 _ a x e1 e2
theorem WysAt.one {H : Hp} {a : Addr} {t : Nat} {l : List Link} (h : WyAt H a l) : WysAt H [a] [(t, l)] := by
  refine ⟨rfl, fun i b x e1 e2 => ?_⟩
  cases i with
  | zero => cases e1; cases e2; exact h
  | succ j => cases e1
/-- links stand outside lists and dicts -/
theorem LksAt.out {H : Hp} {as : List Addr} {l : List Link} {ds : List Addr} (h : LksAt H as l) (n : ∀ b ∈ ds, ∀ xs, H b ≠ some (.tup xs)) : LksAt (but ds H) as l :=
  ⟨h.1, fun i a x e1 e2 => (but_out (fun z => n a z _ (h.2 i a x e1 e2))).trans (h.2 i a x e1 e2)⟩
/-- one more way, in a list that grows -/
theorem WysAt.turn {H Hq : Hp} {ds qs as : List Addr} {L : Kp.Ways} {l : List Link} {q D : Addr} {t : Nat} {o : HO} (h : WysAt (but ds H) qs L) (s : Same H Hq) (hq : H q = none) (hds : ∀ b ∈ ds, H b ≠ none) (hD : D ∈ ds) (e : Hq q = some (.lst (as.map V.ref))) (k : LksAt (but ds Hq) as l) :
    WysAt (but ds (upd Hq D o)) (qs ++ [q]) (L ++ [(t, l)]) := by
  rw [but_upd hD]
  refine (h.go (but_same s)).app (WysAt.one ⟨as, ?_, k⟩)
  rw [but_out (fun z => hds q z hq)]
  exact e
theorem LksAt.one {H : Hp} {a : Addr} {x : Link} (h : LkAt H a x) : LksAt H [a] [x] := LksAt.nil.snoc h
/-- the dict of the ways that were taken -/
def wyD (acc : Kp.Ways) (qs : List Addr) : List (Key × V) := (acc.zip qs).map fun y => (Sum.inl (y.1.1 : Int), V.ref y.2)
theorem wyD_keys : ∀ {acc : Kp.Ways} {qs : List Addr}, qs.length = acc.length → (wyD acc qs).map (·.1) = (acc.map fun y => ((y.1 : Nat) : Int)).map Sum.inl
  | [], qs, _ => by simp [wyD]
  | y :: acc, [], h => by cases h
  | y :: acc, q :: qs, h => by
    have := wyD_keys (acc := acc) (qs := qs) (Nat.succ.inj h)
    simp only [wyD, List.zip_cons_cons, List.map_cons] at this ⊢
    rw [this]
theorem wyD_val : ∀ {acc : Kp.Ways} {qs : List Addr} (t : Nat), qs.length = acc.length → (valV (wyD acc qs) (Sum.inl (t : Int))).isSome = Kp.has acc t
  | [], qs, t, _ => by simp [wyD, valV_nil, Kp.has]
  | y :: acc, [], t, h => by cases h
  | y :: acc, q :: qs, t, h => by
    have ih := wyD_val (acc := acc) (qs := qs) t (Nat.succ.inj h)
    have e : wyD (y :: acc) (q :: qs) = (Sum.inl (y.1 : Int), V.ref q) :: wyD acc qs := rfl
    rw [e]
    by_cases c : y.1 = t
    · rw [valV_pos (by rw [c])]
      simp [Kp.has, c]
    · rw [valV_neg (fun z => c (by have := Sum.inl.inj z; exact Int.ofNat.inj this)), ih]
      have : (y.1 == t) = false := by simpa using c
      simp [Kp.has, this]
theorem wyD_put {acc : Kp.Ways} {qs : List Addr} {w : Nat × List Link} {q : Addr} (h : qs.length = acc.length) (c : Kp.has acc w.1 = false) : putK (wyD acc qs) (Sum.inl (w.1 : Int)) (.ref q) = wyD (acc ++ [w]) (qs ++ [q]) := by
  rw [putK_new _ (by
    have := wyD_val (acc := acc) (qs := qs) w.1 h
    rw [c] at this
    cases z : valV (wyD acc qs) (Sum.inl (w.1 : Int)) with
    | none => rfl
    | some v => rw [z] at this; cases this)]
  unfold wyD
  rw [List.zip_append h.symm, List.map_append]
  rfl
/-- a snapshot's heap, as its calls want it -/
structure Sn (A : CA) (H : Hp) (p : Hx01.Program) (sa : Addr) (h : Hx01.Heap) : Prop where
  at_ : HpAt A H p sa h
  fld : ∀ c ∈ p.classes, c.fields.length ≤ 2
  ok : Kp.HOk p h
  vars : h.vars.length ≤ 6
theorem Sn.go {A : CA} {H H' : Hp} {p : Hx01.Program} {sa : Addr} {h : Hx01.Heap} (k : Sn A H p sa h) (s : Same H H') : Sn A H' p sa h := ⟨k.at_.same s, k.fld, k.ok, k.vars⟩
theorem Sn.links {A : CA} {H : Hp} {p : Hx01.Program} {sa : Addr} {h : Hx01.Heap} (k : Sn A H p sa h) : Kp.LOk h.things.length (Hx01.links h) := Kp.links_ok k.fld k.ok
theorem take_one {α : Type} {l : List α} {i : Nat} {x : α} (h : l[i]? = some x) : l.take (i + 1) = l.take i ++ [x] := by rw [List.take_succ, h]; rfl
theorem one_yes {α : Type} {f : α → Bool} {x : α} (h : f x = true) : [x].filter f = [x] := by rw [List.filter_cons, if_pos h]; rfl
theorem one_no {α : Type} {f : α → Bool} {x : α} (h : f x = false) : [x].filter f = [] := by rw [List.filter_cons, if_neg (by rw [h]; exact Bool.false_ne_true)]; rfl
/-- one behind another -/
def AllR {α : Type} (R : V → α → Prop) (ys : List V) (l : List α) : Prop := ys.length = l.length ∧ ∀ (i : Nat) (y : V) (x : α), ys[i]? = some y → l[i]? = some x → R y x
theorem AllR.nil {α : Type} {R : V → α → Prop} : AllR R [] [] := ⟨rfl, fun i y x e => by simp at e⟩
theorem AllR.imp {α : Type} {R S : V → α → Prop} {ys : List V} {l : List α} (h : AllR R ys l) (k : ∀ y x, R y x → S y x) : AllR S ys l := ⟨h.1, fun i y x e1 e2 => k _ _ (h.2 i y x e1 e2)⟩
theorem AllR.snoc {α : Type} {R : V → α → Prop} {ys : List V} {l : List α} {y : V} {x : α} (h : AllR R ys l) (k : R y x) : AllR R (ys ++ [y]) (l ++ [x]) := by
  refine ⟨by simp [h.1], fun i b z e1 e2 => ?_⟩
  by_cases c : i < ys.length
  · rw [List.getElem?_append_left c] at e1
    rw [List.getElem?_append_left (by rw [← h.1]; exact c)] at e2
    exact h.2 i b z e1 e2
  · have hi := (List.getElem?_eq_some_iff.mp e1).1
    rw [List.length_append, List.length_singleton] at hi
    have : i = ys.length := by omega
    subst this
    rw [List.getElem?_append_right (Nat.le_refl _), Nat.sub_self] at e1
    rw [h.1, List.getElem?_append_right (Nat.le_refl _), Nat.sub_self] at e2
    cases e1; cases e2
    exact k
theorem AllR.map {α : Type} {g : α → V} : ∀ {ys : List V} {l : List α}, AllR (fun y x => y = g x) ys l → ys = l.map g
  | [], [], _ => rfl
  | [], x :: l, h => by cases h.1
  | y :: ys, [], h => by cases h.1
  | y :: ys, x :: l, h => by
    rw [List.map_cons, ← AllR.map (ys := ys) (l := l) ⟨Nat.succ.inj h.1, fun i a b e1 e2 => h.2 (i + 1) a b e1 e2⟩, ← h.2 0 y x rfl rfl]
theorem same_new {H : Hp} {D : Addr} {o : HO} (h : H D = none) : Same H (but [D] (upd H D o)) := by
  rw [but_upd (by simp)]
  exact but_out_of (Same.refl _) (fun b hb => by rw [List.mem_singleton.mp hb]; exact h)
/-- what a comprehension over the list at a asks -/
abbrev LcGo (K : PySem.W.Frag) (a : Addr) (g : TG) (tt : TT) (te : TE) (vs : List Nat) (σ : L2.St) (H1 : Hp) (D : Addr) (Qd : Hp → Prop) : Prop := ∃ W : Nat → Nat → Hp → Prop, (∃ m, W 0 m (upd H1 D (.lst []))) ∧ ∀ i m H, W i m H → ((Itl K a).stop i H ∧ Qd H) ∨ ((Itl K a).go i H ∧ ∃ Nx : Hp → Prop, (∀ H', Nx H' → ∃ m', m' < m ∧ W (i + 1) m' H') ∧ ∀ x H', (Itl K a).yld i H x H' → g x (wipe σ vs) H' fun σ2 H2 => wipe σ2 vs = wipe σ vs ∧ tt σ2 H2 fun b H3 => if b = true then te σ2 H3 fun y H4 => ∃ acc, H4 D = some (.lst acc) ∧ acc.length < sizeLine ∧ Nx (upd H4 D (.lst (acc ++ [y]))) else Nx H3)
/-- a comprehension over a list: some items, each made to something -/
theorem lc_pickR {α : Type} {K : PySem.W.Frag} {a : Addr} {L : List α} {f : α → V} (p : α → Bool) (R : Hp → V → α → Prop) (mono : ∀ H H' y x, Same H H' → R H y x → R H' y x) {g : TG} {tt : TT} {te : TE} {vs : List Nat} {σ : L2.St} {H1 : Hp} {D : Addr} {Qd : Hp → Prop}
    (hL : SqL K H1 a (L.map f)) (hD : H1 D = none) (hlen : L.length ≤ 1000)
    (turn : ∀ (i : Nat) (x : α) (H' : Hp), L[i]? = some x → Same H1 (but [D] H') → (∃ ys, H' D = some (.lst ys)) → ∀ (N : V → Hp → Prop) (Z : Hp → Prop), (p x = true → ∀ y H4, Same H' H4 → R (but [D] H4) y x → N y H4) → (p x = false → ∀ H3, Same H' H3 → Z H3) →
      g (f x) (wipe σ vs) H' fun σ2 H2 => wipe σ2 vs = wipe σ vs ∧ tt σ2 H2 fun b H3 => if b = true then te σ2 H3 N else Z H3)
    (done : ∀ H' ys, Same H1 (but [D] H') → H' D = some (.lst ys) → AllR (R (but [D] H')) ys (L.filter p) → Qd H') :
    LcGo K a g tt te vs σ H1 D Qd := by
  refine lc_it (walk_list (K := K) (a := a) (xs := L.map f)) (fun i H' => Same H1 (but [D] H') ∧ ∃ ys, H' D = some (.lst ys) ∧ AllR (R (but [D] H')) ys ((L.take i).filter p))
    ⟨same_new hD, [], upd_same, AllR.nil⟩ (fun i H' _ h => ?_) ?_ ?_
  · have s := h.1.trans but_le
    rcases hL with (q | ⟨o, q⟩) | q
    · exact .inl (.inl (s _ _ q))
    · exact .inl (.inr ⟨o, s _ _ q⟩)
    · exact .inr q
  · rintro i v H2 H3 hi ⟨s2, ys, e2, r2⟩ ⟨rfl, hx0⟩
    rw [List.getElem?_map] at hx0
    obtain ⟨x, hx, rfl⟩ := Option.map_eq_some_iff.mp hx0
    have hyl : ys.length ≤ 1000 := by
      rw [r2.1]
      refine Nat.le_trans (List.length_filter_le _ _) ?_
      rw [List.length_take]
      omega
    refine turn i x H3 hx s2 ⟨ys, e2⟩ _ _ (fun c y H4 s4 ry => ?_) (fun c H4 s4 => ?_)
    · refine ⟨ys, s4 _ _ e2, bigLt (by omega), ?_, ys ++ [y], upd_same, ?_⟩
      · rw [but_upd (by simp)]
        exact s2.trans (but_same s4)
      · rw [but_upd (by simp), take_one hx, List.filter_append, one_yes c]
        exact (r2.imp fun y x => mono _ _ y x (but_same s4)).snoc ry
    · refine ⟨s2.trans (but_same s4), ys, s4 _ _ e2, ?_⟩
      rw [take_one hx, List.filter_append, one_no c, List.append_nil]
      exact r2.imp fun y x => mono _ _ y x (but_same s4)
  · rintro H2 ⟨s2, ys, e2, r2⟩
    rw [List.length_map, List.take_length] at r2
    exact done H2 ys s2 e2 r2
theorem lc_pick {α : Type} {K : PySem.W.Frag} {a : Addr} {L : List α} {f : α → V} (p : α → Bool) (gv : α → V) {g : TG} {tt : TT} {te : TE} {vs : List Nat} {σ : L2.St} {H1 : Hp} {D : Addr} {Qd : Hp → Prop}
    (hL : SqL K H1 a (L.map f)) (hD : H1 D = none) (hlen : L.length ≤ 1000)
    (turn : ∀ (i : Nat) (x : α) (H' : Hp), L[i]? = some x → Same H1 (but [D] H') → (∃ ys, H' D = some (.lst ys)) → ∀ (N : V → Hp → Prop) (Z : Hp → Prop), (p x = true → ∀ H4, Same H' H4 → N (gv x) H4) → (p x = false → ∀ H3, Same H' H3 → Z H3) →
      g (f x) (wipe σ vs) H' fun σ2 H2 => wipe σ2 vs = wipe σ vs ∧ tt σ2 H2 fun b H3 => if b = true then te σ2 H3 N else Z H3)
    (done : ∀ H', Same H1 (but [D] H') → H' D = some (.lst ((L.filter p).map gv)) → Qd H') :
    LcGo K a g tt te vs σ H1 D Qd := by
  refine lc_pickR p (fun _ y x => y = gv x) (fun _ _ _ _ _ h => h) hL hD hlen (fun i x H' hx s e N Z kN kZ => turn i x H' hx s e N Z (fun c H4 s4 => kN c _ H4 s4 rfl) kZ) (fun H' ys s e r => done H' s ?_)
  rw [e, r.map]
end Kq
namespace Kq
open PySem PySem.Spec PyProof.Rows L2
open Hx01 (Link)
/-! a link among links -/
def lkD (x : Link) : PyData := .tuple [.int (x.src : Nat), .int (x.slot : Nat), .int (x.to : Nat)]
theorem lkD_eqv (x y : Link) : PyData.eqv (lkD x) (lkD y) = decide (x = y) := by
  obtain ⟨a, b, c⟩ := x
  obtain ⟨a', b', c'⟩ := y
  have e : PyData.eqv (lkD ⟨a, b, c⟩) (lkD ⟨a', b', c'⟩) = (((a : Int) == (a' : Int)) && (((b : Int) == (b' : Int)) && (((c : Int) == (c' : Int)) && true))) := by simp only [lkD, PyData.eqv, PyData.eqvAll]
  rw [e, Bool.eq_iff_iff]
  simp only [Bool.and_eq_true, beq_iff_eq, decide_eq_true_eq, Link.mk.injEq, and_true]
  omega
theorem lkD_lay (x : Link) : (lkD x).canLay0 = true := by simp [lkD, PyData.canLay0, PyData.canLayAll0]
theorem lkD_depth (x : Link) : (lkD x).depth = 1 := by simp [lkD, PyData.depth, PyData.depthAll]
theorem lkDs_lay : ∀ l : List Link, PyData.canLayAll0 (l.map lkD) = true
  | [] => by simp [PyData.canLayAll0]
  | x :: l => by simp [PyData.canLayAll0, lkD_lay x, lkDs_lay l]
theorem lkDs_depth : ∀ l : List Link, PyData.depthAll (l.map lkD) ≤ 2
  | [] => by simp [PyData.depthAll]
  | x :: l => by
    have h1 := lkDs_depth l
    have h2 := lkD_depth x
    simp only [List.map_cons, PyData.depthAll]
    omega
theorem lkD_shaped (x : Link) : SeqAt.shaped (lkD x) = true := by
  have h := lkD_depth x
  unfold SeqAt.shaped
  rw [Bool.and_eq_true]
  exact ⟨lkD_lay x, decide_eq_true (by omega)⟩
theorem lkDs_shaped (l : List Link) : SeqAt.shaped (.list (l.map lkD)) = true := by
  have h1 := lkDs_depth l
  have h2 : PyData.depth (.list (l.map lkD)) ≤ 64 := by
    simp only [PyData.depth]
    omega
  unfold SeqAt.shaped
  rw [Bool.and_eq_true]
  exact ⟨by simp only [PyData.canLay0]; exact lkDs_lay l, decide_eq_true h2⟩
theorem LkAt.dp {K : PySem.W.Frag} {H : Hp} {a : Addr} {x : Link} (h : LkAt H a x) : Dp K H (.ref a) (lkD x) := .tup (SqT.of h) (.cons (.int _) (.cons (.int _) (.cons (.int _) .nil)))
theorem LksAt.dps {K : PySem.W.Frag} {H : Hp} : ∀ {as : List Addr} {l : List Link}, LksAt H as l → DpAll K H (as.map V.ref) (l.map lkD)
  | [], [], _ => .nil
  | [], x :: l, h => by cases h.1
  | a :: as, [], h => by cases h.1
  | a :: as, x :: l, h => .cons (h.2 0 a x rfl rfl).dp (LksAt.dps (as := as) (l := l) ⟨Nat.succ.inj h.1, fun i b y e1 e2 => h.2 (i + 1) b y e1 e2⟩)
theorem lk_any (l : List Link) (x : Link) : ((l.map lkD).any fun z => PyData.eqv z (lkD x)) = l.contains x := by
  rw [List.any_map, Bool.eq_iff_iff, List.any_eq_true, List.contains_iff_mem]
  constructor
  · rintro ⟨y, hy, e⟩
    have e : PyData.eqv (lkD y) (lkD x) = true := e
    rw [lkD_eqv] at e
    rw [← of_decide_eq_true e]; exact hy
  · intro h
    exact ⟨x, h, by show PyData.eqv (lkD x) (lkD x) = true; rw [lkD_eqv]; simp⟩
/-- what not in asks, of a link and of links -/
theorem not_in_cut {K : PySem.W.Frag} {H : Hp} {a lc : Addr} {x : Link} {c : List Link} {Q : VK} (h1 : LkAt H a x) (h2 : WyAt H lc c) (q : Q (.bl (!c.contains x)) H) : rNotInD K (.ref a) (.ref lc) H Q := by
  obtain ⟨as, e1, e2⟩ := h2
  refine ⟨lkD x, c.map lkD, h1.dp, .lst (SqL.of e1) e2.dps, lkD_shaped x, lkDs_shaped c, ?_⟩
  rw [lk_any]
  exact q
theorem LksAt.app {H : Hp} {as bs : List Addr} {l m : List Link} (h : LksAt H as l) (k : LksAt H bs m) : LksAt H (as ++ bs) (l ++ m) := by
  refine ⟨by rw [List.length_append, List.length_append, h.1, k.1], fun i a x e1 e2 => ?_⟩
  by_cases c : i < as.length
  · rw [List.getElem?_append_left c] at e1
    rw [List.getElem?_append_left (by rw [← h.1]; exact c)] at e2
    exact h.2 i a x e1 e2
  · rw [List.getElem?_append_right (by omega)] at e1
    rw [List.getElem?_append_right (by rw [← h.1]; omega), ← h.1] at e2
    exact k.2 _ a x e1 e2
theorem tl_snoc (t : Hx01.Thing) : ∀ (l : List Hx01.Thing) (k : Nat), Kp.tl k (l ++ [t]) = Kp.tl k l ++ Kp.lf (k + l.length + 1) 0 t.fields
  | [], k => by
    show Kp.lf (k + 1) 0 t.fields ++ [] = [] ++ Kp.lf (k + 0 + 1) 0 t.fields
    rw [List.append_nil]
    rfl
  | a :: l, k => by
    show Kp.lf (k + 1) 0 a.fields ++ Kp.tl (k + 1) (l ++ [t]) = Kp.lf (k + 1) 0 a.fields ++ Kp.tl (k + 1) l ++ _
    rw [tl_snoc t l (k + 1), List.append_assoc, List.length_cons]
    congr 3
    omega
section
variable {P : Program} {w : World} {K : PySem.W.Frag} {mg : Str → Option Value} {base : Heap} {A : CA}
def spAll (A : CA) : Sp := fun vs H Q _ => ∃ (sa : Addr) (p : Hx01.Program) (h : Hx01.Heap), vs = [.ref sa] ∧ Sn A H p sa h ∧ ∀ (H' : Hp) (D : Addr) (as : List Addr), Same H H' → H D = none → H' D = some (.lst (as.map V.ref)) → LksAt H' as (Hx01.links h) → as.length ≤ 40 → Q (.ref D) H'
abbrev nAll : List Str := ["heap", "links", "number", "thing"]
theorem scAll : FnScope nAll ["heap"] (defScope sAll) := ⟨rfl, rfl, rfl, by decide +kernel, rfl, by decide +kernel, by decide +kernel⟩
theorem c_all (T : TxtH A w K mg) : Cb P w K mg base 2 "all_links" ["heap"] (spAll A) := by
  refine T.dAll.cb scAll (fun vs H Q E h => ?_) (fun fa cdv Ar outer s H vs Q E hr h => ?_)
  · obtain ⟨sa, p, h, rfl, _⟩ := h
    rfl
  obtain ⟨sa, p, h, rfl, N, k⟩ := h
  refine ⟨_, pss_cons (ps_set (i := 1) scAll.nd rfl (Or.inl rfl) (pe_cb (c_links T) hr rfl (pa_cons pe_int (pa_cons (pe_fld (pv 0) rfl) pa_nil))))
    (pss_cons (ps_for PassesOwn.never rfl (pi_enum (by rfl) T.enumerate_ (pa_cons (pe_fld (pv 0) rfl) pa_nil)) (pg_tup rfl (pgs_cons (pg_name (i := 2) scAll.nd rfl (.inl rfl)) (pgs_cons (pg_name (i := 3) scAll.nd rfl (.inl rfl)) pgs_nil)))
      (pss_one (ps_expr (pe_bm PySem.F.plainAttrs_list PySem.F.slot_list_extend PySem.F.type_list_extend mt_extend (pv 1) (pa_cons (pe_cb (c_links T) hr rfl (pa_cons (pe_op op_add (pv 2) pe_int) (pa_cons (pe_fld (pv 3) rfl) pa_nil))) pa_nil)))))
    (pss_one (ps_ret (pv 1)))), ?_⟩
  have hm := N.ok.many
  have hv := N.vars
  obtain ⟨dh, lt, lv, ts, fs, h1, h2, h3, t1, t2, t3⟩ := N.at_
  have cl := T.cHeap.cl
  have ct := T.cThing.cl
  refine ⟨_, rfl, sa, A.heap, dh, _, _, rfl, h1, cl, T.cHeap.na _ (by decide +kernel), hpF_vars _ _, 0, lv, h.vars, rfl, h3, by omega, fun H1 D as0 s1 hD hD1 hL0 => ?_⟩
  have go : ∀ {H'}, Same H (but [D] H') → Same H H' := fun s => s.trans but_le
  have sD : Same H (but [D] H1) := but_out_of s1 (fun b hb => by rw [List.mem_singleton.mp hb]; exact hD)
  refine ⟨_, rfl, sa, A.heap, dh, _, _, rfl, s1 _ _ h1, cl, T.cHeap.na _ (by decide +kernel), hpF_things _ _, lt, _, rfl, SqL.of (s1 _ _ h2), ?_⟩
  have l0 : as0.length ≤ 6 := by
    rw [hL0.1]
    exact Nat.le_trans (Kp.lf_len _ _ _) hv
  refine for_it (walk_enum (K := K) (a := lt) (xs := ts.map V.ref)) (fun i σ H' => ∃ v2 v3, σ = [some (.ref sa), some (.ref D), v2, v3] ∧ Same H (but [D] H') ∧
      ∃ as : List Addr, H' D = some (.lst (as.map V.ref)) ∧ LksAt (but [D] H') as (Kp.lf 0 0 h.vars ++ Kp.tl 0 (h.things.take i)) ∧ as.length ≤ 6 + 2 * i)
    ⟨none, none, rfl, sD, as0, hD1, ?_, l0⟩ (fun i σ H' _ ⟨_, _, _, s, _⟩ => SqL.of (go s _ _ h2)) ?_ ?_
  · show LksAt _ as0 (Kp.lf 0 0 h.vars ++ [])
    rw [List.append_nil]
    refine hL0.out fun b hb xs => ?_
    rw [List.mem_singleton.mp hb, hD1]
    intro z
    cases z
  · rintro i x σ H2 H3 hi ⟨v2, v3, rfl, s2, as, ha2, hL2, hlen⟩ ⟨t, u, v, rfl, ht, rfl, hu, hv⟩
    cases hu
    rw [List.length_map] at hi
    have hv : (ts.map V.ref)[i]? = some v := hv
    rw [List.getElem?_map, List.getElem?_eq_getElem hi] at hv
    cases hv
    have hit : i < h.things.length := by omega
    obtain ⟨tt, htt⟩ := get_some (l := h.things) hit
    obtain ⟨tf, htf⟩ := get_some (l := fs) (i := i) (by omega)
    obtain ⟨⟨dt, e1⟩, e2⟩ := t3 i ts[i] tf tt (List.getElem?_eq_getElem hi) htf htt
    obtain ⟨cc, ec1, ec2, _⟩ := N.ok.cls tt (List.mem_of_getElem? htt)
    have hfl : tt.fields.length ≤ 2 := by rw [ec2]; exact N.fld cc (List.mem_of_getElem? ec1)
    have st : Same H2 (upd H2 t (.tup [V.int (i : Nat), V.ref ts[i]])) := same_upd (Same.refl _) ht
    have s3 : Same H (but [D] (upd H2 t (.tup [V.int (i : Nat), V.ref ts[i]]))) := s2.trans (but_same st)
    have g3 := go s3
    have ha3 := st _ _ ha2
    refine ⟨t, _, rfl, SqT.of upd_same, rfl, _, _, rfl, _, _, rfl, rfl, _, rfl, .inl ⟨rfl, _, SqL.of ha3⟩, _, rfl, _, _, rfl, rfl, _, rfl, ts[i], A.thing, dt, _, _, rfl, g3 _ _ e1, ct, T.cThing.na _ (by decide +kernel), thF_fields _ _ _ _,
      i + 1, tf, tt.fields, rfl, g3 _ _ e2, by omega, fun H4 D4 bs s4 hD4 hD4' hL4 => ?_⟩
    have ha4 := s4 _ _ ha3
    have lb : bs.length ≤ 2 := by
      rw [hL4.1]
      exact Nat.le_trans (Kp.lf_len _ _ _) hfl
    refine ⟨D, D4, _, _, rfl, rfl, ha4, hD4', big (by rw [List.length_map, List.length_map]; omega), ?_⟩
    have sb : Same (but [D] H2) (but [D] H4) := but_same (st.trans s4)
    refine ⟨_, _, rfl, ?_, as ++ bs, by rw [upd_same, List.map_append], ?_, by rw [List.length_append]; omega⟩
    · rw [but_upd (by simp)]
      exact s2.trans sb
    · rw [but_upd (by simp), take_one htt, tl_snoc, ← List.append_assoc]
      have el : 0 + (h.things.take i).length + 1 = i + 1 := by rw [List.length_take]; omega
      rw [el]
      refine (hL2.go sb).app (hL4.out fun b hb xs => ?_)
      rw [List.mem_singleton.mp hb, ha4]
      intro z
      cases z
  · rintro σ H2 ⟨v2, v3, rfl, s2, as, ha2, hL2, hlen⟩
    rw [List.length_map, t1, List.take_length, ← Kp.links_is] at hL2
    exact ⟨_, rfl, k H2 D as (go s2) hD ha2 (hL2.go but_le) (by rw [List.length_map] at hlen; omega)⟩
end
end Kq
namespace Kq
open PySem PySem.Spec PyProof.Rows L2
open Hx01 (Link)
/-! lists made of links -/
theorem zip_fst {as : List Addr} {l : List Link} (h : as.length = l.length) : (as.zip l).map (fun y => V.ref y.1) = as.map V.ref := by
  have e : (as.zip l).map Prod.fst = as := List.map_fst_zip (by omega)
  conv => rhs; rw [← e]
  rw [List.map_map]
  rfl
theorem zip_snd {β : Type} {as : List Addr} {l : List Link} (h : as.length = l.length) (P : Link → Bool) (F : Link → β) : ((as.zip l).filter fun y => P y.2).map (fun y => F y.2) = (l.filter P).map F := by
  have e : (as.zip l).map Prod.snd = l := List.map_snd_zip (by omega)
  conv => rhs; rw [← e]
  rw [List.filter_map, List.map_map]
  rfl
theorem LksAt.zip {H : Hp} {as : List Addr} {l : List Link} (h : LksAt H as l) {i : Nat} {y : Addr × Link} (e : (as.zip l)[i]? = some y) : LkAt H y.1 y.2 := by
  rw [List.getElem?_zip_eq_some] at e
  exact h.2 i _ _ e.1 e.2
def isWay {α : Type} (g : α → List Link) (H : Hp) (v : V) (y : α) : Prop := ∃ q, v = .ref q ∧ WyAt H q (g y)
theorem AllR.ways {α : Type} {H : Hp} {g : α → List Link} (t : α → Nat) : ∀ {ys : List V} {L : List α}, AllR (isWay g H) ys L → ∃ qs : List Addr, ys = qs.map V.ref ∧ WysAt H qs (L.map fun y => (t y, g y))
  | [], [], _ => ⟨[], rfl, WysAt.nil⟩
  | [], x :: L, h => by cases h.1
  | y :: ys, [], h => by cases h.1
  | y :: ys, x :: L, h => by
    obtain ⟨qs, e, w⟩ := AllR.ways t (ys := ys) (L := L) ⟨Nat.succ.inj h.1, fun i a b e1 e2 => h.2 (i + 1) a b e1 e2⟩
    obtain ⟨q, rfl, wq⟩ := h.2 0 y x rfl rfl
    refine ⟨q :: qs, by rw [e]; rfl, ?_⟩
    exact (WysAt.one (t := t x) wq).app w
theorem isWay_mono {α : Type} (g : α → List Link) (H H' : Hp) (y : V) (x : α) (s : Same H H') (h : isWay g H y x) : isWay g H' y x := by
  obtain ⟨q, e, w⟩ := h
  exact ⟨q, e, w.go s⟩
/-- ways stand beside dicts -/
theorem WyAt.out {H : Hp} {q d : Addr} {l : List Link} {kvs : List (Key × V)} (h : WyAt H q l) (hd : H d = some (.dK kvs)) : WyAt (but [d] H) q l := by
  obtain ⟨as, e1, e2⟩ := h
  refine ⟨as, (but_out (fun z => ?_)).trans e1, e2.out fun b hb xs z => ?_⟩
  · rw [List.mem_singleton.mp z, hd] at e1; cases e1
  · rw [List.mem_singleton.mp hb, hd] at z; cases z
theorem but_two {d e : Addr} {H : Hp} : but [d] (but [e] H) = but [d, e] H := by
  funext b
  by_cases c : b = d
  · rw [but_in (by simp [c]), but_in (by simp [c])]
  · rw [but_out (by simpa using c)]
    by_cases c2 : b = e
    · rw [but_in (by simp [c2]), but_in (by simp [c2])]
    · rw [but_out (by simpa using c2), but_out (by simp [c, c2])]
section
variable {P : Program} {w : World} {K : PySem.W.Frag} {mg : Str → Option Value} {base : Heap} {A : CA}
def spWays (A : CA) : Sp := fun vs H Q _ => ∃ (sa lc : Addr) (c : List Link) (p : Hx01.Program) (h : Hx01.Heap), vs = [.ref sa, .ref lc] ∧ Sn A H p sa h ∧ WyAt H lc c ∧
  ∀ (H' : Hp) (d : Addr) (acc : Kp.Ways) (qs : List Addr), Same H H' → H d = none → H' d = some (.dK (wyD acc qs)) → WysAt H' qs acc → Kp.Fnd h c acc → Q (.ref d) H'
abbrev nWays : List Str := ["heap", "cut", "ways", "waiting", "place", "way", "thing", "links", "link"]
theorem scWays : FnScope nWays ["heap", "cut"] (defScope sWays) := ⟨rfl, rfl, rfl, by decide +kernel, rfl, by decide +kernel, by decide +kernel⟩
theorem c_ways (T : TxtH A w K mg) : Cb P w K mg base 2 "shortest_ways" ["heap", "cut"] (spWays A) := by
  refine T.dWays.cb scWays (fun vs H Q E h => ?_) (fun fa cdv Ar outer s H vs Q E hr h => ?_)
  · obtain ⟨sa, lc, c, p, h, rfl, _⟩ := h
    rfl
  obtain ⟨sa, lc, c, p, h, rfl, N, hC, k⟩ := h
  have hu1 : (Ar.deeper (envOfC (Str.ofString "shortest_ways") (defScope sWays) s.heap.objs.size fa cdv)).units + 1 < cLine := by have := hr.un; omega
  have hu65 : (Ar.deeper (envOfC (Str.ofString "shortest_ways") (defScope sWays) s.heap.objs.size fa cdv)).units + 65 < cLine := by have := hr.un; omega
  refine ⟨_, pss_cons (ps_set (i := 2) scWays.nd rfl (Or.inl rfl) pe_dnewK)
    (pss_cons (ps_setLc (i := 3) (own := [("link", 8)]) (g := gName 8) (tt := tTest (tOp (rNotInD K) (tVar 8) (tVar 1))) (te := tLst (tCons (tVar 8) tNil)) rfl scWays.nd rfl rfl (sw_true rfl rfl rfl (by decide +kernel)) (pi_list (pe_cb (c_links T) hr rfl (pa_cons pe_int (pa_cons (pe_fld (pv 0) rfl) pa_nil))))
      (blkOk_by (own := [("link", 8)]) (N := nWays) (sc := defScope sWays) (by decide +kernel)) (fun _ _ _ _ _ => pg_name (i := 8) scWays.nd rfl (Or.inl rfl)) (fun _ _ _ _ _ => pts_one (pt_cmpR (op_notInD hu65) (pv 8) (pv 1) rfl)) (fun _ _ _ _ _ => pe_lst (pa_cons (pv 8) pa_nil)))
    (pss_cons (ps_set (i := 4) scWays.nd rfl (Or.inl rfl) pe_int)
    (pss_cons (ps_while PassesOwn.never (pt_cmpR op_lt (pv 4) (pe_callB call_len_seq (by rfl) T.len PySem.boot_len (pa_cons (pv 3) pa_nil)) (nomark _))
      (pss_cons (ps_set (i := 5) scWays.nd rfl (Or.inr rfl) (pe_ix ix_list (pv 3) (pv 4) (fun _ _ => rfl)))
      (pss_cons (ps_aug (i := 4) scWays.nd rfl (Or.inl rfl) pe_int in_add)
      (pss_cons (ps_set (i := 6) scWays.nd rfl (Or.inl rfl) (pe_ix ix_tup (pe_ix ix_list (pv 5) (pe_un un_neg pe_int) (fun _ _ => rfl)) pe_int (fun _ _ => rfl)))
      (pss_one (ps_if (pt_cmp (pc_dnotin hu1 (pv 6) (pv 2)))
        (pss_cons (ps_dput hu1 (pv 2) (pv 6) (pv 5) rfl)
        (pss_cons (ps_set (i := 7) scWays.nd rfl (Or.inl rfl) (pe_cb (c_links T) hr rfl (pa_cons (pe_op op_add (pv 6) pe_int) (pa_cons (pe_fld (pe_ix ix_list (pe_fld (pv 0) rfl) (pv 6) (fun _ _ => rfl)) rfl) pa_nil))))
        (pss_one (ps_expr (pe_bm PySem.F.plainAttrs_list PySem.F.slot_list_extend PySem.F.type_list_extend mt_extend (pv 3) (pa_cons
          (pe_lc (own := [("link", 8)]) (g := gName 8) (tt := tTest (tOp (rNotInD K) (tVar 8) (tVar 1))) (te := tOp rCat (tVar 5) (tLst (tCons (tVar 8) tNil))) rfl scWays.nd (pi_list (pv 7))
            (blkOk_by (own := [("link", 8)]) (N := nWays) (sc := defScope sWays) (by decide +kernel)) (fun _ _ _ _ _ => pg_name (i := 8) scWays.nd rfl (Or.inl rfl)) (fun _ _ _ _ _ => pts_one (pt_cmpR (op_notInD hu65) (pv 8) (pv 1) rfl)) (fun _ _ _ _ _ => pe_op op_cat (pv 5) (pe_lst (pa_cons (pv 8) pa_nil)))) pa_nil))))))
        pss_nil))))))
    (pss_one (ps_ret (pv 2)))))), ?_⟩
  have cl := T.cHeap.cl
  have ct := T.cThing.cl
  have hl0 := N.links
  have hl := Kp.cutL_ok hl0 c
  have hm := N.ok.many
  have hvl := N.vars
  obtain ⟨dh, lt, lv, ts, fs, h1, h2, h3, t1, t2, t3⟩ := N.at_
  intro d hd
  have sd : Same H (upd H d (.dK [])) := same_upd (Same.refl H) hd
  refine ⟨_, rfl, sa, A.heap, dh, _, _, rfl, sd _ _ h1, cl, T.cHeap.na _ (by decide +kernel), hpF_vars _ _, 0, lv, h.vars, rfl, sd _ _ h3, by omega, fun H1 l0 as0 s1 hl0' hl1 hL => ?_⟩
  refine ⟨l0, rfl, ⟨_, SqL.of hl1⟩, fun lw hlw => ?_⟩
  have hd1 : H1 d = some (.dK []) := s1 _ _ upd_same
  have ndw : d ≠ lw := ne_of_none hd1 hlw
  have lL : as0.length ≤ 6 := by
    rw [hL.1]
    exact Nat.le_trans (Kp.lf_len _ _ _) hvl
  refine lc_pickR (K := K) (a := l0) (L := as0.zip (Kp.lf 0 0 h.vars)) (f := fun y => V.ref y.1) (fun y => !c.contains y.2) (isWay fun y => [y.2]) (isWay_mono _) (by rw [zip_fst hL.1]; exact SqL.of hl1) hlw (by rw [List.length_zip]; omega) ?_ ?_
  · rintro i ⟨a, x⟩ H2 hx s2 ⟨ys, e2⟩ Ny Zn kN kZ
    have hk : LkAt H1 a x := hL.zip hx
    have hk2 := but_some (s2 _ _ hk)
    refine ⟨rfl, _, rfl, _, rfl, not_in_cut hk2.2 ((hC.go (sd.trans s1)).go (s2.trans but_le)) ⟨_, rfl, ?_⟩⟩
    cases cc : c.contains x with
    | true => exact ifF rfl (kZ (by show (!c.contains x) = false; rw [cc]; rfl) _ (Same.refl _))
    | false =>
      refine ifT rfl ⟨_, rfl, big (show 1 ≤ 100000 by decide), fun q hq => ?_⟩
      have sq : Same H2 (upd H2 q (.lst [V.ref a])) := same_upd (Same.refl _) hq
      refine kN (by show (!c.contains x) = true; rw [cc]; rfl) _ _ sq ⟨q, rfl, [a], ?_, LksAt.one ((but_out hk2.1).trans (sq _ _ hk2.2))⟩
      rw [but_out (by simpa using (ne_of_none e2 hq).symm), upd_same]
      rfl
  · intro H2 ys s2 e2 r2
    obtain ⟨qs, rfl, hW2⟩ := r2.ways (fun y => y.2.to)
    rw [zip_snd hL.1 (fun x => !c.contains x) (fun x => (x.to, [x])), ← Kp.begins_cut] at hW2
    have sH : Same H (but [d, lw] H2) := fun b u e => by
      obtain ⟨n1, e1⟩ := but_some (s2 _ _ (s1 _ _ (sd _ _ e)))
      have n2 : b ≠ d := ne_of_none e hd
      rw [but_out (by simp [n2]; simpa using n1)]
      exact e1
    have hd2b : but [lw] H2 d = some (.dK []) := s2 _ _ hd1
    have hd2 : H2 d = some (.dK []) := but_le _ _ hd2b
    have hW2 : WysAt (but [d, lw] H2) qs (Kp.begins (Kp.cutL h c)) := by
      rw [← but_two]
      exact ⟨hW2.1, fun i a x e1 e2 => (hW2.2 i a x e1 e2).out hd2b⟩
    have hw2 := e2
    refine ⟨fun m σ H' => ∃ (v5 v6 v7 v8 : Option V) (acc seen q : Kp.Ways) (kas qs : List Addr), σ = [some (.ref sa), some (.ref lc), some (.ref d), some (.ref lw), some (.int (seen.length : Nat)), v5, v6, v7, v8] ∧ Kp.Srch h.things.length (Kp.cutL h c) m acc seen q ∧ Same H (but [d, lw] H') ∧
        H' d = some (.dK (wyD acc kas)) ∧ H' lw = some (.lst (qs.map V.ref)) ∧ WysAt (but [d, lw] H') qs (seen ++ q) ∧ WysAt (but [d, lw] H') kas acc,
      ⟨_, none, none, none, none, [], [], Kp.begins (Kp.cutL h c), [], qs, rfl, Kp.Srch.start hl, sH, hd2, hw2, hW2, WysAt.nil⟩, ?_⟩
    clear hW2 sH hd2 hw2 e2 hd2b
    rintro m σ H' ⟨v5, v6, v7, v8, acc, seen, q, kas, qs, rfl, S, sH, hd', hw', hW, hA⟩
    have hql := hW.1
    refine ⟨_, rfl, _, rfl, lw, _, rfl, .inl (SqL.of hw'), _, _, rfl, rfl, _, rfl, ?_⟩
    rw [List.length_map, hql, List.length_append]
    cases q with
    | nil =>
      rw [decide_eq_false (by simp)]
      refine ifF rfl ?_
      exact ⟨_, rfl, k H' d acc kas (sH.trans but_le) hd hd' (hA.go but_le) (S.fnd hl0)⟩
    | cons wy q =>
      rw [decide_eq_true (by simp; omega)]
      refine ifT rfl ?_
      refine ⟨fun σ' H2 => ∃ m', m' < m ∧ ∃ (v5 v6 v7 v8 : Option V) (acc seen q : Kp.Ways) (kas qs : List Addr), σ' = [some (.ref sa), some (.ref lc), some (.ref d), some (.ref lw), some (.int (seen.length : Nat)), v5, v6, v7, v8] ∧ Kp.Srch h.things.length (Kp.cutL h c) m' acc seen q ∧ Same H (but [d, lw] H2) ∧
        H2 d = some (.dK (wyD acc kas)) ∧ H2 lw = some (.lst (qs.map V.ref)) ∧ WysAt (but [d, lw] H2) qs (seen ++ q) ∧ WysAt (but [d, lw] H2) kas acc, fun σ' H2 h => h, ?_⟩
      obtain ⟨y, hy⟩ := get_some (l := qs) (i := seen.length) (by rw [hql, List.length_append, List.length_cons]; omega)
      have hwy : (seen ++ wy :: q)[seen.length]? = some wy := by
        rw [List.getElem?_append_right (Nat.le_refl _), Nat.sub_self]
        rfl
      have hY := hW.2 _ y wy hy hwy
      have hY0 := hY
      obtain ⟨ya, hb1, hb2⟩ := hY
      have hy1 := but_le _ _ hb1
      have hy2 := hb2.go but_le
      have hm' : wy ∈ seen ++ wy :: q := by simp
      obtain ⟨wl, wx, ew, et⟩ := (S.way wy hm').last
      obtain ⟨ya', a, rfl⟩ : ∃ ya' a, ya = ya' ++ [a] := by
        have l1 := hy2.1
        rw [ew, List.length_append, List.length_singleton] at l1
        have hne : ya ≠ [] := fun z => by rw [z] at l1; cases l1
        exact ⟨ya.dropLast, ya.getLast hne, (List.dropLast_concat_getLast hne).symm⟩
      have l1 : ya'.length = wl.length := by
        have := hy2.1
        rw [ew] at this
        simpa using this
      have ha : LkAt H' a wx := hy2.2 ya'.length a wx (by rw [List.getElem?_append_right (Nat.le_refl _), Nat.sub_self]; rfl) (by rw [ew, l1, List.getElem?_append_right (Nat.le_refl _), Nat.sub_self]; rfl)
      unfold LkAt at ha
      have hwt : wy.1 < h.things.length := S.qi.lt wy (by simp)
      refine ⟨_, rfl, _, rfl, lw, _, _, _, rfl, rfl, SqL.of hw', atI_nat (j := seen.length) (by rw [List.getElem?_map, hy]; rfl), ?_⟩
      refine ⟨_, rfl, _, _, rfl, rfl, ?_⟩
      refine ⟨_, rfl, _, rfl, y, _, _, _, rfl, rfl, SqL.of hy1, by rw [List.map_append]; exact atI_last _ _, a, _, _, _, rfl, rfl, SqT.of ha, atI_nat (j := 2) rfl, ?_⟩
      rw [et]
      have hpl : ((seen.length : Nat) : Int) + 1 = (((seen ++ [wy]).length : Nat) : Int) := by rw [List.length_append, List.length_singleton]; omega
      have same_q : seen ++ [wy] ++ q = seen ++ wy :: q := by simp
      refine ⟨_, rfl, _, rfl, d, _, rfl, DGet.k (k := Sum.inl (wy.1 : Int)) hd', _, rfl, ?_⟩
      rw [wyD_val _ hA.1]
      cases hh : Kp.has acc wy.1 with
      | true =>
        refine ifF rfl ?_
        obtain ⟨f, rfl, S2⟩ := S.skip hh
        exact ⟨f, Nat.lt_succ_self _, _, _, _, _, acc, seen ++ [wy], q, kas, qs, by rw [← hpl]; rfl, S2, sH, hd', hw', by rw [same_q]; exact hW, hA⟩
      | false =>
        refine ifT rfl ?_
        obtain ⟨f, rfl, S2⟩ := S.take hl hh
        have hac := S2.qi.good.len
        rw [List.length_append, List.length_singleton] at hac
        have hkl : (wyD acc kas).length < 100 := by
          unfold wyD
          rw [List.length_map, List.length_zip, hA.1]
          omega
        refine ⟨_, rfl, _, rfl, _, rfl, d, _, rfl, DPut.k (k := Sum.inl (wy.1 : Int)) hd' (bigLt (by omega)), ?_⟩
        rw [wyD_put hA.1 hh]
        obtain ⟨tt, htt⟩ := get_some (l := h.things) hwt
        obtain ⟨to, hto⟩ := get_some (l := ts) (i := wy.1) (by omega)
        obtain ⟨tf, htf⟩ := get_some (l := fs) (i := wy.1) (by omega)
        obtain ⟨⟨dt, e1⟩, e2⟩ := t3 _ to tf tt hto htf htt
        have s4 : Same (but [d, lw] H') (but [d, lw] (upd H' d (.dK (wyD (acc ++ [wy]) (kas ++ [y]))))) := by rw [but_upd (by simp)]; exact Same.refl _
        have sH4 : Same H (upd H' d (.dK (wyD (acc ++ [wy]) (kas ++ [y])))) := (sH.trans s4).trans but_le
        have hw4 : upd H' d (.dK (wyD (acc ++ [wy]) (kas ++ [y]))) lw = some (.lst (qs.map V.ref)) := (upd_ne ndw.symm).trans hw'
        obtain ⟨cc, ec1, ec2, _⟩ := N.ok.cls tt (List.mem_of_getElem? htt)
        have hfl : tt.fields.length ≤ 2 := by rw [ec2]; exact N.fld cc (List.mem_of_getElem? ec1)
        refine ⟨_, rfl, _, _, rfl, rfl, _, rfl, sa, A.heap, dh, _, _, rfl, sH4 _ _ h1, cl, T.cHeap.na _ (by decide +kernel), hpF_things _ _, _, rfl, lt, _, _, _, rfl, rfl, SqL.of (sH4 _ _ h2), atI_nat (j := wy.1) (by rw [List.getElem?_map, hto]; rfl),
          to, A.thing, dt, _, _, rfl, sH4 _ _ e1, ct, T.cThing.na _ (by decide +kernel), thF_fields _ _ _ _, wy.1 + 1, tf, tt.fields, rfl, sH4 _ _ e2, by omega, fun H5 l5 as5 s5 hl5 hl5' hL5 => ?_⟩
        have hd5 : H5 d = some (.dK (wyD (acc ++ [wy]) (kas ++ [y]))) := s5 _ _ upd_same
        have hw5 := s5 _ _ hw4
        refine ⟨_, rfl, .inl ⟨rfl, _, SqL.of hw5⟩, _, rfl, l5, rfl, ⟨_, SqL.of hl5'⟩, fun D hD => ?_⟩
        have nDd : D ≠ d := (ne_of_none hd5 hD).symm
        have nDw : D ≠ lw := (ne_of_none hw5 hD).symm
        have s45 : Same (but [d, lw] H') (but [d, lw] H5) := s4.trans (but_same s5)
        have hext : Kp.ext (Kp.cutL h c) wy = ((Kp.lf (wy.1 + 1) 0 tt.fields).filter fun x => !c.contains x).map fun x => (x.to, wy.2 ++ [x]) := by rw [Kp.ext_cut, htt]; rfl
        have lL5 : as5.length ≤ 2 := by
          rw [hL5.1]
          exact Nat.le_trans (Kp.lf_len _ _ _) hfl
        -- what the comprehension has made leaves the rest as it was
        have up : ∀ {H6 : Hp}, Same H5 (but [D] H6) → Same (but [d, lw] H') (but [D, d, lw] H6) := fun {H6} s6 b u e => by
          obtain ⟨n1, e1⟩ := but_some (s45 _ _ e)
          obtain ⟨n2, e2⟩ := but_some (s6 _ _ e1)
          rw [but_out (by simp at n1 n2 ⊢; exact ⟨n2, n1⟩)]
          exact e2
        refine lc_pickR (K := K) (a := l5) (L := as5.zip (Kp.lf (wy.1 + 1) 0 tt.fields)) (f := fun y => V.ref y.1) (fun y => !c.contains y.2) (fun H v y => isWay (fun y => wy.2 ++ [y.2]) (but [d, lw] H) v y) (fun H H' y x sm => isWay_mono _ _ _ y x (but_same sm)) (by rw [zip_fst hL5.1]; exact SqL.of hl5') hD (by rw [List.length_zip]; omega) ?_ ?_
        · rintro i ⟨b, x⟩ H6 hx s6 ⟨zs, e6⟩ Ny Zn kN kZ
          have hk : LkAt H5 b x := hL5.zip hx
          have hk6 := but_some (s6 _ _ hk)
          have hC6 : WyAt H6 lc c := hC.go ((sH4.trans s5).trans (s6.trans but_le))
          refine ⟨rfl, _, rfl, _, rfl, not_in_cut hk6.2 hC6 ⟨_, rfl, ?_⟩⟩
          cases cc : c.contains x with
          | true => exact ifF rfl (kZ (by show (!c.contains x) = false; rw [cc]; rfl) _ (Same.refl _))
          | false =>
            have hyl : (ya' ++ [a]).length ≤ 100 := by
              rw [hy2.1]
              have := S.len wy hm'
              omega
            have hu := up s6
            have hd6 := (but_some (s6 _ _ hd5)).2
            have hw6 := (but_some (s6 _ _ hw5)).2
            have hy6 : H6 y = some (.lst ((ya' ++ [a]).map V.ref)) := but_le _ _ (hu _ _ hb1)
            refine ifT rfl ?_
            refine ⟨_, rfl, _, rfl, big (show 1 ≤ 100000 by decide), fun e he => ?_⟩
            have se : Same H6 (upd H6 e (.lst [V.ref b])) := same_upd (Same.refl _) he
            refine ⟨y, e, _, _, rfl, rfl, se _ _ hy6, upd_same, big (by rw [List.length_map]; show _ + 1 ≤ 100000; omega), fun z hz => ?_⟩
            have sz : Same (upd H6 e (.lst [V.ref b])) (upd (upd H6 e (.lst [V.ref b])) z (.lst ((ya' ++ [a]).map V.ref ++ [V.ref b]))) := same_upd (Same.refl _) hz
            have s7 := se.trans sz
            refine kN (by show (!c.contains x) = true; rw [cc]; rfl) _ _ s7 ⟨z, rfl, ya' ++ [a] ++ [b], ?_, ?_⟩
            · have z6 : H6 z = none := se.free hz
              have n1 : z ≠ d := (ne_of_none hd6 z6).symm
              have n2 : z ≠ lw := (ne_of_none hw6 z6).symm
              rw [but_out (by simp [n1, n2]), but_out (by simpa using (ne_of_none (se _ _ e6) hz).symm), upd_same, List.map_append (l₁ := ya' ++ [a])]
              rfl
            · have hu3 : Same (but [d, lw] H') (but [d, lw] (but [D] H6)) := fun b' u e => by
                obtain ⟨n1, e1⟩ := but_some (hu _ _ e)
                simp only [List.mem_cons, not_or, List.not_mem_nil] at n1
                rw [but_out (by simp [n1.2.1, n1.2.2.1]), but_out (by simp [n1.1])]
                exact e1
              refine LksAt.snoc ((hb2.go hu3).go (but_same (but_same s7))) ?_
              have nb1 : b ∉ [d, lw] := fun q => by
                have := hk6.2
                unfold LkAt at this
                rcases List.mem_cons.mp q with q | q
                · rw [q, hd6] at this; cases this
                · rw [List.mem_singleton.mp q, hw6] at this; cases this
              exact (but_out nb1).trans ((but_out hk6.1).trans (s7 _ _ hk6.2))
        · intro H6 ys s6 e6 r6
          obtain ⟨zs, rfl, hZ6⟩ := r6.ways (fun y => y.2.to)
          rw [zip_snd hL5.1 (fun x => !c.contains x) (fun x => (x.to, wy.2 ++ [x])), ← hext] at hZ6
          have hd6 := (but_some (s6 _ _ hd5)).2
          have hw6 := (but_some (s6 _ _ hw5)).2
          have hu := up s6
          have hu2 : Same (but [d, lw] H') (but [d, lw] H6) := hu.trans (but_less (by simp))
          have hmn := S2.many
          have hbl := Kp.begins_len h c
          have hq2 : qs.length ≤ 100 := by
            rw [hql]
            have := S.many
            omega
          have hz2 : zs.length ≤ 2 := by
            rw [hZ6.1]
            exact Kp.ext_two hl wy
          refine ⟨lw, D, _, _, rfl, rfl, hw6, e6, big (by rw [List.length_map, List.length_map]; omega), ?_⟩
          refine ⟨f, Nat.lt_succ_self _, _, _, _, _, acc ++ [wy], seen ++ [wy], q ++ Kp.ext (Kp.cutL h c) wy, kas ++ [y], qs ++ zs, by rw [← hpl]; rfl, S2, ?_, (upd_ne ndw).trans hd6, by rw [upd_same, List.map_append], ?_, ?_⟩
          · rw [but_upd (by simp)]
            exact sH.trans hu2
          · rw [but_upd (by simp)]
            have e : seen ++ [wy] ++ (q ++ Kp.ext (Kp.cutL h c) wy) = (seen ++ wy :: q) ++ Kp.ext (Kp.cutL h c) wy := by simp
            rw [e]
            exact (hW.go hu2).app (hZ6.go (but_same but_le))
          · rw [but_upd (by simp)]
            exact (hA.go hu2).app (WysAt.one (hY0.go hu2))
end
end Kq
namespace Kq
open PySem PySem.Spec PyProof.Rows L2
open Hx01 (Link)
theorem WyAt.nil {H : Hp} {a : Addr} (h : H a = some (.lst [])) : WyAt H a [] := ⟨[], h, LksAt.nil⟩
section
variable {P : Program} {w : World} {K : PySem.W.Frag} {mg : Str → Option Value} {base : Heap} {A : CA}
def spCome (A : CA) : Sp := fun vs H Q _ => ∃ (sa : Addr) (p : Hx01.Program) (h : Hx01.Heap), vs = [.ref sa] ∧ Sn A H p sa h ∧ ∀ (H' : Hp) (D : Addr), Same H H' → H D = none → H' D = some (.lst (vI (Hx01.live h))) → Q (.ref D) H'
theorem scCome : FnScope ["heap"] ["heap"] (defScope sCome) := ⟨rfl, rfl, rfl, by decide +kernel, rfl, by decide +kernel, by decide +kernel⟩
theorem c_come (T : TxtH A w K mg) : Cb P w K mg base 3 "come_to" ["heap"] (spCome A) := by
  refine T.dCome.cb scCome (fun vs H Q E h => ?_) (fun fa cdv Ar outer s H vs Q E hr h => ?_)
  · obtain ⟨sa, p, h, rfl, _⟩ := h
    rfl
  obtain ⟨sa, p, h, rfl, N, k⟩ := h
  refine ⟨_, pss_one (ps_ret (pe_callB (call_sortedDI rfl) (by rfl) T.sorted_ rfl (pa_cons (pe_cb (c_ways T) hr rfl (pa_cons (pv 0) (pa_cons (pe_lst pa_nil) pa_nil))) pa_nil))), ?_⟩
  refine ⟨_, rfl, big (show 0 ≤ 100000 by decide), fun l0 hl0 => ?_⟩
  have s0 : Same H (upd H l0 (.lst [])) := same_upd (Same.refl _) hl0
  refine ⟨sa, l0, [], p, h, rfl, N.go s0, WyAt.nil upd_same, fun H1 d acc qs s1 hd hd1 hW F => ?_⟩
  have hl := N.links
  have gl := F.len
  have hm := N.ok.many
  have s01 := s0.trans s1
  refine ⟨d, _, Kp.zs (acc.map fun y => y.1), rfl, .inl hd1, ?_, ?_, fun ys D hp hs hD => ?_⟩
  · rw [wyD_keys hW.1]
    unfold Kp.zs
    simp only [List.map_map]
    rfl
  · rw [List.length_map, List.length_map]
    omega
  have e := Kp.zs_sorted hp F.nd hs (Kp.live_sorted h) (F.live hl)
  refine k _ D (s01.trans (same_upd (Same.refl _) hD)) (s01.free hD) ?_
  rw [upd_same, e]
  unfold vI Kp.zs
  rw [List.map_map]
  rfl
end
end Kq
namespace Kq
open PySem PySem.Spec PyProof.Rows L2
open Hx01 (Link)
theorem vI_at {l : List Nat} {i : Nat} {x : V} (h : (vI l)[i]? = some x) : ∃ n, l[i]? = some n ∧ x = .int (n : Nat) := by
  unfold vI at h
  rw [List.getElem?_map] at h
  obtain ⟨n, e1, e2⟩ := Option.map_eq_some_iff.mp h
  exact ⟨n, e1, e2.symm⟩
theorem vI_len (l : List Nat) : (vI l).length = l.length := List.length_map _
theorem vI_app (l m : List Nat) : vI (l ++ m) = vI l ++ vI m := List.map_append
theorem freed_len {h : Hx01.Heap} {c : List Link} : (Hx01.freed h c).length ≤ (Hx01.live h).length := List.length_filter_le _ _
theorem freed_lt {h : Hx01.Heap} {c : List Link} {x : Nat} (hx : x ∈ Hx01.freed h c) : x < h.things.length := Kp.live_lt (List.mem_filter.mp hx).1
section
variable {P : Program} {w : World} {K : PySem.W.Frag} {mg : Str → Option Value} {base : Heap} {A : CA}
def spGo (A : CA) : Sp := fun vs H Q _ => ∃ (sa lc : Addr) (c : List Link) (p : Hx01.Program) (h : Hx01.Heap), vs = [.ref sa, .ref lc] ∧ Sn A H p sa h ∧ WyAt H lc c ∧ ∀ (H' : Hp) (D : Addr), Same H H' → H D = none → H' D = some (.lst (vI (Hx01.freed h c))) → Q (.ref D) H'
abbrev nGo : List Str := ["heap", "cut", "ways_left", "thing"]
theorem scGo : FnScope nGo ["heap", "cut"] (defScope sGo) := ⟨rfl, rfl, rfl, by decide +kernel, rfl, by decide +kernel, by decide +kernel⟩
theorem c_go (T : TxtH A w K mg) : Cb P w K mg base 4 "things_that_go" ["heap", "cut"] (spGo A) := by
  refine T.dGo.cb scGo (fun vs H Q E h => ?_) (fun fa cdv Ar outer s H vs Q E hr h => ?_)
  · obtain ⟨sa, lc, c, p, h, rfl, _⟩ := h
    rfl
  obtain ⟨sa, lc, c, p, h, rfl, N, hC, k⟩ := h
  have hu1 : (Ar.deeper (envOfC (Str.ofString "things_that_go") (defScope sGo) s.heap.objs.size fa cdv)).units + 1 < cLine := by have := hr.un; omega
  have hr2 : Room 2 _ := hr.mono (by decide)
  refine ⟨_, pss_cons (ps_set (i := 2) scGo.nd rfl (Or.inr rfl) (pe_cb (c_ways T) hr2 rfl (pa_cons (pv 0) (pa_cons (pv 1) pa_nil))))
    (pss_one (ps_ret (pe_lc (own := [("thing", 3)]) (g := gName 3) (tt := tB (tDNotIn (tVar 3) (tVar 2))) (te := tVar 3) rfl scGo.nd (pi_list (pe_cb (c_come T) hr rfl (pa_cons (pv 0) pa_nil)))
      (blkOk_by (own := [("thing", 3)]) (N := nGo) (sc := defScope sGo) (by decide +kernel)) (fun _ _ _ _ _ => pg_name (i := 3) scGo.nd rfl (Or.inl rfl))
      (fun _ _ _ _ _ => pts_one (pt_cmp (pc_dnotin hu1 (pv 3) (pv 2)))) (fun _ _ _ _ _ => pv 3)))), ?_⟩
  have hl := N.links
  have hm := N.ok.many
  refine ⟨_, rfl, _, rfl, sa, lc, c, p, h, rfl, N, hC, fun H1 d acc qs s1 hd hd1 hW F => ?_⟩
  refine ⟨_, rfl, sa, p, h, rfl, N.go s1, fun H2 l2 s2 hl2 hl2' => ?_⟩
  refine ⟨l2, rfl, ⟨_, SqL.of hl2'⟩, fun D hD => ?_⟩
  have s12 := s1.trans s2
  have hlen := Kp.live_len h
  refine lc_pick (K := K) (a := l2) (L := Hx01.live h) (f := fun (n : Nat) => V.int n) (fun x => !(Hx01.comeTo h.things.length (Kp.cutL h c)).contains x) (fun (n : Nat) => V.int n) (SqL.of hl2') hD (by omega) ?_ ?_
  · rintro i n H3 hn s3 _ Ny Zn kN kZ
    have hd3 := but_le _ _ (s3 _ _ (s2 _ _ hd1))
    refine ⟨rfl, _, rfl, _, rfl, d, _, rfl, DGet.k (k := Sum.inl (n : Int)) hd3, _, rfl, ?_⟩
    rw [wyD_val _ hW.1, F.has hl]
    exact if2 (fun e => ⟨_, rfl, kN e _ (Same.refl _)⟩) (fun e => kZ e _ (Same.refl _))
  · intro H3 s3 e3
    exact k H3 D (s12.trans (s3.trans but_le)) (s12.free hD) e3
def spKept (A : CA) : Sp := fun vs H Q _ => ∃ (sa : Addr) (o : Nat) (p : Hx01.Program) (h : Hx01.Heap), vs = [.ref sa, .int (o : Nat)] ∧ Sn A H p sa h ∧ ∀ (H' : Hp) (D : Addr), Same H H' → H D = none → H' D = some (.lst (vI (Hx01.keeps h o))) → Q (.ref D) H'
abbrev nKept : List Str := ["heap", "keeper", "link"]
theorem scKept : FnScope nKept ["heap", "keeper"] (defScope sKept) := ⟨rfl, rfl, rfl, by decide +kernel, rfl, by decide +kernel, by decide +kernel⟩
/-- some of the links that stand somewhere -/
theorem LksAt.some {H : Hp} (P : Link → Bool) : ∀ {as : List Addr} {l : List Link}, LksAt H as l → LksAt H (((as.zip l).filter fun y => P y.2).map fun y => y.1) (l.filter P)
  | [], [], _ => LksAt.nil
  | [], x :: l, h => by cases h.1
  | a :: as, [], h => by cases h.1
  | a :: as, x :: l, h => by
    have ih := LksAt.some P (as := as) (l := l) ⟨Nat.succ.inj h.1, fun i b y e1 e2 => h.2 (i + 1) b y e1 e2⟩
    rw [List.zip_cons_cons, List.filter_cons, List.filter_cons]
    by_cases c : P x = true
    · rw [if_pos c, if_pos c, List.map_cons]
      exact (LksAt.one (h.2 0 a x rfl rfl)).app ih
    · rw [if_neg c, if_neg c]
      exact ih
theorem c_kept (T : TxtH A w K mg) : Cb P w K mg base 5 "kept_by" ["heap", "keeper"] (spKept A) := by
  refine T.dKept.cb scKept (fun vs H Q E h => ?_) (fun fa cdv Ar outer s H vs Q E hr h => ?_)
  · obtain ⟨sa, o, p, h, rfl, _⟩ := h
    rfl
  obtain ⟨sa, o, p, h, rfl, N, k⟩ := h
  have hr2 : Room 2 _ := hr.mono (by decide)
  refine ⟨_, pss_one (ps_ret (pe_cb (c_go T) hr rfl (pa_cons (pv 0) (pa_cons
    (pe_lc (own := [("link", 2)]) (g := gName 2) (tt := tTest (tOp rEq (tOp (rIxT K) (tVar 2) (tC (.int 2))) (tVar 1))) (te := tVar 2) rfl scKept.nd (pi_list (pe_cb (c_all T) hr2 rfl (pa_cons (pv 0) pa_nil)))
      (blkOk_by (own := [("link", 2)]) (N := nKept) (sc := defScope sKept) (by decide +kernel)) (fun _ _ _ _ _ => pg_name (i := 2) scKept.nd rfl (Or.inl rfl))
      (fun _ _ _ _ _ => pts_one (pt_cmpR op_eq (pe_ix ix_tup (pv 2) pe_int (fun _ _ => rfl)) (pv 1) (nomark _))) (fun _ _ _ _ _ => pv 2)) pa_nil)))), ?_⟩
  refine ⟨_, rfl, _, rfl, sa, p, h, rfl, N, fun H1 l1 as s1 hl1 hl1' hL hal => ?_⟩
  refine ⟨l1, rfl, ⟨_, SqL.of hl1'⟩, fun D hD => ?_⟩
  refine lc_pick (K := K) (a := l1) (L := as.zip (Hx01.links h)) (f := fun y => V.ref y.1) (fun y => decide (y.2.to = o)) (fun y => V.ref y.1) (by rw [zip_fst hL.1]; exact SqL.of hl1') hD (by rw [List.length_zip]; omega) ?_ ?_
  · rintro i ⟨a, x⟩ H3 hx s3 _ Ny Zn kN kZ
    have hk : LkAt H1 a x := hL.zip hx
    have hk3 := but_le _ _ (s3 _ _ hk)
    unfold LkAt at hk3
    refine ⟨rfl, _, rfl, a, _, _, _, rfl, rfl, SqT.of hk3, atI_nat (j := 2) rfl, _, rfl, rfl, _, rfl, ?_⟩
    have e : decide (V.int ((x.to : Nat) : Int) = V.int ((o : Nat) : Int)) = decide (x.to = o) := by
      congr 1
      apply propext
      rw [V.int.injEq]
      omega
    rw [e]
    exact if2 (fun e => ⟨_, rfl, kN e _ (Same.refl _)⟩) (fun e => kZ e _ (Same.refl _))
  · intro H3 s3 e3
    have s13 := s1.trans (s3.trans but_le)
    have hW : WyAt H3 D ((Hx01.links h).filter fun x => decide (x.to = o)) := by
      refine ⟨((as.zip (Hx01.links h)).filter fun y => decide (y.2.to = o)).map fun y => y.1, ?_, ((hL.go s3).go but_le).some (fun x => decide (x.to = o))⟩
      rw [e3, List.map_map]
      rfl
    refine ⟨sa, D, _, p, h, rfl, N.go s13, hW, fun H4 D4 s4 hD4 e4 => ?_⟩
    rw [← Kp.keeps_is] at e4
    exact k H4 D4 (s13.trans s4) (s13.free hD4) e4
end
end Kq
namespace Kq
open PySem PySem.Spec PyProof.Rows L2
theorem fold_from : ∀ (l : List Nat) (a : Nat), ((l.foldl (fun a b => a + b) a : Nat) : Int) = (a : Int) + (Kp.zs l).sum
  | [], a => by simp
  | x :: l, a => by
    rw [List.foldl_cons, fold_from l (a + x)]
    show _ = (a : Int) + ((x : Int) + (Kp.zs l).sum)
    omega
def sizeAt (p : Hx01.Program) (h : Hx01.Heap) (o : Nat) : Nat := ((h.things[o]?).bind fun t => p.classes[t.cls]?).elim 0 fun c => c.bytes
theorem bytes_sum (p : Hx01.Program) (h : Hx01.Heap) (l : List Nat) : ((Hx01.bytesOf p h l : Nat) : Int) = (Kp.zs (l.map (sizeAt p h))).sum := by
  have := fold_from (l.map (sizeAt p h)) 0
  rw [Int.natCast_zero, Int.zero_add] at this
  exact this
theorem size_at {p : Hx01.Program} {h : Hx01.Heap} {o : Nat} {t : Hx01.Thing} (e : h.things[o]? = some t) : sizeOf p t.cls = sizeAt p h o := by
  unfold sizeAt sizeOf
  rw [e]
  rfl
section
variable {P : Program} {w : World} {K : PySem.W.Frag} {mg : Str → Option Value} {base : Heap} {A : CA}
def spBytes (A : CA) : Sp := fun vs H Q _ => ∃ (sa ln : Addr) (l : List Nat) (p : Hx01.Program) (h : Hx01.Heap), vs = [.ref sa, .ref ln] ∧ Sn A H p sa h ∧ H ln = some (.lst (vI l)) ∧ (∀ x ∈ l, x < h.things.length) ∧ l.length ≤ 100 ∧ ∀ H', Same H H' → Q (.int (Hx01.bytesOf p h l : Nat)) H'
theorem scBytes : FnScope ["heap", "numbers", "number"] ["heap", "numbers"] (defScope sBytes) := ⟨rfl, rfl, rfl, by decide +kernel, rfl, by decide +kernel, by decide +kernel⟩
theorem c_bytes (T : TxtH A w K mg) : Cb P w K mg base 1 "bytes_of" ["heap", "numbers"] (spBytes A) := by
  refine T.dBytes.cb scBytes (fun vs H Q E h => ?_) (fun fa cdv Ar outer s H vs Q E hr h => ?_)
  · obtain ⟨sa, ln, l, p, h, rfl, _⟩ := h
    rfl
  obtain ⟨sa, ln, l, p, h, rfl, N, hln, hlt, hlen, k⟩ := h
  refine ⟨_, pss_one (ps_ret (pe_callB (cr_sum rfl) (by rfl) T.sum_ (by decide +kernel) (pa_cons
    (pe_lc (own := [("number", 2)]) (g := gName 2) (tt := tYes) (te := tFld K (tOp (rIxL K) (tFld K (tVar 0) "things") (tVar 2)) "size") rfl scBytes.nd (pi_list (pv 1))
      (blkOk_by (own := [("number", 2)]) (N := ["heap", "numbers", "number"]) (sc := defScope sBytes) (by decide +kernel)) (fun _ _ _ _ _ => pg_name (i := 2) scBytes.nd rfl (Or.inl rfl)) (fun _ _ _ _ _ => pts_nil)
      (fun _ _ _ _ _ => pe_fld (pe_ix ix_list (pe_fld (pv 0) rfl) (pv 2) (fun _ _ => rfl)) rfl)) pa_nil))), ?_⟩
  obtain ⟨dh, lt, lv, ts, fs, h1, h2, h3, t1, t2, t3⟩ := N.at_
  refine ⟨_, rfl, ln, rfl, ⟨_, SqL.of hln⟩, fun D hD => ?_⟩
  refine lc_it (walk_list (K := K) (a := ln) (xs := vI l)) (fun i H' => Same H (but [D] H') ∧ H' D = some (.lst ((Kp.zs ((l.take i).map (sizeAt p h))).map V.int))) ⟨?_, upd_same⟩ (fun i H' _ h => SqL.of (but_le _ _ (h.1 _ _ hln))) ?_ ?_
  · rw [but_upd (by simp)]
    exact but_out_of (Same.refl _) (fun b hb => by rw [List.mem_singleton.mp hb]; exact hD)
  · rintro i x H3 H4 hi ⟨s3, e3⟩ ⟨rfl, hx⟩
    obtain ⟨n, hn, rfl⟩ := vI_at hx
    have hnl := hlt n (List.mem_of_getElem? hn)
    obtain ⟨tt, htt⟩ := get_some (l := h.things) hnl
    obtain ⟨to, hto⟩ := get_some (l := ts) (i := n) (by omega)
    obtain ⟨tf, htf⟩ := get_some (l := fs) (i := n) (by omega)
    obtain ⟨⟨dt, e1⟩, e2⟩ := t3 _ to tf tt hto htf htt
    have s4 : Same H H4 := s3.trans but_le
    refine ⟨rfl, lcYes ?_⟩
    refine ⟨_, rfl, sa, A.heap, dh, _, _, rfl, s4 _ _ h1, T.cHeap.cl, T.cHeap.na _ (by decide +kernel), hpF_things _ _, _, rfl, lt, _, _, _, rfl, rfl, SqL.of (s4 _ _ h2), atI_nat (j := n) (by rw [List.getElem?_map, hto]; rfl),
      to, A.thing, dt, _, _, rfl, s4 _ _ e1, T.cThing.cl, T.cThing.na _ (by decide +kernel), thF_size _ _ _ _, _, e3, bigLt (by rw [List.length_map, List.length_map, List.length_map, List.length_take]; omega), ?_, ?_⟩
    · rw [but_upd (by simp)]; exact s3
    · rw [upd_same, take_one hn, size_at htt]
      unfold Kp.zs
      simp only [List.map_append]
      rfl
  · rintro H3 ⟨s3, e3⟩
    rw [vI_len, List.take_length] at e3
    refine ⟨D, _, rfl, SqL.of e3, ?_⟩
    rw [← bytes_sum]
    exact k H3 (s3.trans but_le)
end
end Kq
namespace Kq
open PySem PySem.Spec PyProof.Rows L2
theorem inV_I (n : Nat) (l : List Nat) : inV (.int (n : Nat)) (vI l) = l.contains n := by
  unfold inV vI
  rw [List.any_map, Bool.eq_iff_iff, List.any_eq_true, List.contains_iff_mem]
  constructor
  · rintro ⟨x, hx, e⟩
    have e : ((x : Int) == (n : Int)) = true := e
    rw [beq_iff_eq] at e
    have : x = n := Int.ofNat.inj e
    rw [← this]; exact hx
  · intro h
    exact ⟨n, h, by show ((n : Int) == (n : Int)) = true; simp⟩
theorem flat_I (l : List Nat) : (vI l).all flatV = true := by
  rw [List.all_eq_true]
  intro x hx
  obtain ⟨y, _, rfl⟩ := List.mem_map.mp hx
  rfl
/-- numbers with lists -/
def kpD (l : List Nat) (qs : List Addr) : List (Key × V) := (l.zip qs).map fun y => (Sum.inl (y.1 : Int), V.ref y.2)
theorem kpD_none : ∀ {l : List Nat} {qs : List Addr} {x : Nat}, x ∉ l → valV (kpD l qs) (Sum.inl (x : Int)) = none
  | [], qs, x, _ => by simp [kpD, valV_nil]
  | y :: l, [], x, _ => by simp [kpD, valV_nil]
  | y :: l, q :: qs, x, h => by
    have e : kpD (y :: l) (q :: qs) = (Sum.inl (y : Int), V.ref q) :: kpD l qs := rfl
    rw [e, valV_neg (fun z => h (by have := Int.ofNat.inj (Sum.inl.inj z); rw [← this]; exact List.mem_cons_self))]
    exact kpD_none fun z => h (List.mem_cons_of_mem _ z)
theorem kpD_put {l : List Nat} {qs : List Addr} {x : Nat} {q : Addr} (h : qs.length = l.length) (c : x ∉ l) : putK (kpD l qs) (Sum.inl (x : Int)) (.ref q) = kpD (l ++ [x]) (qs ++ [q]) := by
  rw [putK_new _ (kpD_none c)]
  unfold kpD
  rw [List.zip_append h.symm, List.map_append]
  rfl
theorem kpD_len {l : List Nat} {qs : List Addr} (h : qs.length = l.length) : (kpD l qs).length = l.length := by
  unfold kpD
  rw [List.length_map, List.length_zip, h, Nat.min_self]
theorem kpD_at {l : List Nat} {qs : List Addr} {i : Nat} {k : Key} {v : V} (h : (kpD l qs)[i]? = some (k, v)) : ∃ x q, l[i]? = some x ∧ qs[i]? = some q ∧ k = Sum.inl (x : Int) ∧ v = .ref q := by
  unfold kpD at h
  rw [List.getElem?_map] at h
  obtain ⟨⟨x, q⟩, e1, e2⟩ := Option.map_eq_some_iff.mp h
  rw [List.getElem?_zip_eq_some] at e1
  cases e2
  exact ⟨x, q, e1.1, e1.2, rfl, rfl⟩
def KpsAt (H : Hp) (h : Hx01.Heap) (qs : List Addr) (l : List Nat) : Prop := qs.length = l.length ∧ ∀ (i : Nat) (a : Addr) (x : Nat), qs[i]? = some a → l[i]? = some x → H a = some (.lst (vI (Hx01.keeps h x)))
theorem KpsAt.go {H H' : Hp} {h : Hx01.Heap} {qs : List Addr} {l : List Nat} (k : KpsAt H h qs l) (s : Same H H') : KpsAt H' h qs l := ⟨k.1, fun i a x e1 e2 => s _ _ (k.2 i a x e1 e2)⟩
theorem KpsAt.snoc {H : Hp} {h : Hx01.Heap} {qs : List Addr} {l : List Nat} {q : Addr} {x : Nat} (k : KpsAt H h qs l) (e : H q = some (.lst (vI (Hx01.keeps h x)))) : KpsAt H h (qs ++ [q]) (l ++ [x]) := by
  refine ⟨by simp [k.1], fun i a y e1 e2 => ?_⟩
  by_cases c : i < qs.length
  · rw [List.getElem?_append_left c] at e1
    rw [List.getElem?_append_left (by rw [← k.1]; exact c)] at e2
    exact k.2 i a y e1 e2
  · have hi := (List.getElem?_eq_some_iff.mp e1).1
    rw [List.length_append, List.length_singleton] at hi
    have : i = qs.length := by omega
    subst this
    rw [List.getElem?_append_right (Nat.le_refl _), Nat.sub_self] at e1
    rw [k.1, List.getElem?_append_right (Nat.le_refl _), Nat.sub_self] at e2
    cases e1; cases e2
    exact e
def keepersOf (h : Hx01.Heap) (o : Nat) : List Nat := (Hx01.live h).filter fun x => decide (x ≠ o) && (Hx01.keeps h x).contains o
theorem keeper_is (h : Hx01.Heap) (o : Nat) : Hx01.keeper h o = (keepersOf h o).find? fun x => (keepersOf h o).all fun y => (Hx01.keeps h y).contains x := rfl
theorem nodup_next {l : List Nat} (h : l.Nodup) {i x : Nat} (e : l[i]? = some x) : x ∉ l.take i := by
  intro z
  have n := h.sublist (List.take_sublist (i + 1) l)
  rw [take_one e, List.nodup_append] at n
  exact n.2.2 x z x (by simp) rfl
theorem live_nodup (h : Hx01.Heap) : (Hx01.live h).Nodup := (Kp.live_sorted h).imp fun h => Nat.ne_of_lt h
section
variable {P : Program} {w : World} {K : PySem.W.Frag} {mg : Str → Option Value} {base : Heap} {A : CA}
def spKeeper (A : CA) : Sp := fun vs H Q _ => ∃ (sa : Addr) (o : Nat) (p : Hx01.Program) (h : Hx01.Heap), vs = [.ref sa, .int (o : Nat)] ∧ Sn A H p sa h ∧ ∀ H', Same H H' → Q (oV (Hx01.keeper h o)) H'
abbrev nKeeper : List Str := ["heap", "thing", "keepers", "other", "kept", "keeper", "together"]
theorem scKeeper : FnScope nKeeper ["heap", "thing"] (defScope sKeeper) := ⟨rfl, rfl, rfl, by decide +kernel, rfl, by decide +kernel, by decide +kernel⟩
theorem c_keeper (T : TxtH A w K mg) : Cb P w K mg base 6 "keeper_of" ["heap", "thing"] (spKeeper A) := by
  refine T.dKeeper.cb scKeeper (fun vs H Q E h => ?_) (fun fa cdv Ar outer s H vs Q E hr h => ?_)
  · obtain ⟨sa, o, p, h, rfl, _⟩ := h
    rfl
  obtain ⟨sa, o, p, h, rfl, N, k⟩ := h
  have hu1 : (Ar.deeper (envOfC (Str.ofString "keeper_of") (defScope sKeeper) s.heap.objs.size fa cdv)).units + 1 < cLine := by have := hr.un; omega
  have hr3 : Room 3 _ := hr.mono (by decide)
  refine ⟨_, pss_cons (ps_set (i := 2) scKeeper.nd rfl (Or.inl rfl) pe_dnewK)
    (pss_cons (ps_for PassesOwn.never rfl (pi_list (pe_cb (c_come T) hr3 rfl (pa_cons (pv 0) pa_nil))) (pg_name (i := 3) scKeeper.nd rfl (.inl rfl))
      (pss_cons (ps_set (i := 4) scKeeper.nd rfl (Or.inl rfl) (pe_cb (c_kept T) hr rfl (pa_cons (pv 0) (pa_cons (pv 3) pa_nil))))
      (pss_one (ps_if (PW.pt (pw_and (pt_cmpR op_ne (pv 3) (pv 1) (nomark _)) (pw_and1 (pt_cmpR op_in_seq (pv 1) (pv 4) rfl))))
        (pss_one (ps_dput hu1 (pv 2) (pv 3) (pv 4) rfl)) pss_nil))))
    (pss_cons (ps_lock (ps_for PassesOwn.never rfl (pi_keys (pv 2)) (pg_name (i := 5) scKeeper.nd rfl (.inr rfl))
      (pss_one (ps_if (pt_val (pe_callB (cr_all rfl) (by rfl) T.all_ (by decide +kernel) (pa_cons
          (pe_lc (own := [("together", 6)]) (g := gName 6) (tt := tYes) (te := tOp (rIn K false) (tVar 5) (tVar 6)) rfl scKeeper.nd (pi_values (pv 2))
            (blkOk_by (own := [("together", 6)]) (N := nKeeper) (sc := defScope sKeeper) (by decide +kernel)) (fun _ _ _ _ _ => pg_name (i := 6) scKeeper.nd rfl (Or.inl rfl)) (fun _ _ _ _ _ => pts_nil)
            (fun _ _ _ _ _ => pe_cmpR op_in_seq (pv 5) (pv 6) rfl)) pa_nil)))
        (pss_one (ps_ret (pv 5))) pss_nil))))
    (pss_one (ps_ret pe_non)))), ?_⟩
  have hm := N.ok.many
  have hlen := Kp.live_len h
  intro d hd
  have sd : Same H (upd H d (.dK [])) := same_upd (Same.refl H) hd
  refine ⟨_, rfl, sa, p, h, rfl, N.go sd, fun H1 l1 s1 hl1 hl1' => ?_⟩
  refine ⟨l1, rfl, ⟨_, SqL.of hl1'⟩, ?_⟩
  have hd1 : H1 d = some (.dK []) := s1 _ _ upd_same
  refine for_it (walk_list (K := K) (a := l1) (xs := vI (Hx01.live h))) (fun i σ H' => ∃ v3 v4 v5 v6 qs, σ = [some (.ref sa), some (.int (o : Nat)), some (.ref d), v3, v4, v5, v6] ∧ Same H1 (upd H' d (.dK [])) ∧
      H' d = some (.dK (kpD (((Hx01.live h).take i).filter fun x => decide (x ≠ o) && (Hx01.keeps h x).contains o) qs)) ∧ KpsAt (but [d] H') h qs (((Hx01.live h).take i).filter fun x => decide (x ≠ o) && (Hx01.keeps h x).contains o))
    ⟨none, none, none, none, [], rfl, fun b u e => ?_, hd1, rfl, fun i a x e => by simp at e⟩ ?_ ?_ ?_
  · by_cases c : b = d
    · subst c; rw [upd_same, ← hd1]; exact e
    · rw [upd_ne c]; exact e
  · rintro i σ H' _ ⟨v3, v4, v5, v6, qs, rfl, s2, _⟩
    have e := s2 _ _ hl1'
    rw [upd_ne (fun z => by rw [z, hd1] at hl1'; cases hl1')] at e
    exact SqL.of e
  · rintro i x σ H2 H3 hi ⟨v3, v4, v5, v6, qs, rfl, s2, hd2, hK⟩ ⟨rfl, hx⟩
    obtain ⟨n, hn, rfl⟩ := vI_at hx
    have sb : ∀ {H'}, Same H1 (upd H' d (.dK [])) → Same H (but [d] H') := fun {H'} s2 b u e => by
      have n1 : b ≠ d := ne_of_none e hd
      have e := s2 _ _ (s1 _ _ (sd _ _ e))
      rw [upd_ne n1] at e
      rw [but_out (by simpa using n1)]; exact e
    refine ⟨_, rfl, _, rfl, sa, n, p, h, rfl, N.go ((sb s2).trans but_le), fun H4 q s4 hq hq' => ?_⟩
    have s5 : Same H1 (upd H4 d (.dK [])) := fun b u e => by
      have e := s2 _ _ e
      by_cases c : b = d
      · subst c; rw [upd_same] at e ⊢; exact e
      · rw [upd_ne c] at e ⊢; exact s4 _ _ e
    have hd4 := s4 _ _ hd2
    have nqd : q ≠ d := (ne_of_none hd2 hq).symm
    have ne : decide (V.int ((n : Nat) : Int) = V.int ((o : Nat) : Int)) = !decide (n ≠ o) := by
      by_cases c : n = o
      · subst c; simp
      · have : ¬ (V.int ((n : Nat) : Int) = V.int ((o : Nat) : Int)) := fun z => c (Int.ofNat.inj (V.int.inj z))
        simp [this, c]
    refine ⟨_, rfl, _, rfl, rfl, _, rfl, ?_⟩
    rw [ne, Bool.not_not, take_one hn, List.filter_append]
    have no : (decide (n ≠ o) && (Hx01.keeps h n).contains o) = false → ∃ u3 u4 u5 u6 qs', [some (V.ref sa), some (V.int (o : Nat)), some (V.ref d), some (V.int (n : Nat)), some (V.ref q), v5, v6] = [some (.ref sa), some (.int (o : Nat)), some (.ref d), u3, u4, u5, u6] ∧ Same H1 (upd H4 d (.dK [])) ∧
        H4 d = some (.dK (kpD (((Hx01.live h).take i).filter (fun x => decide (x ≠ o) && (Hx01.keeps h x).contains o) ++ [n].filter fun x => decide (x ≠ o) && (Hx01.keeps h x).contains o) qs')) ∧ KpsAt (but [d] H4) h qs' (((Hx01.live h).take i).filter (fun x => decide (x ≠ o) && (Hx01.keeps h x).contains o) ++ [n].filter fun x => decide (x ≠ o) && (Hx01.keeps h x).contains o) := fun c => by
      rw [one_no (f := fun x => decide (x ≠ o) && (Hx01.keeps h x).contains o) c, List.append_nil]
      exact ⟨_, _, _, _, qs, rfl, s5, hd4, hK.go (but_same s4)⟩
    cases c1 : decide (n ≠ o) with
    | false =>
      refine ifF rfl ?_
      exact no (by rw [c1]; rfl)
    | true =>
      refine ifT rfl ?_
      refine ⟨_, rfl, _, rfl, q, _, rfl, .inl (SqL.of hq'), rfl, flat_I _, _, rfl, ?_⟩
      show if inV (.int ((o : Nat) : Int)) (vI (Hx01.keeps h n)) = true then _ else _
      rw [inV_I]
      cases c2 : (Hx01.keeps h n).contains o with
      | false =>
        refine ifF rfl ?_
        exact no (by rw [c2, Bool.and_false])
      | true =>
        refine ifT rfl ?_
        have nt : n ∉ ((Hx01.live h).take i).filter fun x => decide (x ≠ o) && (Hx01.keeps h x).contains o := fun z => nodup_next (live_nodup h) hn (List.mem_filter.mp z).1
        have hkl : (kpD (((Hx01.live h).take i).filter fun x => decide (x ≠ o) && (Hx01.keeps h x).contains o) qs).length ≤ 100 := by
          rw [kpD_len hK.1]
          refine Nat.le_trans (List.length_filter_le _ _) ?_
          rw [List.length_take]
          omega
        refine ⟨_, rfl, _, rfl, _, rfl, d, _, rfl, DPut.k (k := Sum.inl (n : Int)) hd4 (bigLt (by omega)), ?_⟩
        rw [kpD_put hK.1 nt, one_yes (f := fun x => decide (x ≠ o) && (Hx01.keeps h x).contains o) (by rw [c1, c2]; rfl)]
        refine ⟨_, _, _, _, qs ++ [q], rfl, fun b u e => ?_, upd_same, ?_⟩
        · have e := s5 _ _ e
          by_cases c : b = d
          · subst c; rw [upd_same] at e ⊢; exact e
          · rw [upd_ne c] at e ⊢; rw [upd_ne c]; exact e
        · rw [but_upd (by simp)]
          exact (hK.go (but_same s4)).snoc ((but_out (by simpa using nqd)).trans hq')
  · rintro σ H2 ⟨v3, v4, v5, v6, qs, rfl, s2, hd2, hK⟩
    rw [vI_len, List.take_length] at hd2 hK
    have hd2 : H2 d = some (.dK (kpD (keepersOf h o) qs)) := hd2
    have hK : KpsAt (but [d] H2) h qs (keepersOf h o) := hK
    have hkl : (keepersOf h o).length ≤ 100 := by
      refine Nat.le_trans (List.length_filter_le _ _) ?_
      omega
    refine ⟨d, _, hd2, trivial, fun od => ?_⟩
    have sl : Same (but [d] H2) (upd H2 d (.frz od (.dK (kpD (keepersOf h o) qs)))) := fun b u e => by
      obtain ⟨n1, e⟩ := but_some e
      rw [upd_ne (by simpa using n1)]; exact e
    have sHl : ∀ {H'}, Same (upd H2 d (.frz od (.dK (kpD (keepersOf h o) qs)))) H' → Same H (upd H' d (.dK (kpD (keepersOf h o) qs))) := fun {H'} s3 b u e => by
      have n1 : b ≠ d := ne_of_none e hd
      have e := s2 _ _ (s1 _ _ (sd _ _ e))
      rw [upd_ne n1] at e ⊢
      refine s3 _ _ ?_
      rw [upd_ne n1]; exact e
    refine ⟨_, rfl, d, od, rfl, .inl ⟨_, upd_same, ?_⟩⟩
    refine for_it (walk_keys (d := d) (o := od) (kvs := kpD (keepersOf h o) qs)) (fun i σ H' => ∃ v5 v6, σ = [some (.ref sa), some (.int (o : Nat)), some (.ref d), v3, v4, v5, v6] ∧ Same (upd H2 d (.frz od (.dK (kpD (keepersOf h o) qs)))) H' ∧
        ((keepersOf h o).take i).find? (fun x => (keepersOf h o).all fun y => (Hx01.keeps h y).contains x) = none) ⟨v5, v6, rfl, Same.refl _, rfl⟩ ?_ ?_ ?_
    · rintro i σ H3 _ ⟨_, _, _, s3, _⟩
      exact s3 _ _ upd_same
    · rintro i x σ H3 H4 hi ⟨v5, v6, rfl, s3, hf⟩ ⟨rfl, key, v, hkv, rfl⟩
      obtain ⟨n, qn, hn, hqn, rfl, rfl⟩ := kpD_at hkv
      have hd3 := s3 _ _ upd_same
      refine ⟨_, rfl, d, od, _, rfl, hd3, fun D hD => ?_⟩
      refine lc_it (walk_values (d := d) (o := od) (kvs := kpD (keepersOf h o) qs)) (fun j H' => Same H4 (but [D] H') ∧ H' D = some (.lst ((((keepersOf h o).take j).map fun y => (Hx01.keeps h y).contains n).map V.bl))) ⟨?_, upd_same⟩ (fun j H' _ h => but_le _ _ (h.1 _ _ hd3)) ?_ ?_
      · rw [but_upd (by simp)]
        exact but_out_of (Same.refl _) (fun b hb => by rw [List.mem_singleton.mp hb]; exact hD)
      · rintro j x H5 H6 hj ⟨s5, h5⟩ ⟨rfl, key', hkv'⟩
        obtain ⟨y, qy, hy, hqy, _, rfl⟩ := kpD_at hkv'
        have ey := but_le _ _ (s5 _ _ (s3 _ _ (sl _ _ (hK.2 j qy y hqy hy))))
        refine ⟨rfl, lcYes ?_⟩
        refine ⟨_, rfl, _, rfl, qy, _, rfl, .inl (SqL.of ey), rfl, flat_I _, _, h5, bigLt (by rw [List.length_map, List.length_map, List.length_take]; omega), ?_, ?_⟩
        · rw [but_upd (by simp)]; exact s5
        · rw [upd_same, take_one hy, List.map_append, List.map_append]
          show some (HO.lst (_ ++ [V.bl (inV (.int ((n : Nat) : Int)) (vI (Hx01.keeps h y)))])) = _
          rw [inV_I]
          rfl
      · rintro H5 ⟨s5, h5⟩
        rw [kpD_len hK.1, List.take_length] at h5
        refine ⟨D, _, rfl, SqL.of h5, _, rfl, ?_⟩
        have eall : (((keepersOf h o).map fun y => (Hx01.keeps h y).contains n).all id) = (keepersOf h o).all fun y => (Hx01.keeps h y).contains n := by rw [List.all_map]; rfl
        rw [eall]
        have s6 := s3.trans (s5.trans but_le)
        refine if2 (fun c => ?_) (fun c => ?_)
        · refine ⟨_, rfl, s6 _ _ upd_same, ?_⟩
          have ek : Hx01.keeper h o = some n := by
            rw [keeper_is]
            have := take_one hn
            have e2 : keepersOf h o = (keepersOf h o).take i ++ n :: (keepersOf h o).drop (i + 1) := by
              conv => lhs; rw [← List.take_append_drop (i + 1) (keepersOf h o), this]
              simp
            conv => lhs; arg 2; rw [e2]
            rw [List.find?_append, hf]
            show (none : Option Nat).or _ = _
            rw [Option.none_or]
            exact List.find?_cons_of_pos (p := fun x => (keepersOf h o).all fun y => (Hx01.keeps h y).contains x) c
          have := k _ (sHl s6)
          rw [ek] at this
          exact this
        · refine ⟨_, _, rfl, s6, ?_⟩
          rw [take_one hn, List.find?_append, hf, Option.none_or, List.find?_cons_of_neg (by rw [c]; exact Bool.false_ne_true)]
          rfl
    · rintro σ H3 ⟨v5, v6, rfl, s3, hf⟩
      rw [kpD_len hK.1, List.take_length] at hf
      refine ⟨s3 _ _ upd_same, ?_⟩
      have := k _ (sHl s3)
      rw [keeper_is, hf] at this
      exact this
end
end Kq
namespace Kq
open PySem PySem.Spec PyProof.Rows L2
open Hx01 (Link)
/-- whether a link begins at a variable or at one of some things -/
abbrev ttUse (K : PySem.W.Frag) (i j : Nat) : TT := tOr (tTest (tOp rEq (tOp (rIxT K) (tVar i) (tC (.int 0))) (tC (.int 0)))) (tTest (tOp (rIn K false) (tOp (rI0 fun i j => .int (i - j)) (tOp (rIxT K) (tVar i) (tC (.int 0))) (tC (.int 1))) (tVar j)))
theorem use_test {K : PySem.W.Frag} {i j : Nat} {σ : L2.St} {H : Hp} {a l : Addr} {x : Link} {there : List Nat} {Q : Bool → Hp → Prop} (hk : LkAt H a x) (hl : H l = some (.lst (vI there))) (e1 : σ[i]? = some (some (.ref a))) (e2 : σ[j]? = some (some (.ref l))) (q : Q (decide (x.src = 0) || there.contains (x.src - 1)) H) : ttUse K i j σ H Q := by
  unfold LkAt at hk
  refine ⟨_, e1, a, _, _, _, rfl, rfl, SqT.of hk, atI_nat (j := 0) rfl, rfl, _, rfl, ?_⟩
  by_cases c : x.src = 0
  · rw [show decide (V.int ((x.src : Nat) : Int) = V.int 0) = true from decide_eq_true (by rw [c]; rfl)]
    refine ifT rfl ?_
    rw [decide_eq_true c] at q
    exact q
  · rw [show decide (V.int ((x.src : Nat) : Int) = V.int 0) = false from decide_eq_false (fun z => c (by have := V.int.inj z; omega))]
    refine ifF rfl ?_
    have es : ((x.src : Nat) : Int) - 1 = ((x.src - 1 : Nat) : Int) := by omega
    refine ⟨_, e1, a, _, _, _, rfl, rfl, SqT.of hk, atI_nat (j := 0) rfl, _, _, rfl, rfl, _, e2, l, _, rfl, .inl (SqL.of hl), rfl, flat_I _, _, rfl, ?_⟩
    show Q (inV (V.int (((x.src : Nat) : Int) - 1)) (vI there)) H
    rw [es, inV_I]
    rw [decide_eq_false c, Bool.false_or] at q
    exact q
theorem wyD_get : ∀ {acc : Kp.Ways} {qs : List Addr} {t : Nat}, qs.length = acc.length → Kp.has acc t = true → ∃ (i : Nat) (y : Nat × List Link) (q : Addr), acc[i]? = some y ∧ qs[i]? = some q ∧ valV (wyD acc qs) (Sum.inl (t : Int)) = some (.ref q) ∧ acc.find? (fun y => y.1 == t) = some y
  | [], qs, t, _, h => by cases h
  | y :: acc, [], t, l, _ => by cases l
  | y :: acc, q :: qs, t, l, h => by
    have e : wyD (y :: acc) (q :: qs) = (Sum.inl (y.1 : Int), V.ref q) :: wyD acc qs := rfl
    by_cases c : y.1 = t
    · refine ⟨0, y, q, rfl, rfl, ?_, ?_⟩
      · rw [e, valV_pos (by rw [c])]
      · exact List.find?_cons_of_pos (by simpa using c)
    · have cb : (y.1 == t) = false := by simpa using c
      obtain ⟨i, z, r, h1, h2, h3, h4⟩ := wyD_get (acc := acc) (qs := qs) (t := t) (Nat.succ.inj l) (by
        unfold Kp.has at h ⊢
        rw [List.any_cons, cb, Bool.false_or] at h
        exact h)
      refine ⟨i + 1, z, r, h1, h2, ?_, ?_⟩
      · rw [e, valV_neg (fun z => c (Int.ofNat.inj (Sum.inl.inj z)))]
        exact h3
      · rw [List.find?_cons_of_neg (by rw [cb]; exact Bool.false_ne_true)]
        exact h4
section
variable {P : Program} {w : World} {K : PySem.W.Frag} {mg : Str → Option Value} {base : Heap} {A : CA}
def spUses (A : CA) : Sp := fun vs H Q _ => ∃ (sa : Addr) (p : Hx01.Program) (h : Hx01.Heap), vs = [.ref sa] ∧ Sn A H p sa h ∧ ∀ (H' : Hp) (D : Addr) (as : List Addr), Same H H' → H D = none → H' D = some (.lst (as.map V.ref)) → LksAt H' as (Hx01.liveLinks h) → as.length ≤ 40 → Q (.ref D) H'
abbrev nUses : List Str := ["heap", "reached", "link"]
theorem scUses : FnScope nUses ["heap"] (defScope sUses) := ⟨rfl, rfl, rfl, by decide +kernel, rfl, by decide +kernel, by decide +kernel⟩
theorem c_uses (T : TxtH A w K mg) : Cb P w K mg base 4 "links_in_use" ["heap"] (spUses A) := by
  refine T.dUses.cb scUses (fun vs H Q E h => ?_) (fun fa cdv Ar outer s H vs Q E hr h => ?_)
  · obtain ⟨sa, p, h, rfl, _⟩ := h
    rfl
  obtain ⟨sa, p, h, rfl, N, k⟩ := h
  have hr2 : Room 2 _ := hr.mono (by decide)
  refine ⟨_, pss_cons (ps_set (i := 1) scUses.nd rfl (Or.inr rfl) (pe_cb (c_come T) hr rfl (pa_cons (pv 0) pa_nil)))
    (pss_one (ps_ret (pe_lc (own := [("link", 2)]) (g := gName 2) (tt := ttUse K 2 1) (te := tVar 2) rfl scUses.nd (pi_list (pe_cb (c_all T) hr2 rfl (pa_cons (pv 0) pa_nil)))
      (blkOk_by (own := [("link", 2)]) (N := nUses) (sc := defScope sUses) (by decide +kernel)) (fun _ _ _ _ _ => pg_name (i := 2) scUses.nd rfl (Or.inl rfl))
      (fun _ _ _ _ _ => pts_one (PW.pt (pw_or (pt_cmpR op_eq (pe_ix ix_tup (pv 2) pe_int (fun _ _ => rfl)) pe_int (nomark _)) (pw_or1 (pt_cmpR op_in_seq (pe_op op_sub (pe_ix ix_tup (pv 2) pe_int (fun _ _ => rfl)) pe_int) (pv 1) rfl))))) (fun _ _ _ _ _ => pv 2)))), ?_⟩
  refine ⟨_, rfl, sa, p, h, rfl, N, fun H1 l1 s1 hl1 hl1' => ?_⟩
  refine ⟨_, rfl, sa, p, h, rfl, N.go s1, fun H2 l2 as s2 hl2 hl2' hL hal => ?_⟩
  refine ⟨l2, rfl, ⟨_, SqL.of hl2'⟩, fun D hD => ?_⟩
  refine lc_pick (K := K) (a := l2) (L := as.zip (Hx01.links h)) (f := fun y => V.ref y.1) (fun y => decide (y.2.src = 0) || (Hx01.live h).contains (y.2.src - 1)) (fun y => V.ref y.1) (by rw [zip_fst hL.1]; exact SqL.of hl2') hD (by rw [List.length_zip]; omega) ?_ ?_
  · rintro i ⟨a, x⟩ H3 hx s3 _ Ny Zn kN kZ
    have hk3 : LkAt H3 a x := but_le _ _ (s3 _ _ (hL.zip hx))
    exact ⟨rfl, use_test hk3 (but_le _ _ (s3 _ _ (s2 _ _ hl1'))) rfl rfl (if2 (fun e => ⟨_, rfl, kN e _ (Same.refl _)⟩) (fun e => kZ e _ (Same.refl _)))⟩
  · intro H3 s3 e3
    have s12 := s1.trans s2
    have s13 := s12.trans (s3.trans but_le)
    refine k H3 D (((as.zip (Hx01.links h)).filter fun y => decide (y.2.src = 0) || (Hx01.live h).contains (y.2.src - 1)).map fun y => y.1) s13 (s12.free hD) ?_ ?_ ?_
    · rw [e3, List.map_map]
      rfl
    · exact ((hL.go s3).go but_le).some (fun x => decide (x.src = 0) || (Hx01.live h).contains (x.src - 1))
    · rw [List.length_map]
      refine Nat.le_trans (List.length_filter_le _ _) ?_
      rw [List.length_zip]
      omega
def spUse (A : CA) : Sp := fun vs H Q _ => ∃ (sa : Addr) (a b : Nat) (p : Hx01.Program) (h : Hx01.Heap), vs = [.ref sa, .int (a : Nat), .int (b : Nat)] ∧ Sn A H p sa h ∧
  (∀ H', Same H H' → (Hx01.liveLinks h).find? (fun x => decide (x.src = a) && decide (x.slot = b)) = none → Q .non H') ∧
  (∀ (H' : Hp) (q : Addr) (x : Link), Same H H' → (Hx01.liveLinks h).find? (fun x => decide (x.src = a) && decide (x.slot = b)) = some x → LkAt H' q x → Q (.ref q) H')
abbrev nUse : List Str := ["heap", "begins", "which", "link"]
theorem scUse : FnScope nUse ["heap", "begins", "which"] (defScope sUse) := ⟨rfl, rfl, rfl, by decide +kernel, rfl, by decide +kernel, by decide +kernel⟩
theorem int_eq (a b : Nat) : decide (V.int ((a : Nat) : Int) = V.int ((b : Nat) : Int)) = decide (a = b) := by
  congr 1
  apply propext
  rw [V.int.injEq]
  omega
theorem c_use (T : TxtH A w K mg) : Cb P w K mg base 5 "link_in_use" ["heap", "begins", "which"] (spUse A) := by
  refine T.dUse.cb scUse (fun vs H Q E h => ?_) (fun fa cdv Ar outer s H vs Q E hr h => ?_)
  · obtain ⟨sa, a, b, p, h, rfl, _⟩ := h
    rfl
  obtain ⟨sa, a, b, p, h, rfl, N, k1, k2⟩ := h
  refine ⟨_, pss_cons (ps_for PassesOwn.never rfl (pi_list (pe_cb (c_uses T) hr rfl (pa_cons (pv 0) pa_nil))) (pg_name (i := 3) scUse.nd rfl (.inl rfl))
      (pss_one (ps_if (PW.pt (pw_and (pt_cmpR op_eq (pe_ix ix_tup (pv 3) pe_int (fun _ _ => rfl)) (pv 1) (nomark _)) (pw_and1 (pt_cmpR op_eq (pe_ix ix_tup (pv 3) pe_int (fun _ _ => rfl)) (pv 2) (nomark _)))))
        (pss_one (ps_ret (pv 3))) pss_nil)))
    (pss_one (ps_ret pe_non)), ?_⟩
  refine ⟨_, rfl, sa, p, h, rfl, N, fun H1 l1 as s1 hl1 hl1' hL hal => ?_⟩
  refine ⟨l1, rfl, ⟨_, SqL.of hl1'⟩, ?_⟩
  refine for_it (walk_list (K := K) (a := l1) (xs := as.map V.ref)) (fun i σ H' => ∃ v3, σ = [some (.ref sa), some (.int (a : Nat)), some (.int (b : Nat)), v3] ∧ H' = H1 ∧ ((Hx01.liveLinks h).take i).find? (fun x => decide (x.src = a) && decide (x.slot = b)) = none)
    ⟨none, rfl, rfl, rfl⟩ (fun i σ H' _ ⟨_, _, e, _⟩ => by rw [e]; exact SqL.of hl1') ?_ ?_
  · rintro i v σ H2 H3 hi ⟨v3, rfl, rfl, hf⟩ ⟨rfl, hx⟩
    rw [List.length_map] at hi
    rw [List.getElem?_map, List.getElem?_eq_getElem hi] at hx
    cases hx
    obtain ⟨x, hx⟩ := get_some (l := Hx01.liveLinks h) (i := i) (by rw [← hL.1]; exact hi)
    have hk := hL.2 i as[i] x (List.getElem?_eq_getElem hi) hx
    have hk' := hk
    unfold LkAt at hk
    have no : (decide (x.src = a) && decide (x.slot = b)) = false → ((Hx01.liveLinks h).take (i + 1)).find? (fun x => decide (x.src = a) && decide (x.slot = b)) = none := fun c => by
      rw [take_one hx, List.find?_append, hf, Option.none_or, List.find?_cons_of_neg (by rw [c]; exact Bool.false_ne_true)]
      rfl
    refine ⟨_, rfl, as[i], _, _, _, rfl, rfl, SqT.of hk, atI_nat (j := 0) rfl, _, rfl, rfl, _, rfl, ?_⟩
    rw [int_eq]
    cases c1 : decide (x.src = a) with
    | false => exact ifF rfl ⟨_, rfl, rfl, no (by rw [c1]; rfl)⟩
    | true =>
      refine ifT rfl ⟨_, rfl, as[i], _, _, _, rfl, rfl, SqT.of hk, atI_nat (j := 1) rfl, _, rfl, rfl, _, rfl, ?_⟩
      rw [int_eq]
      cases c2 : decide (x.slot = b) with
      | false => exact ifF rfl ⟨_, rfl, rfl, no (by rw [c1, c2]; rfl)⟩
      | true =>
        refine ifT rfl ⟨_, rfl, k2 H3 as[i] x s1 ?_ hk'⟩
        have e2 : Hx01.liveLinks h = (Hx01.liveLinks h).take i ++ x :: (Hx01.liveLinks h).drop (i + 1) := by
          conv => lhs; rw [← List.take_append_drop (i + 1) (Hx01.liveLinks h), take_one hx]
          simp
        rw [e2, List.find?_append, hf, Option.none_or]
        exact List.find?_cons_of_pos (by rw [c1, c2]; rfl)
  · rintro σ H2 ⟨v3, rfl, rfl, hf⟩
    rw [List.length_map, hL.1, List.take_length] at hf
    exact k1 H2 s1 hf
/-! can_go -/
def spCan (A : CA) (n : Nat) : Sp := fun vs H Q _ => ∃ (sa lc : Addr) (o m : Nat) (c : List Link) (p : Hx01.Program) (h : Hx01.Heap), vs = [.ref sa, .int (o : Nat), .ref lc, .int (m : Nat)] ∧ m < n ∧ Sn A H p sa h ∧ WyAt H lc c ∧ c.length + m ≤ 10 ∧
  ∀ (H' : Hp) (b : Bool), Same H H' → (b = true ↔ Kp.Can h o c m) → Q (.bl b) H'
abbrev nCan : List Str := ["heap", "thing", "cut", "more", "ways", "link"]
theorem scCan : FnScope nCan ["heap", "thing", "cut", "more"] (defScope sCan) := ⟨rfl, rfl, rfl, by decide +kernel, rfl, by decide +kernel, by decide +kernel⟩
theorem c_can (T : TxtH A w K mg) : ∀ n, Cb P w K mg base (n + 3) "can_go" ["heap", "thing", "cut", "more"] (spCan A n)
  | 0 => by
    refine T.dCan.cb scCan (fun vs H Q E h => ?_) (fun fa cdv Ar outer s H vs Q E hr h => ?_)
    · obtain ⟨sa, lc, o, m, c, p, h, rfl, _⟩ := h
      rfl
    obtain ⟨sa, lc, o, m, c, p, h, rfl, hm, _⟩ := h
    exact absurd hm (Nat.not_lt_zero _)
  | n + 1 => by
    have ih := c_can T n
    refine T.dCan.cb scCan (fun vs H Q E h => ?_) (fun fa cdv Ar outer s H vs Q E hr h => ?_)
    · obtain ⟨sa, lc, o, m, c, p, h, rfl, _⟩ := h
      rfl
    obtain ⟨sa, lc, o, m, c, p, h, rfl, hmn, N, hC, hlen, k⟩ := h
    have hu1 : (Ar.deeper (envOfC (Str.ofString "can_go") (defScope sCan) s.heap.objs.size fa cdv)).units + 1 < cLine := by have := hr.un; omega
    have hr2 : Room 2 _ := hr.mono (by omega)
    refine ⟨_, pss_cons (ps_set (i := 4) scCan.nd rfl (Or.inl rfl) (pe_cb (c_ways T) hr2 rfl (pa_cons (pv 0) (pa_cons (pv 2) pa_nil))))
      (pss_cons (ps_if (pt_cmp (pc_dnotin hu1 (pv 1) (pv 4))) (pss_one (ps_ret pe_bl)) pss_nil)
      (pss_cons (ps_if (pt_cmpR op_eq (pv 3) pe_int (nomark _)) (pss_one (ps_ret pe_bl)) pss_nil)
      (pss_cons (ps_for PassesOwn.never rfl (pi_list (pe_dget hu1 (pv 4) (pv 1) noSlName)) (pg_name (i := 5) scCan.nd rfl (.inl rfl))
        (pss_one (ps_if (pt_val (pe_cb ih hr rfl (pa_cons (pv 0) (pa_cons (pv 1) (pa_cons (pe_op op_cat (pv 2) (pe_lst (pa_cons (pv 5) pa_nil))) (pa_cons (pe_op op_sub (pv 3) pe_int) pa_nil)))))) (pss_one (ps_ret pe_bl)) pss_nil)))
      (pss_one (ps_ret pe_bl))))), ?_⟩
    have hl := N.links
    refine ⟨_, rfl, _, rfl, sa, lc, c, p, h, rfl, N, hC, fun H1 d acc qs s1 hd hd1 hW F => ?_⟩
    refine ⟨_, rfl, _, rfl, d, _, rfl, DGet.k (k := Sum.inl (o : Int)) hd1, _, rfl, ?_⟩
    rw [wyD_val _ hW.1]
    have hgo : Kp.goes h o c = !Kp.has acc o := by
      unfold Kp.goes
      rw [F.has hl]
    cases hh : Kp.has acc o with
    | false =>
      refine ifT rfl (k H1 true s1 ⟨fun _ => Kp.can_here (by rw [hgo, hh]; rfl), fun _ => rfl⟩)
    | true =>
      refine ifF rfl ?_
      have hng : Kp.goes h o c = false := by rw [hgo, hh]; rfl
      refine ⟨_, rfl, rfl, _, rfl, ?_⟩
      cases m with
      | zero =>
        refine ifT rfl (k H1 false s1 ⟨(fun z => by cases z), fun z => ?_⟩)
        rw [Kp.can_zero z] at hng
        cases hng
      | succ m =>
        rw [show decide (V.int ((m + 1 : Nat) : Int) = V.int 0) = false from decide_eq_false (fun z => by have := V.int.inj z; omega)]
        refine ifF rfl ?_
        obtain ⟨i, y, q, hy, hq, hval, hfind⟩ := wyD_get hW.1 hh
        have hym := List.mem_of_getElem? hy
        have hyo : y.1 = o := by
          have := List.find?_some hfind
          simpa using this
        have hway : Kp.Wy (Kp.cutL h c) y.2 o := by rw [← hyo]; exact F.way y hym
        obtain ⟨as, hq1, hL⟩ := hW.2 i q y hq hy
        have hg := DGet.k (k := Sum.inl (o : Int)) hd1
        rw [hval] at hg
        refine ⟨_, rfl, _, rfl, d, _, rfl, hg, q, rfl, ⟨_, SqL.of hq1⟩, ?_⟩
        refine for_it (walk_list (K := K) (a := q) (xs := as.map V.ref)) (fun i σ H' => ∃ v5, σ = [some (.ref sa), some (.int (o : Nat)), some (.ref lc), some (.int ((m + 1 : Nat) : Int)), some (.ref d), v5] ∧ Same H1 H' ∧ ∀ x ∈ y.2.take i, ¬ Kp.Can h o (c ++ [x]) m)
          ⟨none, rfl, Same.refl _, (fun x hx => by cases hx)⟩ (fun i σ H' _ ⟨_, _, s, _⟩ => SqL.of (s _ _ hq1)) ?_ ?_
        · rintro j v σ H2 H3 hj ⟨v5, rfl, s2, hno⟩ ⟨rfl, hx⟩
          rw [List.length_map] at hj
          rw [List.getElem?_map, List.getElem?_eq_getElem hj] at hx
          cases hx
          obtain ⟨x, hx⟩ := get_some (l := y.2) (i := j) (by rw [← hL.1]; exact hj)
          have hk : LkAt H3 as[j] x := s2 _ _ (hL.2 j as[j] x (List.getElem?_eq_getElem hj) hx)
          obtain ⟨cs, hc1, hc2⟩ := hC.go (s1.trans s2)
          refine ⟨_, rfl, _, rfl, _, rfl, _, rfl, big (show 1 ≤ 100000 by decide), fun e he => ?_⟩
          have se : Same H3 (upd H3 e (.lst [V.ref as[j]])) := same_upd (Same.refl _) he
          have lcs := hc2.1
          refine ⟨lc, e, _, _, rfl, rfl, se _ _ hc1, upd_same, big (by rw [List.length_map]; show _ + 1 ≤ 100000; omega), fun z hz => ?_⟩
          have sz : Same (upd H3 e (.lst [V.ref as[j]])) (upd (upd H3 e (.lst [V.ref as[j]])) z (.lst (cs.map V.ref ++ [V.ref as[j]]))) := same_upd (Same.refl _) hz
          have s3 := se.trans sz
          have em : ((m + 1 : Nat) : Int) - 1 = (m : Nat) := by omega
          refine ⟨_, rfl, _, _, rfl, rfl, ?_⟩
          refine ⟨sa, z, o, m, c ++ [x], p, h, congrArg (fun q => [V.ref sa, V.int (o : Nat), V.ref z, V.int q]) em, by omega, N.go ((s1.trans s2).trans s3), ⟨cs ++ [as[j]], by rw [upd_same, List.map_append]; rfl, (hc2.go s3).snoc (s3 _ _ hk)⟩, by rw [List.length_append, List.length_singleton]; omega, fun H4 b s4 hb => ?_⟩
          have s24 := s2.trans (s3.trans s4)
          refine ⟨_, rfl, ?_⟩
          cases b with
          | true =>
            refine ifT rfl (k H4 true (s1.trans s24) ⟨fun _ => Kp.can_step hl (Kp.way_live hl hway x (List.mem_of_getElem? hx)) (hb.mp rfl), fun _ => rfl⟩)
          | false =>
            refine ifF rfl ⟨_, rfl, s24, fun y' hy' => ?_⟩
            rw [take_one hx] at hy'
            rcases List.mem_append.mp hy' with z | z
            · exact hno y' z
            · rw [List.mem_singleton.mp z]
              exact fun a => by cases hb.mpr a
        · rintro σ H2 ⟨v5, rfl, s2, hno⟩
          rw [List.length_map, hL.1, List.take_length] at hno
          exact k H2 false (s1.trans s2) ⟨(fun z => by cases z), fun a => absurd a (Kp.can_not hl hway hno)⟩
end
end Kq
namespace Kq
open PySem PySem.Spec PyProof.Rows L2
open Hx01 (Link)
section
variable {P : Program} {w : World} {K : PySem.W.Frag} {mg : Str → Option Value} {base : Heap} {A : CA}
def spFirst (A : CA) : Sp := fun vs H Q _ => ∃ (sa : Addr) (o cnt : Nat) (p : Hx01.Program) (h : Hx01.Heap), vs = [.ref sa, .int (o : Nat), .int (cnt : Nat)] ∧ cnt ≤ 3 ∧ Sn A H p sa h ∧
  ∀ (H' : Hp) (D : Addr), Same H H' → H D = none → WyAt H' D (Kp.first h o cnt) → Q (.ref D) H'
abbrev nFirst : List Str := ["heap", "thing", "count", "row", "link"]
theorem scFirst : FnScope nFirst ["heap", "thing", "count"] (defScope sFirst) := ⟨rfl, rfl, rfl, by decide +kernel, rfl, by decide +kernel, by decide +kernel⟩
theorem c_first (T : TxtH A w K mg) : Cb P w K mg base 7 "first_row_of_cuts" ["heap", "thing", "count"] (spFirst A) := by
  refine T.dFirst.cb scFirst (fun vs H Q E h => ?_) (fun fa cdv Ar outer s H vs Q E hr h => ?_)
  · obtain ⟨sa, o, cnt, p, h, rfl, _⟩ := h
    rfl
  obtain ⟨sa, o, cnt, p, h, rfl, hc3, N, k⟩ := h
  have hr4 : Room 4 _ := hr.mono (by decide)
  refine ⟨_, pss_cons (ps_set (i := 3) scFirst.nd rfl (Or.inl rfl) (pe_lst pa_nil))
    (pss_cons (ps_for PassesOwn.never rfl (pi_list (pe_cb (c_uses T) hr4 rfl (pa_cons (pv 0) pa_nil))) (pg_name (i := 4) scFirst.nd rfl (.inl rfl))
      (pss_one (ps_if (PW.pt (pw_and (pt_cmpR op_lt (pe_callB call_len_seq (by rfl) T.len PySem.boot_len (pa_cons (pv 3) pa_nil)) (pv 2) (nomark _))
          (pw_and1 (pt_val (pe_cb (c_can T 3) hr rfl (pa_cons (pv 0) (pa_cons (pv 1) (pa_cons (pe_op op_cat (pv 3) (pe_lst (pa_cons (pv 4) pa_nil))) (pa_cons (pe_op op_sub (pe_op op_sub (pv 2) (pe_callB call_len_seq (by rfl) T.len PySem.boot_len (pa_cons (pv 3) pa_nil))) pe_int) pa_nil)))))))))
        (pss_one (ps_expr (pe_bm PySem.F.plainAttrs_list PySem.F.slot_list_append PySem.F.type_list_append mt_append (pv 3) (pa_cons (pv 4) pa_nil)))) pss_nil)))
    (pss_one (ps_ret (pv 3)))), ?_⟩
  refine ⟨big (show 0 ≤ 100000 by decide), fun D hD => ?_⟩
  have s0 : Same H (upd H D (.lst [])) := same_upd (Same.refl _) hD
  refine ⟨_, rfl, sa, p, h, rfl, N.go s0, fun H1 l1 as s1 hl1 hl1' hL hal => ?_⟩
  have hD1 : H1 D = some (.lst []) := s1 _ _ upd_same
  have nlD : l1 ≠ D := fun z => by rw [z, upd_same] at hl1; cases hl1
  have sb1 : Same H (but [D] H1) := but_out_of (s0.trans s1) (fun b hb => by rw [List.mem_singleton.mp hb]; exact hD)
  have hl1b : but [D] H1 l1 = some (.lst (as.map V.ref)) := (but_out (by simpa using nlD)).trans hl1'
  have hLb : LksAt (but [D] H1) as (Hx01.liveLinks h) := hL.out fun b hb xs => by
    rw [List.mem_singleton.mp hb, hD1]
    intro z
    cases z
  refine ⟨l1, rfl, ⟨_, SqL.of hl1'⟩, ?_⟩
  refine for_it (walk_list (K := K) (a := l1) (xs := as.map V.ref)) (fun i σ H' => ∃ v4, σ = [some (.ref sa), some (.int (o : Nat)), some (.int (cnt : Nat)), some (.ref D), v4] ∧ Same (but [D] H1) (but [D] H') ∧
      ∃ rs : List Addr, H' D = some (.lst (rs.map V.ref)) ∧ LksAt (but [D] H') rs (((Hx01.liveLinks h).take i).foldl (Kp.pick h o cnt) []))
    ⟨none, rfl, Same.refl _, [], hD1, LksAt.nil⟩ (fun i σ H' _ ⟨_, _, s, _⟩ => SqL.of (but_le _ _ (s _ _ hl1b))) ?_ ?_
  · rintro j v σ H2 H3 hj ⟨v4, rfl, s2, rs, hr2, hR2⟩ ⟨rfl, hx⟩
    rw [List.length_map] at hj
    rw [List.getElem?_map, List.getElem?_eq_getElem hj] at hx
    cases hx
    obtain ⟨x, hx⟩ := get_some (l := Hx01.liveLinks h) (i := j) (by rw [← hL.1]; exact hj)
    have hkb : LkAt (but [D] H3) as[j] x := s2 _ _ (hLb.2 j as[j] x (List.getElem?_eq_getElem hj) hx)
    have hk := but_le _ _ hkb
    rw [take_one hx, List.foldl_append, List.foldl_cons, List.foldl_nil]
    have lp : (((Hx01.liveLinks h).take j).foldl (Kp.pick h o cnt) []).length ≤ cnt := Kp.pick_len _ _ (Nat.zero_le _)
    generalize ((Hx01.liveLinks h).take j).foldl (Kp.pick h o cnt) [] = R at hR2 lp ⊢
    have lR := hR2.1
    refine ⟨_, rfl, D, _, rfl, .inl (SqL.of hr2), _, rfl, _, _, rfl, rfl, _, rfl, ?_⟩
    rw [List.length_map]
    by_cases c : rs.length < cnt
    · rw [decide_eq_true (by omega)]
      refine ifT rfl ?_
      refine ⟨_, rfl, _, rfl, _, rfl, _, rfl, big (show 1 ≤ 100000 by decide), fun e he => ?_⟩
      have se : Same H3 (upd H3 e (.lst [V.ref as[j]])) := same_upd (Same.refl _) he
      refine ⟨D, e, _, _, rfl, rfl, se _ _ hr2, upd_same, big (by rw [List.length_map]; show _ + 1 ≤ 100000; omega), fun z hz => ?_⟩
      have sz : Same (upd H3 e (.lst [V.ref as[j]])) (upd (upd H3 e (.lst [V.ref as[j]])) z (.lst (rs.map V.ref ++ [V.ref as[j]]))) := same_upd (Same.refl _) hz
      have s3 := se.trans sz
      have em : ((cnt : Nat) : Int) - ((rs.map V.ref).length : Nat) - 1 = ((cnt - R.length - 1 : Nat) : Int) := by rw [List.length_map]; omega
      refine ⟨_, rfl, _, rfl, D, _, rfl, .inl (SqL.of (s3 _ _ hr2)), _, _, rfl, rfl, _, _, rfl, rfl, ?_⟩
      refine ⟨sa, z, o, cnt - R.length - 1, R ++ [x], p, h, congrArg (fun q => [V.ref sa, V.int (o : Nat), V.ref z, V.int q]) em, by omega, N.go (sb1.trans (s2.trans (but_le.trans s3))), ⟨rs ++ [as[j]], by rw [upd_same, List.map_append]; rfl, ((hR2.go but_le).go s3).snoc (s3 _ _ hk)⟩, by rw [List.length_append, List.length_singleton]; omega, fun H4 b s4 hb => ?_⟩
      have s34 := s3.trans s4
      refine ⟨_, rfl, ?_⟩
      cases b with
      | true =>
        rw [Kp.pick_yes ⟨by omega, hb.mp rfl⟩]
        refine ifT rfl ⟨_, rfl, .inl ⟨rfl, _, SqL.of (s34 _ _ hr2)⟩, _, rfl, D, _, _, rfl, rfl, s34 _ _ hr2, bigLt (by rw [List.length_map]; omega), ?_⟩
        refine ⟨_, rfl, ?_, rs ++ [as[j]], by rw [upd_same, List.map_append]; rfl, ?_⟩
        · rw [but_upd (by simp)]
          exact s2.trans (but_same s34)
        · rw [but_upd (by simp)]
          exact (hR2.go (but_same s34)).snoc (but_same s34 _ _ hkb)
      | false =>
        rw [Kp.pick_no (fun q => by cases hb.mpr q.2)]
        exact ifF rfl ⟨_, rfl, s2.trans (but_same s34), rs, s34 _ _ hr2, hR2.go (but_same s34)⟩
    · rw [decide_eq_false (by omega), Kp.pick_no (fun q => by omega)]
      exact ifF rfl ⟨_, rfl, s2, rs, hr2, hR2⟩
  · rintro σ H2 ⟨v4, rfl, s2, rs, hr2, hR2⟩
    rw [List.length_map, hL.1, List.take_length] at hR2
    exact ⟨_, rfl, k H2 D (sb1.trans (s2.trans but_le)) hD ⟨rs, hr2, hR2.go but_le⟩⟩
def spFew (A : CA) : Sp := fun vs H Q _ => ∃ (sa : Addr) (o : Nat) (p : Hx01.Program) (h : Hx01.Heap), vs = [.ref sa, .int (o : Nat)] ∧ Sn A H p sa h ∧ o ∈ Hx01.live h ∧
  (∀ H', Same H H' → Hx01.fewest h o = none → Q .non H') ∧ ∀ (H' : Hp) (D : Addr) (c : List Link), Same H H' → H D = none → WyAt H' D c → Hx01.fewest h o = some c → c.length ≤ 3 → Q (.ref D) H'
abbrev nFew : List Str := ["heap", "thing", "count"]
theorem scFew : FnScope nFew ["heap", "thing"] (defScope sFew) := ⟨rfl, rfl, rfl, by decide +kernel, rfl, by decide +kernel, by decide +kernel⟩
theorem c_few (T : TxtH A w K mg) : Cb P w K mg base 8 "fewest_cuts" ["heap", "thing"] (spFew A) := by
  refine T.dFew.cb scFew (fun vs H Q E h => ?_) (fun fa cdv Ar outer s H vs Q E hr h => ?_)
  · obtain ⟨sa, o, p, h, rfl, _⟩ := h
    rfl
  obtain ⟨sa, o, p, h, rfl, N, hlive, k1, k2⟩ := h
  refine ⟨_, pss_cons (ps_for PassesOwn.never rfl (pi_range2 (by rfl) T.range_ (pa_cons pe_int (pa_cons (pe_op op_add (pe_gI T.cCut rfl) pe_int) pa_nil))) (pg_name (i := 2) scFew.nd rfl (.inl rfl))
      (pss_one (ps_if (pt_val (pe_cb (c_can T 4) hr rfl (pa_cons (pv 0) (pa_cons (pv 1) (pa_cons (pe_lst pa_nil) (pa_cons (pv 2) pa_nil))))))
        (pss_one (ps_ret (pe_cb (c_first T) hr rfl (pa_cons (pv 0) (pa_cons (pv 1) (pa_cons (pv 2) pa_nil)))))) pss_nil)))
    (pss_one (ps_ret pe_non)), ?_⟩
  have hl := N.links
  refine ⟨_, _, rfl, rfl, 1, 4, rfl, ⟨by decide, by decide, by decide, by decide⟩, ?_⟩
  have h0 : ¬ Kp.Can h o [] 0 := fun a => by
    have g := Kp.can_zero a
    rw [Kp.goes_iff hl, Kp.cutL_nil] at g
    exact g ((Kp.live_iff hl).mp hlive)
  refine for_it (walk_range (lo := 1) (n := 3)) (fun i σ H' => ∃ v2, σ = [some (.ref sa), some (.int (o : Nat)), v2] ∧ Same H H' ∧ ¬ Kp.Can h o [] i) ⟨none, rfl, Same.refl _, h0⟩ (fun _ _ _ _ _ => trivial) ?_ ?_
  · rintro i v σ H2 H3 hi ⟨v2, rfl, s2, hno⟩ ⟨rfl, hv⟩
    have ei : (1 : Int) + ((i : Nat) : Int) = ((i + 1 : Nat) : Int) := by omega
    obtain rfl : v = V.int ((i + 1 : Nat) : Int) := hv.trans (congrArg V.int ei)
    refine ⟨_, rfl, _, rfl, big (show 0 ≤ 100000 by decide), fun l0 hl0 => ?_⟩
    have s3 : Same H3 (upd H3 l0 (.lst [])) := same_upd (Same.refl _) hl0
    refine ⟨_, rfl, sa, l0, o, i + 1, [], p, h, rfl, by omega, N.go (s2.trans s3), WyAt.nil upd_same, by simp; omega, fun H4 b s4 hb => ?_⟩
    have s24 := s2.trans (s3.trans s4)
    refine ⟨_, rfl, ?_⟩
    cases b with
    | true =>
      refine ifT rfl ⟨_, rfl, _, rfl, _, rfl, sa, o, i + 1, p, h, rfl, by omega, N.go s24, fun H5 D s5 hD5 hW => ?_⟩
      exact k2 H5 D _ (s24.trans s5) (s24.free hD5) hW (Kp.fewest_some hl hi (hb.mp rfl) hno) (Nat.le_trans (Kp.pick_len _ _ (Nat.zero_le _)) (by omega))
    | false => exact ifF rfl ⟨_, rfl, s24, fun a => by cases hb.mpr a⟩
  · rintro σ H2 ⟨v2, rfl, s2, hno⟩
    exact k1 H2 s2 (Kp.fewest_none hno)
end
end Kq
namespace Kq
open PySem PySem.Spec PyProof.Rows L2
open Hx01 (Link)
/-! lists of numbers as data -/
def nD (n : Nat) : PyData := .int (n : Nat)
theorem nDs_eqv : ∀ l m : List Nat, PyData.eqvAll (l.map nD) (m.map nD) = decide (l = m)
  | [], [] => by simp [PyData.eqvAll]
  | [], y :: m => by simp [PyData.eqvAll]
  | x :: l, [] => by simp [PyData.eqvAll]
  | x :: l, y :: m => by
    rw [List.map_cons, List.map_cons]
    simp only [PyData.eqvAll, nD, PyData.eqv]
    have ih := nDs_eqv l m
    rw [ih, Bool.eq_iff_iff]
    simp only [Bool.and_eq_true, beq_iff_eq, decide_eq_true_eq, List.cons.injEq]
    constructor
    · rintro ⟨a, b⟩
      exact ⟨by omega, b⟩
    · rintro ⟨a, b⟩
      exact ⟨by omega, b⟩
theorem nDs_lay : ∀ l : List Nat, PyData.canLayAll0 (l.map nD) = true
  | [] => by simp [PyData.canLayAll0]
  | x :: l => by
    have := nDs_lay l
    simp [PyData.canLayAll0, nD, PyData.canLay0] at this ⊢
    exact this
theorem nDs_depth : ∀ l : List Nat, PyData.depthAll (l.map nD) ≤ 1
  | [] => by simp [PyData.depthAll]
  | x :: l => by
    have h1 := nDs_depth l
    simp only [List.map_cons, PyData.depthAll, nD, PyData.depth] at h1 ⊢
    omega
theorem nDs_shaped (l : List Nat) : SeqAt.shaped (.list (l.map nD)) = true := by
  have h1 := nDs_depth l
  have h2 : PyData.depth (.list (l.map nD)) ≤ 64 := by
    simp only [PyData.depth]
    omega
  unfold SeqAt.shaped
  rw [Bool.and_eq_true]
  exact ⟨by simp only [PyData.canLay0]; exact nDs_lay l, decide_eq_true h2⟩
theorem nDs_dp {K : PySem.W.Frag} {H : Hp} : ∀ l : List Nat, DpAll K H (vI l) (l.map nD)
  | [] => .nil
  | x :: l => .cons (.int _) (nDs_dp l)
theorem ne_lists {K : PySem.W.Frag} {H : Hp} {a b : Addr} {l m : List Nat} {Q : VK} (h1 : H a = some (.lst (vI l))) (h2 : H b = some (.lst (vI m))) (q : Q (.bl (!decide (l = m))) H) : rNeD K (.ref a) (.ref b) H Q := by
  refine ⟨.list (l.map nD), .list (m.map nD), .lst (SqL.of h1) (nDs_dp l), .lst (SqL.of h2) (nDs_dp m), nDs_shaped l, nDs_shaped m, ?_⟩
  have e : PyData.eqv (.list (l.map nD)) (.list (m.map nD)) = decide (l = m) := by
    rw [← nDs_eqv]
    simp only [PyData.eqv]
  rw [e]
  exact q
section
variable {P : Program} {w : World} {K : PySem.W.Frag} {mg : Str → Option Value} {base : Heap} {A : CA}
def spStill (A : CA) : Sp := fun vs H Q _ => ∃ (sa lt : Addr) (l : List Nat) (p : Hx01.Program) (h : Hx01.Heap), vs = [.ref sa, .ref lt] ∧ Sn A H p sa h ∧ H lt = some (.lst (vI l)) ∧ l.length ≤ 100 ∧ ∀ (H' : Hp) (D : Addr), Same H H' → H D = none → H' D = some (.lst (vI (Kp.cstep (Hx01.links h) l))) → Q (.ref D) H'
abbrev nStill : List Str := ["heap", "there", "held", "link", "thing"]
theorem scStill : FnScope nStill ["heap", "there"] (defScope sStill) := ⟨rfl, rfl, rfl, by decide +kernel, rfl, by decide +kernel, by decide +kernel⟩
theorem c_still (T : TxtH A w K mg) : Cb P w K mg base 3 "still_held" ["heap", "there"] (spStill A) := by
  refine T.dStill.cb scStill (fun vs H Q E h => ?_) (fun fa cdv Ar outer s H vs Q E hr h => ?_)
  · obtain ⟨sa, lt, l, p, h, rfl, _⟩ := h
    rfl
  obtain ⟨sa, lt, l, p, h, rfl, N, hlt, hlen, k⟩ := h
  refine ⟨_, pss_cons (ps_set (i := 2) scStill.nd rfl (Or.inr rfl) (pe_lc (own := [("link", 3)]) (g := gName 3) (tt := ttUse K 3 1) (te := tOp (rIxT K) (tVar 3) (tC (.int 2))) rfl scStill.nd (pi_list (pe_cb (c_all T) hr rfl (pa_cons (pv 0) pa_nil)))
      (blkOk_by (own := [("link", 3)]) (N := nStill) (sc := defScope sStill) (by decide +kernel)) (fun _ _ _ _ _ => pg_name (i := 3) scStill.nd rfl (Or.inl rfl))
      (fun _ _ _ _ _ => pts_one (PW.pt (pw_or (pt_cmpR op_eq (pe_ix ix_tup (pv 3) pe_int (fun _ _ => rfl)) pe_int (nomark _)) (pw_or1 (pt_cmpR op_in_seq (pe_op op_sub (pe_ix ix_tup (pv 3) pe_int (fun _ _ => rfl)) pe_int) (pv 1) rfl))))) (fun _ _ _ _ _ => pe_ix ix_tup (pv 3) pe_int (fun _ _ => rfl))))
    (pss_one (ps_ret (pe_lc (own := [("thing", 4)]) (g := gName 4) (tt := tTest (tOp (rIn K false) (tVar 4) (tVar 2))) (te := tVar 4) rfl scStill.nd (pi_list (pv 1))
      (blkOk_by (own := [("thing", 4)]) (N := nStill) (sc := defScope sStill) (by decide +kernel)) (fun _ _ _ _ _ => pg_name (i := 4) scStill.nd rfl (Or.inl rfl))
      (fun _ _ _ _ _ => pts_one (pt_cmpR op_in_seq (pv 4) (pv 2) rfl)) (fun _ _ _ _ _ => pv 4)))), ?_⟩
  refine ⟨_, rfl, sa, p, h, rfl, N, fun H1 l1 as s1 hl1 hl1' hL hal => ?_⟩
  refine ⟨l1, rfl, ⟨_, SqL.of hl1'⟩, fun D hD => ?_⟩
  refine lc_pick (K := K) (a := l1) (L := as.zip (Hx01.links h)) (f := fun y => V.ref y.1) (fun y => decide (y.2.src = 0) || l.contains (y.2.src - 1)) (fun y => V.int (y.2.to : Nat)) (by rw [zip_fst hL.1]; exact SqL.of hl1') hD (by rw [List.length_zip]; omega) ?_ ?_
  · rintro i ⟨a, x⟩ H3 hx s3 _ Ny Zn kN kZ
    have hk3 : LkAt H3 a x := but_le _ _ (s3 _ _ (hL.zip hx))
    refine ⟨rfl, use_test hk3 (but_le _ _ (s3 _ _ (s1 _ _ hlt))) rfl rfl (if2 (fun e => ?_) (fun e => kZ e _ (Same.refl _)))⟩
    have hk4 := hk3
    unfold LkAt at hk4
    exact ⟨_, rfl, a, _, _, _, rfl, rfl, SqT.of hk4, atI_nat (j := 2) rfl, kN e _ (Same.refl _)⟩
  · intro H3 s3 e3
    have s13 := s1.trans (s3.trans but_le)
    rw [zip_snd hL.1 (fun x => decide (x.src = 0) || l.contains (x.src - 1)) (fun x => V.int (x.to : Nat))] at e3
    have e3 : H3 D = some (.lst (vI (((Hx01.links h).filter fun x => decide (x.src = 0) || l.contains (x.src - 1)).map fun x => x.to))) := by
      rw [e3]
      unfold vI
      rw [List.map_map]
      rfl
    refine ⟨_, rfl, lt, rfl, ⟨_, SqL.of (s13 _ _ hlt)⟩, fun E hE => ?_⟩
    refine lc_pick (K := K) (a := lt) (L := l) (f := fun (n : Nat) => V.int n) (fun o => (((Hx01.links h).filter fun x => decide (x.src = 0) || l.contains (x.src - 1)).map fun x => x.to).contains o) (fun (n : Nat) => V.int n) (SqL.of (s13 _ _ hlt)) hE (by omega) ?_ ?_
    · rintro i n H4 hn s4 _ Ny Zn kN kZ
      have e4 := but_le _ _ (s4 _ _ e3)
      refine ⟨rfl, _, rfl, _, rfl, D, _, rfl, .inl (SqL.of e4), rfl, flat_I _, _, rfl, ?_⟩
      refine if2 (fun c => ?_) (fun c => ?_)
      · have c : inV (.int ((n : Nat) : Int)) (vI _) = true := c
        rw [inV_I] at c
        exact ⟨_, rfl, kN c _ (Same.refl _)⟩
      · have c : inV (.int ((n : Nat) : Int)) (vI _) = false := c
        rw [inV_I] at c
        exact kZ c _ (Same.refl _)
    · intro H4 s4 e4
      refine k H4 E (s13.trans (s4.trans but_le)) (s13.free hE) ?_
      rw [e4, Kp.cstep_is]
      rfl
def spLeft (A : CA) : Sp := fun vs H Q _ => ∃ (sa : Addr) (p : Hx01.Program) (h : Hx01.Heap), vs = [.ref sa] ∧ Sn A H p sa h ∧ ∀ (H' : Hp) (D : Addr) (l : List Nat), Same H H' → H' D = some (.lst (vI l)) → l.length ≤ 16 → (∀ x ∈ l, x < h.things.length) → Hx01.never h = l.filter (fun o => !(Hx01.live h).contains o) → Q (.ref D) H'
abbrev nLeft : List Str := ["heap", "there", "held"]
theorem scLeft : FnScope nLeft ["heap"] (defScope sLeft) := ⟨rfl, rfl, rfl, by decide +kernel, rfl, by decide +kernel, by decide +kernel⟩
theorem rg_nats (n : Nat) : rgV 0 (n : Nat) = vI (List.range n) := by
  unfold rgV vI
  have e : (((n : Nat) : Int) - 0).toNat = n := by omega
  rw [e]
  refine List.map_congr_left fun i _ => ?_
  rw [Int.zero_add]
theorem c_left (T : TxtH A w K mg) : Cb P w K mg base 4 "left_by_counting" ["heap"] (spLeft A) := by
  refine T.dLeft.cb scLeft (fun vs H Q E h => ?_) (fun fa cdv Ar outer s H vs Q E hr h => ?_)
  · obtain ⟨sa, p, h, rfl, _⟩ := h
    rfl
  obtain ⟨sa, p, h, rfl, N, k⟩ := h
  refine ⟨_, pss_cons (ps_set (i := 1) scLeft.nd rfl (Or.inl rfl) (pe_listRg rfl (by rfl) T.list_ (prg_1 (by rfl) T.range_ (pe_callB call_len_seq (by rfl) T.len PySem.boot_len (pa_cons (pe_fld (pv 0) rfl) pa_nil)))))
    (pss_cons (ps_set (i := 2) scLeft.nd rfl (Or.inl rfl) (pe_cb (c_still T) hr rfl (pa_cons (pv 0) (pa_cons (pv 1) pa_nil))))
    (pss_cons (ps_while PassesOwn.never (pt_cmpR (op_neD hr.units) (pv 2) (pv 1) (nomark _))
      (pss_cons (ps_set (i := 1) scLeft.nd rfl (Or.inl rfl) (pv 2))
      (pss_one (ps_set (i := 2) scLeft.nd rfl (Or.inl rfl) (pe_cb (c_still T) hr rfl (pa_cons (pv 0) (pa_cons (pv 1) pa_nil)))))))
    (pss_one (ps_ret (pv 1))))), ?_⟩
  have hm := N.ok.many
  obtain ⟨dh, lt, lv, ts, fs, h1, h2, h3, t1, t2, t3⟩ := N.at_
  refine ⟨_, rfl, sa, A.heap, dh, _, _, rfl, h1, T.cHeap.cl, T.cHeap.na _ (by decide +kernel), hpF_things _ _, lt, _, rfl, .inl (SqL.of h2), ?_⟩
  rw [List.length_map, t1]
  refine ⟨_, rfl, ⟨by decide, by decide, by omega, by omega, by omega⟩, fun l0 hl0 => ?_⟩
  rw [rg_nats]
  have s0 : Same H (upd H l0 (.lst (vI (List.range h.things.length)))) := same_upd (Same.refl _) hl0
  refine ⟨_, rfl, _, rfl, sa, l0, List.range h.things.length, p, h, rfl, N.go s0, upd_same, by rw [List.length_range]; omega, fun H1 D s1 hD e1 => ?_⟩
  refine ⟨fun m σ H' => ∃ (a b : Addr) (l : List Nat) (kk : Nat), σ = [some (.ref sa), some (.ref a), some (.ref b)] ∧ m = l.length ∧ Same H H' ∧ H' a = some (.lst (vI l)) ∧ H' b = some (.lst (vI (Kp.cstep (Hx01.links h) l))) ∧ Kp.CInv h kk l,
    ⟨_, l0, D, _, _, rfl, rfl, s0.trans s1, s1 _ _ upd_same, e1, Kp.CInv.start h⟩, ?_⟩
  rintro m σ H' ⟨a, b, l, kk, rfl, rfl, s', ha, hb, C⟩
  have hll : l.length ≤ 16 := by
    have := C.sub.length_le
    rw [List.length_range] at this
    omega
  refine ⟨_, rfl, _, rfl, ne_lists hb ha ⟨_, rfl, ?_⟩⟩
  by_cases c : Kp.cstep (Hx01.links h) l = l
  · rw [decide_eq_true c]
    refine ifF rfl ⟨_, rfl, k H' a l s' ha hll (fun x hx => ?_) (C.done c)⟩
    exact List.mem_range.mp (C.sub.mem hx)
  · rw [decide_eq_false c]
    refine ifT rfl ?_
    refine ⟨fun σ' H2 => ∃ m', m' < l.length ∧ ∃ (a b : Addr) (l : List Nat) (kk : Nat), σ' = [some (.ref sa), some (.ref a), some (.ref b)] ∧ m' = l.length ∧ Same H H2 ∧ H2 a = some (.lst (vI l)) ∧ H2 b = some (.lst (vI (Kp.cstep (Hx01.links h) l))) ∧ Kp.CInv h kk l, fun σ' H2 h => h, ?_⟩
    obtain ⟨k', rfl, C2⟩ := C.step c
    refine ⟨_, rfl, ?_⟩
    refine ⟨_, rfl, _, rfl, sa, b, _, p, h, rfl, N.go s', hb, by have := Kp.cstep_lt c; omega, fun H2 D2 s2 hD2 e2 => ?_⟩
    exact ⟨_, Kp.cstep_lt c, b, D2, _, k', rfl, rfl, s'.trans s2, s2 _ _ hb, e2, C2⟩
def spFreed (A : CA) : Sp := fun vs H Q _ => ∃ (sa : Addr) (p : Hx01.Program) (h : Hx01.Heap), vs = [.ref sa] ∧ Sn A H p sa h ∧ ∀ (H' : Hp) (D : Addr), Same H H' → H' D = some (.lst (vI (Hx01.never h))) → (Hx01.never h).length ≤ 16 → (∀ x ∈ Hx01.never h, x < h.things.length) → Q (.ref D) H'
abbrev nFreed : List Str := ["heap", "reached", "thing"]
theorem scFreed : FnScope nFreed ["heap"] (defScope sFreed) := ⟨rfl, rfl, rfl, by decide +kernel, rfl, by decide +kernel, by decide +kernel⟩
theorem c_freed (T : TxtH A w K mg) : Cb P w K mg base 5 "never_freed" ["heap"] (spFreed A) := by
  refine T.dFreed.cb scFreed (fun vs H Q E h => ?_) (fun fa cdv Ar outer s H vs Q E hr h => ?_)
  · obtain ⟨sa, p, h, rfl, _⟩ := h
    rfl
  obtain ⟨sa, p, h, rfl, N, k⟩ := h
  have hr3 : Room 3 _ := hr.mono (by decide)
  refine ⟨_, pss_cons (ps_set (i := 1) scFreed.nd rfl (Or.inr rfl) (pe_cb (c_come T) hr3 rfl (pa_cons (pv 0) pa_nil)))
    (pss_one (ps_ret (pe_lc (own := [("thing", 2)]) (g := gName 2) (tt := tTest (tOp (rIn K true) (tVar 2) (tVar 1))) (te := tVar 2) rfl scFreed.nd (pi_list (pe_cb (c_left T) hr rfl (pa_cons (pv 0) pa_nil)))
      (blkOk_by (own := [("thing", 2)]) (N := nFreed) (sc := defScope sFreed) (by decide +kernel)) (fun _ _ _ _ _ => pg_name (i := 2) scFreed.nd rfl (Or.inl rfl))
      (fun _ _ _ _ _ => pts_one (pt_cmpR op_notIn_seq (pv 2) (pv 1) rfl)) (fun _ _ _ _ _ => pv 2)))), ?_⟩
  refine ⟨_, rfl, sa, p, h, rfl, N, fun H1 l1 s1 hl1 hl1' => ?_⟩
  refine ⟨_, rfl, sa, p, h, rfl, N.go s1, fun H2 l2 l s2 hl2 hll hlt hn => ?_⟩
  refine ⟨l2, rfl, ⟨_, SqL.of hl2⟩, fun D hD => ?_⟩
  refine lc_pick (K := K) (a := l2) (L := l) (f := fun (n : Nat) => V.int n) (fun o => !(Hx01.live h).contains o) (fun (n : Nat) => V.int n) (SqL.of hl2) hD (by omega) ?_ ?_
  · rintro i n H3 hn s3 _ Ny Zn kN kZ
    have e3 := but_le _ _ (s3 _ _ (s2 _ _ hl1'))
    refine ⟨rfl, _, rfl, _, rfl, l1, _, rfl, .inl (SqL.of e3), rfl, flat_I _, _, rfl, ?_⟩
    refine if2 (fun c => ?_) (fun c => ?_)
    · have c : (!inV (.int ((n : Nat) : Int)) (vI _)) = true := c
      rw [inV_I] at c
      exact ⟨_, rfl, kN c _ (Same.refl _)⟩
    · have c : (!inV (.int ((n : Nat) : Int)) (vI _)) = false := c
      rw [inV_I] at c
      exact kZ c _ (Same.refl _)
  · intro H3 s3 e3
    refine k H3 D ((s1.trans s2).trans (s3.trans but_le)) (by rw [e3, hn]; rfl) ?_ fun x hx => ?_
    · rw [hn]
      exact Nat.le_trans (List.length_filter_le _ _) hll
    · rw [hn] at hx
      exact hlt x (List.mem_filter.mp hx).1
end
end Kq
namespace Kq
open PySem PySem.Spec PyProof.Rows L2
open Hx01 (Link)
/-! numbers by numbers -/
def szD (g : Nat → Nat) (l : List Nat) : List (Key × V) := l.map fun (x : Nat) => (Sum.inl (x : Int), V.int (g x : Nat))
theorem szD_none {g : Nat → Nat} : ∀ {l : List Nat} {x : Nat}, x ∉ l → valV (szD g l) (Sum.inl (x : Int)) = none
  | [], x, _ => rfl
  | y :: l, x, h => by
    have e : szD g (y :: l) = (Sum.inl (y : Int), V.int (g y : Nat)) :: szD g l := rfl
    rw [e, valV_neg (fun z => h (by have := Int.ofNat.inj (Sum.inl.inj z); rw [← this]; exact List.mem_cons_self))]
    exact szD_none fun z => h (List.mem_cons_of_mem _ z)
theorem szD_get {g : Nat → Nat} : ∀ {l : List Nat} {x : Nat}, x ∈ l → valV (szD g l) (Sum.inl (x : Int)) = some (.int (g x : Nat))
  | [], x, h => by cases h
  | y :: l, x, h => by
    have e : szD g (y :: l) = (Sum.inl (y : Int), V.int (g y : Nat)) :: szD g l := rfl
    by_cases c : y = x
    · subst c
      rw [e, valV_pos rfl]
    · rw [e, valV_neg (fun z => c (Int.ofNat.inj (Sum.inl.inj z)))]
      refine szD_get ?_
      rcases List.mem_cons.mp h with z | z
      · exact absurd z.symm c
      · exact z
theorem szD_put {g : Nat → Nat} {l : List Nat} {x : Nat} (c : x ∉ l) : putK (szD g l) (Sum.inl (x : Int)) (.int (g x : Nat)) = szD g (l ++ [x]) := by
  rw [putK_new _ (szD_none c)]
  unfold szD
  rw [List.map_append]
  rfl
theorem szD_congr {g g' : Nat → Nat} {l : List Nat} (h : ∀ x ∈ l, g x = g' x) : szD g l = szD g' l := List.map_congr_left fun x hx => by rw [h x hx]
theorem szD_set {g g' : Nat → Nat} {l : List Nat} {r : Nat} (c : r ∈ l) (h : ∀ x, x ≠ r → g x = g' x) : putK (szD g l) (Sum.inl (r : Int)) (.int (g' r : Nat)) = szD g' l := by
  unfold putK
  rw [valV_any, szD_get c, Option.isSome_some, if_pos rfl]
  unfold szD
  rw [List.map_map]
  refine List.map_congr_left fun x _ => ?_
  show (if (Sum.inl (x : Int) : Key) = Sum.inl (r : Int) then _ else _) = _
  by_cases e : x = r
  · subst e
    rw [if_pos rfl]
  · have ne : ¬ (Sum.inl (x : Int) : Key) = Sum.inl (r : Int) := fun z => e (Int.ofNat.inj (Sum.inl.inj z))
    rw [if_neg ne, h x e]
theorem szD_len {g : Nat → Nat} {l : List Nat} : (szD g l).length = l.length := List.length_map _
section
variable {P : Program} {w : World} {K : PySem.W.Frag} {mg : Str → Option Value} {base : Heap} {A : CA}
/-- a snapshot's counts by rows -/
def CntAt (H : Hp) (d : Addr) (h : Hx01.Heap) : Prop := ∃ ks, H d = some (.dK (szD (Hx01.ofRow h) ks)) ∧ Kp.RInvG h (Hx01.live h) ks ∧ ks.length ≤ 16
theorem CntAt.go {H H' : Hp} {d : Addr} {h : Hx01.Heap} (c : CntAt H d h) (s : Same H H') : CntAt H' d h := by
  obtain ⟨ks, a, b⟩ := c
  exact ⟨ks, s _ _ a, b⟩
def spCounts (A : CA) : Sp := fun vs H Q _ => ∃ (sa : Addr) (p : Hx01.Program) (h : Hx01.Heap), vs = [.ref sa] ∧ Sn A H p sa h ∧ ∀ (H' : Hp) (d : Addr), Same H H' → H d = none → CntAt H' d h → Q (.ref d) H'
abbrev nCounts : List Str := ["heap", "counts", "number", "row"]
theorem scCounts : FnScope nCounts ["heap"] (defScope sCounts) := ⟨rfl, rfl, rfl, by decide +kernel, rfl, by decide +kernel, by decide +kernel⟩
theorem c_counts (T : TxtH A w K mg) : Cb P w K mg base 4 "counts_by_row" ["heap"] (spCounts A) := by
  refine T.dCounts.cb scCounts (fun vs H Q E h => ?_) (fun fa cdv Ar outer s H vs Q E hr h => ?_)
  · obtain ⟨sa, p, h, rfl, _⟩ := h
    rfl
  obtain ⟨sa, p, h, rfl, N, k⟩ := h
  have hu1 : (Ar.deeper (envOfC (Str.ofString "counts_by_row") (defScope sCounts) s.heap.objs.size fa cdv)).units + 1 < cLine := by have := hr.un; omega
  refine ⟨_, pss_cons (ps_set (i := 1) scCounts.nd rfl (Or.inl rfl) pe_dnewK)
    (pss_cons (ps_for PassesOwn.never rfl (pi_list (pe_cb (c_come T) hr rfl (pa_cons (pv 0) pa_nil))) (pg_name (i := 2) scCounts.nd rfl (.inl rfl))
      (pss_cons (ps_set (i := 3) scCounts.nd rfl (Or.inl rfl) (pe_fld (pe_ix ix_list (pe_fld (pv 0) rfl) (pv 2) (fun _ _ => rfl)) rfl))
      (pss_one (ps_dput hu1 (pv 1) (pv 3) (pe_op op_add (pe_dget2 hu1 (pv 1) (pv 3) pe_int ⟨rfl, rfl, rfl, rfl⟩) pe_int) rfl))))
    (pss_one (ps_ret (pv 1)))), ?_⟩
  have hm := N.ok.many
  have hlen := Kp.live_len h
  obtain ⟨dh, lt, lv, ts, fs, h1, h2, h3, t1, t2, t3⟩ := N.at_
  intro d hd
  have sd : Same H (upd H d (.dK [])) := same_upd (Same.refl H) hd
  refine ⟨_, rfl, sa, p, h, rfl, N.go sd, fun H1 l1 s1 hl1 hl1' => ?_⟩
  refine ⟨l1, rfl, ⟨_, SqL.of hl1'⟩, ?_⟩
  have hd1 : H1 d = some (.dK []) := s1 _ _ upd_same
  have nld : l1 ≠ d := fun z => by rw [z, hd1] at hl1'; cases hl1'
  have sH : ∀ {H'}, Same (but [d] H1) (but [d] H') → Same H H' := fun {H'} s2 b u e => by
    have n1 : b ≠ d := ne_of_none e hd
    refine but_le _ _ (s2 _ _ ?_)
    rw [but_out (by simpa using n1)]
    exact s1 _ _ (sd _ _ e)
  have hl1b : but [d] H1 l1 = some (.lst (vI (Hx01.live h))) := (but_out (by simpa using nld)).trans hl1'
  refine for_it (walk_list (K := K) (a := l1) (xs := vI (Hx01.live h))) (fun i σ H' => ∃ v2 v3, σ = [some (.ref sa), some (.ref d), v2, v3] ∧ Same (but [d] H1) (but [d] H') ∧ ∃ ks, H' d = some (.dK (szD (Kp.cnt h ((Hx01.live h).take i)) ks)) ∧ Kp.RInvG h ((Hx01.live h).take i) ks ∧ ks.length ≤ i)
    ⟨none, none, rfl, Same.refl _, [], hd1, Kp.RInvG.nil h, Nat.le_refl _⟩ (fun i σ H' _ ⟨_, _, _, s, _⟩ => SqL.of (but_le _ _ (s _ _ hl1b))) ?_ ?_
  · rintro i x σ H2 H3 hi ⟨v2, v3, rfl, s2, ks, hd2, R, lk⟩ ⟨rfl, hx⟩
    rw [vI_len] at hi
    obtain ⟨o, ho, rfl⟩ := vI_at hx
    have hol := Kp.live_lt (List.mem_of_getElem? ho)
    obtain ⟨tt, htt⟩ := get_some (l := h.things) hol
    obtain ⟨to, hto⟩ := get_some (l := ts) (i := o) (by omega)
    obtain ⟨tf, htf⟩ := get_some (l := fs) (i := o) (by omega)
    obtain ⟨⟨dt, e1⟩, e2⟩ := t3 _ to tf tt hto htf htt
    have s3 := sH s2
    have er : Kp.rowAt h o = tt.row := by unfold Kp.rowAt; rw [htt]; rfl
    refine ⟨_, rfl, sa, A.heap, dh, _, _, rfl, s3 _ _ h1, T.cHeap.cl, T.cHeap.na _ (by decide +kernel), hpF_things _ _, _, rfl, lt, _, _, _, rfl, rfl, SqL.of (s3 _ _ h2), atI_nat (j := o) (by rw [List.getElem?_map, hto]; rfl),
      to, A.thing, dt, _, _, rfl, s3 _ _ e1, T.cThing.cl, T.cThing.na _ (by decide +kernel), thF_row _ _ _ _, ?_⟩
    refine ⟨_, rfl, d, rfl, .inl ⟨_, .inl hd2⟩, _, rfl, _, DGet.k (k := Sum.inl (tt.row : Int)) hd2, ?_⟩
    rw [take_one ho]
    by_cases c : tt.row ∈ ks
    · rw [szD_get c]
      refine ⟨_, _, rfl, rfl, _, rfl, _, rfl, d, _, rfl, DPut.k (k := Sum.inl (tt.row : Int)) hd2 (bigLt (by rw [szD_len]; omega)), ?_⟩
      refine ⟨_, _, rfl, ?_, ks, ?_, R.old (by rw [er]; exact c), by omega⟩
      · rw [but_upd (by simp)]; exact s2
      · have e3 : ((Kp.cnt h ((Hx01.live h).take i) tt.row : Nat) : Int) + 1 = ((Kp.cnt h ((Hx01.live h).take i ++ [o]) tt.row : Nat) : Int) := by
          rw [Kp.cnt_snoc, if_pos er]
          omega
        rw [upd_same]
        show some (HO.dK (putK _ _ (V.int (((Kp.cnt h ((Hx01.live h).take i) tt.row : Nat) : Int) + 1)))) = _
        rw [e3, szD_set c fun x hx => by rw [Kp.cnt_snoc, if_neg (fun z => hx (z.symm.trans er)), Nat.add_zero]]
    · rw [szD_none c]
      refine ⟨_, _, rfl, rfl, _, rfl, _, rfl, d, _, rfl, DPut.k (k := Sum.inl (tt.row : Int)) hd2 (bigLt (by rw [szD_len]; omega)), ?_⟩
      have n0 : Kp.cnt h ((Hx01.live h).take i) tt.row = 0 := by
        have : ¬ 0 < Kp.cnt h ((Hx01.live h).take i) tt.row := fun z => c ((R.mem tt.row).mpr z)
        omega
      refine ⟨_, _, rfl, ?_, ks ++ [tt.row], ?_, by rw [← er]; exact R.new (by rw [er]; exact c), by rw [List.length_append, List.length_singleton]; omega⟩
      · rw [but_upd (by simp)]; exact s2
      · have e3 : (0 : Int) + 1 = ((Kp.cnt h ((Hx01.live h).take i ++ [o]) tt.row : Nat) : Int) := by
          rw [Kp.cnt_snoc, if_pos er, n0]
          rfl
        rw [upd_same]
        show some (HO.dK (putK _ _ (V.int ((0 : Int) + 1)))) = _
        rw [e3, szD_congr (g' := Kp.cnt h ((Hx01.live h).take i ++ [o])) fun x hx => by rw [Kp.cnt_snoc, if_neg (fun z => c (by rw [← er, z]; exact hx)), Nat.add_zero]]
        rw [szD_put c]
  · rintro σ H2 ⟨v2, v3, rfl, s2, ks, hd2, R, lk⟩
    rw [vI_len] at lk hd2 R
    rw [List.take_length] at hd2 R
    refine ⟨_, rfl, k H2 d (sH s2) hd ⟨ks, ?_, R, by omega⟩⟩
    rw [hd2, szD_congr fun x _ => (Kp.ofRow_is x).symm]
def spRising : Sp := fun vs H Q _ => ∃ (lc : Addr) (l : List Nat), vs = [.ref lc] ∧ H lc = some (.lst (vI l)) ∧ l.length ≤ 100 ∧ ∀ H', Same H H' → Q (.bl (Hx01.rises l)) H'
abbrev nRising : List Str := ["counts", "ahead", "behind"]
theorem scRising : FnScope nRising ["counts"] (defScope sRising) := ⟨rfl, rfl, rfl, by decide +kernel, rfl, by decide +kernel, by decide +kernel⟩
theorem cut_one (l : List Nat) : cutV (vI l) (some 1) none = vI (l.drop 1) := by
  unfold cutV
  rw [show (some (1 : Int)) = some ((1 : Nat) : Int) from rfl, HT.sIx_nat, HT.sIx_none, vI_len]
  cases l with
  | nil => rfl
  | cons a l =>
    have e1 : min 1 (a :: l).length = 1 := Nat.min_eq_left (by simp)
    rw [e1, List.take_of_length_le (by rw [List.length_drop, vI_len]; exact Nat.le_refl _)]
    rfl
theorem c_rising (T : TxtH A w K mg) : Cb P w K mg base 1 "is_rising" ["counts"] spRising := by
  refine T.dRising.cb scRising (fun vs H Q E h => ?_) (fun fa cdv Ar outer s H vs Q E hr h => ?_)
  · obtain ⟨lc, l, rfl, _⟩ := h
    rfl
  obtain ⟨lc, l, rfl, hl, hlen, k⟩ := h
  refine ⟨_, pss_one (ps_ret (pe_callB (cr_all rfl) (by rfl) T.all_ (by decide +kernel) (pa_cons
    (pe_lc (own := [("ahead", 1), ("behind", 2)]) (g := gTup K 2 (gCons (gName 1) (gCons (gName 2) gNil))) (tt := tYes) (te := tOp (rI0 fun i j => .bl (decide (i < j))) (tVar 1) (tVar 2)) rfl scRising.nd (pi_zip (by rfl) T.zip_ (pa_cons (pv 0) (pa_cons (pe_slice sl_list (pv 0) (po_some pe_int) po_none) pa_nil)))
      (blkOk_by (own := [("ahead", 1), ("behind", 2)]) (N := nRising) (sc := defScope sRising) (by decide +kernel))
      (fun _ _ _ _ _ => pg_tup rfl (pgs_cons (pg_name (i := 1) scRising.nd rfl (.inl rfl)) (pgs_cons (pg_name (i := 2) scRising.nd rfl (.inl rfl)) pgs_nil)))
      (fun _ _ _ _ _ => pts_nil) (fun _ _ _ _ _ => pe_cmpR op_lt (pv 1) (pv 2) (nomark _))) pa_nil))), ?_⟩
  refine ⟨_, rfl, _, rfl, _, rfl, lc, _, rfl, SqL.of hl, fun l2 hl2 => ?_⟩
  rw [cut_one]
  have s1 : Same H (upd H l2 (.lst (vI (l.drop 1)))) := same_upd (Same.refl _) hl2
  refine ⟨lc, l2, _, _, rfl, SqL.of (s1 _ _ hl), SqL.of upd_same, fun D hD => ?_⟩
  have hn : (l.zip (l.drop 1)).length = min (vI l).length (vI (l.drop 1)).length := by rw [List.length_zip, vI_len, vI_len]
  refine lc_it (walk_zip (K := K) (a := lc) (b := l2) (xs := vI l) (ys := vI (l.drop 1)) hn) (fun i H' => Same (upd H l2 (.lst (vI (l.drop 1)))) (but [D] H') ∧ H' D = some (.lst ((((l.zip (l.drop 1)).take i).map fun x => decide (x.1 < x.2)).map V.bl)))
    ⟨same_new hD, upd_same⟩ (fun i H' _ h => ⟨SqL.of (but_le _ _ (h.1 _ _ (s1 _ _ hl))), SqL.of (but_le _ _ (h.1 _ _ upd_same))⟩) ?_ ?_
  · rintro i x H3 H4 hi ⟨s3, e3⟩ ⟨t, u, v, rfl, ht, rfl, hu, hv⟩
    have hu : (vI l)[i]? = some u := hu
    have hv : (vI (l.drop 1))[i]? = some v := hv
    obtain ⟨a, ha, rfl⟩ := vI_at hu
    obtain ⟨b, hb, rfl⟩ := vI_at hv
    have hz : (l.zip (l.drop 1))[i]? = some (a, b) := by rw [List.getElem?_zip_eq_some]; exact ⟨ha, hb⟩
    have st : Same H3 (upd H3 t (.tup [V.int (a : Nat), V.int (b : Nat)])) := same_upd (Same.refl _) ht
    refine ⟨t, _, rfl, SqT.of upd_same, rfl, _, _, rfl, _, _, rfl, rfl, rfl, lcYes ?_⟩
    refine ⟨_, rfl, _, rfl, _, _, rfl, rfl, _, st _ _ e3, bigLt (by rw [List.length_map, List.length_map, List.length_take, List.length_zip]; omega), ?_, ?_⟩
    · rw [but_upd (by simp)]
      exact s3.trans (but_same st)
    · rw [upd_same, take_one hz, List.map_append, List.map_append]
      have e : decide (((a : Nat) : Int) < ((b : Nat) : Int)) = decide (a < b) := by
        congr 1
        apply propext
        omega
      show some (HO.lst (_ ++ [V.bl (decide (((a : Nat) : Int) < ((b : Nat) : Int)))])) = _
      rw [e]
      rfl
  · rintro H3 ⟨s3, e3⟩
    rw [List.take_length] at e3
    refine ⟨D, _, rfl, SqL.of e3, ?_⟩
    have ea : (((l.zip (l.drop 1)).map fun x => decide (x.1 < x.2)).all id) = Hx01.rises l := by rw [Kp.rises_zip, List.all_map]; rfl
    rw [ea]
    exact k H3 (s1.trans (s3.trans but_le))
end
end Kq
namespace Kq
open PySem PySem.Spec PyProof.Rows L2
open Hx01 (Link)
/-- tuples of numbers -/
def isTup (H : Hp) (v : V) (ns : List Nat) : Prop := ∃ t, v = .ref t ∧ H t = some (.tup (vI ns))
theorem isTup_mono (H H' : Hp) (v : V) (ns : List Nat) (s : Same H H') (h : isTup H v ns) : isTup H' v ns := by
  obtain ⟨t, e, q⟩ := h
  exact ⟨t, e, s _ _ q⟩
theorem AllR.comp {α β : Type} {S : V → β → Prop} {f : α → β} {ys : List V} {L : List α} (h : AllR (fun v x => S v (f x)) ys L) : AllR S ys (L.map f) := by
  refine ⟨by rw [List.length_map]; exact h.1, fun i y z e1 e2 => ?_⟩
  rw [List.getElem?_map] at e2
  obtain ⟨x, e3, rfl⟩ := Option.map_eq_some_iff.mp e2
  exact h.2 i y x e1 e3
theorem AllR.at {α : Type} {R : V → α → Prop} {ys : List V} {L : List α} (h : AllR R ys L) {i : Nat} {x : α} (e : L[i]? = some x) : ∃ y, ys[i]? = some y ∧ R y x := by
  have hi := (List.getElem?_eq_some_iff.mp e).1
  have hy : i < ys.length := by rw [h.1]; exact hi
  exact ⟨ys[i], List.getElem?_eq_getElem hy, h.2 i _ x (List.getElem?_eq_getElem hy) e⟩
theorem filter_yes {α : Type} (l : List α) : l.filter (fun _ => true) = l := List.filter_eq_self.mpr fun _ _ => rfl
section
variable {P : Program} {w : World} {K : PySem.W.Frag} {mg : Str → Option Value} {base : Heap} {A : CA}
def SnsAt (A : CA) (H : Hp) (p : Hx01.Program) (ss : List Addr) (l : List Hx01.Heap) : Prop := ss.length = l.length ∧ ∀ (i : Nat) (s : Addr) (h : Hx01.Heap), ss[i]? = some s → l[i]? = some h → Sn A H p s h
theorem SnsAt.go {A : CA} {H H' : Hp} {p : Hx01.Program} {ss : List Addr} {l : List Hx01.Heap} (k : SnsAt A H p ss l) (s : Same H H') : SnsAt A H' p ss l := ⟨k.1, fun i a h e1 e2 => (k.2 i a h e1 e2).go s⟩
def spGrow (A : CA) : Sp := fun vs H Q _ => ∃ (lh : Addr) (ss : List Addr) (p : Hx01.Program) (gs : List Hx01.Heap) (g h : Hx01.Heap), vs = [.ref lh] ∧ H lh = some (.lst (ss.map V.ref)) ∧ SnsAt A H p ss (gs ++ [g, h]) ∧ (gs ++ [g, h]).length ≤ 8 ∧
  ∀ (H' : Hp) (D : Addr) (ys : List V), Same H H' → H D = none → H' D = some (.lst ys) → AllR (isTup H') ys ((Hx01.grows p.acts.length (gs ++ [g, h])).map fun r => [r, Hx01.ofRow h r]) → ys.length ≤ 16 → Q (.ref D) H'
abbrev nGrow : List Str := ["heaps", "counted", "last", "heap", "row", "counts"]
theorem scGrow : FnScope nGrow ["heaps"] (defScope sGrow) := ⟨rfl, rfl, rfl, by decide +kernel, rfl, by decide +kernel, by decide +kernel⟩
abbrev scRowC : Scope := { kind := .function, names := [(".0", .local), ("row", .cell), ("is_rising", .globalImplicit), ("counted", .cell), ("last", .cell)], isGenerator := false, isCoroutine := false }
/-- a snapshot's count of a row, as its dict tells it -/
theorem cnt_get {h : Hx01.Heap} {ks : List Nat} (R : Kp.RInvG h (Hx01.live h) ks) (r : Nat) : (valV (szD (Hx01.ofRow h) ks) (Sum.inl (r : Int))).getD (.int 0) = .int (Hx01.ofRow h r : Nat) := by
  by_cases c : r ∈ ks
  · rw [szD_get c]
    rfl
  · rw [szD_none c]
    have : ¬ 0 < Kp.cnt h (Hx01.live h) r := fun z => c ((R.mem r).mpr z)
    have e : Hx01.ofRow h r = 0 := by rw [Kp.ofRow_is]; omega
    rw [e]
    rfl
def isCnt (H : Hp) (v : V) (y : Addr × Hx01.Heap) : Prop := ∃ d, v = .ref d ∧ CntAt H d y.2
theorem isCnt_mono (H H' : Hp) (v : V) (y : Addr × Hx01.Heap) (s : Same H H') (h : isCnt H v y) : isCnt H' v y := by
  obtain ⟨d, e, q⟩ := h
  exact ⟨d, e, q.go s⟩
theorem c_grow (T : TxtH A w K mg) : Cb P w K mg base 5 "rows_that_grow" ["heaps"] (spGrow A) := by
  refine T.dGrow.cb scGrow (fun vs H Q E h => ?_) (fun fa cdv Ar outer s H vs Q E hr h => ?_)
  · obtain ⟨lh, ss, p, gs, g, h, rfl, _⟩ := h
    rfl
  obtain ⟨lh, ss, p, gs, g, h, rfl, hlh, hS, h8, k⟩ := h
  have hu1 : (Ar.deeper (envOfC (Str.ofString "rows_that_grow") (defScope sGrow) s.heap.objs.size fa cdv)).units + 1 < cLine := by have := hr.un; omega
  have hr1 : Room 1 _ := hr.mono (by decide)
  refine ⟨_, pss_cons (ps_set (i := 1) scGrow.nd rfl (Or.inr rfl) (pe_lc (own := [("heap", 3)]) (g := gName 3) (tt := tYes) (te := tCall (spCounts A) [] E0 (tCons (tVar 3) tNil)) rfl scGrow.nd (pi_list (pv 0))
      (blkOk_by (own := [("heap", 3)]) (N := nGrow) (sc := defScope sGrow) (by decide +kernel)) (fun _ _ _ _ _ => pg_name (i := 3) scGrow.nd rfl (Or.inl rfl)) (fun _ _ _ _ _ => pts_nil) (fun _ _ _ _ _ => pe_cb (c_counts T) hr rfl (pa_cons (pv 3) pa_nil))))
    (pss_cons (ps_set (i := 2) scGrow.nd rfl (Or.inr rfl) (pe_ix ix_list (pv 1) (pe_un un_neg pe_int) (fun _ _ => rfl)))
    (pss_one (ps_ret (pe_lc (own := [("row", 4)]) (g := gName 4) (tt := tB (tCall spRising [] E0 (tCons (tLc (iList K (tVar 1)) (gName 5) tYes (tDGet2 (tVar 5) (tVar 4) (tC (.int 0))) [5]) tNil))) (te := tTup (tCons (tVar 4) (tCons (tDGet (tVar 2) (tVar 4)) tNil))) rfl scGrow.nd
      (pi_list (pe_callB (call_sortedDI rfl) (by rfl) T.sorted_ rfl (pa_cons (pv 2) pa_nil)))
      (blkOk_by (own := [("row", 4)]) (N := nGrow) (sc := defScope sGrow) (by decide +kernel)) (fun _ _ _ _ _ => pg_name (i := 4) scGrow.nd rfl (Or.inr rfl))
      (fun _ _ _ _ _ => pts_one (pt_val (pe_cb (c_rising T) hr1 rfl (pa_cons (pe_lc (own := [("counts", 5)]) (g := gName 5) (tt := tYes) (te := tDGet2 (tVar 5) (tVar 4) (tC (.int 0))) rfl scGrow.nd (pi_list (pv 1))
        (blkOk_by (own := [("counts", 5)]) (N := nGrow) (sc := scRowC) (by decide +kernel)) (fun _ _ _ _ _ => pg_name (i := 5) scGrow.nd rfl (Or.inl rfl)) (fun _ _ _ _ _ => pts_nil) (fun _ _ _ _ _ => pe_dget2 hu1 (pv 5) (pv 4) pe_int ⟨rfl, rfl, rfl, rfl⟩)) pa_nil))))
      (fun _ _ _ _ _ => pe_tup (pa_cons (pv 4) (pa_cons (pe_dget hu1 (pv 2) (pv 4) noSlName) pa_nil))))))), ?_⟩
  have hok : Kp.HOk p h := by
    obtain ⟨sl, hsl⟩ := get_some (l := ss) (i := gs.length + 1) (by rw [hS.1, List.length_append]; show _ < _ + 2; omega)
    exact (hS.2 (gs.length + 1) sl h hsl (by rw [List.getElem?_append_right (by omega), show gs.length + 1 - gs.length = 1 by omega]; rfl)).ok
  have hlast : (gs ++ [g, h])[gs.length + 1]? = some h := by rw [List.getElem?_append_right (by omega), show gs.length + 1 - gs.length = 1 by omega]; rfl
  have hl2 : (gs ++ [g, h]).length = gs.length + 2 := by rw [List.length_append]; rfl
  generalize hhs : gs ++ [g, h] = hs at hS h8 k hlast hl2
  have hsl := hS.1
  refine ⟨_, rfl, lh, rfl, ⟨_, SqL.of hlh⟩, fun D hD => ?_⟩
  have hzf : (ss.zip hs).map (fun y => V.ref y.1) = ss.map V.ref := by
    have e : (ss.zip hs).map Prod.fst = ss := List.map_fst_zip (by omega)
    conv => rhs; rw [← e]
    rw [List.map_map]
    rfl
  refine lc_pickR (K := K) (a := lh) (L := ss.zip hs) (f := fun y => V.ref y.1) (fun _ => true) isCnt isCnt_mono (by rw [hzf]; exact SqL.of hlh) hD (by rw [List.length_zip]; omega) ?_ ?_
  · rintro i ⟨a, x⟩ H1 hx s1 ⟨zs, e1⟩ Ny Zn kN kZ
    rw [List.getElem?_zip_eq_some] at hx
    refine ⟨rfl, lcYes ⟨_, rfl, a, p, x, rfl, (hS.2 i a x hx.1 hx.2).go (s1.trans but_le), fun H2 d s2 hd c => ?_⟩⟩
    obtain ⟨ks, c1, c2⟩ := c
    exact kN rfl _ _ s2 ⟨d, rfl, ks, (but_out (by simpa using (ne_of_none e1 hd).symm)).trans c1, c2⟩
  · intro H1 ys s1 e1 r1
    rw [filter_yes] at r1
    have r1 : AllR (isCnt H1) ys (ss.zip hs) := r1.imp fun y x => isCnt_mono _ _ y x but_le
    have sH1 : Same H H1 := s1.trans but_le
    obtain ⟨sl, hsl2⟩ := get_some (l := ss) (i := gs.length + 1) (by omega)
    obtain ⟨yl, hyl, dl, rfl, ks, hdl, RI, lks⟩ := r1.at (i := gs.length + 1) (x := (sl, h)) (by rw [List.getElem?_zip_eq_some]; exact ⟨hsl2, hlast⟩)
    have hyl2 : ys.length = gs.length + 2 := by rw [r1.1, List.length_zip]; omega
    have eys : ys = ys.take (gs.length + 1) ++ [V.ref dl] := by
      have := take_one hyl
      rw [List.take_of_length_le (by omega)] at this
      exact this
    refine ⟨_, rfl, _, rfl, D, _, _, _, rfl, rfl, SqL.of e1, by rw [eys]; exact atI_last _ _, ?_⟩
    refine ⟨_, rfl, dl, _, Kp.zs ks, rfl, .inl hdl, ?_, by rw [List.length_map]; omega, fun zs' D2 hp hsr hD2 => ?_⟩
    · unfold szD Kp.zs
      simp only [List.map_map]
      rfl
    have hl : ((List.range p.acts.length).filter fun r => decide (r ∈ ks)).Pairwise (· < ·) := (List.pairwise_lt_range).filter _
    have hmem : ∀ x, x ∈ ks ↔ x ∈ (List.range p.acts.length).filter fun r => decide (r ∈ ks) := fun x => by
      rw [List.mem_filter, List.mem_range, decide_eq_true_eq]
      exact ⟨fun z => ⟨Kp.cnt_row hok ((RI.mem x).mp z), z⟩, fun z => z.2⟩
    have ez := Kp.zs_sorted hp RI.nd hsr hl hmem
    have ll : ((List.range p.acts.length).filter fun r => decide (r ∈ ks)).length ≤ 16 := by
      have := hp.length_eq
      rw [ez, List.length_map, List.length_map] at this
      omega
    have egrow : Hx01.grows p.acts.length hs = ((List.range p.acts.length).filter fun r => decide (r ∈ ks)).filter fun r => Hx01.rises (hs.map fun h => Hx01.ofRow h r) := by
      rw [← hhs]
      exact Kp.grows_is hok RI hl fun x => (hmem x).symm
    generalize (List.range p.acts.length).filter (fun r => decide (r ∈ ks)) = l at hl hmem ez ll egrow
    have evs : zs'.map V.int = vI l := by
      rw [ez]
      unfold vI Kp.zs
      rw [List.map_map]
      rfl
    rw [evs]
    have s2 : Same H1 (upd H1 D2 (.lst (vI l))) := same_upd (Same.refl _) hD2
    refine ⟨D2, rfl, ⟨_, SqL.of upd_same⟩, fun D3 hD3 => ?_⟩
    refine lc_pickR (K := K) (a := D2) (L := l) (f := fun (n : Nat) => V.int n) (fun r => Hx01.rises (hs.map fun h => Hx01.ofRow h r)) (fun H v r => isTup H v [r, Hx01.ofRow h r]) (fun H H' v r sm => isTup_mono H H' v _ sm) (SqL.of upd_same) hD3 (by omega) ?_ ?_
    · rintro i r H3 hr3 s3 ⟨ws, e3⟩ Ny Zn kN kZ
      have s13 : Same H1 H3 := s2.trans (s3.trans but_le)
      have r3 : AllR (isCnt H3) ys (ss.zip hs) := r1.imp fun y x => isCnt_mono _ _ y x s13
      refine ⟨rfl, _, rfl, D, rfl, ⟨_, SqL.of (s13 _ _ e1)⟩, fun D4 hD4 => ?_⟩
      have hyf : (ys.zip hs).map (fun y => y.1) = ys := List.map_fst_zip (by omega)
      refine lc_pick (K := K) (a := D) (L := ys.zip hs) (f := fun y => y.1) (fun _ => true) (fun y => V.int (Hx01.ofRow y.2 r : Nat)) (by rw [hyf]; exact SqL.of (s13 _ _ e1)) hD4 (by rw [List.length_zip]; omega) ?_ ?_
      · rintro j ⟨v, hj⟩ H4 hx s4 _ Ny' Zn' kN' kZ'
        rw [List.getElem?_zip_eq_some] at hx
        obtain ⟨sj, hsj⟩ := get_some (l := ss) (i := j) (by have := (List.getElem?_eq_some_iff.mp hx.2).1; omega)
        obtain ⟨d, rfl, ks', hd', R', _⟩ := r3.2 j v (sj, hj) hx.1 (by rw [List.getElem?_zip_eq_some]; exact ⟨hsj, hx.2⟩)
        have hd4 := but_le _ _ (s4 _ _ hd')
        refine ⟨rfl, lcYes ⟨_, rfl, d, rfl, .inl ⟨_, .inl hd4⟩, _, rfl, _, DGet.k (k := Sum.inl (r : Int)) hd4, ?_⟩⟩
        rw [cnt_get R' r]
        exact kN' rfl _ (Same.refl _)
      · intro H4 s4 e4
        rw [filter_yes] at e4
        have e5 : H4 D4 = some (.lst (vI (hs.map fun h => Hx01.ofRow h r))) := by
          rw [e4]
          have e : (ys.zip hs).map Prod.snd = hs := List.map_snd_zip (by omega)
          unfold vI
          conv => rhs; rw [← e]
          rw [List.map_map, List.map_map]
          rfl
        refine ⟨D4, _, rfl, e5, by rw [List.length_map]; omega, fun H5 s5 => ?_⟩
        have s35 : Same H3 H5 := (s4.trans but_le).trans s5
        refine ⟨_, rfl, if2 (fun c => ?_) (fun c => kZ c _ s35)⟩
        have hrk : r ∈ ks := (hmem r).mpr (List.mem_of_getElem? hr3)
        have hdl5 := s35 _ _ (s13 _ _ hdl)
        have hg := DGet.k (k := Sum.inl (r : Int)) hdl5
        rw [szD_get hrk] at hg
        refine ⟨_, rfl, _, rfl, _, rfl, dl, _, rfl, hg, big (show 2 ≤ 100000 by decide), fun t ht => ?_⟩
        refine kN c _ _ (s35.trans (same_upd (Same.refl _) ht)) ⟨t, rfl, ?_⟩
        rw [but_out (by simpa using (ne_of_none (s35 _ _ e3) ht).symm), upd_same]
        rfl
    · intro H3 zs3 s3 e3 r3
      refine k H3 D3 zs3 ((sH1.trans s2).trans (s3.trans but_le)) ((sH1.trans s2).free hD3) e3 ?_ ?_
      · rw [egrow]
        exact (r3.imp fun y x => isTup_mono _ _ y _ but_le).comp
      · rw [r3.1]
        exact Nat.le_trans (List.length_filter_le _ _) ll
end
end Kq
namespace Kq
open PySem PySem.Spec PyProof.Rows L2
open Hx01 (Link)
abbrev sAnd : Stmt := top 34
abbrev sCounted : Stmt := top 35
abbrev sCBytes : Stmt := top 36
abbrev sSnapC : Stmt := top 37
abbrev sThingsC : Stmt := top 38
abbrev sNeverC : Stmt := top 39
abbrev sClassesC : Stmt := top 40
abbrev sMostC : Stmt := top 41
abbrev sCutC : Stmt := top 42
abbrev sWayC : Stmt := top 43
abbrev sKeepsC : Stmt := top 44
abbrev sFewC : Stmt := top 45
abbrev sNewC : Stmt := top 46
abbrev sGrowsC : Stmt := top 47
abbrev sOfThing : Stmt := top 52
abbrev sOfSnap : Stmt := top 53
abbrev sLook : Stmt := top 54
structure TxtC (A : CA) (w : World) (K : PySem.W.Frag) (mg : Str → Option Value) : Prop extends TxtH A w K mg where
  dAnd : Dd K mg "and_one" sAnd ["held"]
  dCounted : Dd K mg "counted" sCounted ["rows"]
  dCBytes : Dd K mg "counted_bytes" sCBytes ["heap", "numbers"]
  dSnapC : Dd K mg "snap" sSnapC ["heap"]
  dThingsC : Dd K mg "things" sThingsC ["heap"]
  dNeverC : Dd K mg "never" sNeverC ["heap"]
  dClassesC : Dd K mg "classes" sClassesC ["heap"]
  dCutC : Dd K mg "cut" sCutC ["heap", "begins", "which"]
  dWayC : Dd K mg "way" sWayC ["heap", "thing"]
  dKeepsC : Dd K mg "keeps" sKeepsC ["heap", "thing"]
  dFewC : Dd K mg "fewest" sFewC ["heap", "thing"]
  dNewC : Dd K mg "new" sNewC ["snapshots", "s", "t"]
  dGrowsC : Dd K mg "grows" sGrowsC ["snapshots", "s", "t"]
  dOfThing : Dd K mg "of_thing" sOfThing ["heap", "call", "thing"]
  dOfSnap : Dd K mg "of_snapshot" sOfSnap ["heap", "call", "numbers"]
  dLook : Dd K mg "look" sLook ["snapshots", "call", "numbers"]
  cNO : ∃ t, mg "NOT_IN_ORDER" = some (.int (-1) t)
  cNS : ∃ t, mg "NO_SNAPSHOT" = some (.int (-2) t)
  cNT : ∃ t, mg "NO_THING" = some (.int (-3) t)
  cNC : ∃ t, mg "NOT_COME_TO" = some (.int (-6) t)
  cNE : ∃ t, mg "NOT_ENOUGH" = some (.int (-7) t)
  cLG : ∃ t, mg "LEAST_GROWING" = some (.int 2 t)
  cMO : ∃ t, mg "MOST" = some (.int 5 t)
def one (o : Option Nat) : Nat := o.elim 0 fun n => n + 1
section
variable {P : Program} {w : World} {K : PySem.W.Frag} {mg : Str → Option Value} {base : Heap} {A : CA}
def spAnd : Sp := fun vs H Q _ => ∃ o : Option Nat, vs = [oV o] ∧ Q (.int (one o : Nat)) H
theorem scAnd : FnScope ["held"] ["held"] (defScope sAnd) := ⟨rfl, rfl, rfl, by decide +kernel, rfl, by decide +kernel, by decide +kernel⟩
theorem c_and (T : TxtC A w K mg) : Cb P w K mg base 1 "and_one" ["held"] spAnd := by
  refine T.dAnd.cb scAnd (fun vs H Q E h => ?_) (fun fa cdv Ar outer s H vs Q E hr h => ?_)
  · obtain ⟨o, rfl, _⟩ := h
    rfl
  obtain ⟨o, rfl, k⟩ := h
  refine ⟨_, pss_one (ps_ret (pe_ifExp (pt_cmp (pc_isN (pv 0))) pe_int (pe_op op_add (pv 0) pe_int))), ?_⟩
  refine ⟨_, rfl, _, rfl, ?_⟩
  cases o with
  | none => exact ifT rfl k
  | some n => exact ifF rfl ⟨_, rfl, _, _, rfl, rfl, k⟩
/-- an answer: a new list of numbers -/
def Ans (H : Hp) (Q : VK) (l : List Nat) : Prop := ∀ (H' : Hp) (D : Addr), Same H H' → H D = none → H' D = some (.lst (vI l)) → Q (.ref D) H'
/-- an answer: a new list of whole numbers -/
def AnsZ (H : Hp) (Q : VK) (l : List Int) : Prop := ∀ (H' : Hp) (D : Addr), Same H H' → H D = none → H' D = some (.lst (l.map V.int)) → Q (.ref D) H'
theorem vI_ints (l : List Nat) : vI l = (Hx01.ints l).map V.int := by
  unfold vI Hx01.ints
  rw [List.map_map]
  rfl
theorem AnsZ.ans {H : Hp} {Q : VK} {l : List Nat} (h : AnsZ H Q (Hx01.ints l)) : Ans H Q l := fun H' D s n e => h H' D s n (by rw [e, vI_ints])
theorem Ans.go {H H1 : Hp} {Q : VK} {l : List Nat} (h : Ans H Q l) (s : Same H H1) : Ans H1 Q l := fun H' D s' n e => h H' D (s.trans s') (s.free n) e
theorem AnsZ.go {H H1 : Hp} {Q : VK} {l : List Int} (h : AnsZ H Q l) (s : Same H H1) : AnsZ H1 Q l := fun H' D s' n e => h H' D (s.trans s') (s.free n) e
def spCounted : Sp := fun vs H Q _ => ∃ (lr : Addr) (ys : List V) (L : List (List Nat)), vs = [.ref lr] ∧ H lr = some (.lst ys) ∧ AllR (isTup H) ys L ∧ L.length ≤ 100 ∧ (∀ ns ∈ L, ns.length ≤ 3) ∧ Ans H Q (L.length :: L.flatten)
abbrev nCounted : List Str := ["rows", "answer", "row"]
theorem scCounted : FnScope nCounted ["rows"] (defScope sCounted) := ⟨rfl, rfl, rfl, by decide +kernel, rfl, by decide +kernel, by decide +kernel⟩
theorem flat_len : ∀ {L : List (List Nat)}, (∀ ns ∈ L, ns.length ≤ 3) → L.flatten.length ≤ 3 * L.length
  | [], _ => Nat.le_refl _
  | ns :: L, h => by
    have h1 := h ns List.mem_cons_self
    have h2 := flat_len (L := L) fun x hx => h x (List.mem_cons_of_mem _ hx)
    rw [List.flatten_cons, List.length_append, List.length_cons]
    omega
theorem c_counted (T : TxtC A w K mg) : Cb P w K mg base 1 "counted" ["rows"] spCounted := by
  refine T.dCounted.cb scCounted (fun vs H Q E h => ?_) (fun fa cdv Ar outer s H vs Q E hr h => ?_)
  · obtain ⟨lr, ys, L, rfl, _⟩ := h
    rfl
  obtain ⟨lr, ys, L, rfl, hlr, hL, hlen, h3, k⟩ := h
  refine ⟨_, pss_cons (ps_set (i := 1) scCounted.nd rfl (Or.inl rfl) (pe_lst (pa_cons (pe_callB call_len_seq (by rfl) T.len PySem.boot_len (pa_cons (pv 0) pa_nil)) pa_nil)))
    (pss_cons (ps_for PassesOwn.never rfl (pi_list (pv 0)) (pg_name (i := 2) scCounted.nd rfl (.inl rfl))
      (pss_one (ps_expr (pe_bm PySem.F.plainAttrs_list PySem.F.slot_list_extend PySem.F.type_list_extend mt_extend (pv 1) (pa_cons (pe_callTy call_list_of (by rfl) T.list_ (by decide +kernel) (pa_cons (pv 2) pa_nil)) pa_nil)))))
    (pss_one (ps_ret (pv 1)))), ?_⟩
  refine ⟨_, rfl, lr, _, rfl, .inl (SqL.of hlr), big (show 1 ≤ 100000 by decide), fun la hla => ?_⟩
  have sla : Same H (but [la] (upd H la (.lst [V.int (ys.length : Nat)]))) := same_new hla
  refine ⟨_, rfl, lr, rfl, ⟨_, SqL.of (but_le _ _ (sla _ _ hlr))⟩, ?_⟩
  refine for_it (walk_list (K := K) (a := lr) (xs := ys)) (fun i σ H' => ∃ v2, σ = [some (.ref lr), some (.ref la), v2] ∧ Same H (but [la] H') ∧ H' la = some (.lst (vI (L.length :: (L.take i).flatten))))
    ⟨none, rfl, sla, by rw [upd_same, hL.1]; rfl⟩ (fun i σ H' _ ⟨_, _, s, _⟩ => SqL.of (but_le _ _ (s _ _ hlr))) ?_ ?_
  · rintro i x σ H2 H3 hi ⟨v2, rfl, s2, ha2⟩ ⟨rfl, hx⟩
    obtain ⟨ns, hns⟩ := get_some (l := L) (i := i) (by rw [← hL.1]; exact hi)
    obtain ⟨t, rfl, ht⟩ := hL.2 i x ns hx hns
    have ht3 := but_le _ _ (s2 _ _ ht)
    have h4 := h3 ns (List.mem_of_getElem? hns)
    have hfl : (L.take i).flatten.length ≤ 300 := by
      refine Nat.le_trans (flat_len fun x hx => h3 x (List.mem_of_mem_take hx)) ?_
      rw [List.length_take]
      omega
    refine ⟨_, rfl, .inl ⟨rfl, _, SqL.of ha2⟩, _, rfl, t, _, rfl, .inr (SqT.of ht3), fun e he => ?_⟩
    refine ⟨la, e, _, _, rfl, rfl, (same_upd (Same.refl _) he) _ _ ha2, upd_same, big (by rw [vI_len, vI_len, List.length_cons]; omega), ?_⟩
    refine ⟨_, rfl, ?_, ?_⟩
    · rw [but_upd (by simp)]
      exact s2.trans (but_same (same_upd (Same.refl _) he))
    · rw [upd_same, take_one hns, List.flatten_append, ← vI_app]
      show _ = some (HO.lst (vI (L.length :: ((L.take i).flatten ++ [ns].flatten))))
      rw [List.flatten_singleton]
      rfl
  · rintro σ H2 ⟨v2, rfl, s2, ha2⟩
    rw [hL.1, List.take_length] at ha2
    exact ⟨_, rfl, k H2 la (s2.trans but_le) hla ha2⟩
def spCBytes (A : CA) : Sp := fun vs H Q _ => ∃ (sa ln : Addr) (l : List Nat) (p : Hx01.Program) (h : Hx01.Heap), vs = [.ref sa, .ref ln] ∧ Sn A H p sa h ∧ H ln = some (.lst (vI l)) ∧ (∀ x ∈ l, x < h.things.length) ∧ l.length ≤ 100 ∧ Ans H Q (Hx01.bytesOf p h l :: l.length :: l)
theorem scCBytes : FnScope ["heap", "numbers"] ["heap", "numbers"] (defScope sCBytes) := ⟨rfl, rfl, rfl, by decide +kernel, rfl, by decide +kernel, by decide +kernel⟩
theorem c_cbytes (T : TxtC A w K mg) : Cb P w K mg base 2 "counted_bytes" ["heap", "numbers"] (spCBytes A) := by
  refine T.dCBytes.cb scCBytes (fun vs H Q E h => ?_) (fun fa cdv Ar outer s H vs Q E hr h => ?_)
  · obtain ⟨sa, ln, l, p, h, rfl, _⟩ := h
    rfl
  obtain ⟨sa, ln, l, p, h, rfl, N, hln, hlt, hlen, k⟩ := h
  refine ⟨_, pss_one (ps_ret (pe_op op_cat (pe_lst (pa_cons (pe_cb (c_bytes T.toTxtH) hr rfl (pa_cons (pv 0) (pa_cons (pv 1) pa_nil))) (pa_cons (pe_callB call_len_seq (by rfl) T.len PySem.boot_len (pa_cons (pv 1) pa_nil)) pa_nil))) (pv 1))), ?_⟩
  refine ⟨_, rfl, _, rfl, sa, ln, l, p, h, rfl, N, hln, hlt, hlen, fun H1 s1 => ?_⟩
  have e1 := s1 _ _ hln
  refine ⟨_, rfl, ln, _, rfl, .inl (SqL.of e1), big (show 2 ≤ 100000 by decide), fun a ha => ?_⟩
  have s2 : Same H1 (upd H1 a (.lst [V.int (Hx01.bytesOf p h l : Nat), V.int ((vI l).length : Nat)])) := same_upd (Same.refl _) ha
  refine ⟨_, rfl, a, ln, _, _, rfl, rfl, upd_same, s2 _ _ e1, big (by show 2 + (vI l).length ≤ 100000; rw [vI_len]; omega), fun q hq => ?_⟩
  have s12 := s1.trans s2
  refine k _ q (s12.trans (same_upd (Same.refl _) hq)) (s12.free hq) ?_
  rw [upd_same, vI_len]
  rfl
def snapA (p : Hx01.Program) (h : Hx01.Heap) : List Nat := [h.things.length, (Hx01.live h).length, Hx01.bytesOf p h (Hx01.live h)] ++ h.vars.map one
def spSnapC (A : CA) : Sp := fun vs H Q _ => ∃ (sa : Addr) (p : Hx01.Program) (h : Hx01.Heap), vs = [.ref sa] ∧ Sn A H p sa h ∧ Ans H Q (snapA p h)
abbrev nSnapC : List Str := ["heap", "reached", "holders", "held"]
theorem scSnapC : FnScope nSnapC ["heap"] (defScope sSnapC) := ⟨rfl, rfl, rfl, by decide +kernel, rfl, by decide +kernel, by decide +kernel⟩
theorem c_snapC (T : TxtC A w K mg) : Cb P w K mg base 4 "snap" ["heap"] (spSnapC A) := by
  refine T.dSnapC.cb scSnapC (fun vs H Q E h => ?_) (fun fa cdv Ar outer s H vs Q E hr h => ?_)
  · obtain ⟨sa, p, h, rfl, _⟩ := h
    rfl
  obtain ⟨sa, p, h, rfl, N, k⟩ := h
  have hr1 : Room 1 _ := hr.mono (by decide)
  refine ⟨_, pss_cons (ps_set (i := 1) scSnapC.nd rfl (Or.inl rfl) (pe_cb (c_come T.toTxtH) hr rfl (pa_cons (pv 0) pa_nil)))
    (pss_cons (ps_setLc (i := 2) (own := [("held", 3)]) (g := gName 3) (tt := tYes) (te := tCall spAnd [] E0 (tCons (tVar 3) tNil)) rfl scSnapC.nd rfl rfl (sw_true rfl rfl rfl (by decide +kernel)) (pi_list (pe_fld (pv 0) rfl))
      (blkOk_by (own := [("held", 3)]) (N := nSnapC) (sc := defScope sSnapC) (by decide +kernel)) (fun _ _ _ _ _ => pg_name (i := 3) scSnapC.nd rfl (Or.inl rfl)) (fun _ _ _ _ _ => pts_nil) (fun _ _ _ _ _ => pe_cb (c_and T) hr1 rfl (pa_cons (pv 3) pa_nil)))
    (pss_one (ps_ret (pe_op op_cat (pe_lst (pa_cons (pe_callB call_len_seq (by rfl) T.len PySem.boot_len (pa_cons (pe_fld (pv 0) rfl) pa_nil)) (pa_cons (pe_callB call_len_seq (by rfl) T.len PySem.boot_len (pa_cons (pv 1) pa_nil))
      (pa_cons (pe_cb (c_bytes T.toTxtH) hr1 rfl (pa_cons (pv 0) (pa_cons (pv 1) pa_nil))) pa_nil)))) (pv 2))))), ?_⟩
  have hm := N.ok.many
  have hlen := Kp.live_len h
  have hv := N.vars
  obtain ⟨dh, lt, lv, ts, fs, h1, h2, h3, t1, t2, t3⟩ := N.at_
  refine ⟨_, rfl, sa, p, h, rfl, N, fun H1 l1 s1 hl1 hl1' => ?_⟩
  refine ⟨_, rfl, sa, A.heap, dh, _, _, rfl, s1 _ _ h1, T.cHeap.cl, T.cHeap.na _ (by decide +kernel), hpF_vars _ _, lv, rfl, ⟨_, SqL.of (s1 _ _ h3)⟩, fun D hD => ?_⟩
  refine lc_it (walk_list (K := K) (a := lv) (xs := h.vars.map oV)) (fun i H' => Same H1 (but [D] H') ∧ H' D = some (.lst (vI ((h.vars.take i).map one)))) ⟨?_, upd_same⟩ (fun i H' _ h => SqL.of (but_le _ _ (h.1 _ _ (s1 _ _ h3)))) ?_ ?_
  · rw [but_upd (by simp)]
    exact but_out_of (Same.refl _) (fun b hb => by rw [List.mem_singleton.mp hb]; exact hD)
  · rintro i x H3 H4 hi ⟨s3, e3⟩ ⟨rfl, hx⟩
    rw [List.length_map] at hi
    rw [List.getElem?_map, List.getElem?_eq_getElem hi] at hx
    cases hx
    refine ⟨rfl, lcYes ?_⟩
    refine ⟨_, rfl, h.vars[i], rfl, _, e3, bigLt (by rw [vI_len, List.length_map, List.length_take]; omega), ?_, ?_⟩
    · rw [but_upd (by simp)]; exact s3
    · rw [upd_same, take_one (List.getElem?_eq_getElem hi), List.map_append, vI_app]
      rfl
  · rintro H3 ⟨s3, e3⟩
    rw [List.length_map, List.take_length] at e3
    have s13 := s1.trans (s3.trans but_le)
    have e1 := (s3.trans but_le) _ _ hl1'
    refine ⟨_, rfl, sa, A.heap, dh, _, _, rfl, s13 _ _ h1, T.cHeap.cl, T.cHeap.na _ (by decide +kernel), hpF_things _ _, lt, _, rfl, .inl (SqL.of (s13 _ _ h2)), _, rfl, l1, _, rfl, .inl (SqL.of e1), _, rfl, _, rfl, sa, l1, Hx01.live h, p, h, rfl, N.go s13, e1, fun x hx => Kp.live_lt hx, by omega, fun H5 s5 => ?_⟩
    refine ⟨big (show 3 ≤ 100000 by decide), fun a ha => ?_⟩
    have sa5 : Same H5 (upd H5 a (.lst [V.int ((ts.map V.ref).length : Nat), V.int ((vI (Hx01.live h)).length : Nat), V.int (Hx01.bytesOf p h (Hx01.live h) : Nat)])) := same_upd (Same.refl _) ha
    have nDa : D ≠ a := fun z => by have := s5 _ _ e3; rw [z, ha] at this; cases this
    refine ⟨_, rfl, a, D, _, _, rfl, rfl, upd_same, sa5 _ _ (s5 _ _ e3), big (by show 3 + (vI (h.vars.map one)).length ≤ 100000; rw [vI_len, List.length_map]; omega), fun q hq => ?_⟩
    have sq := sa5.trans (same_upd (Same.refl _) hq (o := .lst ([V.int ((ts.map V.ref).length : Nat), V.int ((vI (Hx01.live h)).length : Nat), V.int (Hx01.bytesOf p h (Hx01.live h) : Nat)] ++ vI (h.vars.map one))))
    have sHq := (s13.trans s5).trans sq
    refine k _ q sHq ((s13.trans s5).free (sa5.free hq)) ?_
    rw [upd_same, List.length_map, vI_len, t1]
    rfl
end
end Kq
namespace Kq
open PySem PySem.Spec PyProof.Rows L2
open Hx01 (Link)
theorem len_keeps {h : Hx01.Heap} {o : Nat} : (Hx01.keeps h o).length ≤ (Hx01.live h).length := List.length_filter_le _ _
theorem keeps_lt {h : Hx01.Heap} {o x : Nat} (hx : x ∈ Hx01.keeps h o) : x < h.things.length := Kp.live_lt (List.mem_filter.mp hx).1
section
variable {P : Program} {w : World} {K : PySem.W.Frag} {mg : Str → Option Value} {base : Heap} {A : CA}
/-! things -/
def thingA (h : Hx01.Heap) (x : Hx01.Thing × Nat) : List Nat := [x.1.cls, x.1.row, if (Hx01.live h).contains x.2 = true then 1 else 0, x.1.fields.length] ++ x.1.fields.map one
def thingsA (h : Hx01.Heap) : List Nat := h.things.length :: (h.things.zip (List.range h.things.length)).flatMap (thingA h)
def spThingsC (A : CA) : Sp := fun vs H Q _ => ∃ (sa : Addr) (p : Hx01.Program) (h : Hx01.Heap), vs = [.ref sa] ∧ Sn A H p sa h ∧ Ans H Q (thingsA h)
abbrev nThingsC : List Str := ["heap", "reached", "answer", "number", "thing", "held"]
theorem scThingsC : FnScope nThingsC ["heap"] (defScope sThingsC) := ⟨rfl, rfl, rfl, by decide +kernel, rfl, by decide +kernel, by decide +kernel⟩
theorem c_thingsC (T : TxtC A w K mg) : Cb P w K mg base 4 "things" ["heap"] (spThingsC A) := by
  refine T.dThingsC.cb scThingsC (fun vs H Q E h => ?_) (fun fa cdv Ar outer s H vs Q E hr h => ?_)
  · obtain ⟨sa, p, h, rfl, _⟩ := h
    rfl
  obtain ⟨sa, p, h, rfl, N, k⟩ := h
  have hr1 : Room 1 _ := hr.mono (by decide)
  refine ⟨_, pss_cons (ps_set (i := 1) scThingsC.nd rfl (Or.inl rfl) (pe_cb (c_come T.toTxtH) hr rfl (pa_cons (pv 0) pa_nil)))
    (pss_cons (ps_set (i := 2) scThingsC.nd rfl (Or.inl rfl) (pe_lst (pa_cons (pe_callB call_len_seq (by rfl) T.len PySem.boot_len (pa_cons (pe_fld (pv 0) rfl) pa_nil)) pa_nil)))
    (pss_cons (ps_for PassesOwn.never rfl (pi_enum (by rfl) T.enumerate_ (pa_cons (pe_fld (pv 0) rfl) pa_nil)) (pg_tup rfl (pgs_cons (pg_name (i := 3) scThingsC.nd rfl (.inl rfl)) (pgs_cons (pg_name (i := 4) scThingsC.nd rfl (.inl rfl)) pgs_nil)))
      (pss_cons (ps_expr (pe_bm PySem.F.plainAttrs_list PySem.F.slot_list_extend PySem.F.type_list_extend mt_extend (pv 2) (pa_cons
        (pe_lst (pa_cons (pe_fld (pv 4) rfl) (pa_cons (pe_fld (pv 4) rfl) (pa_cons (pe_ifExp (pt_cmpR op_in_seq (pv 3) (pv 1) rfl) pe_int pe_int) (pa_cons (pe_callB call_len_seq (by rfl) T.len PySem.boot_len (pa_cons (pe_fld (pv 4) rfl) pa_nil)) pa_nil))))) pa_nil)))
      (pss_one (ps_expr (pe_bm PySem.F.plainAttrs_list PySem.F.slot_list_extend PySem.F.type_list_extend mt_extend (pv 2) (pa_cons
        (pe_lc (own := [("held", 5)]) (g := gName 5) (tt := tYes) (te := tCall spAnd [] E0 (tCons (tVar 5) tNil)) rfl scThingsC.nd (pi_list (pe_fld (pv 4) rfl))
          (blkOk_by (own := [("held", 5)]) (N := nThingsC) (sc := defScope sThingsC) (by decide +kernel)) (fun _ _ _ _ _ => pg_name (i := 5) scThingsC.nd rfl (Or.inl rfl)) (fun _ _ _ _ _ => pts_nil) (fun _ _ _ _ _ => pe_cb (c_and T) hr1 rfl (pa_cons (pv 5) pa_nil))) pa_nil))))))
    (pss_one (ps_ret (pv 2))))), ?_⟩
  have hm := N.ok.many
  have hlen := Kp.live_len h
  obtain ⟨dh, lt, lv, ts, fs, h1, h2, h3, t1, t2, t3⟩ := N.at_
  refine ⟨_, rfl, sa, p, h, rfl, N, fun H1 l1 s1 hl1 hl1' => ?_⟩
  refine ⟨_, rfl, sa, A.heap, dh, _, _, rfl, s1 _ _ h1, T.cHeap.cl, T.cHeap.na _ (by decide +kernel), hpF_things _ _, lt, _, rfl, .inl (SqL.of (s1 _ _ h2)), big (show 1 ≤ 100000 by decide), fun la hla => ?_⟩
  have sla : Same H1 (but [la] (upd H1 la (.lst [V.int ((ts.map V.ref).length : Nat)]))) := by
    rw [but_upd (by simp)]
    exact but_out_of (Same.refl _) (fun b hb => by rw [List.mem_singleton.mp hb]; exact hla)
  have go : ∀ {H'}, Same H1 (but [la] H') → Same H H' := fun s => s1.trans (s.trans but_le)
  refine ⟨_, rfl, sa, A.heap, dh, _, _, rfl, go sla _ _ h1, T.cHeap.cl, T.cHeap.na _ (by decide +kernel), hpF_things _ _, lt, _, rfl, SqL.of (go sla _ _ h2), ?_⟩
  refine for_it (walk_enum (K := K) (a := lt) (xs := ts.map V.ref)) (fun i σ H' => ∃ v3 v4 v5, σ = [some (.ref sa), some (.ref l1), some (.ref la), v3, v4, v5] ∧ Same H1 (but [la] H') ∧
      ∃ acc : List Nat, H' la = some (.lst (vI acc)) ∧ acc = h.things.length :: ((h.things.zip (List.range h.things.length)).take i).flatMap (thingA h) ∧ acc.length ≤ 1 + 6 * i)
    ⟨none, none, none, rfl, sla, [h.things.length], by rw [upd_same, List.length_map, t1]; rfl, rfl, Nat.le_refl _⟩ (fun i σ H' _ ⟨_, _, _, _, s, _⟩ => SqL.of (go s _ _ h2)) ?_ ?_
  · rintro i x σ H2 H3 hi ⟨v3, v4, v5, rfl, s2, acc, ha2, eacc, lacc⟩ ⟨t, u, v, rfl, ht, rfl, hu, hv⟩
    cases hu
    rw [List.length_map] at hi
    have hv : (ts.map V.ref)[i]? = some v := hv
    rw [List.getElem?_map, List.getElem?_eq_getElem hi] at hv
    cases hv
    have hit : i < h.things.length := by omega
    obtain ⟨tt, htt⟩ := get_some (l := h.things) hit
    obtain ⟨tf, htf⟩ := get_some (l := fs) (i := i) (by omega)
    obtain ⟨⟨dt, e1⟩, e2⟩ := t3 i ts[i] tf tt (List.getElem?_eq_getElem hi) htf htt
    obtain ⟨cc, ec1, ec2, _⟩ := N.ok.cls tt (List.mem_of_getElem? htt)
    have hfl : tt.fields.length ≤ 2 := by rw [ec2]; exact N.fld cc (List.mem_of_getElem? ec1)
    have hz : (h.things.zip (List.range h.things.length))[i]? = some (tt, i) := by
      rw [List.getElem?_zip_eq_some]
      exact ⟨htt, List.getElem?_range hit⟩
    have st : Same H2 (upd H2 t (.tup [V.int (i : Nat), V.ref ts[i]])) := same_upd (Same.refl _) ht
    have s3 : Same H1 (but [la] (upd H2 t (.tup [V.int (i : Nat), V.ref ts[i]]))) := s2.trans (but_same st)
    have ct := T.cThing.cl
    have g3 := go s3
    have l3 := (s3.trans but_le) _ _ hl1'
    have inc : inV (.int ((i : Nat) : Int)) (vI (Hx01.live h)) = (Hx01.live h).contains i := inV_I i _
    refine ⟨t, _, rfl, SqT.of upd_same, rfl, _, _, rfl, _, _, rfl, rfl, _, rfl, .inl ⟨rfl, _, SqL.of (st _ _ ha2)⟩, _, rfl, ts[i], A.thing, dt, _, _, rfl, g3 _ _ e1, ct, T.cThing.na _ (by decide +kernel), thF_kind _ _ _ _,
      _, rfl, ts[i], A.thing, dt, _, _, rfl, g3 _ _ e1, ct, T.cThing.na _ (by decide +kernel), thF_row _ _ _ _, _, rfl, _, rfl, l1, _, rfl, .inl (SqL.of l3), rfl, flat_I _, _, rfl, ?_⟩
    refine if2 (fun c => ?_) (fun c => ?_)
    all_goals
      have c : inV (.int ((i : Nat) : Int)) (vI (Hx01.live h)) = _ := c
      rw [inc] at c
      refine ⟨_, rfl, ts[i], A.thing, dt, _, _, rfl, g3 _ _ e1, ct, T.cThing.na _ (by decide +kernel), thF_fields _ _ _ _, tf, _, rfl, .inl (SqL.of (g3 _ _ e2)), big (show 4 ≤ 100000 by decide), fun e he => ?_⟩
      refine ⟨la, e, _, _, rfl, rfl, (same_upd (Same.refl _) he) _ _ (st _ _ ha2), upd_same, big (by rw [vI_len]; show acc.length + 4 ≤ 100000; omega), ?_⟩
      generalize hH4 : upd (upd (upd H2 t (.tup [V.int (i : Nat), V.ref ts[i]])) e _) la _ = H4
      have s4 : Same H1 (but [la] H4) := by
        rw [← hH4, but_upd (by simp)]
        exact s3.trans (but_same (same_upd (Same.refl _) he))
      have ha4 : H4 la = some (.lst (vI (acc ++ [tt.cls, tt.row, if (Hx01.live h).contains i = true then 1 else 0, tt.fields.length]))) := by
        rw [← hH4, upd_same, c, vI_app, List.length_map]
        rfl
      have g4 := go s4
      refine ⟨_, rfl, .inl ⟨rfl, _, SqL.of ha4⟩, _, rfl, ts[i], A.thing, dt, _, _, rfl, g4 _ _ e1, ct, T.cThing.na _ (by decide +kernel), thF_fields _ _ _ _, tf, rfl, ⟨_, SqL.of (g4 _ _ e2)⟩, fun D hD => ?_⟩
      have nDa : D ≠ la := (ne_of_none ha4 hD).symm
      refine lc_it (walk_list (K := K) (a := tf) (xs := tt.fields.map oV)) (fun j H' => Same H4 (but [D] H') ∧ H' D = some (.lst (vI ((tt.fields.take j).map one)))) ⟨?_, upd_same⟩ (fun j H' _ h => SqL.of (but_le _ _ (h.1 _ _ (g4 _ _ e2)))) ?_ ?_
      · rw [but_upd (by simp)]
        exact but_out_of (Same.refl _) (fun b hb => by rw [List.mem_singleton.mp hb]; exact hD)
      · rintro j x H5 H6 hj ⟨s5, e5⟩ ⟨rfl, hx⟩
        rw [List.length_map] at hj
        rw [List.getElem?_map, List.getElem?_eq_getElem hj] at hx
        cases hx
        refine ⟨rfl, lcYes ?_⟩
        refine ⟨_, rfl, tt.fields[j], rfl, _, e5, bigLt (by rw [vI_len, List.length_map, List.length_take]; omega), ?_, ?_⟩
        · rw [but_upd (by simp)]; exact s5
        · rw [upd_same, take_one (List.getElem?_eq_getElem hj), List.map_append, vI_app]
          rfl
      · rintro H5 ⟨s5, e5⟩
        rw [List.length_map, List.take_length] at e5
        have ha5 := (but_some (s5 _ _ ha4)).2
        refine ⟨la, D, _, _, rfl, rfl, ha5, e5, big (by rw [vI_len, vI_len, List.length_append, List.length_map]; show acc.length + 4 + _ ≤ 100000; omega), ?_⟩
        refine ⟨_, _, _, rfl, ?_, acc ++ thingA h (tt, i), ?_, ?_, ?_⟩
        · rw [but_upd (by simp)]
          exact s4.trans (but_same (s5.trans but_le))
        · rw [upd_same, ← vI_app]
          unfold thingA
          rw [List.append_assoc]
        · rw [take_one hz, List.flatMap_append, eacc]
          simp
        · have : (thingA h (tt, i)).length ≤ 6 := by
            unfold thingA
            rw [List.length_append, List.length_map]
            show 4 + tt.fields.length ≤ 6
            omega
          rw [List.length_append]
          omega
  · rintro σ H2 ⟨v3, v4, v5, rfl, s2, acc, ha2, eacc, _⟩
    rw [List.length_map, List.take_of_length_le (by rw [List.length_zip, List.length_range]; omega)] at eacc
    refine ⟨_, rfl, k H2 la (go s2) (s1.free hla) ?_⟩
    rw [ha2, eacc]
    rfl
end
end Kq
namespace Kq
open PySem PySem.Spec PyProof.Rows L2
open Hx01 (Link)
section
variable {P : Program} {w : World} {K : PySem.W.Frag} {mg : Str → Option Value} {base : Heap} {A : CA}
def keepsA (p : Hx01.Program) (h : Hx01.Heap) (o : Nat) : List Nat := [one (Hx01.keeper h o), Hx01.bytesOf p h (Hx01.keeps h o)] ++ (Hx01.keeps h o).length :: Hx01.keeps h o
def spKeepsC (A : CA) : Sp := fun vs H Q _ => ∃ (sa : Addr) (o : Nat) (p : Hx01.Program) (h : Hx01.Heap), vs = [.ref sa, .int (o : Nat)] ∧ Sn A H p sa h ∧ Ans H Q (keepsA p h o)
theorem scKeepsC : FnScope ["heap", "thing"] ["heap", "thing"] (defScope sKeepsC) := ⟨rfl, rfl, rfl, by decide +kernel, rfl, by decide +kernel, by decide +kernel⟩
theorem c_keepsC (T : TxtC A w K mg) : Cb P w K mg base 7 "keeps" ["heap", "thing"] (spKeepsC A) := by
  refine T.dKeepsC.cb scKeepsC (fun vs H Q E h => ?_) (fun fa cdv Ar outer s H vs Q E hr h => ?_)
  · obtain ⟨sa, o, p, h, rfl, _⟩ := h
    rfl
  obtain ⟨sa, o, p, h, rfl, N, k⟩ := h
  have hr1 : Room 1 _ := hr.mono (by decide)
  have hr2 : Room 2 _ := hr.mono (by decide)
  have hr5 : Room 5 _ := hr.mono (by decide)
  refine ⟨_, pss_one (ps_ret (pe_op op_cat (pe_lst (pa_cons (pe_cb (c_and T) hr1 rfl (pa_cons (pe_cb (c_keeper T.toTxtH) hr rfl (pa_cons (pv 0) (pa_cons (pv 1) pa_nil))) pa_nil)) pa_nil))
    (pe_cb (c_cbytes T) hr2 rfl (pa_cons (pv 0) (pa_cons (pe_cb (c_kept T.toTxtH) hr5 rfl (pa_cons (pv 0) (pa_cons (pv 1) pa_nil))) pa_nil))))), ?_⟩
  have hm := N.ok.many
  have hlen := Kp.live_len h
  have hkl := len_keeps (h := h) (o := o)
  refine ⟨_, rfl, _, rfl, sa, o, p, h, rfl, N, fun H1 s1 => ⟨_, rfl, big (show 1 ≤ 100000 by decide), fun a ha => ?_⟩⟩
  have s2 : Same H1 (upd H1 a (.lst [V.int (one (Hx01.keeper h o) : Nat)])) := same_upd (Same.refl _) ha
  have s12 := s1.trans s2
  refine ⟨_, rfl, _, rfl, _, rfl, sa, o, p, h, rfl, N.go s12, fun H3 l3 s3 hl3 e3 => ?_⟩
  refine ⟨sa, l3, _, p, h, rfl, N.go (s12.trans s3), e3, fun x hx => keeps_lt hx, by omega, fun H4 D4 s4 hD4 e4 => ?_⟩
  have s34 := s3.trans s4
  refine ⟨a, D4, _, _, rfl, rfl, s34 _ _ upd_same, e4, big (by show 1 + (vI _).length ≤ 100000; rw [vI_len, List.length_cons, List.length_cons]; omega), fun q hq => ?_⟩
  have s14 := s12.trans s34
  refine k _ q (s14.trans (same_upd (Same.refl _) hq)) (s14.free hq) ?_
  rw [upd_same]
  rfl
def spNeverC (A : CA) : Sp := fun vs H Q _ => ∃ (sa : Addr) (p : Hx01.Program) (h : Hx01.Heap), vs = [.ref sa] ∧ Sn A H p sa h ∧ Ans H Q (Hx01.bytesOf p h (Hx01.never h) :: (Hx01.never h).length :: Hx01.never h)
theorem scNeverC : FnScope ["heap"] ["heap"] (defScope sNeverC) := ⟨rfl, rfl, rfl, by decide +kernel, rfl, by decide +kernel, by decide +kernel⟩
theorem c_neverC (T : TxtC A w K mg) : Cb P w K mg base 6 "never" ["heap"] (spNeverC A) := by
  refine T.dNeverC.cb scNeverC (fun vs H Q E h => ?_) (fun fa cdv Ar outer s H vs Q E hr h => ?_)
  · obtain ⟨sa, p, h, rfl, _⟩ := h
    rfl
  obtain ⟨sa, p, h, rfl, N, k⟩ := h
  have hr2 : Room 2 _ := hr.mono (by decide)
  refine ⟨_, pss_one (ps_ret (pe_cb (c_cbytes T) hr2 rfl (pa_cons (pv 0) (pa_cons (pe_cb (c_freed T.toTxtH) hr rfl (pa_cons (pv 0) pa_nil)) pa_nil)))), ?_⟩
  refine ⟨_, rfl, _, rfl, sa, p, h, rfl, N, fun H1 D s1 e1 l1 lt1 => ?_⟩
  exact ⟨sa, D, _, p, h, rfl, N.go s1, e1, lt1, by omega, k.go s1⟩
def cutZ (p : Hx01.Program) (h : Hx01.Heap) (a b : Nat) : List Int := match (Hx01.liveLinks h).find? fun x => decide (x.src = a) && decide (x.slot = b) with
  | none => [-6]
  | some x => Hx01.ints (Hx01.bytesOf p h (Hx01.freed h [x]) :: (Hx01.freed h [x]).length :: Hx01.freed h [x])
def spCutC (A : CA) : Sp := fun vs H Q _ => ∃ (sa : Addr) (a b : Nat) (p : Hx01.Program) (h : Hx01.Heap), vs = [.ref sa, .int (a : Nat), .int (b : Nat)] ∧ Sn A H p sa h ∧ AnsZ H Q (cutZ p h a b)
abbrev nCutC : List Str := ["heap", "begins", "which", "link"]
theorem scCutC : FnScope nCutC ["heap", "begins", "which"] (defScope sCutC) := ⟨rfl, rfl, rfl, by decide +kernel, rfl, by decide +kernel, by decide +kernel⟩
theorem c_cutC (T : TxtC A w K mg) : Cb P w K mg base 6 "cut" ["heap", "begins", "which"] (spCutC A) := by
  refine T.dCutC.cb scCutC (fun vs H Q E h => ?_) (fun fa cdv Ar outer s H vs Q E hr h => ?_)
  · obtain ⟨sa, a, b, p, h, rfl, _⟩ := h
    rfl
  obtain ⟨sa, a, b, p, h, rfl, N, k⟩ := h
  have hr2 : Room 2 _ := hr.mono (by decide)
  have hr4 : Room 4 _ := hr.mono (by decide)
  refine ⟨_, pss_cons (ps_set (i := 3) scCutC.nd rfl (Or.inl rfl) (pe_cb (c_use T.toTxtH) hr rfl (pa_cons (pv 0) (pa_cons (pv 1) (pa_cons (pv 2) pa_nil)))))
    (pss_cons (ps_if (pt_cmp (pc_isN (pv 3))) (pss_one (ps_ret (pe_lst (pa_cons (pe_gI T.cNC rfl) pa_nil)))) pss_nil)
    (pss_one (ps_ret (pe_cb (c_cbytes T) hr2 rfl (pa_cons (pv 0) (pa_cons (pe_cb (c_go T.toTxtH) hr4 rfl (pa_cons (pv 0) (pa_cons (pe_lst (pa_cons (pv 3) pa_nil)) pa_nil))) pa_nil)))))), ?_⟩
  have hm := N.ok.many
  have hlen := Kp.live_len h
  refine ⟨_, rfl, _, rfl, _, rfl, sa, a, b, p, h, rfl, N, fun H1 s1 e => ?_, fun H1 q x s1 e hk => ?_⟩
  · refine ⟨_, rfl, _, rfl, ifT rfl ⟨big (show 1 ≤ 100000 by decide), fun D hD => ?_⟩⟩
    refine k _ D (s1.trans (same_upd (Same.refl _) hD)) (s1.free hD) ?_
    unfold cutZ
    rw [upd_same, e]
    rfl
  · refine ⟨_, rfl, _, rfl, ifF rfl ?_⟩
    refine ⟨_, rfl, _, rfl, _, rfl, big (show 1 ≤ 100000 by decide), fun l2 hl2 => ?_⟩
    have s2 : Same H1 (upd H1 l2 (.lst [V.ref q])) := same_upd (Same.refl _) hl2
    have s12 := s1.trans s2
    have hf := freed_len (h := h) (c := [x])
    refine ⟨sa, l2, [x], p, h, rfl, N.go s12, ⟨[q], upd_same, LksAt.one (s2 _ _ hk)⟩, fun H3 D s3 hD e3 => ?_⟩
    refine ⟨sa, D, _, p, h, rfl, N.go (s12.trans s3), e3, fun x hx => freed_lt hx, by omega, AnsZ.ans ?_⟩
    have k2 := k.go (s12.trans s3)
    unfold cutZ at k2
    rw [e] at k2
    exact k2
def linkA (x : Link) : List Nat := [x.src, x.slot, x.to]
def wayA (h : Hx01.Heap) (o : Nat) : List Nat := let l := (Hx01.wayTo h o).getD []
  l.length :: l.flatMap linkA
/-- links as rows of numbers -/
theorem LksAt.tups {H : Hp} {as : List Addr} {l : List Link} (h : LksAt H as l) : AllR (isTup H) (as.map V.ref) (l.map linkA) := by
  refine AllR.comp ⟨by rw [List.length_map]; exact h.1, fun i y x e1 e2 => ?_⟩
  rw [List.getElem?_map] at e1
  obtain ⟨a, e3, rfl⟩ := Option.map_eq_some_iff.mp e1
  exact ⟨a, rfl, h.2 i a x e3 e2⟩
theorem linkA_three (l : List Link) : ∀ ns ∈ l.map linkA, ns.length ≤ 3 := fun ns h => by
  obtain ⟨x, _, rfl⟩ := List.mem_map.mp h
  exact Nat.le_refl 3
theorem flat_links (l : List Link) : (l.map linkA).length :: (l.map linkA).flatten = l.length :: l.flatMap linkA := by
  rw [List.length_map]
  rfl
def spWayC (A : CA) : Sp := fun vs H Q _ => ∃ (sa : Addr) (o : Nat) (p : Hx01.Program) (h : Hx01.Heap), vs = [.ref sa, .int (o : Nat)] ∧ Sn A H p sa h ∧ o ∈ Hx01.live h ∧ Ans H Q (wayA h o)
theorem scWayC : FnScope ["heap", "thing"] ["heap", "thing"] (defScope sWayC) := ⟨rfl, rfl, rfl, by decide +kernel, rfl, by decide +kernel, by decide +kernel⟩
theorem c_wayC (T : TxtC A w K mg) : Cb P w K mg base 3 "way" ["heap", "thing"] (spWayC A) := by
  refine T.dWayC.cb scWayC (fun vs H Q E h => ?_) (fun fa cdv Ar outer s H vs Q E hr h => ?_)
  · obtain ⟨sa, o, p, h, rfl, _⟩ := h
    rfl
  obtain ⟨sa, o, p, h, rfl, N, hlive, k⟩ := h
  have hr1 : Room 1 _ := hr.mono (by decide)
  have hu1 : (Ar.deeper (envOfC (Str.ofString "way") (defScope sWayC) s.heap.objs.size fa cdv)).units + 1 < cLine := by have := hr.un; omega
  refine ⟨_, pss_one (ps_ret (pe_cb (c_counted T) hr1 rfl (pa_cons (pe_dget hu1 (pe_cb (c_ways T.toTxtH) hr rfl (pa_cons (pv 0) (pa_cons (pe_lst pa_nil) pa_nil))) (pv 1) noSlName) pa_nil))), ?_⟩
  have hl := N.links
  have hm := N.ok.many
  refine ⟨_, rfl, big (show 0 ≤ 100000 by decide), fun l0 hl0 => ?_⟩
  have s0 : Same H (upd H l0 (.lst [])) := same_upd (Same.refl _) hl0
  refine ⟨sa, l0, [], p, h, rfl, N.go s0, WyAt.nil upd_same, fun H1 d acc qs s1 hd hd1 hW F => ?_⟩
  have hhas : Kp.has acc o = true := Kp.has_iff.mpr ((F.live hl o).mpr hlive)
  obtain ⟨i, y, q, hy, hq, hval, hfind⟩ := wyD_get hW.1 hhas
  have hyl := F.short y (List.mem_of_getElem? hy)
  have ew : (Hx01.wayTo h o).getD [] = y.2 := by
    unfold Hx01.wayTo
    rw [← F.all rfl, hfind]
    rfl
  obtain ⟨as, hq1, hL⟩ := hW.2 i q y hq hy
  have hg := DGet.k (k := Sum.inl (o : Int)) hd1
  rw [hval] at hg
  refine ⟨_, rfl, d, _, rfl, hg, q, _, _, rfl, hq1, hL.tups, by rw [List.length_map]; omega, linkA_three _, ?_⟩
  rw [flat_links]
  have k2 := k.go (s0.trans s1)
  unfold wayA at k2
  rw [ew] at k2
  exact k2
def fewZ (h : Hx01.Heap) (o : Nat) : List Int := match Hx01.fewest h o with
  | none => [-7]
  | some c => Hx01.toldLinks c
def spFewC (A : CA) : Sp := fun vs H Q _ => ∃ (sa : Addr) (o : Nat) (p : Hx01.Program) (h : Hx01.Heap), vs = [.ref sa, .int (o : Nat)] ∧ Sn A H p sa h ∧ o ∈ Hx01.live h ∧ AnsZ H Q (fewZ h o)
abbrev nFewC : List Str := ["heap", "thing", "links"]
theorem scFewC : FnScope nFewC ["heap", "thing"] (defScope sFewC) := ⟨rfl, rfl, rfl, by decide +kernel, rfl, by decide +kernel, by decide +kernel⟩
theorem c_fewC (T : TxtC A w K mg) : Cb P w K mg base 9 "fewest" ["heap", "thing"] (spFewC A) := by
  refine T.dFewC.cb scFewC (fun vs H Q E h => ?_) (fun fa cdv Ar outer s H vs Q E hr h => ?_)
  · obtain ⟨sa, o, p, h, rfl, _⟩ := h
    rfl
  obtain ⟨sa, o, p, h, rfl, N, hlive, k⟩ := h
  have hr1 : Room 1 _ := hr.mono (by decide)
  refine ⟨_, pss_cons (ps_set (i := 2) scFewC.nd rfl (Or.inl rfl) (pe_cb (c_few T.toTxtH) hr rfl (pa_cons (pv 0) (pa_cons (pv 1) pa_nil))))
    (pss_one (ps_ret (pe_ifExp (pt_cmp (pc_isN (pv 2))) (pe_lst (pa_cons (pe_gI T.cNE rfl) pa_nil)) (pe_cb (c_counted T) hr1 rfl (pa_cons (pv 2) pa_nil))))), ?_⟩
  refine ⟨_, rfl, _, rfl, sa, o, p, h, rfl, N, hlive, fun H1 s1 e => ?_, fun H1 D c s1 hD hW e hc => ?_⟩
  · refine ⟨_, rfl, _, rfl, ifT rfl ⟨big (show 1 ≤ 100000 by decide), fun D hD => ?_⟩⟩
    refine k _ D (s1.trans (same_upd (Same.refl _) hD)) (s1.free hD) ?_
    unfold fewZ
    rw [upd_same, e]
    rfl
  · obtain ⟨as, e1, hL⟩ := hW
    refine ⟨_, rfl, _, rfl, ifF rfl ⟨_, rfl, D, _, _, rfl, e1, hL.tups, by rw [List.length_map]; omega, linkA_three _, AnsZ.ans ?_⟩⟩
    rw [flat_links]
    have k2 := k.go s1
    unfold fewZ at k2
    rw [e] at k2
    exact k2
end
end Kq
namespace Kq
open PySem PySem.Spec PyProof.Rows L2 LamX
/-- a def with its code object -/
def Dc (K : PySem.W.Frag) (mg : Str → Option Value) (x : Str) (st : Stmt) (ps : List Str) (c : Addr) : Prop :=
  ∃ f fd, Fun K x x st f fd ∧ mg x = some (.ref f) ∧ Binds K fd ps [] ∧ fd.code = .ref c
theorem Dc.cb {P : Program} {w : World} {K : PySem.W.Frag} {mg : Str → Option Value} {base : Heap} {k : Nat} {x : Str} {st : Stmt} {ps N : List Str} {sp : Sp} {c : Addr} (D : Dc K mg x st ps c) (S : FnScope N ps (defScope st)) (len : ∀ vs H Q E, sp vs H Q E → vs.length = ps.length)
    (hbody : ∀ (f : Addr) (A : Around) (outer : List Env) (s : Shared) (H : Hp) (vs : List V) (Q : VK) (E : XK), Room k (A.deeper (envOfC x (defScope st) s.heap.objs.size f (.ref c))) → sp vs H Q E →
      ∃ t, PSs (cxOf CX0 P w K mg base N x (defScope st) f (.ref c) A outer s H E).nox (defBody st) t ∧ t { nx := fun _ H' => Q .non H', rt := Q } (start N vs) H) : Cb P w K mg base (k + 1) x ps sp := by
  obtain ⟨f, fd, F, m, b, hc⟩ := D
  refine ⟨f, fd, ?_, m, F.kp, b⟩
  obtain ⟨oc, od, kV, dc, pm, an, cdv, ct, sl, rfl, lk, hcd⟩ := F.ex
  have hc : cdv = .ref c := hc
  subst hc
  refine fn_of lk hcd S len fun A outer s H vs Q E hr h => ?_
  obtain ⟨t, h1, h2⟩ := hbody f A outer s H vs Q E hr h
  exact ⟨t, h1.nox, h2⟩
/-- answers of defs that make lambdas: tables may have grown -/
def AnsN (T : List (Addr × Str)) (H : Hp) (Q : VK) (l : List Nat) : Prop := ∀ (H' : Hp) (D : Addr), ExtN H H' → Tabs T H' → H' D = some (.lst (vI l)) → Q (.ref D) H'
theorem AnsN.ans {T : List (Addr × Str)} {H : Hp} {Q : VK} {l : List Nat} (h : AnsN T H Q l) (t : Tabs T H) : Ans H Q l := fun H' D s _ e => h H' D (ExtN.of s) (t.ext s) e
def lamT (Pt : Addr) : List (Addr × Str) := [(Pt, "most.<locals>.<lambda>")]
theorem cut_take (l : List V) (k : Nat) : cutV l none (some (k : Int)) = l.take k := by
  unfold cutV
  rw [HT.sIx_nat, HT.sIx_none, List.drop_zero, Nat.sub_zero]
  by_cases c : k ≤ l.length
  · rw [Nat.min_eq_left c]
  · rw [Nat.min_eq_right (by omega)]
    rw [List.take_of_length_le (Nat.le_refl _)]
    rw [List.take_of_length_le (by omega)]
/-- the numbers in the order of what they keep -/
theorem sorted_nats {p : Hx01.Program} {h : Hx01.Heap} {g : Int → Int} (hg : ∀ n : Nat, g (n : Int) = (Kp.kb p h n : Nat)) : ∃ l : List Nat, (Kp.zs (Hx01.live h)).mergeSort (bigLe g) = Kp.zs l ∧ l.Perm (Hx01.live h) ∧ Hx01.most p h = l.map fun o => (o, Kp.kb p h o) := by
  have hp := List.mergeSort_perm (Kp.zs (Hx01.live h)) (bigLe g)
  have hs : ((Kp.zs (Hx01.live h)).mergeSort (bigLe g)).Pairwise fun a b => bigLe g a b = true := by
    refine List.pairwise_mergeSort (fun a b c h1 h2 => ?_) (fun a b => ?_) _
    · unfold bigLe at *
      simp only [decide_eq_true_eq] at *
      omega
    · unfold bigLe
      simp only [Bool.or_eq_true, decide_eq_true_eq]
      omega
  have nd : ((Kp.zs (Hx01.live h)).mergeSort (bigLe g)).Nodup := hp.nodup_iff.mpr (Kp.zs_nodup (live_nodup h))
  have pos : ∀ y ∈ (Kp.zs (Hx01.live h)).mergeSort (bigLe g), ∃ n : Nat, y = (n : Int) := fun y hy => by
    obtain ⟨n, _, e⟩ := List.mem_map.mp (hp.mem_iff.mp hy)
    exact ⟨n, e.symm⟩
  generalize (Kp.zs (Hx01.live h)).mergeSort (bigLe g) = ys at hp hs nd pos
  have e1 : ys = Kp.zs (ys.map Int.toNat) := by
    unfold Kp.zs
    rw [List.map_map]
    symm
    conv => rhs; rw [← List.map_id ys]
    refine List.map_congr_left fun y hy => ?_
    obtain ⟨n, rfl⟩ := pos y hy
    rfl
  have e2 : (Kp.zs (Hx01.live h)).map Int.toNat = Hx01.live h := by
    unfold Kp.zs
    rw [List.map_map]
    conv => rhs; rw [← List.map_id (Hx01.live h)]
    exact List.map_congr_left fun y _ => rfl
  have p2 : (ys.map Int.toNat).Perm (Hx01.live h) := by
    have := hp.map Int.toNat
    rw [e2] at this
    exact this
  refine ⟨ys.map Int.toNat, e1, p2, Kp.most_is p h p2 ?_⟩
  rw [List.pairwise_map]
  refine (hs.and nd).imp_of_mem fun {a b} ha hb hab => ?_
  obtain ⟨n, rfl⟩ := pos a ha
  obtain ⟨m, rfl⟩ := pos b hb
  obtain ⟨h1, h2⟩ := hab
  unfold bigLe at h1
  simp only [decide_eq_true_eq, hg] at h1
  show Kp.kb p h m < Kp.kb p h n ∨ (Kp.kb p h n = Kp.kb p h m ∧ n < m)
  omega
end Kq
namespace Kq
open PySem PySem.Spec PyProof.Rows L2 LamX
section
variable {P : Program} {w : World} {K : PySem.W.Frag} {mg : Str → Option Value} {base : Heap} {A : CA}
def mostA (p : Hx01.Program) (h : Hx01.Heap) (n : Nat) : List Nat := let l := (Hx01.most p h).take n
  l.length :: l.flatMap fun x => [x.1, x.2]
def spMostC (A : CA) (Pt : Addr) : Sp := fun vs H Q _ => ∃ (sa : Addr) (n : Nat) (p : Hx01.Program) (h : Hx01.Heap), vs = [.ref sa, .int (n : Nat)] ∧ Sn A H p sa h ∧ Tabs (lamT Pt) H ∧ AnsN (lamT Pt) H Q (mostA p h n)
abbrev nMostC : List Str := ["heap", "how_many", "sizes", "thing", "told"]
theorem scMostC : FnScope nMostC ["heap", "how_many"] (defScope sMostC) := ⟨rfl, rfl, rfl, by decide +kernel, rfl, by decide +kernel, by decide +kernel⟩
theorem c_mostC (T : TxtC A w K mg) {c Pt : Addr} (D : Dc K mg "most" sMostC ["heap", "how_many"] c) (TB : TabB base mg c Pt) : Cb P w K mg base 6 "most" ["heap", "how_many"] (spMostC A Pt) := by
  refine D.cb scMostC (fun vs H Q E h => ?_) (fun fa Ar outer s H vs Q E hr h => ?_)
  · obtain ⟨sa, n, p, h, rfl, _⟩ := h
    rfl
  obtain ⟨sa, n, p, h, rfl, N, hT, k⟩ := h
  have hu1 : (Ar.deeper (envOfC (Str.ofString "most") (defScope sMostC) s.heap.objs.size fa (.ref c))).units + 1 < cLine := by have := hr.un; omega
  have hr3 : Room 3 _ := hr.mono (by decide)
  have hr1 : Room 1 _ := hr.mono (by decide)
  refine ⟨_, pss_cons (ps_set (i := 2) scMostC.nd rfl (Or.inr rfl) pe_dnewK)
    (pss_cons (ps_for PassesOwn.never rfl (pi_list (pe_cb (c_come T.toTxtH) hr3 rfl (pa_cons (pv 0) pa_nil))) (pg_name (i := 3) scMostC.nd rfl (.inl rfl))
      (pss_one (ps_dput hu1 (pv 2) (pv 3) (pe_cb (c_bytes T.toTxtH) hr1 rfl (pa_cons (pv 0) (pa_cons (pe_cb (c_kept T.toTxtH) hr rfl (pa_cons (pv 0) (pa_cons (pv 3) pa_nil))) pa_nil))) rfl)))
    (pss_cons (ps_set (i := 4) scMostC.nd rfl (Or.inl rfl) (pe_slice sl_list (pe_sortLam (T := lamT Pt) (i := 2) (k := 5) rfl (by rfl) T.sorted_ rfl (Or.inr (Or.inl rfl)) rfl TB rfl (by exact List.mem_singleton.mpr rfl) (fun q hq _ => by rw [List.mem_singleton.mp hq]; rfl) hr (fun _ _ _ _ _ _ => rfl) (by decide +kernel) (by decide) (by decide) (by decide)) po_none (po_some (pv 1))))
    (pss_one (ps_ret (pe_cb (c_counted T) hr1 rfl (pa_cons (pe_lc (own := [("thing", 3)]) (g := gName 3) (tt := tYes) (te := tTup (tCons (tVar 3) (tCons (tDGet (tVar 2) (tVar 3)) tNil))) rfl scMostC.nd (pi_list (pv 4))
      (blkOk_by (own := [("thing", 3)]) (N := nMostC) (sc := defScope sMostC) (by decide +kernel)) (fun _ _ _ _ _ => pg_name (i := 3) scMostC.nd rfl (Or.inl rfl)) (fun _ _ _ _ _ => pts_nil)
      (fun _ _ _ _ _ => pe_tup (pa_cons (pv 3) (pa_cons (pe_dget hu1 (pv 2) (pv 3) noSlName) pa_nil)))) pa_nil)))))), ?_⟩
  have hm := N.ok.many
  have hlen := Kp.live_len h
  intro d hd
  have sd : Same H (upd H d (.dK [])) := same_upd (Same.refl H) hd
  refine ⟨_, rfl, sa, p, h, rfl, N.go sd, fun H1 l1 s1 hl1 hl1' => ?_⟩
  refine ⟨l1, rfl, ⟨_, SqL.of hl1'⟩, ?_⟩
  have hd1 : H1 d = some (.dK []) := s1 _ _ upd_same
  have nld : l1 ≠ d := fun z => by rw [z, hd1] at hl1'; cases hl1'
  have sH : ∀ {H'}, Same (but [d] H1) (but [d] H') → Same H (but [d] H') := fun {H'} s2 b u e => by
    have n1 : b ≠ d := ne_of_none e hd
    refine s2 _ _ ?_
    rw [but_out (by simpa using n1)]
    exact s1 _ _ (sd _ _ e)
  have hl1b : but [d] H1 l1 = some (.lst (vI (Hx01.live h))) := (but_out (by simpa using nld)).trans hl1'
  refine for_it (walk_list (K := K) (a := l1) (xs := vI (Hx01.live h))) (fun i σ H' => ∃ v3, σ = [some (.ref sa), some (.int (n : Nat)), some (.ref d), v3, none] ∧ Same (but [d] H1) (but [d] H') ∧ H' d = some (.dK (szD (Kp.kb p h) ((Hx01.live h).take i))))
    ⟨none, rfl, Same.refl _, hd1⟩ (fun i σ H' _ ⟨_, _, s, _⟩ => SqL.of (but_le _ _ (s _ _ hl1b))) ?_ ?_
  · rintro i x σ H2 H3 hi ⟨v3, rfl, s2, hd2⟩ ⟨rfl, hx⟩
    obtain ⟨o, ho, rfl⟩ := vI_at hx
    have sb := (sH s2).trans but_le
    have hkl := len_keeps (h := h) (o := o)
    refine ⟨_, rfl, _, rfl, _, rfl, sa, o, p, h, rfl, N.go sb, fun Hk lk sk hlk hlk' => ?_⟩
    refine ⟨sa, lk, Hx01.keeps h o, p, h, rfl, N.go (sb.trans sk), hlk', fun x hx => keeps_lt hx, by omega, fun Hb sbb => ?_⟩
    have sk2 := sk.trans sbb
    have hz : (szD (Kp.kb p h) ((Hx01.live h).take i)).length ≤ 100 := by
      unfold szD
      rw [List.length_map, List.length_take]
      omega
    refine ⟨_, rfl, _, rfl, d, _, rfl, DPut.k (k := Sum.inl (o : Int)) (sk2 _ _ hd2) (bigLt (by omega)), ?_⟩
    refine ⟨_, rfl, ?_, ?_⟩
    · rw [but_upd (by simp)]
      exact s2.trans (but_same sk2)
    · rw [upd_same, take_one ho, ← szD_put (nodup_next (live_nodup h) ho)]
      rfl
  · rintro σ H2 ⟨v3, rfl, s2, hd2⟩
    rw [vI_len, List.take_length] at hd2
    have sH2 := (sH s2).trans but_le
    obtain ⟨l, el, hp, hmost⟩ := sorted_nats (p := p) (h := h) (g := fun z => ((Kp.kb p h z.toNat : Nat) : Int)) (fun n => rfl)
    refine ⟨d, _, Kp.zs (Hx01.live h), fun z => ((Kp.kb p h z.toNat : Nat) : Int), rfl, hd2, ?_, fun z hz => ?_, by rw [List.length_map]; omega, hT.ext sH2, fun H3 q eN T3 hq => ?_⟩
    · unfold szD Kp.zs
      simp only [List.map_map]
      rfl
    · obtain ⟨o, ho, rfl⟩ := List.mem_map.mp hz
      exact szD_get ho
    rw [el]
    have sq : Same H3 (upd H3 q (.lst ((Kp.zs l).map V.int))) := same_upd (Same.refl _) hq
    refine ⟨_, rfl, _, rfl, q, _, rfl, SqL.of upd_same, fun r hr' => ?_⟩
    have ez : (Kp.zs l).map V.int = vI l := by unfold Kp.zs vI; rw [List.map_map]; rfl
    rw [cut_take, ez, show (vI l).take n = vI (l.take n) from (List.map_take).symm]
    rw [ez] at sq hr'
    generalize hH4 : upd (upd H3 q (.lst (vI l))) r (.lst (vI (l.take n))) = H4
    have s34 : Same H3 H4 := by rw [← hH4]; exact sq.trans (same_upd (Same.refl _) hr')
    have hr4 : H4 r = some (.lst (vI (l.take n))) := by rw [← hH4, upd_same]
    have hd4 : H4 d = some (.dK (szD (Kp.kb p h) (Hx01.live h))) := s34 _ _ (eN _ _ hd2 (fun ps z => by cases z))
    have hll : l.length ≤ 16 := by rw [hp.length_eq]; omega
    refine ⟨_, rfl, r, rfl, ⟨_, SqL.of hr4⟩, fun D hD => ?_⟩
    refine lc_pickR (K := K) (a := r) (L := l.take n) (f := fun (n : Nat) => V.int n) (fun _ => true) (fun H v o => isTup H v [o, Kp.kb p h o]) (fun H H' v o sm => isTup_mono H H' v _ sm) (SqL.of hr4) hD (by rw [List.length_take]; omega) ?_ ?_
    · rintro i o H5 ho s5 ⟨ws, e5⟩ Ny Zn kN kZ
      have hol : o ∈ Hx01.live h := hp.mem_iff.mp (List.mem_of_mem_take (List.mem_of_getElem? ho))
      have hg := DGet.k (k := Sum.inl (o : Int)) (but_le _ _ (s5 _ _ hd4))
      rw [szD_get hol] at hg
      refine ⟨rfl, lcYes ⟨_, rfl, _, rfl, _, rfl, d, _, rfl, hg, big (show 2 ≤ 100000 by decide), fun t ht => ?_⟩⟩
      refine kN rfl _ _ (same_upd (Same.refl _) ht) ⟨t, rfl, ?_⟩
      rw [but_out (by simpa using (ne_of_none e5 ht).symm), upd_same]
      rfl
    · intro H5 ys s5 e5 r5
      rw [filter_yes] at r5
      have s35 := s34.trans (s5.trans but_le)
      refine ⟨D, ys, (l.take n).map fun o => [o, Kp.kb p h o], rfl, e5, (r5.imp fun y x => isTup_mono _ _ y _ but_le).comp, by rw [List.length_map, List.length_take]; omega, fun ns hns => ?_, fun H6 D6 s6 _ e6 => ?_⟩
      · obtain ⟨o, _, rfl⟩ := List.mem_map.mp hns
        exact Nat.le_succ 2
      · have s36 := s35.trans s6
        refine k H6 D6 (((ExtN.of sH2).trans eN).trans (ExtN.of s36)) (T3.ext s36) ?_
        rw [e6]
        unfold mostA
        rw [hmost, ← List.map_take]
        show _ = some (HO.lst (vI (((l.take n).map fun o => (o, Kp.kb p h o)).length :: ((l.take n).map fun o => (o, Kp.kb p h o)).flatMap fun x => [x.1, x.2])))
        rw [List.length_map, List.length_map, List.flatMap_map]
        rfl
end
end Kq
namespace Kq
open PySem PySem.Spec PyProof.Rows L2
open Hx01 (Link)
section
variable {P : Program} {w : World} {K : PySem.W.Frag} {mg : Str → Option Value} {base : Heap} {A : CA}
def ofCls (h : Hx01.Heap) (c : Nat) : List Nat := (Hx01.live h).filter fun o => (h.things[o]?).any fun t => t.cls == c
def clsA (p : Hx01.Program) (h : Hx01.Heap) (c : Nat) : List Nat := [(ofCls h c).length, Hx01.bytesOf p h (ofCls h c)]
def classesA (p : Hx01.Program) (h : Hx01.Heap) : List Nat := p.classes.length :: (List.range p.classes.length).flatMap (clsA p h)
def spClassesC (A : CA) : Sp := fun vs H Q _ => ∃ (sa : Addr) (p : Hx01.Program) (h : Hx01.Heap), vs = [.ref sa] ∧ Sn A H p sa h ∧ p.classes.length ≤ 100 ∧ Ans H Q (classesA p h)
abbrev nClassesC : List Str := ["heap", "answer", "kind", "numbers", "number"]
theorem scClassesC : FnScope nClassesC ["heap"] (defScope sClassesC) := ⟨rfl, rfl, rfl, by decide +kernel, rfl, by decide +kernel, by decide +kernel⟩
theorem c_classesC (T : TxtC A w K mg) : Cb P w K mg base 4 "classes" ["heap"] (spClassesC A) := by
  refine T.dClassesC.cb scClassesC (fun vs H Q E h => ?_) (fun fa cdv Ar outer s H vs Q E hr h => ?_)
  · obtain ⟨sa, p, h, rfl, _⟩ := h
    rfl
  obtain ⟨sa, p, h, rfl, N, hcl, k⟩ := h
  have hr1 : Room 1 _ := hr.mono (by decide)
  refine ⟨_, pss_cons (ps_set (i := 1) scClassesC.nd rfl (Or.inl rfl) (pe_lst (pa_cons (pe_fld (pv 0) rfl) pa_nil)))
    (pss_cons (ps_for PassesOwn.never rfl (pi_range1 (by rfl) T.range_ (pa_cons (pe_fld (pv 0) rfl) pa_nil)) (pg_name (i := 2) scClassesC.nd rfl (.inr rfl))
      (pss_cons (ps_setLc (i := 3) (own := [("number", 4)]) (g := gName 4) (tt := tTest (tOp rEq (tFld K (tOp (rIxL K) (tFld K (tVar 0) "things") (tVar 4)) "kind") (tVar 2))) (te := tVar 4) rfl scClassesC.nd rfl rfl (sw_true rfl rfl rfl (by decide +kernel)) (pi_list (pe_cb (c_come T.toTxtH) hr rfl (pa_cons (pv 0) pa_nil)))
        (blkOk_by (own := [("number", 4)]) (N := nClassesC) (sc := defScope sClassesC) (by decide +kernel)) (fun _ _ _ _ _ => pg_name (i := 4) scClassesC.nd rfl (Or.inl rfl))
        (fun _ _ _ _ _ => pts_one (pt_cmpR op_eq (pe_fld (pe_ix ix_list (pe_fld (pv 0) rfl) (pv 4) (fun _ _ => rfl)) rfl) (pv 2) (nomark _))) (fun _ _ _ _ _ => pv 4))
      (pss_one (ps_expr (pe_bm PySem.F.plainAttrs_list PySem.F.slot_list_extend PySem.F.type_list_extend mt_extend (pv 1) (pa_cons (pe_lst (pa_cons (pe_callB call_len_seq (by rfl) T.len PySem.boot_len (pa_cons (pv 3) pa_nil)) (pa_cons (pe_cb (c_bytes T.toTxtH) hr1 rfl (pa_cons (pv 0) (pa_cons (pv 3) pa_nil))) pa_nil))) pa_nil))))))
    (pss_one (ps_ret (pv 1)))), ?_⟩
  have hm := N.ok.many
  have hlen := Kp.live_len h
  obtain ⟨dh, lt, lv, ts, fs, h1, h2, h3, t1, t2, t3⟩ := N.at_
  have cl := T.cHeap.cl
  refine ⟨_, rfl, sa, A.heap, dh, _, _, rfl, h1, cl, T.cHeap.na _ (by decide +kernel), hpF_count _ _, big (show 1 ≤ 100000 by decide), fun la hla => ?_⟩
  have sla : Same H (but [la] (upd H la (.lst [V.int (p.classes.length : Nat)]))) := same_new hla
  refine ⟨_, rfl, sa, A.heap, dh, _, _, rfl, but_le _ _ (sla _ _ h1), cl, T.cHeap.na _ (by decide +kernel), hpF_count _ _, _, rfl, by omega, by omega, ?_⟩
  rw [Int.toNat_natCast]
  have hfl : ∀ m : List Nat, (m.flatMap (clsA p h)).length = 2 * m.length := fun m => by
    induction m with
    | nil => rfl
    | cons a m ih =>
      rw [List.flatMap_cons, List.length_append, ih, List.length_cons (as := m)]
      show 2 + 2 * m.length = 2 * (m.length + 1)
      omega
  refine for_it (walk_range (lo := 0) (n := p.classes.length)) (fun i σ H' => ∃ v2 v3 v4, σ = [some (.ref sa), some (.ref la), v2, v3, v4] ∧ Same H (but [la] H') ∧ H' la = some (.lst (vI (p.classes.length :: ((List.range p.classes.length).take i).flatMap (clsA p h)))))
    ⟨none, none, none, rfl, sla, upd_same⟩ (fun _ _ _ _ _ => trivial) ?_ ?_
  · rintro i v σ H2 H3 hi ⟨v2, v3, v4, rfl, s2, ha2⟩ ⟨rfl, hv⟩
    obtain rfl : v = V.int ((i : Nat) : Int) := hv.trans (congrArg V.int (Int.zero_add _))
    have g2 : Same H H3 := s2.trans but_le
    refine ⟨_, rfl, sa, p, h, rfl, N.go g2, fun H4 l4 s4 hl4 e4 => ?_⟩
    refine ⟨l4, rfl, ⟨_, SqL.of e4⟩, fun D hD => ?_⟩
    have g4 := g2.trans s4
    refine lc_pick (K := K) (a := l4) (L := Hx01.live h) (f := fun (n : Nat) => V.int n) (fun o => (h.things[o]?).any fun t => t.cls == i) (fun (n : Nat) => V.int n) (SqL.of e4) hD (by omega) ?_ ?_
    · rintro j o H5 ho s5 _ Ny Zn kN kZ
      have hol := Kp.live_lt (List.mem_of_getElem? ho)
      obtain ⟨tt, htt⟩ := get_some (l := h.things) hol
      obtain ⟨to, hto⟩ := get_some (l := ts) (i := o) (by omega)
      obtain ⟨tf, htf⟩ := get_some (l := fs) (i := o) (by omega)
      obtain ⟨⟨dt, e1⟩, e2⟩ := t3 _ to tf tt hto htf htt
      have g5 := g4.trans (s5.trans but_le)
      refine ⟨rfl, _, rfl, sa, A.heap, dh, _, _, rfl, g5 _ _ h1, cl, T.cHeap.na _ (by decide +kernel), hpF_things _ _, _, rfl, lt, _, _, _, rfl, rfl, SqL.of (g5 _ _ h2), atI_nat (j := o) (by rw [List.getElem?_map, hto]; rfl),
        to, A.thing, dt, _, _, rfl, g5 _ _ e1, T.cThing.cl, T.cThing.na _ (by decide +kernel), thF_kind _ _ _ _, _, rfl, rfl, _, rfl, ?_⟩
      have ep : ((h.things[o]?).any fun t => t.cls == i) = decide (tt.cls = i) := by
        rw [htt, Bool.eq_iff_iff]
        simp
      rw [ep] at kN kZ
      rw [int_eq]
      exact if2 (fun e => ⟨_, rfl, kN e _ (Same.refl _)⟩) (fun e => kZ e _ (Same.refl _))
    · intro H5 s5 e5
      have e5 : H5 D = some (.lst (vI (ofCls h i))) := e5
      have g5 := g4.trans (s5.trans but_le)
      have ha5 : H5 la = some (.lst (vI (p.classes.length :: ((List.range p.classes.length).take i).flatMap (clsA p h)))) := but_le _ _ (s5 _ _ (s4 _ _ ha2))
      have lo : (ofCls h i).length ≤ 16 := Nat.le_trans (List.length_filter_le _ _) (by omega)
      refine ⟨_, rfl, .inl ⟨rfl, _, SqL.of ha5⟩, _, rfl, D, _, rfl, .inl (SqL.of e5), _, rfl, _, rfl, sa, D, ofCls h i, p, h, rfl, N.go g5, e5, fun x hx => Kp.live_lt (List.mem_filter.mp hx).1, by omega, fun H6 s6 => ?_⟩
      refine ⟨big (show 2 ≤ 100000 by decide), fun e he => ?_⟩
      have ha6 := s6 _ _ ha5
      refine ⟨la, e, _, _, rfl, rfl, (same_upd (Same.refl _) he) _ _ ha6, upd_same, big (by rw [vI_len, List.length_cons, hfl, List.length_take, List.length_range]; show _ + 1 + 2 ≤ 100000; omega), ?_⟩
      have hri : (List.range p.classes.length)[i]? = some i := List.getElem?_range hi
      refine ⟨_, _, _, rfl, ?_, ?_⟩
      · rw [but_upd (by simp)]
        refine s2.trans (but_same ((s4.trans (s5.trans but_le)).trans (s6.trans (same_upd (Same.refl _) he))))
      · rw [upd_same, take_one hri, List.flatMap_append]
        show some (HO.lst (vI (p.classes.length :: ((List.range p.classes.length).take i).flatMap (clsA p h)) ++ [V.int ((vI (ofCls h i)).length : Nat), V.int (Hx01.bytesOf p h (ofCls h i) : Nat)])) = some (HO.lst (vI ((p.classes.length :: ((List.range p.classes.length).take i).flatMap (clsA p h)) ++ [i].flatMap (clsA p h))))
        rw [vI_app, vI_len]
        rfl
  · rintro σ H2 ⟨v2, v3, v4, rfl, s2, ha2⟩
    rw [List.take_of_length_le (by rw [List.length_range]; exact Nat.le_refl _)] at ha2
    exact ⟨_, rfl, k H2 la (s2.trans but_le) hla ha2⟩
/-! new -/
def newZ (g h : Hx01.Heap) (a b : Nat) : List Int := if b < a then [-1] else Hx01.listed ((Hx01.live h).filter fun o => !(Hx01.live g).contains o) ++ Hx01.listed ((Hx01.live g).filter fun o => !(Hx01.live h).contains o)
def spNewC (A : CA) : Sp := fun vs H Q _ => ∃ (ls : Addr) (a b : Nat) (p : Hx01.Program) (ss : List Addr) (snaps : List Hx01.Heap) (g h : Hx01.Heap), vs = [.ref ls, .int (a : Nat), .int (b : Nat)] ∧ H ls = some (.lst (ss.map V.ref)) ∧ SnsAt A H p ss snaps ∧ snaps[a]? = some g ∧ snaps[b]? = some h ∧ AnsZ H Q (newZ g h a b)
abbrev nNewC : List Str := ["snapshots", "s", "t", "ahead", "behind", "came", "went", "number"]
theorem scNewC : FnScope nNewC ["snapshots", "s", "t"] (defScope sNewC) := ⟨rfl, rfl, rfl, by decide +kernel, rfl, by decide +kernel, by decide +kernel⟩
theorem lt_int (a b : Nat) : decide (((a : Nat) : Int) < ((b : Nat) : Int)) = decide (a < b) := by
  congr 1
  apply propext
  omega
theorem c_newC (T : TxtC A w K mg) : Cb P w K mg base 4 "new" ["snapshots", "s", "t"] (spNewC A) := by
  refine T.dNewC.cb scNewC (fun vs H Q E h => ?_) (fun fa cdv Ar outer s H vs Q E hr h => ?_)
  · obtain ⟨ls, a, b, p, ss, snaps, g, h, rfl, _⟩ := h
    rfl
  obtain ⟨ls, a, b, p, ss, snaps, g, h, rfl, hls, hS, ha, hb, k⟩ := h
  refine ⟨_, pss_cons (ps_if (pt_cmpR op_lt (pv 2) (pv 1) (nomark _)) (pss_one (ps_ret (pe_lst (pa_cons (pe_gI T.cNO rfl) pa_nil)))) pss_nil)
    (pss_cons (ps_set (i := 3) scNewC.nd rfl (Or.inr rfl) (pe_cb (c_come T.toTxtH) hr rfl (pa_cons (pe_ix ix_list (pv 0) (pv 1) (fun _ _ => rfl)) pa_nil)))
    (pss_cons (ps_set (i := 4) scNewC.nd rfl (Or.inr rfl) (pe_cb (c_come T.toTxtH) hr rfl (pa_cons (pe_ix ix_list (pv 0) (pv 2) (fun _ _ => rfl)) pa_nil)))
    (pss_cons (ps_setLc (i := 5) (own := [("number", 7)]) (g := gName 7) (tt := tTest (tOp (rIn K true) (tVar 7) (tVar 3))) (te := tVar 7) rfl scNewC.nd rfl rfl (sw_true rfl rfl rfl (by decide +kernel)) (pi_list (pv 4))
      (blkOk_by (own := [("number", 7)]) (N := nNewC) (sc := defScope sNewC) (by decide +kernel)) (fun _ _ _ _ _ => pg_name (i := 7) scNewC.nd rfl (Or.inl rfl)) (fun _ _ _ _ _ => pts_one (pt_cmpR op_notIn_seq (pv 7) (pv 3) rfl)) (fun _ _ _ _ _ => pv 7))
    (pss_cons (ps_setLc (i := 6) (own := [("number", 7)]) (g := gName 7) (tt := tTest (tOp (rIn K true) (tVar 7) (tVar 4))) (te := tVar 7) rfl scNewC.nd rfl rfl (sw_true rfl rfl rfl (by decide +kernel)) (pi_list (pv 3))
      (blkOk_by (own := [("number", 7)]) (N := nNewC) (sc := defScope sNewC) (by decide +kernel)) (fun _ _ _ _ _ => pg_name (i := 7) scNewC.nd rfl (Or.inl rfl)) (fun _ _ _ _ _ => pts_one (pt_cmpR op_notIn_seq (pv 7) (pv 4) rfl)) (fun _ _ _ _ _ => pv 7))
    (pss_one (ps_ret (pe_op op_cat (pe_op op_cat (pe_op op_cat (pe_lst (pa_cons (pe_callB call_len_seq (by rfl) T.len PySem.boot_len (pa_cons (pv 5) pa_nil)) pa_nil)) (pv 5)) (pe_lst (pa_cons (pe_callB call_len_seq (by rfl) T.len PySem.boot_len (pa_cons (pv 6) pa_nil)) pa_nil))) (pv 6)))))))), ?_⟩
  refine ⟨_, rfl, _, rfl, _, _, rfl, rfl, _, rfl, ?_⟩
  rw [lt_int]
  by_cases c : b < a
  · rw [decide_eq_true c]
    refine ifT rfl ⟨big (show 1 ≤ 100000 by decide), fun D hD => ?_⟩
    refine k _ D (same_upd (Same.refl _) hD) hD ?_
    unfold newZ
    rw [upd_same, if_pos c]
    rfl
  rw [decide_eq_false c]
  refine ifF rfl ?_
  obtain ⟨sa, hsa⟩ := get_some (l := ss) (i := a) (by rw [hS.1]; exact (List.getElem?_eq_some_iff.mp ha).1)
  obtain ⟨sb, hsb⟩ := get_some (l := ss) (i := b) (by rw [hS.1]; exact (List.getElem?_eq_some_iff.mp hb).1)
  have Na := hS.2 a sa g hsa ha
  have Nb := hS.2 b sb h hsb hb
  have la := Kp.live_len g
  have lb := Kp.live_len h
  have ma := Na.ok.many
  have mb := Nb.ok.many
  refine ⟨_, rfl, _, rfl, ls, _, _, _, rfl, rfl, SqL.of hls, atI_nat (j := a) (by rw [List.getElem?_map, hsa]; rfl), sa, p, g, rfl, Na, fun H1 l1 s1 hl1 e1 => ?_⟩
  refine ⟨_, rfl, _, rfl, ls, _, _, _, rfl, rfl, SqL.of (s1 _ _ hls), atI_nat (j := b) (by rw [List.getElem?_map, hsb]; rfl), sb, p, h, rfl, Nb.go s1, fun H2 l2 s2 hl2 e2 => ?_⟩
  refine ⟨_, rfl, l2, rfl, ⟨_, SqL.of e2⟩, fun D hD => ?_⟩
  refine lc_pick (K := K) (a := l2) (L := Hx01.live h) (f := fun (n : Nat) => V.int n) (fun o => !(Hx01.live g).contains o) (fun (n : Nat) => V.int n) (SqL.of e2) hD (by omega) ?_ ?_
  · rintro i n H3 hn s3 _ Ny Zn kN kZ
    have e3 := but_le _ _ (s3 _ _ (s2 _ _ e1))
    refine ⟨rfl, _, rfl, _, rfl, l1, _, rfl, .inl (SqL.of e3), rfl, flat_I _, _, rfl, ?_⟩
    refine if2 (fun c => ?_) (fun c => ?_)
    · have c : (!inV (.int ((n : Nat) : Int)) (vI _)) = true := c
      rw [inV_I] at c
      exact ⟨_, rfl, kN c _ (Same.refl _)⟩
    · have c : (!inV (.int ((n : Nat) : Int)) (vI _)) = false := c
      rw [inV_I] at c
      exact kZ c _ (Same.refl _)
  intro H3 s3 e3
  have s23 := s2.trans (s3.trans but_le)
  have s13 := s1.trans s23
  have e13 := s23 _ _ e1
  refine ⟨_, rfl, l1, rfl, ⟨_, SqL.of e13⟩, fun E hE => ?_⟩
  refine lc_pick (K := K) (a := l1) (L := Hx01.live g) (f := fun (n : Nat) => V.int n) (fun o => !(Hx01.live h).contains o) (fun (n : Nat) => V.int n) (SqL.of e13) hE (by omega) ?_ ?_
  · rintro i n H4 hn s4 _ Ny Zn kN kZ
    have e4 := but_le _ _ (s4 _ _ ((s3.trans but_le) _ _ e2))
    refine ⟨rfl, _, rfl, _, rfl, l2, _, rfl, .inl (SqL.of e4), rfl, flat_I _, _, rfl, ?_⟩
    refine if2 (fun c => ?_) (fun c => ?_)
    · have c : (!inV (.int ((n : Nat) : Int)) (vI _)) = true := c
      rw [inV_I] at c
      exact ⟨_, rfl, kN c _ (Same.refl _)⟩
    · have c : (!inV (.int ((n : Nat) : Int)) (vI _)) = false := c
      rw [inV_I] at c
      exact kZ c _ (Same.refl _)
  intro H4 s4 e4
  have eD : H4 D = some (.lst (vI ((Hx01.live h).filter fun o => !(Hx01.live g).contains o))) := but_le _ _ (s4 _ _ e3)
  have eE : H4 E = some (.lst (vI ((Hx01.live g).filter fun o => !(Hx01.live h).contains o))) := e4
  have s04 := s13.trans (s4.trans but_le)
  have lc : ((Hx01.live h).filter fun o => !(Hx01.live g).contains o).length ≤ 16 := Nat.le_trans (List.length_filter_le _ _) (by omega)
  have lw : ((Hx01.live g).filter fun o => !(Hx01.live h).contains o).length ≤ 16 := Nat.le_trans (List.length_filter_le _ _) (by omega)
  unfold newZ at k
  rw [if_neg c] at k
  generalize (Hx01.live h).filter (fun o => !(Hx01.live g).contains o) = came at eD lc k
  generalize (Hx01.live g).filter (fun o => !(Hx01.live h).contains o) = went at eE lw k
  refine ⟨_, rfl, D, _, rfl, .inl (SqL.of eD), big (show 1 ≤ 100000 by decide), fun p1 hp1 => ?_⟩
  have u1 : Same H4 (upd H4 p1 (.lst [V.int ((vI came).length : Nat)])) := same_upd (Same.refl _) hp1
  refine ⟨_, rfl, p1, D, _, _, rfl, rfl, upd_same, u1 _ _ eD, big (by show 1 + (vI came).length ≤ 100000; rw [vI_len]; omega), fun p2 hp2 => ?_⟩
  have u2 := u1.trans (same_upd (o := .lst ([V.int ((vI came).length : Nat)] ++ vI came)) (Same.refl _) hp2)
  refine ⟨_, rfl, E, _, rfl, .inl (SqL.of (u2 _ _ eE)), big (show 1 ≤ 100000 by decide), fun p3 hp3 => ?_⟩
  have v3 := same_upd (o := .lst [V.int ((vI went).length : Nat)]) (Same.refl (upd (upd H4 p1 (.lst [V.int ((vI came).length : Nat)])) p2 (.lst ([V.int ((vI came).length : Nat)] ++ vI came)))) hp3
  have u3 := u2.trans v3
  refine ⟨p2, p3, _, _, rfl, rfl, v3 _ _ upd_same, upd_same, big (by simp only [List.length_append, List.length_cons, List.length_nil, vI_len]; omega), fun p4 hp4 => ?_⟩
  have u4 := u3.trans (same_upd (o := .lst ([V.int ((vI came).length : Nat)] ++ vI came ++ [V.int ((vI went).length : Nat)])) (Same.refl _) hp4)
  refine ⟨_, rfl, p4, E, _, _, rfl, rfl, upd_same, u4 _ _ eE, big (by simp only [List.length_append, List.length_cons, List.length_nil, vI_len]; omega), fun p5 hp5 => ?_⟩
  have s05 := s04.trans u4
  refine k _ p5 (s05.trans (same_upd (Same.refl _) hp5)) (s05.free hp5) ?_
  rw [upd_same, vI_len, vI_len]
  unfold Hx01.listed
  rw [List.map_append, ← vI_ints, ← vI_ints]
  show some (HO.lst (([V.int (came.length : Nat)] ++ vI came) ++ [V.int (went.length : Nat)] ++ vI went)) = _
  rw [List.append_assoc]
  rfl
end
end Kq
namespace Kq
open PySem PySem.Spec PyProof.Rows L2
open Hx01 (Link)
/-- the last two of a list -/
theorem last_two {α : Type} {xs : List α} {n : Nat} {h : α} (hl : xs.length = n + 2) (e : xs[n + 1]? = some h) : ∃ gs g, xs = gs ++ [g, h] ∧ gs.length = n := by
  obtain ⟨g, hg⟩ := get_some (l := xs) (i := n) (by omega)
  refine ⟨xs.take n, g, ?_, by rw [List.length_take]; omega⟩
  have e1 := take_one e
  have e2 := take_one hg
  rw [List.take_of_length_le (by omega), e2, List.append_assoc] at e1
  exact e1
theorem part_at {α : Type} {l : List α} {a b i : Nat} {x : α} (h : ((l.take b).drop a)[i]? = some x) : l[a + i]? = some x := by
  rw [List.getElem?_drop] at h
  have hi := (List.getElem?_eq_some_iff.mp h).1
  rw [List.length_take] at hi
  rw [List.getElem?_take_of_lt (by omega)] at h
  exact h
theorem cut_part (l : List V) (a b : Nat) (h : a ≤ b) (hb : b ≤ l.length) : cutV l (some (a : Int)) (some (b : Int)) = (l.take b).drop a := by
  unfold cutV
  have e1 : min a l.length = a := Nat.min_eq_left (by omega)
  have e2 : min b l.length = b := Nat.min_eq_left hb
  rw [HT.sIx_nat, HT.sIx_nat, e1, e2, List.drop_take]
section
variable {P : Program} {w : World} {K : PySem.W.Frag} {mg : Str → Option Value} {base : Heap} {A : CA}
def growsA (p : Hx01.Program) (snaps : List Hx01.Heap) (h : Hx01.Heap) (a b : Nat) : List Nat :=
  let l := Hx01.grows p.acts.length ((snaps.take (b + 1)).drop a)
  l.length :: l.flatMap fun r => [r, Hx01.ofRow h r]
def growsZ (p : Hx01.Program) (snaps : List Hx01.Heap) (h : Hx01.Heap) (a b : Nat) : List Int := if b < a + 2 then [-1] else Hx01.ints (growsA p snaps h a b)
def spGrowsC (A : CA) : Sp := fun vs H Q _ => ∃ (ls : Addr) (a b : Nat) (p : Hx01.Program) (ss : List Addr) (snaps : List Hx01.Heap) (g h : Hx01.Heap), vs = [.ref ls, .int (a : Nat), .int (b : Nat)] ∧ H ls = some (.lst (ss.map V.ref)) ∧ SnsAt A H p ss snaps ∧ snaps.length ≤ 8 ∧ snaps[a]? = some g ∧ snaps[b]? = some h ∧ AnsZ H Q (growsZ p snaps h a b)
theorem scGrowsC : FnScope ["snapshots", "s", "t"] ["snapshots", "s", "t"] (defScope sGrowsC) := ⟨rfl, rfl, rfl, by decide +kernel, rfl, by decide +kernel, by decide +kernel⟩
theorem c_growsC (T : TxtC A w K mg) : Cb P w K mg base 6 "grows" ["snapshots", "s", "t"] (spGrowsC A) := by
  refine T.dGrowsC.cb scGrowsC (fun vs H Q E h => ?_) (fun fa cdv Ar outer s H vs Q E hr h => ?_)
  · obtain ⟨ls, a, b, p, ss, snaps, g, h, rfl, _⟩ := h
    rfl
  obtain ⟨ls, a, b, p, ss, snaps, g, h, rfl, hls, hS, h8, ha, hb, k⟩ := h
  have hr1 : Room 1 _ := hr.mono (by decide)
  refine ⟨_, pss_cons (ps_if (pt_cmpR op_lt (pv 2) (pe_op op_add (pv 1) (pe_gI T.cLG rfl)) (nomark _)) (pss_one (ps_ret (pe_lst (pa_cons (pe_gI T.cNO rfl) pa_nil)))) pss_nil)
    (pss_one (ps_ret (pe_cb (c_counted T) hr1 rfl (pa_cons (pe_cb (c_grow T.toTxtH) hr rfl (pa_cons (pe_slice sl_list (pv 0) (po_some (pv 1)) (po_some (pe_op op_add (pv 2) pe_int))) pa_nil)) pa_nil)))), ?_⟩
  refine ⟨_, rfl, _, rfl, _, _, rfl, rfl, _, _, rfl, rfl, _, rfl, ?_⟩
  have e2 : ((a : Nat) : Int) + 2 = ((a + 2 : Nat) : Int) := by omega
  rw [e2, lt_int]
  by_cases c : b < a + 2
  · rw [decide_eq_true c]
    refine ifT rfl ⟨big (show 1 ≤ 100000 by decide), fun D hD => ?_⟩
    refine k _ D (same_upd (Same.refl _) hD) hD ?_
    unfold growsZ
    rw [upd_same, if_pos c]
    rfl
  rw [decide_eq_false c]
  refine ifF rfl ?_
  have hbl := (List.getElem?_eq_some_iff.mp hb).1
  have hsl := hS.1
  refine ⟨_, rfl, _, rfl, _, rfl, _, rfl, _, _, rfl, rfl, _, rfl, ls, _, rfl, SqL.of hls, fun q hq => ?_⟩
  have e3 : ((b : Nat) : Int) + 1 = ((b + 1 : Nat) : Int) := by omega
  rw [e3, cut_part _ _ _ (by omega) (by rw [List.length_map]; omega), ← List.map_take, ← List.map_drop]
  have s1 : Same H (upd H q (.lst (((ss.take (b + 1)).drop a).map V.ref))) := same_upd (Same.refl _) hq
  have hpl : ((snaps.take (b + 1)).drop a).length = (b - a - 1) + 2 := by rw [List.length_drop, List.length_take]; omega
  obtain ⟨gs, g', ep, lg⟩ := last_two (h := h) hpl (by
    rw [List.getElem?_drop, List.getElem?_take_of_lt (by omega), show a + (b - a - 1 + 1) = b by omega]
    exact hb)
  have S1 : SnsAt A (upd H q (.lst (((ss.take (b + 1)).drop a).map V.ref))) p ((ss.take (b + 1)).drop a) (gs ++ [g', h]) := by
    rw [← ep]
    refine ⟨by rw [List.length_drop, List.length_drop, List.length_take, List.length_take, hsl], fun i s' h' f1 f2 => ?_⟩
    exact (hS.2 (a + i) s' h' (part_at f1) (part_at f2)).go s1
  refine ⟨q, _, p, gs, g', h, rfl, upd_same, S1, by rw [List.length_append, lg]; show _ + 2 ≤ 8; omega, fun H2 D ys s2 hD e4 r4 l4 => ?_⟩
  refine ⟨D, ys, _, rfl, e4, r4, ?_, fun ns hns => ?_, AnsZ.ans ?_⟩
  · rw [← r4.1]; omega
  · obtain ⟨o, _, rfl⟩ := List.mem_map.mp hns
    exact Nat.le_succ 2
  · have k2 := k.go (s1.trans s2)
    unfold growsZ growsA at k2
    rw [if_neg c, ep] at k2
    rw [List.length_map]
    exact k2
end
end Kq
namespace Kq
open PySem PySem.Spec PyProof.Rows L2
theorem split_many (s : Nat) : ∀ (w r : List Nat), (Kp.splitAt s r w).length ≤ w.length + 1
  | [], r => Nat.le_refl _
  | c :: w, r => by
    unfold Kp.splitAt
    by_cases e : c = s
    · rw [if_pos e, List.length_cons, List.length_cons]
      have := split_many s w []
      omega
    · rw [if_neg e, List.length_cons]
      have := split_many s w (c :: r)
      omega
theorem split_mem (s : Nat) : ∀ (w r : List Nat), ∀ x ∈ Kp.splitAt s r w, x.length ≤ r.length + w.length ∧ ∀ c ∈ x, c ∈ r ∨ c ∈ w
  | [], r, x, h => by
    have h : x = r.reverse := List.mem_singleton.mp h
    subst h
    exact ⟨by simp, fun c hc => .inl (List.mem_reverse.mp hc)⟩
  | a :: w, r, x, h => by
    unfold Kp.splitAt at h
    by_cases e : a = s
    · rw [if_pos e] at h
      rcases List.mem_cons.mp h with h | h
      · subst h
        exact ⟨by rw [List.length_reverse]; omega, fun c hc => .inl (List.mem_reverse.mp hc)⟩
      · obtain ⟨h1, h2⟩ := split_mem s w [] x h
        refine ⟨by rw [List.length_nil] at h1; rw [List.length_cons]; omega, fun c hc => ?_⟩
        rcases h2 c hc with z | z
        · cases z
        · exact .inr (List.mem_cons_of_mem _ z)
    · rw [if_neg e] at h
      obtain ⟨h1, h2⟩ := split_mem s w (a :: r) x h
      refine ⟨by rw [List.length_cons] at h1 ⊢; omega, fun c hc => ?_⟩
      rcases h2 c hc with z | z
      · rcases List.mem_cons.mp z with z | z
        · exact .inr (by rw [z]; exact List.mem_cons_self)
        · exact .inl z
      · exact .inr (List.mem_cons_of_mem _ z)
theorem col_small (c : Nat) : Kp.col c < 128 := by
  unfold Kp.col
  split <;> (try split) <;> (try split) <;> (try split) <;> omega
theorem words_ok {w : List Nat} (h : w.length ≤ 600) : WOk (Kp.wordsOf w) := by
  have hl : (Kp.cw w).length = w.length := List.length_map _
  unfold Kp.wordsOf
  refine ⟨?_, fun ws hws => ?_⟩
  · rw [List.length_map]
    have := split_many 10 (Kp.cw w) []
    omega
  · obtain ⟨r, hr, rfl⟩ := List.mem_map.mp hws
    obtain ⟨r1, r2⟩ := split_mem 10 (Kp.cw w) [] r hr
    rw [List.length_nil] at r1
    refine ⟨?_, fun x hx => ?_⟩
    · refine Nat.le_trans (List.length_filter_le _ _) ?_
      have := split_many 32 r []
      omega
    · obtain ⟨x1, x2⟩ := split_mem 32 r [] x (List.mem_filter.mp hx).1
      rw [List.length_nil] at x1
      refine ⟨by omega, fun c hc => ?_⟩
      rcases x2 c hc with z | z
      · cases z
      · rcases r2 c z with z | z
        · cases z
        · obtain ⟨b, _, rfl⟩ := List.mem_map.mp z
          exact col_small b
end Kq
namespace Kq
open PySem PySem.Spec PyProof.Rows L2
/-! dicts of the top, by what is written of them -/
def numOf : Value → Option Int
  | .int i _ => some i
  | _ => none
def txtOf : Value → Option Str
  | .str x _ => some x
  | _ => none
/-- whole numbers for keys -/
def IEnts (es : Array DictEntry) (l : List (Int × Value)) : Prop := es.toList.map (fun e => (numOf e.key, e.hash, e.val)) = l.map fun x => (some x.1, hashInt x.1, x.2)
theorem IEnts.cons {e : DictEntry} {es : List DictEntry} {l : List (Int × Value)} (h : IEnts (e :: es).toArray l) : ∃ i t v r, l = (i, v) :: r ∧ e.key = .int i t ∧ e.hash = hashInt i ∧ e.val = v ∧ IEnts es.toArray r := by
  cases l with
  | nil => cases h
  | cons x r =>
    unfold IEnts at h
    rw [List.toList_toArray, List.map_cons, List.map_cons] at h
    injection h with h1 h2
    injection h1 with h3 h4
    injection h4 with h5 h6
    cases e1 : e.key with
    | int i t =>
      rw [e1] at h3
      have h3 : i = x.1 := Option.some.inj h3
      exact ⟨x.1, t, x.2, r, rfl, by rw [h3], h5, h6, by unfold IEnts; rw [List.toList_toArray]; exact h2⟩
    | _ => rw [e1] at h3; cases h3
theorem IEnts.all : ∀ {es : List DictEntry} {l : List (Int × Value)}, IEnts es.toArray l → ∀ e ∈ es, ∃ i t, e.key = .int i t ∧ e.hash = hashInt i
  | [], l, h, e, m => by cases m
  | e :: es, l, h, d, m => by
    obtain ⟨i, t, v, r, rfl, h1, h2, h3, h4⟩ := h.cons
    rcases List.mem_cons.mp m with z | z
    · rw [z]; exact ⟨i, t, h1, h2⟩
    · exact h4.all d z
theorem IEnts.find : ∀ {es : List DictEntry} {l : List (Int × Value)} (k : Int), IEnts es.toArray l → (es.find? fun e => Value.isInt k e.key).map (·.val) = l.lookup k
  | [], l, k, h => by
    cases l with
    | nil => rfl
    | cons x r => cases h
  | e :: es, l, k, h => by
    obtain ⟨i, t, v, r, rfl, h1, h2, h3, h4⟩ := h.cons
    have e1 : Value.isInt k e.key = (i == k) := by rw [h1]; rfl
    by_cases c : i = k
    · subst c
      rw [List.find?_cons_of_pos (by rw [e1]; simp)]
      simp [List.lookup, h3]
    · have cb : (i == k) = false := by simpa using c
      have cb2 : (k == i) = false := by simpa using fun z => c z.symm
      rw [List.find?_cons_of_neg (by rw [e1, cb]; simp)]
      simp only [List.lookup, cb2]
      exact h4.find k
def rIxN (K : PySem.W.Frag) : R2 := fun x y H Q => ∃ (d : Addr) (es : Array DictEntry) (n : Nat) (l : List (Int × Value)) (i : Int) (u : Value) (v : V), x = .ref d ∧ y = .int i ∧ K.lookup d = some ⟨.type "dict", none, .dict es n, #[]⟩ ∧ IEnts es l ∧ l.lookup i = some u ∧ RelV v u ∧ Q v H
theorem ix_ndict {X : Cx} : IxR X (rIxN X.K) := by
  intro value slice pins s σ H x y v u Q I rx ry h hs
  obtain ⟨d, es, n, l, i, u0, r, rfl, rfl, hl, he, e, ru, q⟩ := h
  obtain rfl : v = Value.ref d := rx
  obtain ⟨t, rfl⟩ := ry
  obtain ⟨es⟩ := es
  have hm : s.heap.MapOf (intKind X.prog X.w) d (fun k => findBy Value.isInt es.toArray k) := ⟨_, es.toArray, n, I.kIn _ _ hl, ⟨rfl, rfl, rfl⟩, rfl, fun e he' => by
    obtain ⟨i, t, e1, e2⟩ := he.all e (by simpa using he')
    exact ⟨i, by rw [e1]; exact intKind_is X.prog X.w i t, e2⟩, fun _ => rfl⟩
  have hf : findBy Value.isInt es.toArray i = some u0 := by
    unfold findBy
    rw [List.find?_toArray, he.find i, e]
  exact tail_any hm.typeIs slot_dict_getitem.lookup (wpAny_getItem_of (intKind_is X.prog X.w i t) hm hf ⟨r, H, I.tok _, ru, q⟩) hs
/-- texts for keys -/
def SEnts (P : Params) (es : Array DictEntry) (l : List (Str × Value)) : Prop := es.toList.map (fun e => (txtOf e.key, e.hash, e.val)) = l.map fun x => (some x.1, PyData.keyHash P x.1, x.2)
theorem SEnts.cons {P : Params} {e : DictEntry} {es : List DictEntry} {l : List (Str × Value)} (h : SEnts P (e :: es).toArray l) : ∃ x t v r, l = (x, v) :: r ∧ e.key = .str x t ∧ e.hash = PyData.keyHash P x ∧ e.val = v ∧ SEnts P es.toArray r := by
  cases l with
  | nil => cases h
  | cons x r =>
    unfold SEnts at h
    rw [List.toList_toArray, List.map_cons, List.map_cons] at h
    injection h with h1 h2
    injection h1 with h3 h4
    injection h4 with h5 h6
    cases e1 : e.key with
    | str z t =>
      rw [e1] at h3
      have h3 : z = x.1 := Option.some.inj h3
      exact ⟨x.1, t, x.2, r, rfl, by rw [h3], h5, h6, by unfold SEnts; rw [List.toList_toArray]; exact h2⟩
    | _ => rw [e1] at h3; cases h3
theorem SEnts.lit {P : Params} : ∀ {es : List DictEntry} {l : List (Str × Value)}, SEnts P es.toArray l → PySem.W.KeysLit P es
  | [], l, h => trivial
  | e :: es, l, h => by
    obtain ⟨x, t, v, r, rfl, h1, h2, h3, h4⟩ := h.cons
    exact ⟨⟨x, t, h1, h2⟩, h4.lit⟩
theorem SEnts.find {P : Params} : ∀ {es : List DictEntry} {l : List (Str × Value)} (k : Str), SEnts P es.toArray l → (es.find? fun e => e.key.isStr k).map (·.val) = l.lookup k ∧ (es.any fun e => e.refKey) = false
  | [], l, k, h => by
    cases l with
    | nil => exact ⟨rfl, rfl⟩
    | cons x r => cases h
  | e :: es, l, k, h => by
    obtain ⟨x, t, v, r, rfl, h1, h2, h3, h4⟩ := h.cons
    obtain ⟨a, b⟩ := h4.find k
    have e1 : e.key.isStr k = (x == k) := by rw [h1]; rfl
    refine ⟨?_, ?_⟩
    · by_cases c : x = k
      · subst c
        rw [List.find?_cons_of_pos (by rw [e1]; simp)]
        simp [List.lookup, h3]
      · have cb : (x == k) = false := by simpa using c
        have cb2 : (k == x) = false := by simpa using fun z => c z.symm
        rw [List.find?_cons_of_neg (by rw [e1, cb]; simp)]
        simp only [List.lookup, cb2]
        exact a
    · rw [List.any_cons, b, Bool.or_false]
      unfold DictEntry.refKey
      rw [h1]
theorem SEnts.ns {P : Params} {K : PySem.W.Frag} {d : Addr} {es : Array DictEntry} {n : Nat} {l : List (Str × Value)} (h : SEnts P es l) (hl : K.lookup d = some ⟨.type "dict", none, .dict es n, #[]⟩) (k : Str) : PySem.W.nsIn K d k = some (l.lookup k) := by
  obtain ⟨es⟩ := es
  obtain ⟨a, b⟩ := SEnts.find k h
  unfold PySem.W.nsIn
  rw [hl]
  dsimp only
  cases e : es.find? fun e => e.key.isStr k with
  | some x =>
    rw [e] at a
    rw [← a]
    rfl
  | none =>
    rw [e] at a
    rw [← a, b]
    rfl
/-- a written dict with int keys -/
def NDict (K : PySem.W.Frag) (d : Addr) (l : List (Int × Value)) : Prop := ∃ es n, K.lookup d = some ⟨.type "dict", none, .dict es n, #[]⟩ ∧ IEnts es l ∧ (d == sysModules) = false
section
variable {X : Cx} {d : Addr} {l : List (Int × Value)}
theorem NDict.map (D : NDict X.K d l) {pins : List (Addr × Obj)} {σ : L2.St} {H : Hp} {s : Shared} (I : Inv X pins σ H s) : s.heap.MapOf (intKind X.prog X.w) d (fun k => l.lookup k) := by
  obtain ⟨⟨es⟩, n, hl, he, _⟩ := D
  refine ⟨_, es.toArray, n, I.kIn _ _ hl, ⟨rfl, rfl, rfl⟩, rfl, fun e he' => ?_, fun k => ?_⟩
  · obtain ⟨i, t, e1, e2⟩ := he.all e (by simpa using he')
    exact ⟨i, by rw [e1]; exact intKind_is X.prog X.w i t, e2⟩
  · show findBy Value.isInt es.toArray k = l.lookup k
    rw [← he.find k]
    unfold findBy
    rw [List.find?_toArray]
theorem NDict.low {K : PySem.W.Frag} (D : NDict K d l) : (d == sysModules) = false := by
  obtain ⟨_, _, _, _, q⟩ := D
  exact q
def rInN (d : Addr) (l : List (Int × Value)) (neg : Bool) : R2 := fun x y H Q => ∃ i : Int, x = .int i ∧ y = .ref d ∧ Q (.bl (if neg then !(l.lookup i).isSome else (l.lookup i).isSome)) H
theorem op_in_nd (D : NDict X.K d l) : OpR X (compareOp .In) (rInN d l false) := by
  intro pins s σ H x y v u Q I rx ry h
  obtain ⟨i, rfl, rfl, q⟩ := h
  obtain ⟨t, rfl⟩ := rx
  cases ry
  refine wpAny_in_of (intKind_is X.prog X.w i t) D.low (D.map I) ?_
  exact ⟨.bl _, H, I.tok _, rfl, q⟩
theorem op_notIn_nd (D : NDict X.K d l) : OpR X (compareOp .NotIn) (rInN d l true) := by
  intro pins s σ H x y v u Q I rx ry h
  obtain ⟨i, rfl, rfl, q⟩ := h
  obtain ⟨t, rfl⟩ := rx
  cases ry
  refine wpAny_notIn_of (intKind_is X.prog X.w i t) D.low (D.map I) ?_
  exact ⟨.bl _, H, I.tok _, rfl, q⟩
def rIxD (d : Addr) (l : List (Int × Value)) : R2 := fun x y H Q => ∃ (i : Int) (u : Value) (v : V), x = .ref d ∧ y = .int i ∧ l.lookup i = some u ∧ RelV v u ∧ Q v H
theorem ix_nd (D : NDict X.K d l) : IxR X (rIxD d l) := by
  obtain ⟨es, n, hl, he, _⟩ := D
  intro value slice pins s σ H x y v u Q I rx ry h hs
  obtain ⟨i, u0, r, rfl, rfl, e, ru, q⟩ := h
  exact ix_ndict value slice pins s σ H _ _ v u Q I rx ry ⟨d, es, n, l, i, u0, r, rfl, rfl, hl, he, e, ru, q⟩ hs
end
end Kq
namespace Kq
open PySem PySem.Spec PyProof.Rows L2 LamX
open Hx01 (Link)
/-- the number of a call, and what is handed over with it -/
def callNo (x : Hx01.Call) : Nat := (Kp.enc x).headD 0
def hands (x : Hx01.Call) : List Nat := (Kp.enc x).tail
theorem enc_is (x : Hx01.Call) : Kp.enc x = callNo x :: hands x := by cases x <;> rfl
theorem no_write {x : Hx01.Call} : callNo x = 0 ↔ ∃ w, x = .write w := by
  constructor
  · intro h
    cases x with
    | write w => exact ⟨w, rfl⟩
    | _ => simp [callNo, Kp.enc] at h
  · rintro ⟨w, rfl⟩
    rfl
/-- what a call about a thing answers -/
def thZ (p : Hx01.Program) (h : Hx01.Heap) (c o : Nat) : List Int := match c with
  | 3 => Hx01.ints (wayA h o)
  | 4 => Hx01.ints (keepsA p h o)
  | _ => fewZ h o
def thingZ (p : Hx01.Program) (h : Hx01.Heap) (c o : Nat) : List Int := if h.things.length ≤ o then [-3] else if (Hx01.live h).contains o = false then [-6] else thZ p h c o
/-- what a call about one snapshot answers -/
inductive One (p : Hx01.Program) (h : Hx01.Heap) : Nat → List Nat → List Int → Prop
  | snap : One p h 1 [] (Hx01.ints (snapA p h))
  | things : One p h 2 [] (Hx01.ints (thingsA h))
  | never : One p h 8 [] (Hx01.ints (Hx01.bytesOf p h (Hx01.never h) :: (Hx01.never h).length :: Hx01.never h))
  | classes : One p h 11 [] (Hx01.ints (classesA p h))
  | way {o : Nat} : One p h 3 [o] (thingZ p h 3 o)
  | keeps {o : Nat} : One p h 4 [o] (thingZ p h 4 o)
  | few {o : Nat} : One p h 7 [o] (thingZ p h 7 o)
  | most {n : Nat} : One p h 5 [n] (Hx01.ints (mostA p h n))
  | cut {a b : Nat} : One p h 6 [a, b] (cutZ p h a b)
/-- the dicts of the calls -/
structure TxtD (A : CA) (w : World) (K : PySem.W.Frag) (mg : Str → Option Value) : Prop extends TxtC A w K mg where
  abS : ∃ d f1 f2 f8 f11, mg "ABOUT_SNAPSHOTS" = some (.ref d) ∧ NDict K d [(1, .ref f1), (2, .ref f2), (8, .ref f8), (11, .ref f11)] ∧ mg "snap" = some (.ref f1) ∧ mg "things" = some (.ref f2) ∧ mg "never" = some (.ref f8) ∧ mg "classes" = some (.ref f11)
  abT : ∃ d f3 f4 f7, mg "ABOUT_THINGS" = some (.ref d) ∧ NDict K d [(3, .ref f3), (4, .ref f4), (7, .ref f7)] ∧ mg "way" = some (.ref f3) ∧ mg "keeps" = some (.ref f4) ∧ mg "fewest" = some (.ref f7)
  abW : ∃ d f9 f10, mg "ABOUT_TWO_SNAPSHOTS" = some (.ref d) ∧ NDict K d [(9, .ref f9), (10, .ref f10)] ∧ mg "new" = some (.ref f9) ∧ mg "grows" = some (.ref f10)
section
variable {P : Program} {w : World} {K : PySem.W.Frag} {mg : Str → Option Value} {base : Heap} {A : CA}
/-- a def by its name, as a callee that stands in a dict -/
theorem Cb.use {k : Nat} {x : Str} {ps : List Str} {sp : Sp} (C : Cb P w K mg base k x ps sp) {f : Addr} (m : mg x = some (.ref f)) : ∃ fd ps, FnOk P w K mg base CX0 k f fd ps sp ∧ PySem.W.keepIn K (.ref f) = true ∧ Binds K fd ps [] := by
  obtain ⟨f', fd, F, m', kp, b⟩ := C
  have : f' = f := by
    have := m'.symm.trans m
    cases this; rfl
  subst this
  exact ⟨fd, _, F, kp, b⟩
def spOfThing (A : CA) : Sp := fun vs H Q _ => ∃ (sa : Addr) (c o : Nat) (p : Hx01.Program) (h : Hx01.Heap), vs = [.ref sa, .int (c : Nat), .int (o : Nat)] ∧ Sn A H p sa h ∧ (c = 3 ∨ c = 4 ∨ c = 7) ∧ AnsZ H Q (thingZ p h c o)
theorem scOfThing : FnScope ["heap", "call", "thing"] ["heap", "call", "thing"] (defScope sOfThing) := ⟨rfl, rfl, rfl, by decide +kernel, rfl, by decide +kernel, by decide +kernel⟩
theorem ge_int (a b : Nat) : decide (((a : Nat) : Int) ≥ ((b : Nat) : Int)) = decide (b ≤ a) := by
  congr 1
  apply propext
  omega
theorem c_ofThing (T : TxtD A w K mg) : Cb P w K mg base 10 "of_thing" ["heap", "call", "thing"] (spOfThing A) := by
  obtain ⟨d, f3, f4, f7, hd, D, m3, m4, m7⟩ := T.abT
  refine T.dOfThing.cb scOfThing (fun vs H Q E h => ?_) (fun fa cdv Ar outer s H vs Q E hr h => ?_)
  · obtain ⟨sa, c, o, p, h, rfl, _⟩ := h
    rfl
  obtain ⟨sa, c, o, p, h, rfl, N, hc, k⟩ := h
  have hr3 : Room 3 _ := hr.mono (by decide)
  refine ⟨_, pss_cons (ps_if (pt_cmpR op_ge (pv 2) (pe_callB call_len_seq (by rfl) T.len PySem.boot_len (pa_cons (pe_fld (pv 0) rfl) pa_nil)) (nomark _)) (pss_one (ps_ret (pe_lst (pa_cons (pe_gI T.cNT rfl) pa_nil)))) pss_nil)
    (pss_cons (ps_if (pt_cmpR op_notIn_seq (pv 2) (pe_cb (c_come T.toTxtH) hr3 rfl (pa_cons (pv 0) pa_nil)) rfl) (pss_one (ps_ret (pe_lst (pa_cons (pe_gI T.cNC rfl) pa_nil)))) pss_nil)
    (pss_one (ps_ret (pe_callE (S := fun f sp => (sp = spWayC A ∧ mg "way" = some (.ref f)) ∨ (sp = spKeepsC A ∧ mg "keeps" = some (.ref f)) ∨ (sp = spFewC A ∧ mg "fewest" = some (.ref f))) (k := 9)
      (fun f sp z => by
        rcases z with ⟨rfl, m⟩ | ⟨rfl, m⟩ | ⟨rfl, m⟩
        · exact ((c_wayC (P := P) (base := base) T.toTxtC).mono (by decide)).use m
        · exact ((c_keepsC (P := P) (base := base) T.toTxtC).mono (by decide)).use m
        · exact (c_fewC (P := P) (base := base) T.toTxtC).use m)
      (pe_ix (ix_nd D) (pe_glob (v := .ref d) rfl hd rfl) (pv 1) (fun _ _ => rfl)) hr (pa_cons (pv 0) (pa_cons (pv 2) pa_nil)))))), ?_⟩
  obtain ⟨dh, lt, lv, ts, fs, h1, h2, h3, t1, t2, t3⟩ := N.at_
  refine ⟨_, rfl, _, rfl, sa, A.heap, dh, _, _, rfl, h1, T.cHeap.cl, T.cHeap.na _ (by decide +kernel), hpF_things _ _, lt, _, rfl, .inl (SqL.of h2), _, _, rfl, rfl, _, rfl, ?_⟩
  rw [List.length_map, t1, ge_int]
  unfold thingZ at k
  by_cases c1 : h.things.length ≤ o
  · rw [decide_eq_true c1]
    rw [if_pos c1] at k
    refine ifT rfl ⟨big (show 1 ≤ 100000 by decide), fun D hD => ?_⟩
    exact k _ D (same_upd (Same.refl _) hD) hD upd_same
  rw [decide_eq_false c1]
  rw [if_neg c1] at k
  refine ifF rfl ?_
  refine ⟨_, rfl, _, rfl, sa, p, h, rfl, N, fun H1 l1 s1 hl1 e1 => ?_⟩
  refine ⟨l1, _, rfl, .inl (SqL.of e1), rfl, flat_I _, _, rfl, ?_⟩
  show if (!inV (.int ((o : Nat) : Int)) (vI (Hx01.live h))) = true then _ else _
  rw [inV_I]
  have k1 := k.go s1
  cases c2 : (Hx01.live h).contains o with
  | false =>
    rw [c2, if_pos rfl] at k1
    refine ifT rfl ⟨big (show 1 ≤ 100000 by decide), fun D hD => ?_⟩
    exact k1 _ D (same_upd (Same.refl _) hD) hD upd_same
  | true =>
    rw [c2, if_neg (by decide)] at k1
    refine ifF rfl ?_
    have hol : o ∈ Hx01.live h := by simpa using c2
    have N1 := N.go s1
    rcases hc with rfl | rfl | rfl
    · exact ⟨_, rfl, _, _, .ref f3, rfl, rfl, rfl, rfl, f3, _, rfl, .inl ⟨rfl, m3⟩, _, rfl, _, rfl, sa, o, p, h, rfl, N1, hol, AnsZ.ans k1⟩
    · exact ⟨_, rfl, _, _, .ref f4, rfl, rfl, rfl, rfl, f4, _, rfl, .inr (.inl ⟨rfl, m4⟩), _, rfl, _, rfl, sa, o, p, h, rfl, N1, AnsZ.ans k1⟩
    · exact ⟨_, rfl, _, _, .ref f7, rfl, rfl, rfl, rfl, f7, _, rfl, .inr (.inr ⟨rfl, m7⟩), _, rfl, _, rfl, sa, o, p, h, rfl, N1, hol, k1⟩
/-- an answer, where tables may have grown -/
def AnsT (Pt : Addr) (H : Hp) (Q : VK) (l : List Int) : Prop := ∀ (H' : Hp) (D : Addr), ExtN H H' → Tabs (lamT Pt) H' → H' D = some (.lst (l.map V.int)) → Q (.ref D) H'
theorem AnsT.z {Pt : Addr} {H : Hp} {Q : VK} {l : List Int} (h : AnsT Pt H Q l) (t : Tabs (lamT Pt) H) : AnsZ H Q l := fun H' D s _ e => h H' D (ExtN.of s) (t.ext s) e
theorem AnsT.n {Pt : Addr} {H : Hp} {Q : VK} {l : List Nat} (h : AnsT Pt H Q (Hx01.ints l)) : AnsN (lamT Pt) H Q l := fun H' D s t e => h H' D s t (by rw [e, vI_ints])
theorem AnsT.go {Pt : Addr} {H H1 : Hp} {Q : VK} {l : List Int} (h : AnsT Pt H Q l) (s : Same H H1) : AnsT Pt H1 Q l := fun H' D s' t e => h H' D ((ExtN.of s).trans s') t e
def spOfSnap (A : CA) (Pt : Addr) : Sp := fun vs H Q _ => ∃ (sa ln : Addr) (c : Nat) (ns : List Nat) (z : List Int) (p : Hx01.Program) (h : Hx01.Heap), vs = [.ref sa, .int (c : Nat), .ref ln] ∧ Sn A H p sa h ∧ p.classes.length ≤ 100 ∧ H ln = some (.lst (vI ns)) ∧ One p h c ns z ∧ Tabs (lamT Pt) H ∧ AnsT Pt H Q z
theorem scOfSnap : FnScope ["heap", "call", "numbers"] ["heap", "call", "numbers"] (defScope sOfSnap) := ⟨rfl, rfl, rfl, by decide +kernel, rfl, by decide +kernel, by decide +kernel⟩
theorem c_ofSnap (T : TxtD A w K mg) {Pt : Addr} (M : Cb P w K mg base 6 "most" ["heap", "how_many"] (spMostC A Pt)) : Cb P w K mg base 11 "of_snapshot" ["heap", "call", "numbers"] (spOfSnap A Pt) := by
  obtain ⟨d, f1, f2, f8, f11, hd, D, m1, m2, m8, m11⟩ := T.abS
  obtain ⟨d', f3, f4, f7, hd', D', m3, m4, m7⟩ := T.abT
  refine T.dOfSnap.cb scOfSnap (fun vs H Q E h => ?_) (fun fa cdv Ar outer s H vs Q E hr h => ?_)
  · obtain ⟨sa, ln, c, ns, z, p, h, rfl, _⟩ := h
    rfl
  obtain ⟨sa, ln, c, ns, z, p, h, rfl, N, hcl, hln, ho, hT, k⟩ := h
  have hr6 : Room 6 _ := hr.mono (by decide)
  refine ⟨_, pss_cons (ps_if (pt_cmpR (op_in_nd D) (pv 1) (pe_glob (v := .ref d) rfl hd rfl) rfl)
      (pss_one (ps_ret (pe_callE (S := fun f sp => (sp = spSnapC A ∧ mg "snap" = some (.ref f)) ∨ (sp = spThingsC A ∧ mg "things" = some (.ref f)) ∨ (sp = spNeverC A ∧ mg "never" = some (.ref f)) ∨ (sp = spClassesC A ∧ mg "classes" = some (.ref f))) (k := 6)
        (fun f sp z => by
          rcases z with ⟨rfl, m⟩ | ⟨rfl, m⟩ | ⟨rfl, m⟩ | ⟨rfl, m⟩
          · exact ((c_snapC (P := P) (base := base) T.toTxtC).mono (by decide)).use m
          · exact ((c_thingsC (P := P) (base := base) T.toTxtC).mono (by decide)).use m
          · exact (c_neverC (P := P) (base := base) T.toTxtC).use m
          · exact ((c_classesC (P := P) (base := base) T.toTxtC).mono (by decide)).use m)
        (pe_ix (ix_nd D) (pe_glob (v := .ref d) rfl hd rfl) (pv 1) (fun _ _ => rfl)) hr6 (pa_cons (pv 0) pa_nil)))) pss_nil)
    (pss_cons (ps_if (pt_cmpR (op_in_nd D') (pv 1) (pe_glob (v := .ref d') rfl hd' rfl) rfl)
      (pss_one (ps_ret (pe_cb (c_ofThing T) hr rfl (pa_cons (pv 0) (pa_cons (pv 1) (pa_cons (pe_ix ix_list (pv 2) pe_int (fun _ _ => rfl)) pa_nil)))))) pss_nil)
    (pss_cons (ps_if (pt_cmpR op_eq (pv 1) (pe_gI T.cMO rfl) (nomark _))
      (pss_one (ps_ret (pe_cb M hr6 rfl (pa_cons (pv 0) (pa_cons (pe_ix ix_list (pv 2) pe_int (fun _ _ => rfl)) pa_nil))))) pss_nil)
    (pss_one (ps_ret (pe_cb (c_cutC T.toTxtC) hr6 rfl (pa_cons (pv 0) (pa_cons (pe_ix ix_list (pv 2) pe_int (fun _ _ => rfl)) (pa_cons (pe_ix ix_list (pv 2) pe_int (fun _ _ => rfl)) pa_nil)))))))), ?_⟩
  have kz := k.z hT
  refine ⟨_, rfl, _, rfl, rfl, _, rfl, ?_⟩
  have th : ∀ {c o : Nat}, (c = 3 ∨ c = 4 ∨ c = 7) → H ln = some (.lst (vI [o])) → AnsZ H Q (thingZ p h c o) → spOfThing A [V.ref sa, V.int (c : Nat), V.int (o : Nat)] H Q E0 := fun hc _ kk => ⟨sa, _, _, p, h, rfl, N, hc, kk⟩
  cases ho with
  | snap => exact ifT rfl ⟨_, rfl, _, _, .ref f1, rfl, rfl, rfl, rfl, f1, _, rfl, .inl ⟨rfl, m1⟩, _, rfl, sa, p, h, rfl, N, kz.ans⟩
  | things => exact ifT rfl ⟨_, rfl, _, _, .ref f2, rfl, rfl, rfl, rfl, f2, _, rfl, .inr (.inl ⟨rfl, m2⟩), _, rfl, sa, p, h, rfl, N, kz.ans⟩
  | never => exact ifT rfl ⟨_, rfl, _, _, .ref f8, rfl, rfl, rfl, rfl, f8, _, rfl, .inr (.inr (.inl ⟨rfl, m8⟩)), _, rfl, sa, p, h, rfl, N, kz.ans⟩
  | classes => exact ifT rfl ⟨_, rfl, _, _, .ref f11, rfl, rfl, rfl, rfl, f11, _, rfl, .inr (.inr (.inr ⟨rfl, m11⟩)), _, rfl, sa, p, h, rfl, N, hcl, kz.ans⟩
  | way => exact ifF rfl ⟨_, rfl, _, rfl, rfl, _, rfl, ifT rfl ⟨_, rfl, _, rfl, _, rfl, ln, _, _, _, rfl, rfl, SqL.of hln, atI_nat (j := 0) rfl, th (.inl rfl) hln kz⟩⟩
  | keeps => exact ifF rfl ⟨_, rfl, _, rfl, rfl, _, rfl, ifT rfl ⟨_, rfl, _, rfl, _, rfl, ln, _, _, _, rfl, rfl, SqL.of hln, atI_nat (j := 0) rfl, th (.inr (.inl rfl)) hln kz⟩⟩
  | few => exact ifF rfl ⟨_, rfl, _, rfl, rfl, _, rfl, ifT rfl ⟨_, rfl, _, rfl, _, rfl, ln, _, _, _, rfl, rfl, SqL.of hln, atI_nat (j := 0) rfl, th (.inr (.inr rfl)) hln kz⟩⟩
  | most => exact ifF rfl ⟨_, rfl, _, rfl, rfl, _, rfl, ifF rfl ⟨_, rfl, rfl, _, rfl, ifT rfl ⟨_, rfl, _, rfl, ln, _, _, _, rfl, rfl, SqL.of hln, atI_nat (j := 0) rfl, sa, _, p, h, rfl, N, hT, k.n⟩⟩⟩
  | cut => exact ifF rfl ⟨_, rfl, _, rfl, rfl, _, rfl, ifF rfl ⟨_, rfl, rfl, _, rfl, ifF rfl ⟨_, rfl, _, rfl, ln, _, _, _, rfl, rfl, SqL.of hln, atI_nat (j := 0) rfl, _, rfl, ln, _, _, _, rfl, rfl, SqL.of hln, atI_nat (j := 1) rfl, sa, _, _, p, h, rfl, N, kz⟩⟩⟩
end
end Kq
namespace Kq
open PySem PySem.Spec PyProof.Rows L2 LamX
open Hx01 (Link)
/-- calls about one snapshot, and the two about two -/
theorem call_kinds (st : Hx01.St) (x : Hx01.Call) (hx : callNo x ≠ 0) :
    (∃ (s : Nat) (ns : List Nat) (f : Hx01.Heap → List Int), hands x = s :: ns ∧ (Hx01.step st x).2 = Hx01.onSnap st s f ∧ (∀ h, One st.prog h (callNo x) ns (f h)) ∧ callNo x ≠ 9 ∧ callNo x ≠ 10) ∨
    (∃ a b : Nat, callNo x = 9 ∧ hands x = [a, b] ∧ (Hx01.step st x).2 = Hx01.onSnap st a fun g => Hx01.onSnap st b fun h => newZ g h a b) ∨
    (∃ a b : Nat, callNo x = 10 ∧ hands x = [a, b] ∧ (Hx01.step st x).2 = Hx01.onSnap st a fun _ => Hx01.onSnap st b fun h => growsZ st.prog st.snaps h a b) := by
  cases x with
  | write w => exact absurd rfl hx
  | snap s => exact .inl ⟨s, [], _, rfl, rfl, fun h => .snap, (by simp [callNo, Kp.enc]), (by simp [callNo, Kp.enc])⟩
  | things s => exact .inl ⟨s, [], _, rfl, rfl, fun h => .things, (by simp [callNo, Kp.enc]), (by simp [callNo, Kp.enc])⟩
  | way s o => exact .inl ⟨s, [o], fun h => thingZ st.prog h 3 o, rfl, rfl, fun h => .way, (by simp [callNo, Kp.enc]), (by simp [callNo, Kp.enc])⟩
  | keeps s o => exact .inl ⟨s, [o], fun h => thingZ st.prog h 4 o, rfl, rfl, fun h => .keeps, (by simp [callNo, Kp.enc]), (by simp [callNo, Kp.enc])⟩
  | most s n => exact .inl ⟨s, [n], _, rfl, rfl, fun h => .most, (by simp [callNo, Kp.enc]), (by simp [callNo, Kp.enc])⟩
  | cut s a b => exact .inl ⟨s, [a, b], fun h => cutZ st.prog h a b, rfl, rfl, fun h => .cut, (by simp [callNo, Kp.enc]), (by simp [callNo, Kp.enc])⟩
  | fewest s o => exact .inl ⟨s, [o], fun h => thingZ st.prog h 7 o, rfl, rfl, fun h => .few, (by simp [callNo, Kp.enc]), (by simp [callNo, Kp.enc])⟩
  | never s => exact .inl ⟨s, [], _, rfl, rfl, fun h => .never, (by simp [callNo, Kp.enc]), (by simp [callNo, Kp.enc])⟩
  | new a b => exact .inr (.inl ⟨a, b, rfl, rfl, rfl⟩)
  | grows a b => exact .inr (.inr ⟨a, b, rfl, rfl, rfl⟩)
  | classes s => exact .inl ⟨s, [], _, rfl, rfl, fun h => .classes, (by simp [callNo, Kp.enc]), (by simp [callNo, Kp.enc])⟩
theorem onSnap_no {st : Hx01.St} {s : Nat} {f : Hx01.Heap → List Int} (h : st.snaps.length ≤ s) : Hx01.onSnap st s f = [-2] := by
  unfold Hx01.onSnap
  rw [List.getElem?_eq_none h]
theorem onSnap_yes {st : Hx01.St} {s : Nat} {f : Hx01.Heap → List Int} {h : Hx01.Heap} (e : st.snaps[s]? = some h) : Hx01.onSnap st s f = f h := by
  unfold Hx01.onSnap
  rw [e]
section
variable {P : Program} {w : World} {K : PySem.W.Frag} {mg : Str → Option Value} {base : Heap} {A : CA}
def spLookC (A : CA) (Pt : Addr) : Sp := fun vs H Q _ => ∃ (ls ln : Addr) (ss : List Addr) (st : Hx01.St) (x : Hx01.Call), vs = [.ref ls, .int (callNo x : Nat), .ref ln] ∧ H ls = some (.lst (ss.map V.ref)) ∧ SnsAt A H st.prog ss st.snaps ∧ st.snaps.length ≤ 8 ∧ st.prog.classes.length ≤ 100 ∧ callNo x ≠ 0 ∧ H ln = some (.lst (vI (hands x))) ∧ Tabs (lamT Pt) H ∧
  AnsT Pt H Q (Hx01.step st x).2
theorem scLookC : FnScope ["snapshots", "call", "numbers"] ["snapshots", "call", "numbers"] (defScope sLook) := ⟨rfl, rfl, rfl, by decide +kernel, rfl, by decide +kernel, by decide +kernel⟩
theorem nd_two {f9 f10 : Addr} {c : Nat} (h9 : c ≠ 9) (h10 : c ≠ 10) : (List.lookup ((c : Nat) : Int) [((9 : Int), Value.ref f9), (10, Value.ref f10)]).isSome = false := by
  have e1 : (((c : Nat) : Int) == 9) = false := by simp; omega
  have e2 : (((c : Nat) : Int) == 10) = false := by simp; omega
  simp only [List.lookup, e1, e2, Option.isSome_none]
theorem c_lookC (T : TxtD A w K mg) {Pt : Addr} (M : Cb P w K mg base 6 "most" ["heap", "how_many"] (spMostC A Pt)) : Cb P w K mg base 12 "look" ["snapshots", "call", "numbers"] (spLookC A Pt) := by
  obtain ⟨d, f9, f10, hd, D, m9, m10⟩ := T.abW
  refine T.dLook.cb scLookC (fun vs H Q E h => ?_) (fun fa cdv Ar outer s H vs Q E hr h => ?_)
  · obtain ⟨ls, ln, ss, st, x, rfl, _⟩ := h
    rfl
  obtain ⟨ls, ln, ss, st, x, rfl, hls, hS, h8, hcl, hx0, hln, hT, k⟩ := h
  have hr6 : Room 6 _ := hr.mono (by decide)
  refine ⟨_, pss_cons (ps_if (pt_cmpR op_ge (pe_ix ix_list (pv 2) pe_int (fun _ _ => rfl)) (pe_callB call_len_seq (by rfl) T.len PySem.boot_len (pa_cons (pv 0) pa_nil)) (nomark _)) (pss_one (ps_ret (pe_lst (pa_cons (pe_gI T.cNS rfl) pa_nil)))) pss_nil)
    (pss_cons (ps_if (pt_cmpR (op_notIn_nd D) (pv 1) (pe_glob (v := .ref d) rfl hd rfl) rfl)
      (pss_one (ps_ret (pe_cb (c_ofSnap T M) hr rfl (pa_cons (pe_ix ix_list (pv 0) (pe_ix ix_list (pv 2) pe_int (fun _ _ => rfl)) (fun _ _ => rfl)) (pa_cons (pv 1) (pa_cons (pe_slice sl_list (pv 2) (po_some pe_int) po_none) pa_nil)))))) pss_nil)
    (pss_cons (ps_if (pt_cmpR op_ge (pe_ix ix_list (pv 2) pe_int (fun _ _ => rfl)) (pe_callB call_len_seq (by rfl) T.len PySem.boot_len (pa_cons (pv 0) pa_nil)) (nomark _)) (pss_one (ps_ret (pe_lst (pa_cons (pe_gI T.cNS rfl) pa_nil)))) pss_nil)
    (pss_one (ps_ret (pe_callE (S := fun f sp => (sp = spNewC A ∧ mg "new" = some (.ref f)) ∨ (sp = spGrowsC A ∧ mg "grows" = some (.ref f))) (k := 6)
        (fun f sp z => by
          rcases z with ⟨rfl, m⟩ | ⟨rfl, m⟩
          · exact ((c_newC (P := P) (base := base) T.toTxtC).mono (by decide)).use m
          · exact (c_growsC (P := P) (base := base) T.toTxtC).use m)
        (pe_ix (ix_nd D) (pe_glob (v := .ref d) rfl hd rfl) (pv 1) (fun _ _ => rfl)) hr6 (pa_cons (pv 0) (pa_cons (pe_ix ix_list (pv 2) pe_int (fun _ _ => rfl)) (pa_cons (pe_ix ix_list (pv 2) pe_int (fun _ _ => rfl)) pa_nil)))))))), ?_⟩
  have hsl := hS.1
  have no : ∀ {z : List Int}, (Hx01.step st x).2 = [-2] → ∀ D', H D' = none → Q (.ref D') (upd H D' (.lst [V.int (-2)])) := fun {z} e D' hD' => by
    rw [e] at k
    have s1 : Same H (upd H D' (.lst [V.int (-2)])) := same_upd (Same.refl _) hD'
    exact k _ D' (ExtN.of s1) (hT.ext s1) upd_same
  rcases call_kinds st x hx0 with ⟨s0, ns, f, eh, est, ho, h9, h10⟩ | ⟨a, b, ec, eh, est⟩ | ⟨a, b, ec, eh, est⟩
  · rw [eh] at hln
    refine ⟨_, rfl, ln, _, _, _, rfl, rfl, SqL.of hln, atI_nat (j := 0) rfl, _, rfl, ls, _, rfl, .inl (SqL.of hls), _, _, rfl, rfl, _, rfl, ?_⟩
    rw [List.length_map, hsl, ge_int]
    by_cases c : st.snaps.length ≤ s0
    · rw [decide_eq_true c]
      exact ifT rfl ⟨big (show 1 ≤ 100000 by decide), no (z := []) (est.trans (onSnap_no c))⟩
    · rw [decide_eq_false c]
      refine ifF rfl ?_
      obtain ⟨h, hh⟩ := get_some (l := st.snaps) (i := s0) (by omega)
      obtain ⟨sa, hsa⟩ := get_some (l := ss) (i := s0) (by omega)
      refine ⟨_, rfl, _, rfl, rfl, _, rfl, ?_⟩
      show if (!(List.lookup ((callNo x : Nat) : Int) [((9 : Int), Value.ref f9), (10, Value.ref f10)]).isSome) = true then _ else _
      rw [nd_two h9 h10]
      refine ifT rfl ?_
      refine ⟨_, rfl, _, rfl, ln, _, _, _, rfl, rfl, SqL.of hln, atI_nat (j := 0) rfl, ls, _, _, _, rfl, rfl, SqL.of hls, atI_nat (j := s0) (by rw [List.getElem?_map, hsa]; rfl), _, rfl, _, rfl, _, rfl, ln, _, rfl, SqL.of hln, fun q hq => ?_⟩
      rw [cut_one]
      have s1 : Same H (upd H q (.lst (vI ((s0 :: ns).drop 1)))) := same_upd (Same.refl _) hq
      rw [est, onSnap_yes hh] at k
      exact ⟨sa, q, callNo x, ns, f h, st.prog, h, rfl, (hS.2 s0 sa h hsa hh).go s1, hcl, upd_same, ho h, hT.ext s1, k.go s1⟩
  all_goals
    rw [eh] at hln
    refine ⟨_, rfl, ln, _, _, _, rfl, rfl, SqL.of hln, atI_nat (j := 0) rfl, _, rfl, ls, _, rfl, .inl (SqL.of hls), _, _, rfl, rfl, _, rfl, ?_⟩
    rw [List.length_map, hsl, ge_int]
    by_cases c : st.snaps.length ≤ a
    · rw [decide_eq_true c]
      exact ifT rfl ⟨big (show 1 ≤ 100000 by decide), no (z := []) (est.trans (onSnap_no c))⟩
    rw [decide_eq_false c]
    refine ifF rfl ?_
    obtain ⟨g, hg⟩ := get_some (l := st.snaps) (i := a) (by omega)
    rw [onSnap_yes hg] at est
    refine ⟨_, rfl, _, rfl, rfl, _, rfl, ?_⟩
    rw [ec]
    refine ifF rfl ?_
    refine ⟨_, rfl, ln, _, _, _, rfl, rfl, SqL.of hln, atI_nat (j := 1) rfl, _, rfl, ls, _, rfl, .inl (SqL.of hls), _, _, rfl, rfl, _, rfl, ?_⟩
    rw [List.length_map, hsl, ge_int]
    by_cases c2 : st.snaps.length ≤ b
    · rw [decide_eq_true c2]
      exact ifT rfl ⟨big (show 1 ≤ 100000 by decide), no (z := []) (est.trans (onSnap_no c2))⟩
    rw [decide_eq_false c2]
    refine ifF rfl ?_
    obtain ⟨h, hh⟩ := get_some (l := st.snaps) (i := b) (by omega)
    rw [onSnap_yes hh] at est
    rw [est] at k
    have kz := k.z hT
  · exact ⟨_, rfl, _, _, .ref f9, rfl, rfl, rfl, rfl, f9, _, rfl, .inl ⟨rfl, m9⟩, _, rfl, _, rfl, ln, _, _, _, rfl, rfl, SqL.of hln, atI_nat (j := 0) rfl, _, rfl, ln, _, _, _, rfl, rfl, SqL.of hln, atI_nat (j := 1) rfl, ls, a, b, st.prog, ss, st.snaps, g, h, rfl, hls, hS, hg, hh, kz⟩
  · exact ⟨_, rfl, _, _, .ref f10, rfl, rfl, rfl, rfl, f10, _, rfl, .inr ⟨rfl, m10⟩, _, rfl, _, rfl, ln, _, _, _, rfl, rfl, SqL.of hln, atI_nat (j := 0) rfl, _, rfl, ln, _, _, _, rfl, rfl, SqL.of hln, atI_nat (j := 1) rfl, ls, a, b, st.prog, ss, st.snaps, g, h, rfl, hls, hS, h8, hg, hh, kz⟩
end
end Kq
namespace Kq
open PySem PySem.Spec PyProof.Rows L2
/-- the house: the snapshots of the program written last -/
structure HsAt (A : CA) (H : Hp) (ha : Addr) (st : Hx01.St) : Prop where
  ex : ∃ dx ls ss, H ha = some (.ins A.house dx [("snapshots", .ref ls)]) ∧ but [ha] H ls = some (.lst (ss.map V.ref)) ∧ SnapsAt A (but [ha] H) st.prog ss st.snaps
  ok : ∀ h ∈ st.snaps, Kp.HOk st.prog h
  bnd : Kp.Bnd st.prog
  few : st.snaps.length ≤ 8
theorem HsAt.go {A : CA} {H H' : Hp} {ha : Addr} {st : Hx01.St} (k : HsAt A H ha st) (s : Same (but [ha] H) (but [ha] H')) (e : ∀ u, H ha = some u → H' ha = some u) : HsAt A H' ha st := by
  obtain ⟨dx, ls, ss, h1, h2, h3⟩ := k.ex
  exact ⟨⟨dx, ls, ss, e _ h1, s _ _ h2, h3.same s⟩, k.ok, k.bnd, k.few⟩
/-! all but the house -/
/-- an object that isn't the house -/
def NotH (u : HO) : Prop := ∀ C dx v fs, u ≠ .ins C dx (("snapshots", v) :: fs)
theorem notH_lst (xs : List V) : NotH (.lst xs) := fun _ _ _ _ z => by cases z
theorem notH_dK (xs : List (Key × V)) : NotH (.dK xs) := fun _ _ _ _ z => by cases z
theorem notH_ins {C dx : Addr} {k : Str} {v : V} {fs : List (Str × V)} (h : (k == ("snapshots" : Str)) = false) : NotH (.ins C dx ((k, v) :: fs)) := fun _ _ _ _ z => by
  injection z with _ _ z
  injection z with z _
  injection z with z _
  subst z
  exact Bool.noConfusion ((beq_self_eq_true _).symm.trans h)
/-- ha holds the house, or nothing -/
def IsH (H : Hp) (ha : Addr) : Prop := ∀ u, H ha = some u → ¬ NotH u
theorem IsH.off {H : Hp} {ha x : Addr} {u : HO} (h : IsH H ha) (e : H x = some u) (n : NotH u) : but [ha] H x = some u :=
  (but_out (fun z => h u (by rw [← List.mem_singleton.mp z]; exact e) n)).trans e
theorem IsH.of {H H' : Hp} {ha : Addr} (s : Same H H') (h : IsH H' ha) : IsH H ha := fun u e => h u (s _ _ e)
theorem rows_off {H : Hp} {ha p : Addr} {wss : List (List (List Nat))} (i : IsH H ha) (h : RowsAt H p wss) : RowsAt (but [ha] H) p wss := by
  obtain ⟨qs, a, b, c⟩ := h
  exact ⟨qs, i.off a (notH_lst _), b, fun j q ws e1 e2 => i.off (c j q ws e1 e2) (notH_lst _)⟩
theorem kinds_off {H : Hp} {ha CK : Addr} {ks : List Addr} {cs : List Hx01.Class} (i : IsH H ha) (h : KindsAt CK H ks cs) : KindsAt CK (but [ha] H) ks cs := ⟨h.1, fun j k c e1 e2 => by
  obtain ⟨dx, lf, a, b⟩ := h.2 j k c e1 e2
  exact ⟨dx, lf, i.off a (notH_ins (by decide +kernel)), i.off b (notH_lst _)⟩⟩
theorem pr_off {A : CA} {H : Hp} {ha : Addr} {f : PF} {wss : List (List (List Nat))} {p : Hx01.Program} {ks : List Addr} (i : IsH H ha) (h : PrFz A H f wss p ks) : PrFz A (but [ha] H) f wss p ks := by
  exact ⟨i.off h.obj (notH_ins (by decide +kernel)), rows_off i h.rows, kinds_off i h.knd, i.off h.lk (notH_lst _), i.off h.dk (notH_dK _), i.off h.dv (notH_dK _), i.off h.de (notH_dK _)⟩
theorem things_off {A : CA} {H0 H : Hp} {ha : Addr} {p : Hx01.Program} {ts fs : List Addr} {l : List Hx01.Thing} (i0 : IsH H0 ha) (i : IsH H ha) (h : ThingsAt A H0 H p ts fs l) : ThingsAt A (but [ha] H0) (but [ha] H) p ts fs l := ⟨h.1, h.2.1, fun j u lf t e1 e2 e3 => by
  obtain ⟨⟨dx, a⟩, b⟩ := h.2.2 j u lf t e1 e2 e3
  exact ⟨⟨dx, i0.off a (notH_ins (by decide +kernel))⟩, i.off b (notH_lst _)⟩⟩
theorem hp_off {A : CA} {H : Hp} {ha s : Addr} {p : Hx01.Program} {h : Hx01.Heap} (i : IsH H ha) (k : HpAt A H p s h) : HpAt A (but [ha] H) p s h := by
  obtain ⟨dx, lt, lv, ts, fs, a, b, c, d⟩ := k
  exact ⟨dx, lt, lv, ts, fs, i.off a (notH_ins (by decide +kernel)), i.off b (notH_lst _), i.off c (notH_lst _), things_off i i d⟩
theorem snaps_off {A : CA} {H : Hp} {ha : Addr} {p : Hx01.Program} {ss : List Addr} {l : List Hx01.Heap} (i : IsH H ha) (k : SnapsAt A H p ss l) : SnapsAt A (but [ha] H) p ss l := ⟨k.1, fun j s h e1 e2 => hp_off i (k.2 j s h e1 e2)⟩
theorem IsH.upd {H : Hp} {ha x : Addr} {u o : HO} (h : IsH H ha) (e : H x = some u) (n : NotH u) : L2.upd H ha o x = some u := by
  have := but_some (h.off e n)
  rw [upd_ne (by simpa using this.1)]
  exact e
section
variable {A : CA} {H : Hp} {g : RG} {H0 : Hp} {f : PF} {wss : List (List (List Nat))} {p : Hx01.Program} {ks : List Addr} {row : Nat} {o : List (Nat × Nat)} {w : Hx01.Way} {ts fs rs ss : List Addr}
theorem run_off {ha : Addr} {u : HO} (R : RunAt A H g H0 f wss p ks row o w ts fs rs ss) (i : IsH H ha) : RunAt A (upd H ha u) g (but [ha] H0) f wss p ks row o w ts fs rs ss := by
  have i0 : IsH H0 ha := IsH.of R.same i
  refine ⟨fun b v e => ?_, R.nd, fun x hx => ?_, pr_off i0 R.pr, i.upd R.obj (notH_ins (by decide +kernel)), i0.off R.hobj (notH_ins (by decide +kernel)), i.upd R.lt (notH_lst _), i.upd R.lv (notH_lst _), ⟨R.things.1, R.things.2.1, fun j q lf t e1 e2 e3 => ?_⟩, i.upd R.ls (notH_lst _), snaps_off i0 R.snaps, i.upd R.lo (notH_lst _), ⟨R.rounds.1, fun j r x e1 e2 => i.upd (R.rounds.2 j r x e1 e2) (notH_lst _)⟩⟩
  · obtain ⟨n, e⟩ := but_some e
    rw [upd_ne (by simpa using n)]
    exact R.same _ _ e
  · by_cases c : x ∈ [ha]
    · exact but_in c
    · rw [but_out c]; exact R.free x hx
  · obtain ⟨⟨dx, a⟩, b⟩ := R.things.2.2 j q lf t e1 e2 e3
    exact ⟨⟨dx, i0.off a (notH_ins (by decide +kernel))⟩, i.upd b (notH_lst _)⟩
end
end Kq
namespace Kq
open PySem PySem.Spec PyProof.Rows L2
abbrev sWrite : Stmt := top 115
structure TxtF (A : CA) (w : World) (K : PySem.W.Frag) (mg : Str → Option Value) : Prop extends TxtD A w K mg where
  cHouse : Cl K mg "House" "House.__init__" A.house (inClass (top 114) 0) ["self"] ["snapshots"]
  dWrite : Dd K mg "write" sWrite ["house", "text"]
  cMB : ∃ t, mg "MOST_BYTES" = some (.int 600 t)
  cHB : ∃ t, mg "HIGHEST_BYTE" = some (.int 255 t)
  cNX : ∃ t, mg "NO_TEXT" = some (.int (-1) t)
  any_ : mg "any" = none
section
variable {P : Program} {w : World} {K : PySem.W.Frag} {mg : Str → Option Value} {base : Heap} {A : CA}
def spWrite (A : CA) : Sp := fun vs H Q _ => ∃ (ha lt : Addr) (st : Hx01.St) (b : List Nat), vs = [.ref ha, .ref lt] ∧ HsAt A H ha st ∧ H lt = some (.lst (vI b)) ∧ b.length ≤ 1000 ∧
  ∀ (H' : Hp) (D : Addr), Same (but [ha] H) (but [ha] H') → HsAt A H' ha (Hx01.step st (.write b)).1 → H' D = some (.lst ((Hx01.step st (.write b)).2.map V.int)) → Q (.ref D) H'
theorem any_big : ∀ b : List Nat, ((b.map fun c => decide (255 < c)).any id) = !(b.all fun c => decide (c ≤ 255))
  | [] => rfl
  | c :: b => by
    rw [List.map_cons, List.any_cons, List.all_cons, any_big b, Bool.not_and]
    congr 1
    by_cases h : c ≤ 255
    · have : ¬ 255 < c := by omega
      simp [h, this]
    · have : 255 < c := by omega
      simp [h, this]
abbrev nWrite : List Str := ["house", "text", "byte", "program", "refusal", "run"]
theorem scWrite : FnScope nWrite ["house", "text"] (defScope sWrite) := ⟨rfl, rfl, rfl, by decide +kernel, rfl, by decide +kernel, by decide +kernel⟩
theorem c_write (T : TxtF A w K mg) : Cb P w K mg base 7 "write" ["house", "text"] (spWrite A) := by
  refine T.dWrite.cb scWrite (fun vs H Q E h => ?_) (fun fa cdv Ar outer s H vs Q E hr h => ?_)
  · obtain ⟨ha, lt, st, b, rfl, _⟩ := h
    rfl
  obtain ⟨ha, lt, st, b, rfl, S, hlt, hbl, k⟩ := h
  have hr1 : Room 1 _ := hr.mono (by decide)
  have hr2 : Room 2 _ := hr.mono (by decide)
  have hr4 : Room 4 _ := hr.mono (by decide)
  refine ⟨_, pss_cons (ps_if (PW.pt (pw_or (pt_cmpR op_gt (pe_callB call_len_seq (by rfl) T.len PySem.boot_len (pa_cons (pv 1) pa_nil)) (pe_gI T.cMB rfl) (nomark _)) (pw_or1 (pt_val (pe_callB (cr_any rfl) (by rfl) T.any_ (by decide +kernel) (pa_cons
        (pe_lc (own := [("byte", 2)]) (g := gName 2) (tt := tYes) (te := tOp (rI0 fun i j => .bl (decide (j < i))) (tVar 2) (tC (.int 255))) rfl scWrite.nd (pi_list (pv 1))
          (blkOk_by (own := [("byte", 2)]) (N := nWrite) (sc := defScope sWrite) (by decide +kernel)) (fun _ _ _ _ _ => pg_name (i := 2) scWrite.nd rfl (Or.inl rfl)) (fun _ _ _ _ _ => pts_nil)
          (fun _ _ _ _ _ => pe_cmpR op_gt (pv 2) (pe_gI T.cHB rfl) (nomark _))) pa_nil))))))
      (pss_one (ps_ret (pe_lst (pa_cons (pe_gI T.cNX rfl) pa_nil)))) pss_nil)
    (pss_cons (ps_set (i := 3) scWrite.nd rfl (Or.inl rfl) (pe_cm (c_prog T.toTxtQ) hr2 rfl (pa_cons (pe_cb (c_rows T.toTxtW) hr2 rfl (pa_cons (pv 1) pa_nil)) pa_nil)))
    (pss_cons (ps_set (i := 4) scWrite.nd rfl (Or.inl rfl) (pe_cb (c_read T.toTxtQ) hr4 rfl (pa_cons (pv 3) pa_nil)))
    (pss_cons (ps_if (pt_cmpR op_ne (pv 4) pe_int (nomark _)) (pss_one (ps_ret (pe_lst (pa_cons (pv 4) pa_nil)))) pss_nil)
    (pss_cons (ps_set (i := 5) scWrite.nd rfl (Or.inl rfl) (pe_cb (c_runP T.toTxtS) hr rfl (pa_cons (pv 3) pa_nil)))
    (pss_cons (ps_fld (pv 0) (pe_fld (pv 5) rfl) rfl)
    (pss_one (ps_ret (pe_lst (pa_cons (pe_callB call_len_seq (by rfl) T.len PySem.boot_len (pa_cons (pe_fld (pe_fld (pv 5) rfl) rfl) pa_nil)) (pa_cons (pe_fld (pv 5) rfl) (pa_cons (pe_callB call_len_seq (by rfl) T.len PySem.boot_len (pa_cons (pe_fld (pv 5) rfl) pa_nil))
      (pa_cons (pe_cb (c_stopped T.toTxtS) hr1 rfl (pa_cons (pv 5) pa_nil)) pa_nil)))))))))))), ?_⟩
  obtain ⟨dx, ls, ss0, e1, e2, e3⟩ := S.ex
  have hI : ∀ {H' : Hp}, H' ha = some (.ins A.house dx [("snapshots", .ref ls)]) → IsH H' ha := fun {H'} e u z => by
    rw [e] at z
    cases z
    exact fun n => n _ _ _ _ rfl
  -- what is refused leaves all as it was
  have no : ∀ {H' : Hp} {D : Addr} {z : Int}, Same H H' → H' D = some (.lst [V.int z]) → Hx01.step st (.write b) = (st, [z]) → Q (.ref D) H' := fun {H' D z} s2 e es => by
    refine k H' D (but_same s2) ?_ ?_
    · rw [es]
      exact S.go (but_same s2) fun u e => s2 _ _ e
    · rw [es]
      exact e
  have bad : (600 < b.length ∨ (b.all fun c => decide (c ≤ 255)) = false) → Hx01.step st (.write b) = (st, [-1]) := fun c => by
    show (if 600 < b.length ∨ (b.all fun c => decide (c ≤ 255)) = false then (st, [-1]) else _) = _
    rw [if_pos c]
  refine ⟨_, rfl, lt, _, rfl, .inl (SqL.of hlt), _, _, rfl, rfl, _, rfl, ?_⟩
  rw [vI_len]
  by_cases c6 : 600 < b.length
  · rw [decide_eq_true (show (600 : Int) < ((b.length : Nat) : Int) by omega)]
    refine ifT rfl ?_
    refine ifT rfl ?_
    refine ⟨big (show 1 ≤ 100000 by decide), fun D hD => ?_⟩
    exact no (same_upd (Same.refl _) hD) upd_same (bad (.inl c6))
  rw [decide_eq_false (show ¬ (600 : Int) < ((b.length : Nat) : Int) by omega)]
  refine ifF rfl ?_
  refine ⟨_, rfl, lt, rfl, ⟨_, SqL.of hlt⟩, fun D hD => ?_⟩
  refine lc_it (walk_list (K := K) (a := lt) (xs := vI b)) (fun i H' => Same H (but [D] H') ∧ H' D = some (.lst (((b.take i).map fun c => decide (255 < c)).map V.bl))) ⟨?_, upd_same⟩ (fun i H' _ h => SqL.of (but_le _ _ (h.1 _ _ hlt))) ?_ ?_
  · rw [but_upd (by simp)]
    exact but_out_of (Same.refl _) (fun b hb => by rw [List.mem_singleton.mp hb]; exact hD)
  · rintro i x H3 H4 hi ⟨s3, e3⟩ ⟨rfl, hx⟩
    obtain ⟨n, hn, rfl⟩ := vI_at hx
    refine ⟨rfl, lcYes ?_⟩
    refine ⟨_, rfl, _, _, rfl, rfl, _, e3, bigLt (by rw [List.length_map, List.length_map, List.length_take]; omega), ?_, ?_⟩
    · rw [but_upd (by simp)]; exact s3
    · rw [upd_same, take_one hn, List.map_append, List.map_append]
      have : decide ((255 : Int) < ((n : Nat) : Int)) = decide (255 < n) := by congr 1; exact propext (by omega)
      show some (HO.lst (_ ++ [V.bl (decide ((255 : Int) < ((n : Nat) : Int)))])) = _
      rw [this]
      rfl
  rintro H1 ⟨s1, e5⟩
  have s1 := s1.trans but_le
  rw [vI_len, List.take_length] at e5
  refine ⟨D, _, rfl, SqL.of e5, _, rfl, ?_⟩
  rw [any_big]
  cases ca : b.all fun c => decide (c ≤ 255) with
  | false =>
    refine ifT rfl ?_
    refine ⟨big (show 1 ≤ 100000 by decide), fun q hq => ?_⟩
    exact no (s1.trans (same_upd (Same.refl _) hq)) upd_same (bad (.inr ca))
  | true =>
  refine ifF rfl ?_
  have b6 : b.length ≤ 600 := by omega
  have hW := words_ok b6
  have est : Hx01.step st (.write b) = (match Hx01.read b with
    | .error e => (st, [-1000 - 10 * (e.1 : Int) - (e.2 : Int)])
    | .ok p => (⟨p, (Hx01.run p).1.snaps⟩, Hx01.ints [(Hx01.run p).1.heap.things.length, (Hx01.run p).1.steps, (Hx01.run p).1.snaps.length, match (Hx01.run p).2 with
        | none => 0
        | some i => i + 1])) := by
    show (if 600 < b.length ∨ (b.all fun c => decide (c ≤ 255)) = false then (st, [-1]) else _) = _
    rw [if_neg (by rw [ca]; simp; omega)]
    cases Hx01.read b <;> rfl
  rw [Kp.read_words] at est
  refine ⟨_, rfl, lt, b, rfl, SqL.of (s1 _ _ hlt), hbl, fun lr H2 s2 hlr hR => ?_⟩
  intro pa pdx np ndx npd
  refine ⟨pa, pdx, lr, rfl, upd_same, fun f H3 ea ed el nd free h3 k1 k2 k3 k4 k5 fr => ⟨rfl, ?_⟩⟩
  subst ea ed el
  have sm : Same H2 (upd (upd H2 f.dx (.own f.a)) f.a (.ins A.prog f.dx [])) := same_upd (same_upd (Same.refl _) ndx) np
  have hpm : f.a ∉ f.mut := fun z => by
    have := free _ z
    rw [upd_same] at this
    cases this
  have s23 : Same H2 (but f.mut H3) := fun b' u e => by
    have e4 := sm _ _ e
    rw [but_out (fun z => by rw [free _ z] at e4; cases e4)]
    exact fr _ _ e4 (ne_of_none e np)
  have hP : PrAt A H3 f (but f.mut H3) (Kp.wordsOf b) ⟨[], [], []⟩ [] := by
    refine ⟨but_le, nd, fun x hx => but_in hx, ?_, ?_, ⟨rfl, fun i q c e => by simp at e⟩, k1, k2, k3, k4, k5⟩
    · rw [but_out hpm, h3]
    · exact hR.same s23
  have s03 : Same H (but f.mut H3) := s1.trans (s2.trans s23)
  refine ⟨_, rfl, f, _, _, rfl, hP, hW, fun i e he H4 F4 => ?_, fun p hp W H4 H04 ks P4 F4 => ?_⟩
  · have s4 : Same H H4 := fun b' u eb => by
      obtain ⟨n, e5⟩ := but_some (s03 _ _ eb)
      exact F4 _ _ e5 n
    rw [he] at est
    refine ⟨_, rfl, rfl, _, rfl, ?_⟩
    rw [show decide (V.int (-1000 - 10 * (i : Int) - (e : Int)) = V.int 0) = false from decide_eq_false (fun z => by have := V.int.inj z; omega)]
    refine ifT rfl ?_
    refine ⟨_, rfl, big (show 1 ≤ 100000 by decide), fun q hq => ?_⟩
    exact no (s4.trans (same_upd (Same.refl _) hq)) upd_same est
  · have s4 : Same H H4 := fun b' u eb => by
      obtain ⟨n, e5⟩ := but_some (s03 _ _ eb)
      exact F4 _ _ e5 n
    rw [hp] at est
    refine ⟨_, rfl, rfl, _, rfl, ?_⟩
    refine ifF rfl ?_
    refine ⟨_, rfl, f, _, p, ks, rfl, P4.fz, W, hW, fun g H5 H05 row o ts fs rs ss s5 R hok hsn hth hrow => ?_⟩
    have s45 : Same H H5 := s4.trans (s5.trans R.same)
    have eh5 := s45 _ _ e1
    have cr := T.cRun.cl
    have hc := T.cHouse.cl
    refine ⟨_, rfl, g.a, A.run, g.dx, _, _, rfl, R.obj, cr, T.cRun.na _ (by decide +kernel), rnF_snaps _ _ _ _, _, rfl, ha, A.house, dx, _, rfl, eh5, hc, T.cHouse.na _ (by decide +kernel), (by show 1 < 1000; decide), ?_⟩
    rw [put_here]
    have R6 := run_off (u := .ins A.house dx [("snapshots", .ref g.ls)]) R (hI eh5)
    have c2 := T.cHeap.cl
    refine ⟨_, rfl, g.a, A.run, g.dx, _, _, rfl, R6.obj, cr, T.cRun.na _ (by decide +kernel), rnF_heap _ _ _ _, g.h, A.heap, g.hd, _, _, rfl, R6.same _ _ R6.hobj, c2, T.cHeap.na _ (by decide +kernel), hpF_things _ _, g.lt, _, rfl, .inl (SqL.of R6.lt),
      _, rfl, g.a, A.run, g.dx, _, _, rfl, R6.obj, cr, T.cRun.na _ (by decide +kernel), rnF_steps _ _ _ _, _, rfl, g.a, A.run, g.dx, _, _, rfl, R6.obj, cr, T.cRun.na _ (by decide +kernel), rnF_snaps _ _ _ _, g.ls, _, rfl, .inl (SqL.of R6.ls),
      _, rfl, g, _, f, _, p, ks, row, o, _, ts, fs, rs, ss, rfl, R6, big (show 4 ≤ 100000 by decide), fun D2 hD2 => ?_⟩
    have est1 : (Hx01.step st (.write b)).1 = ⟨p, (Hx01.run p).1.snaps⟩ := by rw [est]
    have est2 : (Hx01.step st (.write b)).2 = Hx01.ints [(Hx01.run p).1.heap.things.length, (Hx01.run p).1.steps, (Hx01.run p).1.snaps.length, match (Hx01.run p).2 with
        | none => 0
        | some i => i + 1] := by rw [est]
    have nDh : ha ≠ D2 := fun z => by rw [← z, upd_same] at hD2; cases hD2
    have sD := same_upd (o := .lst [V.int ((ts.map V.ref).length : Nat), V.int ((Hx01.run p).1.steps : Nat), V.int ((ss.map V.ref).length : Nat), V.int (if row < (Kp.wordsOf b).length then ((row + 1 : Nat) : Int) else 0)]) (Same.refl (upd H5 ha (.ins A.house dx [("snapshots", .ref g.ls)]))) hD2
    have s6 : Same (but [ha] H5) (but [ha] (upd (upd H5 ha (.ins A.house dx [("snapshots", .ref g.ls)])) D2 (.lst [V.int ((ts.map V.ref).length : Nat), V.int ((Hx01.run p).1.steps : Nat), V.int ((ss.map V.ref).length : Nat), V.int (if row < (Kp.wordsOf b).length then ((row + 1 : Nat) : Int) else 0)]))) := by
      have := but_same (ds := [ha]) sD
      rw [but_upd (by simp)] at this
      exact this
    refine k _ D2 ((but_same s45).trans s6) ?_ ?_
    · rw [est1]
      refine ⟨⟨dx, g.ls, ss, sD _ _ upd_same, s6 _ _ ((hI eh5).off R.ls (notH_lst _)), ?_⟩, hok, W.rd.bnd, hsn⟩
      exact R6.snaps.same ((but_same R.same).trans s6)
    · rw [upd_same, est2, List.length_map, List.length_map, R.things.1, R.snaps.1]
      have er : (if row < (Kp.wordsOf b).length then ((row + 1 : Nat) : Int) else 0) = ((match (Hx01.run p).2 with
          | none => 0
          | some i => i + 1 : Nat) : Int) := by
        cases e : (Hx01.run p).2 with
        | none =>
          rw [e] at hrow
          rw [if_neg (by have : (Kp.wordsOf b).length ≤ row := hrow; omega)]
          rfl
        | some i =>
          rw [e] at hrow
          obtain ⟨h1, h2⟩ : row = i ∧ i < (Kp.wordsOf b).length := hrow
          rw [if_pos (by omega), h1]
      rw [er]
      rfl
end
end Kq
namespace Kq
open PySem PySem.Spec PyProof.Rows L2
abbrev sHanded : Stmt := top 116
/-- which calls the program has -/
structure TxtG (A : CA) (Sv : Hx01.Call → Prop) (w : World) (K : PySem.W.Frag) (mg : Str → Option Value) : Prop extends TxtF A w K mg where
  dHanded : Dd K mg "handed_over" sHanded ["calls", "place"]
  cW : ∃ t, mg "WRITE" = some (.int 0 t)
  nums : ∃ d es n l, mg "NUMBER_COUNTS" = some (.ref d) ∧ K.lookup d = some ⟨.type "dict", none, .dict es n, #[]⟩ ∧ IEnts es l ∧ ∀ x, Sv x → callNo x ≠ 0 → ∃ t, l.lookup ((callNo x : Nat) : Int) = some (.int ((hands x).length : Nat) t)
theorem cut_mid (l : List Nat) (a b : Nat) (h : a + b ≤ l.length) : cutV (vI l) (some (a : Int)) (some ((a + b : Nat) : Int)) = vI ((l.drop a).take b) := by
  unfold cutV
  have e1 : min a l.length = a := Nat.min_eq_left (by omega)
  have e2 : min (a + b) l.length = a + b := Nat.min_eq_left h
  rw [HT.sIx_nat, HT.sIx_nat, vI_len, e1, e2, Nat.add_sub_cancel_left]
  unfold vI
  rw [List.map_take, List.map_drop]
section
variable {P : Program} {w : World} {K : PySem.W.Frag} {mg : Str → Option Value} {base : Heap} {A : CA} {Sv : Hx01.Call → Prop}
def spHanded (K : PySem.W.Frag) (Sv : Hx01.Call → Prop) : Sp := fun vs H Q _ => ∃ (lc : Addr) (pl : Nat) (L post : List Nat) (x : Hx01.Call), vs = [.ref lc, .int (pl : Nat)] ∧ SqL K H lc (vI L) ∧ Sv x ∧ L.drop pl = Kp.enc x ++ post ∧
  ∀ (H' : Hp) (D : Addr), Same H H' → H D = none → H' D = some (.lst (vI (hands x))) → Q (.ref D) H'
theorem scHanded : FnScope ["calls", "place", "count"] ["calls", "place"] (defScope sHanded) := ⟨rfl, rfl, rfl, by decide +kernel, rfl, by decide +kernel, by decide +kernel⟩
theorem c_handed (T : TxtG A Sv w K mg) : Cb P w K mg base 1 "handed_over" ["calls", "place"] (spHanded K Sv) := by
  obtain ⟨d, es, nn, l, hd, hK, hE, hn⟩ := T.nums
  refine T.dHanded.cb scHanded (fun vs H Q E h => ?_) (fun fa cdv Ar outer s H vs Q E hr h => ?_)
  · obtain ⟨lc, pl, L, post, x, rfl, _⟩ := h
    rfl
  obtain ⟨lc, pl, L, post, x, rfl, hL, hS, hdr, k⟩ := h
  refine ⟨_, pss_cons (ps_set (i := 2) scHanded.nd rfl (Or.inl rfl) (pe_ifExp (pt_cmpR op_eq (pe_ix ix_list (pv 0) (pv 1) (fun _ _ => rfl)) (pe_gI T.cW rfl) (nomark _)) (pe_op op_add pe_int (pe_ix ix_list (pv 0) (pe_op op_add (pv 1) pe_int) (fun _ _ => rfl)))
      (pe_ix ix_ndict (pe_glob (v := .ref d) rfl hd rfl) (pe_ix ix_list (pv 0) (pv 1) (fun _ _ => rfl)) (fun _ _ => rfl))))
    (pss_one (ps_ret (pe_slice sl_list (pv 0) (po_some (pe_op op_add (pv 1) pe_int)) (po_some (pe_op op_add (pe_op op_add (pv 1) pe_int) (pv 2)))))), ?_⟩
  have hlen : L.length = pl + (Kp.enc x).length + post.length := by
    have h1 := congrArg List.length hdr
    rw [List.length_drop, List.length_append] at h1
    have h2 : 1 ≤ (Kp.enc x).length := by rw [enc_is]; simp
    omega
  have at_ : ∀ (j v : Nat), (Kp.enc x)[j]? = some v → atI (vI L) ((pl + j : Nat) : Int) = some (.int (v : Nat)) := fun j v e => by
    refine atI_nat ?_
    unfold vI
    rw [List.getElem?_map, ← List.getElem?_drop, hdr, List.getElem?_append_left (List.getElem?_eq_some_iff.mp e).1, e]
    rfl
  have h0 : (Kp.enc x)[0]? = some (callNo x) := by rw [enc_is]; rfl
  have hh : (Kp.enc x).length = (hands x).length + 1 := by rw [enc_is]; rfl
  have cut : ∀ H' : Hp, Same H H' → SqL K H' lc (vI L) → ∀ q, H' q = none → Q (.ref q) (upd H' q (.lst (cutV (vI L) (some ((pl : Int) + 1)) (some ((pl : Int) + 1 + ((hands x).length : Nat)))))) := fun H' s' hL' q hq => by
    refine k _ q (s'.trans (same_upd (Same.refl _) hq)) (s'.free hq) ?_
    rw [upd_same]
    have e1 : (pl : Int) + 1 = ((pl + 1 : Nat) : Int) := by omega
    have e2 : (pl : Int) + 1 + ((hands x).length : Nat) = ((pl + 1 + (hands x).length : Nat) : Int) := by omega
    rw [e2, e1, cut_mid _ _ _ (by omega)]
    have e3 : L.drop (pl + 1) = hands x ++ post := by
      rw [← List.drop_drop, hdr, enc_is]
      rfl
    rw [e3, List.take_left']
    rfl
  refine ⟨_, rfl, _, rfl, lc, _, _, _, rfl, rfl, hL, at_ 0 _ h0, ?_⟩
  refine ⟨rfl, _, rfl, ?_⟩
  by_cases c0 : callNo x = 0
  · obtain ⟨b, rfl⟩ := no_write.mp c0
    refine ifT rfl ?_
    refine ⟨_, rfl, _, rfl, _, _, rfl, rfl, lc, _, _, _, rfl, rfl, hL, at_ 1 b.length rfl, _, _, rfl, rfl, ?_⟩
    have e : (1 : Int) + ((b.length : Nat) : Int) = ((hands (.write b)).length : Nat) := by
      show _ = ((b.length + 1 : Nat) : Int)
      omega
    refine ⟨_, rfl, _, rfl, _, _, rfl, rfl, _, rfl, _, rfl, _, _, rfl, rfl, _, rfl, _, _, rfl, rfl, _, rfl, lc, _, rfl, hL, fun q hq => ?_⟩
    have := cut H (Same.refl _) hL q hq
    rw [← e] at this
    exact this
  · rw [show decide (V.int ((callNo x : Nat) : Int) = V.int 0) = false from decide_eq_false (fun z => c0 (by have := V.int.inj z; omega))]
    refine ifF rfl ?_
    obtain ⟨t, ht⟩ := hn x hS c0
    refine ⟨_, rfl, _, rfl, lc, _, _, _, rfl, rfl, hL, at_ 0 _ h0, d, es, nn, l, _, _, .int ((hands x).length : Nat), rfl, rfl, hK, hE, ht, ⟨t, rfl⟩, ?_⟩
    refine ⟨_, rfl, _, rfl, _, _, rfl, rfl, _, rfl, _, rfl, _, _, rfl, rfl, _, rfl, _, _, rfl, rfl, _, rfl, lc, _, rfl, hL, fun q hq => ?_⟩
    exact cut H (Same.refl _) hL q hq
end
end Kq
namespace Kq
open PySem PySem.Spec PyProof.Rows L2 LamX
abbrev sAnswers : Stmt := top 117
abbrev sHouseI : Stmt := inClass (top 114) 0
/-! tables beside what changes -/
theorem tabs_keep {T : List (Addr × Str)} {H H' : Hp} (t : Tabs T H) (k : ∀ b u, H b = some u → (∀ xs, u ≠ .lst xs) → (∀ C dx fs, u ≠ .ins C dx fs) → (∀ o v, u ≠ .frz o v) → H' b = some u) : Tabs T H' := fun p hp => by
  obtain ⟨ps, h1, h2, h3⟩ := t p hp
  refine ⟨ps, k _ _ h1 (fun xs z => by cases z) (fun _ _ _ z => by cases z) (fun _ _ z => by cases z), h2, fun pos cv hc => ?_⟩
  obtain ⟨c0, e1, e2⟩ := h3 pos cv hc
  exact ⟨c0, e1, k _ _ e2 (fun xs z => by unfold CodeO at z; cases z) (fun _ _ _ z => by unfold CodeO at z; cases z) (fun _ _ z => by unfold CodeO at z; cases z)⟩
/-- all but ha, la and the tables stays -/
def Keeps (ds : List Addr) (H H' : Hp) : Prop := ∀ b u, H b = some u → (∀ ps, u ≠ .tbl ps) → b ∉ ds → H' b = some u
theorem Keeps.trans {ds : List Addr} {H H1 H2 : Hp} (a : Keeps ds H H1) (b : Keeps ds H1 H2) : Keeps ds H H2 := fun c u e n m => b c u (a c u e n m) n m
theorem Keeps.same {ds : List Addr} {H H' : Hp} (s : Same H H') : Keeps ds H H' := fun b u e _ _ => s _ _ e
theorem Keeps.ext {ds : List Addr} {H H' : Hp} (s : ExtN H H') : Keeps ds H H' := fun b u e n _ => s _ _ e n
theorem Keeps.but_ {ds : List Addr} {H H' : Hp} {ha : Addr} (h : ha ∈ ds) (s : Same (but [ha] H) (but [ha] H')) : Keeps ds H H' := fun b u e _ m => by
  have n : b ∉ [ha] := fun z => m (by rw [List.mem_singleton.mp z]; exact h)
  exact but_le _ _ (s _ _ ((but_out n).trans e))
theorem Keeps.upd {ds : List Addr} {H : Hp} {a : Addr} {o : HO} (h : a ∈ ds) : Keeps ds H (L2.upd H a o) := fun b u e _ m => by
  rw [upd_ne (fun z => m (by rw [z]; exact h))]
  exact e
/-- lists, and objects other than the house -/
def LI (u : HO) : Prop := (∃ xs, u = .lst xs) ∨ (NotH u ∧ ∃ C dx fs, u = .ins C dx fs)
theorem li_lst (xs : List V) : LI (.lst xs) := .inl ⟨xs, rfl⟩
theorem li_ins {C dx : Addr} {k : Str} {v : V} {fs : List (Str × V)} (h : (k == ("snapshots" : Str)) = false) : LI (.ins C dx ((k, v) :: fs)) := .inr ⟨notH_ins h, _, _, _, rfl⟩
theorem LI.tbl {u : HO} (h : LI u) (ps : Array Value) : u ≠ .tbl ps := fun z => by
  rcases h with ⟨xs, e⟩ | ⟨_, C, dx, fs, e⟩ <;> (rw [e] at z; cases z)
theorem LI.frz {u v : HO} {o : Obj} (h : LI u) : u ≠ .frz o v := fun z => by
  rcases h with ⟨xs, e⟩ | ⟨_, C, dx, fs, e⟩ <;> (rw [e] at z; cases z)
theorem things_keep {A : CA} {H H' : Hp} {p : Hx01.Program} {ts fs : List Addr} {l : List Hx01.Thing} (k : ∀ x u, H x = some u → LI u → H' x = some u) (h : ThingsAt A H H p ts fs l) : ThingsAt A H' H' p ts fs l := ⟨h.1, h.2.1, fun j u lf t e1 e2 e3 => by
  obtain ⟨⟨dx, a⟩, b⟩ := h.2.2 j u lf t e1 e2 e3
  exact ⟨⟨dx, k _ _ a (li_ins (by decide +kernel))⟩, k _ _ b (li_lst _)⟩⟩
theorem snaps_keep {A : CA} {H H' : Hp} {p : Hx01.Program} {ss : List Addr} {l : List Hx01.Heap} (k : ∀ x u, H x = some u → LI u → H' x = some u) (h : SnapsAt A H p ss l) : SnapsAt A H' p ss l := ⟨h.1, fun j s hh e1 e2 => by
  obtain ⟨dx, lt, lv, ts, fs, a, b, c, d⟩ := h.2 j s hh e1 e2
  exact ⟨dx, lt, lv, ts, fs, k _ _ a (li_ins (by decide +kernel)), k _ _ b (li_lst _), k _ _ c (li_lst _), things_keep k d⟩⟩
theorem HsAt.keep {A : CA} {H H' : Hp} {ha : Addr} {st : Hx01.St} (h : HsAt A H ha st) (k : ∀ x u, x ≠ ha → H x = some u → LI u → H' x = some u) (e : ∀ u, H ha = some u → H' ha = some u) : HsAt A H' ha st := by
  obtain ⟨dx, ls, ss, h1, h2, h3⟩ := h.ex
  have kb : ∀ x u, but [ha] H x = some u → LI u → but [ha] H' x = some u := fun x u ex l => by
    obtain ⟨n, ex⟩ := but_some ex
    rw [but_out n]
    exact k x u (by simpa using n) ex l
  exact ⟨⟨dx, ls, ss, e _ h1, kb _ _ h2 (li_lst _), snaps_keep kb h3⟩, h.ok, h.bnd, h.few⟩
section
variable {P : Program} {w : World} {K : PySem.W.Frag} {mg : Str → Option Value} {base : Heap} {A : CA} {Sv : Hx01.Call → Prop}
theorem sq_keep {ds : List Addr} {H H' : Hp} {a : Addr} {xs : List V} (k : Keeps ds H H') (n : a ∉ ds) (h : SqL K H a xs) : SqL K H' a xs := by
  rcases h with (q | ⟨o, q⟩) | q
  · exact .inl (.inl (k _ _ q (fun _ z => by cases z) n))
  · exact .inl (.inr ⟨o, k _ _ q (fun _ z => by cases z) n⟩)
  · exact .inr q
def spHouseI (A : CA) : Sp := fun vs H Q _ => ∃ (p dx : Addr), vs = [.ref p] ∧ H p = some (.ins A.house dx []) ∧ ∀ (H' : Hp) (ls : Addr), H ls = none → H' ls = some (.lst []) → H' p = some (.ins A.house dx [("snapshots", .ref ls)]) → (∀ b u, H b = some u → b ≠ p → H' b = some u) → Q .non H'
theorem scHouseI : FnScope ["self"] ["self"] (defScope sHouseI) := ⟨rfl, rfl, rfl, by decide +kernel, rfl, by decide +kernel, by decide +kernel⟩
theorem c_house (T : TxtF A w K mg) : Cm P w K mg base 1 "House" A.house ["self"] (spHouseI A) := by
  refine T.cHouse.cm scHouseI (fun vs H Q E h => ?_) (fun fa cdv Ar outer s H vs Q E hr h => ?_)
  · obtain ⟨p, dx, rfl, _⟩ := h
    rfl
  obtain ⟨p, dx, rfl, hp, k⟩ := h
  refine ⟨_, pss_one (ps_fld (pv 0) (pe_lst pa_nil) rfl), ?_⟩
  refine ⟨big (show 0 ≤ 100000 by decide), fun ls hls => ?_⟩
  have s1 : Same H (upd H ls (.lst [])) := same_upd (Same.refl _) hls
  have n : ls ≠ p := (ne_of_none hp hls).symm
  refine ⟨_, rfl, p, A.house, dx, _, rfl, s1 _ _ hp, T.cHouse.cl, T.cHouse.na _ (by decide +kernel), (by show 0 < 1000; decide), ?_⟩
  exact k _ ls hls ((upd_ne n).trans upd_same) upd_same fun b u e m => (upd_ne m).trans (s1 _ _ e)
theorem HsAt.sns {A : CA} {H H' : Hp} {st : Hx01.St} {ss : List Addr} (sn : SnapsAt A H' st.prog ss st.snaps) (sm : Same H' H) (ok : ∀ h ∈ st.snaps, Kp.HOk st.prog h) (bnd : Kp.Bnd st.prog) : SnsAt A H st.prog ss st.snaps := by
  refine ⟨sn.1, fun i s h e1 e2 => ?_⟩
  have k := ok h (List.mem_of_getElem? e2)
  exact ⟨(sn.2 i s h e1 e2).same sm, bnd.fld, k, by rw [k.vars]; exact bnd.vars⟩
def spAnswers (K : PySem.W.Frag) (Sv : Hx01.Call → Prop) (Pt : Addr) : Sp := fun vs H Q _ => ∃ (lc : Addr) (cs : List Hx01.Call), vs = [.ref lc] ∧ SqL K H lc (vI (cs.flatMap Kp.enc)) ∧ (∀ x ∈ cs, Sv x ∧ Kp.Inb x ∧ Kp.Shortw x) ∧ (cs.flatMap Kp.enc).length ≤ 100000 ∧ (PyFlat.told (Kp.play Hx01.init cs)).length ≤ 10000000 ∧ Tabs (lamT Pt) H ∧
  ∀ (H' : Hp) (D : Addr), H' D = some (.lst ((PyFlat.told (Kp.play Hx01.init cs)).map V.int)) → Q (.ref D) H'
abbrev nAnswers : List Str := ["calls", "house", "answered", "place", "call", "numbers", "answer"]
theorem scAnswers : FnScope nAnswers ["calls"] (defScope sAnswers) := ⟨rfl, rfl, rfl, by decide +kernel, rfl, by decide +kernel, by decide +kernel⟩
structure TxtZ (A : CA) (Sv : Hx01.Call → Prop) (w : World) (K : PySem.W.Frag) (mg : Str → Option Value) : Prop extends TxtG A Sv w K mg where
  dAnswers : Dd K mg "answers" sAnswers ["calls"]
theorem c_answers (T : TxtZ A Sv w K mg) {Pt : Addr} (O : Cb P w K mg base 12 "look" ["snapshots", "call", "numbers"] (spLookC A Pt)) : Cb P w K mg base 13 "answers" ["calls"] (spAnswers K Sv Pt) := by
  refine T.dAnswers.cb scAnswers (fun vs H Q E h => ?_) (fun fa cdv Ar outer s H vs Q E hr h => ?_)
  · obtain ⟨lc, cs, rfl, _⟩ := h
    rfl
  obtain ⟨lc, cs, rfl, hL, hcs, hlen, htold, hT, k⟩ := h
  have hr1 : Room 1 _ := hr.mono (by decide)
  have hr2 : Room 2 _ := hr.mono (by decide)
  have hr7 : Room 7 _ := hr.mono (by decide)
  refine ⟨_, pss_cons (ps_set (i := 1) scAnswers.nd rfl (Or.inl rfl) (pe_cm0 (c_house T.toTxtF) hr2 rfl))
    (pss_cons (ps_set (i := 2) scAnswers.nd rfl (Or.inl rfl) (pe_lst pa_nil))
    (pss_cons (ps_set (i := 3) scAnswers.nd rfl (Or.inl rfl) pe_int)
    (pss_cons (ps_while PassesOwn.never (pt_cmpR op_lt (pv 3) (pe_callB call_len_seq (by rfl) T.len PySem.boot_len (pa_cons (pv 0) pa_nil)) (nomark _))
      (pss_cons (ps_set (i := 4) scAnswers.nd rfl (Or.inl rfl) (pe_ix ix_list (pv 0) (pv 3) (fun _ _ => rfl)))
      (pss_cons (ps_set (i := 5) scAnswers.nd rfl (Or.inl rfl) (pe_cb (c_handed T.toTxtG) hr1 rfl (pa_cons (pv 0) (pa_cons (pv 3) pa_nil))))
      (pss_cons (ps_lock (ps_set (i := 6) scAnswers.nd rfl (Or.inl rfl) (pe_ifExp (pt_cmpR op_eq (pv 4) (pe_gI T.cW rfl) (nomark _))
        (pe_cb (c_write T.toTxtF) hr7 rfl (pa_cons (pv 1) (pa_cons (pe_slice sl_list (pv 5) (po_some pe_int) po_none) pa_nil))) (pe_cb O hr rfl (pa_cons (pe_fld (pv 1) rfl) (pa_cons (pv 4) (pa_cons (pv 5) pa_nil)))))))
      (pss_cons (ps_expr (pe_bm PySem.F.plainAttrs_list PySem.F.slot_list_extend PySem.F.type_list_extend mt_extend (pv 2) (pa_cons (pe_op op_cat (pe_lst (pa_cons (pe_callB call_len_seq (by rfl) T.len PySem.boot_len (pa_cons (pv 6) pa_nil)) pa_nil)) (pv 6)) pa_nil)))
      (pss_one (ps_aug (i := 3) scAnswers.nd rfl (Or.inl rfl) (pe_op op_add pe_int (pe_callB call_len_seq (by rfl) T.len PySem.boot_len (pa_cons (pv 5) pa_nil))) in_add)))))))
    (pss_one (ps_ret (pv 2)))))), ?_⟩
  intro ha dx na ndx nad
  refine ⟨ha, dx, rfl, upd_same, fun H1 ls hls hl1 hh1 fr => ⟨rfl, ?_⟩⟩
  have sH1 : Same H H1 := fun b u e => by
    have n1 : b ≠ ha := ne_of_none e na
    have n2 : b ≠ dx := ne_of_none e ndx
    exact fr b u (by rw [upd_ne n1, upd_ne n2]; exact e) n1
  refine ⟨big (show 0 ≤ 100000 by decide), fun la hla => ?_⟩
  have sl : Same H1 (upd H1 la (.lst [])) := same_upd (Same.refl _) hla
  have nlh : la ≠ ha := (ne_of_none hh1 hla).symm
  have nll : la ≠ ls := (ne_of_none hl1 hla).symm
  have nls : ls ≠ ha := fun z => by rw [z, hh1] at hl1; cases hl1
  -- the list of the calls is neither of both
  have lcn : ∀ {a : Addr}, H a = none → ∀ {H'}, Keeps [ha, la] H H' → SqL K H' lc (vI (cs.flatMap Kp.enc)) := fun {a} _ {H'} kp => by
    rcases hL with (q | ⟨o, q⟩) | q
    · refine .inl (.inl (kp _ _ q (fun _ z => by cases z) ?_))
      intro z
      rcases List.mem_cons.mp z with z | z
      · rw [z, na] at q; cases q
      · rw [List.mem_singleton.mp z] at q; rw [sH1 _ _ q] at hla; cases hla
    · refine .inl (.inr ⟨o, kp _ _ q (fun _ z => by cases z) ?_⟩)
      intro z
      rcases List.mem_cons.mp z with z | z
      · rw [z, na] at q; cases q
      · rw [List.mem_singleton.mp z] at q; rw [sH1 _ _ q] at hla; cases hla
    · exact .inr q
  have lcn := @lcn ha na
  have S0 : HsAt A (but [la] (upd H1 la (.lst []))) ha Hx01.init := by
    rw [but_upd (by simp)]
    refine ⟨⟨dx, ls, [], (but_out (by simpa using nlh.symm)).trans hh1, ?_, rfl, fun i s h e => by simp at e⟩, (fun h hh => by cases hh), ⟨by decide, by decide, by decide, (fun c h => by cases h)⟩, by decide⟩
    rw [but_out (by simpa using nls), but_out (by simpa using nll.symm)]
    exact hl1
  refine ⟨fun m σ H' => ∃ (st : Hx01.St) (pre rest : List Hx01.Call) (acc : List Int) (v4 v5 v6 : Option V), σ = [some (.ref lc), some (.ref ha), some (.ref la), some (.int ((pre.flatMap Kp.enc).length : Nat)), v4, v5, v6] ∧ m = rest.length ∧ cs = pre ++ rest ∧ HsAt A (but [la] H') ha st ∧ H' la = some (.lst (acc.map V.int)) ∧
      PyFlat.told (Kp.play Hx01.init cs) = acc ++ PyFlat.told (Kp.play st rest) ∧ Keeps [ha, la] H H' ∧ Tabs (lamT Pt) H',
    ⟨_, Hx01.init, [], cs, [], none, none, none, rfl, rfl, rfl, S0, upd_same, rfl, Keeps.same (sH1.trans sl), hT.ext (sH1.trans sl)⟩, ?_⟩
  rintro m σ H' ⟨st, pre, rest, acc, v4, v5, v6, rfl, rfl, hcs2, S, hla', htl, kp, hT'⟩
  have hL' := lcn kp
  refine ⟨_, rfl, _, rfl, lc, _, rfl, .inl hL', _, _, rfl, rfl, _, rfl, ?_⟩
  rw [vI_len]
  cases rest with
  | nil =>
    rw [List.append_nil] at hcs2
    rw [hcs2, decide_eq_false (by simp)]
    refine ifF rfl ?_
    refine ⟨_, rfl, k H' la ?_⟩
    rw [htl]
    show _ = some (HO.lst ((acc ++ []).map V.int))
    rw [List.append_nil]
    exact hla'
  | cons x rest =>
    have hx := hcs x (by rw [hcs2]; simp)
    have hfl : (cs.flatMap Kp.enc).length = (pre.flatMap Kp.enc).length + (Kp.enc x).length + (rest.flatMap Kp.enc).length := by
      rw [hcs2, List.flatMap_append, List.flatMap_cons, List.length_append, List.length_append]
      omega
    have hex : (Kp.enc x).length = (hands x).length + 1 := by rw [enc_is]; rfl
    rw [decide_eq_true (by omega)]
    refine ifT rfl ?_
    refine ⟨fun σ' H2 => ∃ m', m' < (x :: rest).length ∧ ∃ (st : Hx01.St) (pre rest : List Hx01.Call) (acc : List Int) (v4 v5 v6 : Option V), σ' = [some (.ref lc), some (.ref ha), some (.ref la), some (.int ((pre.flatMap Kp.enc).length : Nat)), v4, v5, v6] ∧ m' = rest.length ∧ cs = pre ++ rest ∧ HsAt A (but [la] H2) ha st ∧ H2 la = some (.lst (acc.map V.int)) ∧
      PyFlat.told (Kp.play Hx01.init cs) = acc ++ PyFlat.told (Kp.play st rest) ∧ Keeps [ha, la] H H2 ∧ Tabs (lamT Pt) H2, fun σ' H2 h => h, ?_⟩
    have hdr : (cs.flatMap Kp.enc).drop (pre.flatMap Kp.enc).length = Kp.enc x ++ rest.flatMap Kp.enc := by
      rw [hcs2, List.flatMap_append, List.drop_left' rfl, List.flatMap_cons]
    have hat : atI (vI (cs.flatMap Kp.enc)) (((pre.flatMap Kp.enc).length : Nat) : Int) = some (.int (callNo x : Nat)) := by
      refine atI_nat ?_
      unfold vI
      rw [List.getElem?_map]
      have e0 : ((cs.flatMap Kp.enc).drop (pre.flatMap Kp.enc).length)[0]? = some (callNo x) := by rw [hdr, enc_is]; rfl
      rw [List.getElem?_drop, Nat.add_zero] at e0
      rw [e0]
      rfl
    have hto : PyFlat.told (Kp.play st (x :: rest)) = (((Hx01.step st x).2.length : Int) :: (Hx01.step st x).2) ++ PyFlat.told (Kp.play (Hx01.step st x).1 rest) := rfl
    rw [hto] at htl
    have hal : acc.length + (1 + (Hx01.step st x).2.length) ≤ 10000000 := by
      have := congrArg List.length htl
      rw [List.length_append, List.length_append, List.length_cons] at this
      omega
    refine ⟨_, rfl, _, rfl, lc, _, _, _, rfl, rfl, hL', hat, ?_⟩
    refine ⟨_, rfl, _, rfl, lc, _, _, _, x, rfl, hL', hx.1, hdr, fun Ha ln sa hln hln' => ?_⟩
    have hlaA := sa _ _ hla'
    have nla : ln ≠ la := (ne_of_none hla' hln).symm
    have nlnh : ln ≠ ha := fun z => by
      obtain ⟨dx', ls', ss', z1, _⟩ := S.ex
      have := (but_some z1).2
      rw [← z, hln] at this
      cases this
    refine ⟨la, _, hlaA, trivial, fun od => ?_⟩
    have hK0 : Keeps [ha, la] H (upd Ha la (.frz od (.lst (acc.map V.int)))) := (kp.trans (Keeps.same sa)).trans (Keeps.upd (by simp))
    have hT0 : Tabs (lamT Pt) (upd Ha la (.frz od (.lst (acc.map V.int)))) := tabs_keep (hT'.ext sa) fun b u e n _ _ => by
      rw [upd_ne (fun z => by rw [z, hlaA] at e; cases e; exact n _ rfl)]
      exact e
    have kS : ∀ y u, but [la] H' y = some u → upd Ha la (.frz od (.lst (acc.map V.int))) y = some u := fun y u e => by
      obtain ⟨n, e⟩ := but_some e
      rw [upd_ne (by simpa using n)]
      exact sa _ _ e
    have S1 : HsAt A (upd Ha la (.frz od (.lst (acc.map V.int)))) ha st := S.keep (fun y u _ e _ => kS y u e) fun u e => kS _ u e
    have hln1 : upd Ha la (.frz od (.lst (acc.map V.int))) ln = some (.lst (vI (hands x))) := (upd_ne nla).trans hln'
    generalize hHl : upd Ha la (.frz od (.lst (acc.map V.int))) = Hl at hK0 hT0 kS S1 hln1
    have hlal : Hl la = some (.frz od (.lst (acc.map V.int))) := by rw [← hHl, upd_same]
    refine ⟨_, rfl, rfl, _, rfl, ?_⟩
    by_cases c0 : callNo x = 0
    · obtain ⟨b, rfl⟩ := no_write.mp c0
      refine ifT rfl ?_
      refine ⟨_, rfl, _, rfl, _, rfl, ln, _, rfl, SqL.of hln1, fun q hq => ?_⟩
      have ecut : cutV (vI (hands (.write b))) (some 1) none = vI b := by
        unfold cutV
        rw [show (some (1 : Int)) = some ((1 : Nat) : Int) from rfl, HT.sIx_nat, HT.sIx_none, vI_len]
        have e1 : min 1 (hands (.write b)).length = 1 := Nat.min_eq_left (by show 1 ≤ b.length + 1; omega)
        rw [e1, List.take_of_length_le (by rw [List.length_drop, vI_len]; exact Nat.le_refl _)]
        rfl
      rw [ecut]
      have sq : Same Hl (upd Hl q (.lst (vI b))) := same_upd (Same.refl _) hq
      refine ⟨ha, q, st, b, rfl, S1.keep (fun y u _ e _ => sq _ _ e) fun u e => sq _ _ e, upd_same, by have : b.length ≤ 640 := hx.2.2; omega, fun Hw D sW SW eD => ?_⟩
      have F1 : Hw la = some (.frz od (.lst (acc.map V.int))) := but_le _ _ (sW _ _ ((but_out (by simpa using nlh)).trans (sq _ _ hlal)))
      have F2 : HsAt A (but [la] Hw) ha (Hx01.step st (.write b)).1 := SW.keep (fun y u _ e l => (but_out (fun z => by rw [List.mem_singleton.mp z, F1] at e; cases e; exact l.frz rfl)).trans e) fun u e => (but_out (by simpa using nlh.symm)).trans e
      have F3 : Keeps [ha, la] H Hw := (hK0.trans (Keeps.same sq)).trans (Keeps.but_ (by simp) sW)
      have F4 : Tabs (lamT Pt) Hw := tabs_keep (hT0.ext sq) fun y u e _ n _ => by
        obtain ⟨dx', ls', ss', z1, _⟩ := S1.ex
        exact but_le _ _ (sW _ _ ((but_out (fun z => by rw [List.mem_singleton.mp z, sq _ _ z1] at e; cases e; exact n _ _ _ rfl)).trans e))
      have F6 : Hw ln = some (.lst (vI (hands (.write b)))) := but_le _ _ (sW _ _ ((but_out (by simpa using nlnh)).trans (sq _ _ hln1)))
      refine ⟨F1, ?_⟩
      have nDl : D ≠ la := fun z => by rw [z, F1] at eD; cases eD
      have eD1 : upd Hw la (.lst (acc.map V.int)) D = some (.lst ((Hx01.step st (.write b)).2.map V.int)) := (upd_ne nDl).trans eD
      refine ⟨_, rfl, .inl ⟨rfl, _, SqL.of upd_same⟩, _, rfl, D, _, rfl, .inl (SqL.of eD1), big (show 1 ≤ 100000 by decide), fun e he => ?_⟩
      rw [List.length_map]
      have se : Same (upd Hw la (.lst (acc.map V.int))) (upd (upd Hw la (.lst (acc.map V.int))) e (.lst [V.int ((Hx01.step st (.write b)).2.length : Nat)])) := same_upd (Same.refl _) he
      have lz : ([V.int ((Hx01.step st (.write b)).2.length : Nat)] ++ (Hx01.step st (.write b)).2.map V.int) = ((((Hx01.step st (.write b)).2.length : Int) :: (Hx01.step st (.write b)).2).map V.int) := rfl
      refine ⟨_, rfl, e, D, _, _, rfl, rfl, upd_same, se _ _ eD1, by rw [List.length_map, sizeLine_eq]; show 1 + (Hx01.step st (.write b)).2.length ≤ _; omega, fun z hz => ?_⟩
      rw [lz]
      have sz : Same (upd Hw la (.lst (acc.map V.int))) (upd (upd (upd Hw la (.lst (acc.map V.int))) e (.lst [V.int ((Hx01.step st (.write b)).2.length : Nat)])) z (.lst ((((Hx01.step st (.write b)).2.length : Int) :: (Hx01.step st (.write b)).2).map V.int))) := se.trans (same_upd (Same.refl _) hz)
      refine ⟨la, z, _, _, rfl, rfl, sz _ _ upd_same, upd_same, by rw [List.length_map, List.length_map, List.length_cons, sizeLine_eq]; omega, ?_⟩
      generalize upd (upd (upd Hw la (.lst (acc.map V.int))) e (.lst [V.int ((Hx01.step st (.write b)).2.length : Nat)])) z (.lst ((((Hx01.step st (.write b)).2.length : Int) :: (Hx01.step st (.write b)).2).map V.int)) = Hz at sz
      have kz : ∀ y u, but [la] Hw y = some u → but [la] (upd Hz la (.lst (acc.map V.int ++ (((Hx01.step st (.write b)).2.length : Int) :: (Hx01.step st (.write b)).2).map V.int))) y = some u := fun y u e => by
        obtain ⟨n, e⟩ := but_some e
        rw [but_upd (by simp), but_out n]
        refine sz _ _ ?_
        rw [upd_ne (by simpa using n)]
        exact e
      have eln : upd Hz la (.lst (acc.map V.int ++ (((Hx01.step st (.write b)).2.length : Int) :: (Hx01.step st (.write b)).2).map V.int)) ln = some (.lst (vI (hands (.write b)))) := but_le _ _ (kz _ _ ((but_out (by simpa using nla)).trans F6))
      refine ⟨_, rfl, _, rfl, ln, _, rfl, .inl (SqL.of eln), _, _, rfl, rfl, _, _, rfl, rfl, ?_⟩
      refine ⟨rest.length, by simp, (Hx01.step st (.write b)).1, pre ++ [Hx01.Call.write b], rest, acc ++ (((Hx01.step st (.write b)).2.length : Int) :: (Hx01.step st (.write b)).2), some (.int (callNo (.write b) : Nat)), some (.ref ln), some (.ref D), ?_, rfl, by rw [hcs2]; simp, F2.keep (fun y u _ e _ => kz y u e) (fun u e => kz _ u e), by rw [upd_same, List.map_append], by rw [htl, List.append_assoc], ?_, ?_⟩
      · have e1 : (((pre.flatMap Kp.enc).length : Nat) : Int) + (1 + (((vI (hands (.write b))).length : Nat) : Int)) = ((((pre ++ [Hx01.Call.write b]).flatMap Kp.enc).length : Nat) : Int) := by
          rw [vI_len, List.flatMap_append, List.length_append]
          have : ([Hx01.Call.write b].flatMap Kp.enc).length = (Kp.enc (.write b)).length := by simp
          rw [this]
          omega
        show [some (V.ref lc), some (V.ref ha), some (V.ref la), some (V.int ((((pre.flatMap Kp.enc).length : Nat) : Int) + (1 + (((vI (hands (.write b))).length : Nat) : Int)))), _, _, _] = _
        rw [e1]
      · refine F3.trans fun y u e _ m => ?_
        have n : y ∉ [la] := fun z => m (by rw [List.mem_singleton.mp z]; simp)
        exact but_le _ _ (kz y u ((but_out n).trans e))
      · refine tabs_keep F4 fun y u e _ _ n => ?_
        have ny : y ∉ [la] := fun z => by
          rw [List.mem_singleton.mp z, F1] at e
          cases e
          exact n _ _ rfl
        exact but_le _ _ (kz y u ((but_out ny).trans e))
    · rw [show decide (V.int ((callNo x : Nat) : Int) = V.int 0) = false from decide_eq_false (fun z => c0 (by have := V.int.inj z; omega))]
      refine ifF rfl ?_
      obtain ⟨dx1, ls1, ss1, y1, y2, y3⟩ := S1.ex
      have y2 := (but_some y2).2
      refine ⟨_, rfl, ha, A.house, dx1, _, _, rfl, y1, T.cHouse.cl, T.cHouse.na _ (by decide +kernel), lk_here, _, rfl, _, rfl, ls1, ln, ss1, st, x, rfl, y2, HsAt.sns y3 but_le S1.ok S1.bnd, S1.few, by have := S1.bnd.cls; omega, c0, hln1, hT0, fun Hw D eN F4 eD => ?_⟩
      have est : (Hx01.step st x).1 = st := by
        cases x with
        | write b => exact absurd rfl c0
        | _ => rfl
      have F1 : Hw la = some (.frz od (.lst (acc.map V.int))) := eN _ _ hlal (fun _ z => by cases z)
      have F2 : HsAt A (but [la] Hw) ha (Hx01.step st x).1 := by
        rw [est]
        refine S.keep (fun y u _ e l => ?_) fun u e => ?_
        · rw [but_out (but_some e).1]
          exact eN _ _ (kS _ _ e) l.tbl
        · rw [but_out (but_some e).1]
          refine eN _ _ (kS _ _ e) ?_
          obtain ⟨dx', ls', ss', z1, _⟩ := S.ex
          rw [z1] at e
          cases e
          intro ps z
          cases z
      have F3 : Keeps [ha, la] H Hw := hK0.trans (Keeps.ext eN)
      have F6 : Hw ln = some (.lst (vI (hands x))) := eN _ _ hln1 (fun _ z => by cases z)
      refine ⟨F1, ?_⟩
      have nDl : D ≠ la := fun z => by rw [z, F1] at eD; cases eD
      have eD1 : upd Hw la (.lst (acc.map V.int)) D = some (.lst ((Hx01.step st x).2.map V.int)) := (upd_ne nDl).trans eD
      refine ⟨_, rfl, .inl ⟨rfl, _, SqL.of upd_same⟩, _, rfl, D, _, rfl, .inl (SqL.of eD1), big (show 1 ≤ 100000 by decide), fun e he => ?_⟩
      rw [List.length_map]
      have se : Same (upd Hw la (.lst (acc.map V.int))) (upd (upd Hw la (.lst (acc.map V.int))) e (.lst [V.int ((Hx01.step st x).2.length : Nat)])) := same_upd (Same.refl _) he
      have lz : ([V.int ((Hx01.step st x).2.length : Nat)] ++ (Hx01.step st x).2.map V.int) = ((((Hx01.step st x).2.length : Int) :: (Hx01.step st x).2).map V.int) := rfl
      refine ⟨_, rfl, e, D, _, _, rfl, rfl, upd_same, se _ _ eD1, by rw [List.length_map, sizeLine_eq]; show 1 + (Hx01.step st x).2.length ≤ _; omega, fun z hz => ?_⟩
      rw [lz]
      have sz : Same (upd Hw la (.lst (acc.map V.int))) (upd (upd (upd Hw la (.lst (acc.map V.int))) e (.lst [V.int ((Hx01.step st x).2.length : Nat)])) z (.lst ((((Hx01.step st x).2.length : Int) :: (Hx01.step st x).2).map V.int))) := se.trans (same_upd (Same.refl _) hz)
      refine ⟨la, z, _, _, rfl, rfl, sz _ _ upd_same, upd_same, by rw [List.length_map, List.length_map, List.length_cons, sizeLine_eq]; omega, ?_⟩
      generalize upd (upd (upd Hw la (.lst (acc.map V.int))) e (.lst [V.int ((Hx01.step st x).2.length : Nat)])) z (.lst ((((Hx01.step st x).2.length : Int) :: (Hx01.step st x).2).map V.int)) = Hz at sz
      have kz : ∀ y u, but [la] Hw y = some u → but [la] (upd Hz la (.lst (acc.map V.int ++ (((Hx01.step st x).2.length : Int) :: (Hx01.step st x).2).map V.int))) y = some u := fun y u e => by
        obtain ⟨n, e⟩ := but_some e
        rw [but_upd (by simp), but_out n]
        refine sz _ _ ?_
        rw [upd_ne (by simpa using n)]
        exact e
      have eln : upd Hz la (.lst (acc.map V.int ++ (((Hx01.step st x).2.length : Int) :: (Hx01.step st x).2).map V.int)) ln = some (.lst (vI (hands (x)))) := but_le _ _ (kz _ _ ((but_out (by simpa using nla)).trans F6))
      refine ⟨_, rfl, _, rfl, ln, _, rfl, .inl (SqL.of eln), _, _, rfl, rfl, _, _, rfl, rfl, ?_⟩
      refine ⟨rest.length, by simp, (Hx01.step st x).1, pre ++ [x], rest, acc ++ (((Hx01.step st x).2.length : Int) :: (Hx01.step st x).2), some (.int (callNo x : Nat)), some (.ref ln), some (.ref D), ?_, rfl, by rw [hcs2]; simp, F2.keep (fun y u _ e _ => kz y u e) (fun u e => kz _ u e), by rw [upd_same, List.map_append], by rw [htl, List.append_assoc], ?_, ?_⟩
      · have e1 : (((pre.flatMap Kp.enc).length : Nat) : Int) + (1 + (((vI (hands (x))).length : Nat) : Int)) = ((((pre ++ [x]).flatMap Kp.enc).length : Nat) : Int) := by
          rw [vI_len, List.flatMap_append, List.length_append]
          have : ([x].flatMap Kp.enc).length = (Kp.enc (x)).length := by simp
          rw [this]
          omega
        show [some (V.ref lc), some (V.ref ha), some (V.ref la), some (V.int ((((pre.flatMap Kp.enc).length : Nat) : Int) + (1 + (((vI (hands (x))).length : Nat) : Int)))), _, _, _] = _
        rw [e1]
      · refine F3.trans fun y u e _ m => ?_
        have n : y ∉ [la] := fun z => m (by rw [List.mem_singleton.mp z]; simp)
        exact but_le _ _ (kz y u ((but_out n).trans e))
      · refine tabs_keep F4 fun y u e _ _ n => ?_
        have ny : y ∉ [la] := fun z => by
          rw [List.mem_singleton.mp z, F1] at e
          cases e
          exact n _ _ rfl
        exact but_le _ _ (kz y u ((but_out ny).trans e))
end
end Kq
namespace Kq
open PySem PySem.Spec PyProof.Rows L2 LamX
open PySem.W (WData Codec OpenSpec WellAll ReadsW)
section
variable {P : Program} {w : World} {K : PySem.W.Frag} {mg mb : Str → Option Value} {k : Nat} {fa : Addr} {ps : List Str} {sp : Sp} {st : Shared} {cs : List (Addr × Addr)} {ar : List Addr}
/-- the call, from the promise -/
theorem call_tabs2 {ds : List WData} {vals : List Value} {R : PySem.W.WRecords} {cl : Str → Option Addr} {d0 : WData} (KX : K.In st.heap) (hns : st.heap.Ns mainGlobals mg) (hb : st.heap.Ns builtinsNs mb) (hbb : ∀ x : Str, x ≠ "__name__" → mb x = bootBuiltins x) (hlim : st.heap.NoLimit) (hg : st.gens = #[])
    (hbm : ∃ (bm : Addr) (ob : Obj), mg "__builtins__" = some (.ref bm) ∧ bm ≠ builtinsNs ∧ st.heap.get? bm = some ob ∧ ob.cls = .type "module" ∧ ob.dict = some builtinsNs ∧ ob.data = .plain)
    (L : Laid K st.heap cs) (hwl : WellAll w.params st.heap vals ds) (hpl : plWs ds = true) (hwt : ∀ d ∈ ds, d.weight ≤ 1048576) (hr : Room k callerA) (hlen : ds.length = ps.length)
    (F : ∀ base : Heap, K.In base → base.Ns mainGlobals mg → (∀ q ∈ cs, TabB base mg q.1 q.2) → ∃ fd, Binds K fd ps [] ∧ FnOk P w K mg base CX0 k fa fd ps sp)
    (hsp : ∀ (H : Hp) (xs : List V), (∀ q ∈ cs, H q.2 = some (.tbl #[])) → DwAll K H xs ds → sp xs H (fun v H' => Dw K H' v d0) fun _ _ _ => False) :
    codeAny (model P w) callerA (.call (.ref fa) ⟨vals, []⟩) (fun r t => ∃ u as, r = .ok (.ret u) ∧ ReadsW R cl t.heap u d0 as ∧ OldK st.heap t.heap ∧ t.os = st.os ∧ AllBare t.gens) st := by
  obtain ⟨ar, hA, ha⟩ := area_all ds vals hwl hpl hwt
  have same : Same (argH K st.heap ar) (tabbed (cs.map Prod.snd) (argH K st.heap ar)) := fun b o e => (tabbed_out (L.apart ha e)).trans e
  have hD := dws_go same _ _ (dw_all KX ha ds vals hwl hpl hA)
  have ok : HOk P w (tabbed (cs.map Prod.snd) (argH K st.heap ar)) st.heap := L.hok ha
  have hT : ∀ q ∈ cs, tabbed (cs.map Prod.snd) (argH K st.heap ar) q.2 = some (.tbl #[]) := fun q hq => tabbed_in (List.mem_map.mpr ⟨q, hq, rfl⟩)
  -- what is tracked is a table, or an argument's list or tuple
  have what : ∀ b u, tabbed (cs.map Prod.snd) (argH K st.heap ar) b = some u → K.lookup b = none ∧ ((b ∈ cs.map Prod.snd ∧ u = .tbl #[]) ∨ (b ∉ cs.map Prod.snd ∧ ∃ o v, u = .frz o v)) ∧ ∀ o, st.heap.get? b = some o → o.data = .fields #[] ∨ ∃ vs n, o.data = .seq vs n := fun b u q => by
    by_cases m : b ∈ cs.map Prod.snd
    · rw [tabbed_in m] at q
      cases q
      refine ⟨L.kno m, .inl ⟨m, rfl⟩, fun o e => .inl ?_⟩
      rw [L.seq m] at e
      cases e
      rfl
    · rw [tabbed_out m] at q
      obtain ⟨n, vs, _, _, ⟨e, rfl⟩ | ⟨e, rfl⟩⟩ := argH_is ha q
      · refine ⟨n, .inr ⟨m, _, _, rfl⟩, fun o e2 => .inr ?_⟩
        rw [e] at e2; cases e2; exact ⟨_, _, rfl⟩
      · refine ⟨n, .inr ⟨m, _, _, rfl⟩, fun o e2 => .inr ?_⟩
        rw [e] at e2; cases e2; exact ⟨_, _, rfl⟩
  generalize tabbed (cs.map Prod.snd) (argH K st.heap ar) = H at hD ok hT what
  have out : ∀ b o, st.heap.get? b = some o → o.data ≠ .fields #[] → (∀ vs n, o.data ≠ .seq vs n) → (hidT st.heap H).get? b = some o := fun b o e n1 n2 => by
    refine hidT_get e ?_
    cases q : H b with
    | none => rfl
    | some u =>
      rcases (what b u q).2.2 o e with z | ⟨vs, n, z⟩
      · exact absurd z n1
      · exact absurd z (n2 vs n)
  have outD : ∀ {b : Addr} {m : Str → Option Value}, st.heap.Ns b m → (hidT st.heap H).Ns b m := fun {b m} ⟨o, es, ep, e, d, r⟩ => ⟨o, es, ep, out b o e (by rw [d]; intro z; cases z) (by intro vs n; rw [d]; intro z; cases z), d, r⟩
  have inK : K.In (hidT st.heap H) := fun b o e => hidT_get (KX b o e) (by
    cases q : H b with
    | none => rfl
    | some u => rw [(what b u q).1] at e; cases e)
  have tb : ∀ q ∈ cs, TabB (hidT st.heap H) mg q.1 q.2 := fun q hq => by
    have vq := L.void q hq
    refine { code := ?_, bm := ?_, gP := fun z => ?_ }
    · obtain ⟨o, us, f, tf, fl, tg, iF, tx, tt, e1, r1, r2, r3, rr⟩ := L.head q hq
      refine ⟨o, us, f, tf, fl, tg, iF, tx, tt, out _ _ e1 (fun z => ?_) (fun vs n z => ?_), r1, r2, r3, rr⟩
      · rw [r2] at z; cases z; simp at r3
      · rw [r2] at z; cases z
    · obtain ⟨bm, om, b1, b2, b3, b4, b5, b6⟩ := hbm
      refine ⟨bm, om, b1, b2, fun z => ?_, fun z => ?_, out _ _ b3 (by rw [b6]; intro z; cases z) (by intro vs n; rw [b6]; intro z; cases z), b4, b5, b6⟩
      · obtain ⟨o, es, ep, e, d, _⟩ := hns
        rw [z, e] at b3; cases b3; rw [d] at b6; cases b6
      · rw [z, vq] at b3; cases b3; cases b6
    · obtain ⟨o, es, ep, e, d, _⟩ := hns
      rw [z, vq] at e; cases e; cases d
  have e0 : Env0 P w K mg (hidT st.heap H) callerA [] st H := ⟨rfl, ⟨inK, outD hns, ⟨mb, outD hb, hbb⟩, hlim.elim fun mc h => ⟨mc, outD h.1, h.2⟩⟩, fun b o e => of_hidT e, Nat.le_of_eq (hidT_size _ _), trivial, fun b z => absurd (show b ∈ ([] : List Addr) from z) List.not_mem_nil, ok, .of_eq hg⟩
  have lv : vals.length = ps.length := (wellAll_len hwl).trans hlen
  obtain ⟨fd, bd, FF⟩ := F _ inK (outD hns) tb
  have bd2 : BindsTo st fd ⟨vals, []⟩ (ps.zip vals) := by
    have := bd st vals KX (by rw [List.append_nil]; exact lv)
    rw [List.append_nil] at this
    exact this
  refine codeAny_mono (FF.run callerA [] st H ⟨vals, []⟩ vals (vals.map toV) _ _ hr e0 bd2 (vals_toV hA) (hsp H _ hT hD)) fun r t x => ?_
  match r, x with
  | .error e, x => exact (show False from x).elim
  | .ok (.ret u), ⟨v, H', os, bare, un, ok', rv, q⟩ =>
    have keep : ∀ b o, b ∉ cs.map Prod.snd → st.heap.get? b = some o → t.heap.get? b = some o := fun b o nb e => by
      cases q2 : H b with
      | none => exact un.keep b o e q2 (fun z => absurd (show b ∈ ([] : List Addr) from z) List.not_mem_nil) List.not_mem_nil
      | some y =>
        rcases (what b y q2).2.1 with ⟨z, _⟩ | ⟨_, ob, v, rfl⟩
        · exact absurd z nb
        · have a1 := (ok b _ q2).1
          have a2 := (ok' b _ (un.frzs b ob v q2)).1
          rw [e] at a1; cases a1; exact a2
    have grow : ∀ q ∈ cs, ∃ more : Array Value, t.heap.get? q.2 = some (PySem.W.tabObj more) := fun q hq => by
      obtain ⟨more, z⟩ := un.tbls q.2 #[] (hT q hq)
      exact ⟨_, ok' q.2 _ z⟩
    have inT : K.In t.heap := fun b o e => keep b o (fun z => by rw [L.kno z] at e; cases e) (KX b o e)
    obtain ⟨as, hrd⟩ := Dw.reads (R := R) (cl := cl) ok' inT d0 v u q rv
    refine ⟨u, as, rfl, hrd, ⟨fun b o e => ?_, fun b o e => ?_⟩, os, bare⟩
    · by_cases m : b ∈ cs.map Prod.snd
      · obtain ⟨q, hq, rfl⟩ := List.mem_map.mp m
        obtain ⟨more, hm⟩ := grow q hq
        have vq := L.void q hq
        rw [vq] at e
        cases e
        exact .inr (.inl ⟨((L.head q hq).tab vq).isCodeTable, rfl, #[], more, rfl, by rw [Array.empty_append]; exact hm⟩)
      · exact .inl (keep b o m e)
    · by_cases m : b ∈ cs.map Prod.snd
      · obtain ⟨q, hq, rfl⟩ := List.mem_map.mp m
        obtain ⟨more, hm⟩ := grow q hq
        exact ⟨_, hm⟩
      · exact ⟨o, keep b o m e⟩
end
/-- the goal that the head leaves, from the promise of the row's def, where the defs named xs make lambdas -/
theorem walk_tabs2 {r : OpenSpec} {k : Nat} {q : Program} {loose : List Str} {XP : (Str → Option Value) → Heap → Prop} {YP : World → Heap → Prop} {d : DefRec} {K : Params → PySem.W.Frag} {ps : List Str} {sp : PySem.W.Frag → List (Addr × Addr) → Sp} (xs : List Str)
    (hwell : r.wellSaid = true) (hdf : d.params.defaults = []) (hlen : r.args.length = ps.length) (hr : Room k callerA) (hxs : (xs.all fun x => (recsOf q).any fun d => d.name == x) = true)
    (hY : ∀ (w : World) (h : Heap), YP w h → (K w.params).In h) (hbare : ∀ w : World, (K w.params).all (fun q => !bare q.2) = true)
    (F : ∀ (w : World) (mg : Str → Option Value) (fa : Addr) (h : Heap) (cs : List (Addr × Addr)), YP w h → (K w.params).In h → h.Ns mainGlobals mg → mg d.name = some (.ref fa) → TabsOf mg h xs cs →
      ∀ base : Heap, (K w.params).In base → base.Ns mainGlobals mg → (∀ q ∈ cs, TabB base mg q.1 q.2) → ∃ fd, Binds (K w.params) fd ps [] ∧ FnOk r.prog w (K w.params) mg base CX0 k fa fd ps (sp (K w.params) cs))
    (hsp : ∀ (K : PySem.W.Frag) (cs : List (Addr × Addr)) (H : Hp) (vs : List V) (a : Codec.denoteAll r.args), (∀ q ∈ cs, H q.2 = some (.tbl #[])) → Codec.withinAll r.args a = true → Codec.app r.args r.asked a = true → DwAll K H vs (Codec.encAll r.args a) →
      sp K cs vs H (fun v H' => Dw K H' v (r.ret.enc (Codec.app r.args r.f a))) fun _ _ _ => False) : PySem.W.WalkOS q loose XP YP r d [] (fun f vs => PySem.call f vs) := by
  intro w s0 st mg mb G Y fa o pm cd doc dV kV ho hd hcd hD hmg hg args vals as hpre hlay hrd hwl hlo
  obtain ⟨a, ea, eb⟩ := PySem.W.os_pre_some hpre
  obtain ⟨rfl, hwi⟩ := Codec.encAll_of_decAll r.args args a ea
  have KX := hY w _ Y
  obtain ⟨cs, hcs⟩ := tabs_of G.T.tab xs hxs
  have hF := F w mg fa _ cs Y KX G.T.g hmg hcs
  have at_ : ∀ q ∈ cs, st.heap.get? q.2 = some (PySem.W.tabObj #[]) ∧ PySem.W.CodeHd st.heap q.1 q.2 := fun q hq => by
    obtain ⟨i, hi⟩ := List.getElem?_of_mem hq
    obtain ⟨x, hx⟩ := get_some (l := xs) (i := i) (by have := (List.getElem?_eq_some_iff.mp hi).1; rw [← hcs.1]; exact this)
    obtain ⟨_, _, _, _, _, _, _, z1, z2⟩ := hcs.2 i x q hx hi
    exact ⟨z1, z2⟩
  have L : Laid (K w.params) st.heap cs := ⟨fun q hq => bare_none KX (hbare w) (at_ q hq).1, fun q hq => (at_ q hq).1, fun q hq => (at_ q hq).2⟩
  refine PySem.W.enter_call (codeAny_mono (call_tabs2 (R := []) (cl := classAt s0.heap) (d0 := r.ret.enc (Codec.app r.args r.f a)) KX G.T.g G.T.b G.T.builtins G.T.nolimit hg G.T.bmain L hwl (pl_encAll _ _) (layable_weight hlay) hr ((encAll_len _ _).trans hlen) hF
    fun H vs hT hS => hsp _ cs H vs a hT hwi eb hS) fun x t hq => ?_)
  obtain ⟨u, bs, rfl, h1, h2, h3, h4⟩ := hq
  exact ⟨.inl ⟨u, _, bs, rfl, fun _ => rfl, h1, (OpenSpec.post_iff hwell hwi _ _).mpr rfl, fun z => Bool.noConfusion (show false = true from z)⟩, h2, h3, h4⟩
end Kq
namespace Kq
open PySem PySem.Spec PyProof.Rows L2 LamX He
open Hx01 (wClass wNew wSet wGet wLet wTimes wEnd wSnap)
/-! what the top leaves, as one list of facts -/
def dFn (x : Str) (st : Stmt) : FnD := ⟨(x, none), x, x, defArgs st, defBody st, defScope st⟩
def dIn (C q : Str) (st : Stmt) : FnD := ⟨(C, some "__init__"), "__init__", q, defArgs st, defBody st, defScope st⟩
def faL0 : List Fa := [.glo "sign_of", .keep "sign_of", .glo "words_of", .keep "words_of", .glo "rows_of", .keep "rows_of", .glo "number_of", .keep "number_of", .glo "is_name", .keep "is_name", .glo "is_such_row", .keep "is_such_row", .glo "words_for_names", .keep "words_for_names", .glo "variables_read", .keep "variables_read", .glo "fault_number", .keep "fault_number", .glo "is_misnamed", .keep "is_misnamed", .glo "is_untold", .keep "is_untold", .glo "is_badly_nested", .keep "is_badly_nested", .glo "is_one_too_many", .keep "is_one_too_many", .glo "fault_of", .keep "fault_of", .glo "take_row", .keep "take_row"]
def faL1 : List Fa := [.glo "read_rows", .keep "read_rows", .glo "snapshot_of", .keep "snapshot_of", .glo "held_by", .keep "held_by", .glo "hold", .keep "hold", .glo "place_of_field", .keep "place_of_field", .glo "do_new", .keep "do_new", .glo "do_set", .keep "do_set", .glo "do_get", .keep "do_get", .glo "do_let", .keep "do_let", .glo "do_times", .keep "do_times", .glo "do_end", .keep "do_end", .glo "do_snap", .keep "do_snap", .glo "row_behind", .keep "row_behind", .glo "run_program", .keep "run_program", .glo "stopped_at", .keep "stopped_at"]
def faL2 : List Fa := [.glo "links_from", .keep "links_from", .glo "all_links", .keep "all_links", .glo "shortest_ways", .keep "shortest_ways", .glo "come_to", .keep "come_to", .glo "bytes_of", .keep "bytes_of", .glo "still_held", .keep "still_held", .glo "left_by_counting", .keep "left_by_counting", .glo "never_freed", .keep "never_freed", .glo "things_that_go", .keep "things_that_go", .glo "kept_by", .keep "kept_by", .glo "keeper_of", .keep "keeper_of", .glo "links_in_use", .keep "links_in_use", .glo "link_in_use", .keep "link_in_use", .glo "can_go", .keep "can_go", .glo "first_row_of_cuts", .keep "first_row_of_cuts"]
def faL3 : List Fa := [.glo "fewest_cuts", .keep "fewest_cuts", .glo "counts_by_row", .keep "counts_by_row", .glo "is_rising", .keep "is_rising", .glo "rows_that_grow", .keep "rows_that_grow", .glo "and_one", .keep "and_one", .glo "counted", .keep "counted", .glo "counted_bytes", .keep "counted_bytes", .glo "snap", .keep "snap", .glo "things", .keep "things", .glo "never", .keep "never", .glo "classes", .keep "classes", .glo "cut", .keep "cut", .glo "way", .keep "way", .glo "keeps", .keep "keeps", .glo "fewest", .keep "fewest"]
def faL4 : List Fa := [.glo "new", .keep "new", .glo "grows", .keep "grows", .glo "of_thing", .keep "of_thing", .glo "of_snapshot", .keep "of_snapshot", .glo "look", .keep "look", .glo "write", .keep "write", .glo "handed_over", .keep "handed_over", .glo "answers", .keep "answers", .glo "most", .keep "most", .glo "Kind", .cls "Kind", .mkr "Kind", .meth "Kind" "__init__", .noat "Kind" "size", .noat "Kind" "fields", .glo "Program", .cls "Program", .mkr "Program", .meth "Program" "__init__", .noat "Program" "rows", .noat "Program" "kinds"]
def faL5 : List Fa := [.noat "Program" "kind_numbers", .noat "Program" "variables", .noat "Program" "ends", .noat "Program" "unended", .glo "Thing", .cls "Thing", .mkr "Thing", .meth "Thing" "__init__", .noat "Thing" "kind", .noat "Thing" "row", .noat "Thing" "size", .noat "Thing" "fields", .glo "Heap", .cls "Heap", .mkr "Heap", .meth "Heap" "__init__", .noat "Heap" "kind_count", .noat "Heap" "things", .noat "Heap" "variables", .glo "Run", .cls "Run", .mkr "Run", .meth "Run" "__init__", .noat "Run" "program", .noat "Run" "heap", .noat "Run" "snapshots", .noat "Run" "steps", .noat "Run" "row", .noat "Run" "rounds", .glo "House"]
def faL6 : List Fa := [.cls "House", .mkr "House", .meth "House" "__init__", .noat "House" "snapshots", .int "MOST_ROUNDS" (9), .int "NO_FAULT" (0), .int "NO_SUCH_ROW" (1), .int "NO_NAME" (2), .int "NOT_TOLD" (3), .int "NOT_NESTED" (4), .int "TOO_MANY" (5), .int "MOST_CLASSES" (5), .int "MOST_VARIABLES" (6), .int "DEEPEST" (2), .int "MOST_STEPS" (300), .int "MOST_THINGS" (16), .int "MOST_SNAPSHOTS" (8), .int "MOST_CUT" (3), .int "NOT_IN_ORDER" (-1), .int "NO_SNAPSHOT" (-2), .int "NO_THING" (-3), .int "NOT_COME_TO" (-6), .int "NOT_ENOUGH" (-7), .int "LEAST_GROWING" (2), .int "MOST" (5), .int "MOST_BYTES" (600), .int "HIGHEST_BYTE" (255), .int "NO_TEXT" (-1), .int "WRITE" (0), .str "DIGITS" "0123456789"]
def faL7 : List Fa := [.str "LETTERS" "abcdefghijklmnopqrstuvwxyz", .free "len", .free "all", .free "int", .free "any", .free "enumerate", .free "sorted", .free "sum", .free "all", .free "range", .free "list", .free "zip", .free "any"]
def faL : List Fa := faL0 ++ faL1 ++ faL2 ++ faL3 ++ faL4 ++ faL5 ++ faL6 ++ faL7
def fnL0 : List FnD := [dFn "sign_of" sSign, dFn "words_of" sWords, dFn "rows_of" sRows, dFn "number_of" sNumber, dFn "is_name" sName, dFn "is_such_row" sSuch, dFn "words_for_names" sNames, dFn "variables_read" sReads, dFn "fault_number" sFaultNo, dFn "is_misnamed" sMis, dFn "is_untold" sUnt, dFn "is_badly_nested" sBad, dFn "is_one_too_many" sMany, dFn "fault_of" sFault, dFn "take_row" sTake, dFn "read_rows" sRead, dFn "snapshot_of" sSnapOf, dFn "held_by" sHeldBy, dFn "hold" sHold, dFn "place_of_field" sPlace, dFn "do_new" sDoNew, dFn "do_set" sDoSet, dFn "do_get" sDoGet, dFn "do_let" sDoLet, dFn "do_times" sDoTimes, dFn "do_end" sDoEnd, dFn "do_snap" sDoSnap, dFn "row_behind" sBehind, dFn "run_program" sRunP, dFn "stopped_at" sStopped]
def fnL1 : List FnD := [dFn "links_from" sLinks, dFn "all_links" sAll, dFn "shortest_ways" sWays, dFn "come_to" sCome, dFn "bytes_of" sBytes, dFn "still_held" sStill, dFn "left_by_counting" sLeft, dFn "never_freed" sFreed, dFn "things_that_go" sGo, dFn "kept_by" sKept, dFn "keeper_of" sKeeper, dFn "links_in_use" sUses, dFn "link_in_use" sUse, dFn "can_go" sCan, dFn "first_row_of_cuts" sFirst, dFn "fewest_cuts" sFew, dFn "counts_by_row" sCounts, dFn "is_rising" sRising, dFn "rows_that_grow" sGrow, dFn "and_one" sAnd, dFn "counted" sCounted, dFn "counted_bytes" sCBytes, dFn "snap" sSnapC, dFn "things" sThingsC, dFn "never" sNeverC, dFn "classes" sClassesC, dFn "cut" sCutC, dFn "way" sWayC, dFn "keeps" sKeepsC, dFn "fewest" sFewC]
def fnL2 : List FnD := [dFn "new" sNewC, dFn "grows" sGrowsC, dFn "of_thing" sOfThing, dFn "of_snapshot" sOfSnap, dFn "look" sLook, dFn "write" sWrite, dFn "handed_over" sHanded, dFn "answers" sAnswers, dFn "most" sMostC, dIn "Kind" "Kind.__init__" sKindI, dIn "Program" "Program.__init__" sProgI, dIn "Thing" "Thing.__init__" sThingI, dIn "Heap" "Heap.__init__" sHeapI, dIn "Run" "Run.__init__" sRunI, dIn "House" "House.__init__" (inClass (top 114) 0)]
def fnL : List FnD := fnL0 ++ fnL1 ++ fnL2
section
variable {K : PySem.W.Frag} {h : Heap} {mg : Str → Option Value} {w : World}
theorem says_fa (Y : SaysE faL fnL K) {i : Nat} {f : Fa} (e : faL[i]? = some f) : f.ok K = true := by
  have h1 : ((faL.all fun f => f.ok K) && fnL.all fun d => (Fa.code d.at_ d.qual).ok K) = true := congrArg Prod.fst Y
  exact List.all_eq_true.mp (ba h1).1 f (List.mem_of_getElem? e)
theorem says_fn (Y : SaysE faL fnL K) {i : Nat} {d : FnD} (e : fnL[i]? = some d) : fnObs K d.at_ = d.val ∧ (Fa.code d.at_ d.qual).ok K = true := by
  have h1 : ((faL.all fun f => f.ok K) && fnL.all fun d => (Fa.code d.at_ d.qual).ok K) = true := congrArg Prod.fst Y
  have h2 : (fnL.map fun d => fnObs K d.at_) = fnL.map FnD.val := congrArg Prod.snd Y
  refine ⟨?_, List.all_eq_true.mp (ba h1).2 d (List.mem_of_getElem? e)⟩
  have h3 := congrArg (fun l => l[i]?) h2
  simp only [List.getElem?_map, e, Option.map_some, Option.some.injEq] at h3
  exact h3
theorem fun_of (Y : SaysE faL fnL K) {i j : Nat} {x : Str} {st : Stmt} (e2 : faL[i]? = some (.keep x)) (e3 : fnL[j]? = some (dFn x st)) : ∃ fd, Fun K x x st (ga K x) fd := by
  obtain ⟨a, b⟩ := says_fn Y e3
  obtain ⟨oc, od, osl, kV, doc, pm, an, cdv, ct, l, c⟩ := fn_ok a b
  exact ⟨_, fun_mk l c (keep_ok (says_fa Y e2))⟩
theorem dd_of (Y : SaysE faL fnL K) (X : K.In h) (G : h.Ns mainGlobals mg) {i i' j : Nat} {x : Str} {st : Stmt} {ps : List Str} (e1 : faL[i]? = some (.glo x)) (e2 : faL[i']? = some (.keep x)) (e3 : fnL[j]? = some (dFn x st))
    (hb : ∀ (kV doc pm : Value) (an : Option Addr) (cdv ct : Value) (us : List Value), us.length = ps.length → bindArgs (PySem.W.fnOf x x (defArgs st) (defBody st) (defScope st) .none kV doc pm an cdv ct) ⟨us, []⟩ = pure (ps.zip us)) : Dd K mg x st ps := by
  obtain ⟨fd, F⟩ := fun_of Y e2 e3
  exact ⟨_, fd, F, glo_ok X G (says_fa Y e1), F.binds hb⟩
theorem cl_of (Y : SaysE faL fnL K) (X : K.In h) (G : h.Ns mainGlobals mg) {i1 i2 i3 i4 j : Nat} {x q : Str} {st : Stmt} {ps attrs : List Str} (e1 : faL[i1]? = some (.glo x)) (e2 : faL[i2]? = some (.cls x)) (e3 : faL[i3]? = some (.mkr x)) (e4 : faL[i4]? = some (.meth x "__init__")) (e5 : fnL[j]? = some (dIn x q st))
    (na : ∀ a ∈ attrs, NoAttr K (ga K x) a)
    (hb : ∀ (kV doc pm : Value) (an : Option Addr) (cdv ct : Value) (us : List Value), us.length = ps.length → bindArgs (PySem.W.fnOf "__init__" q (defArgs st) (defBody st) (defScope st) .none kV doc pm an cdv ct) ⟨us, []⟩ = pure (ps.zip us)) : Cl K mg x q (ga K x) st ps attrs := by
  obtain ⟨a, b⟩ := says_fn Y e5
  obtain ⟨oc, od, osl, kV, doc, pm, an, cdv, ct, l, c⟩ := fn_ok a b
  have m := meth_ok (says_fa Y e4)
  have F : Fun K "__init__" q st _ _ := fun_mk l c m.kp
  exact ⟨cls_ok (says_fa Y e2), na, ⟨_, _, mkr_ok (says_fa Y e3), F, F.binds hb⟩, glo_ok X G (says_fa Y e1)⟩
def caOf (K : PySem.W.Frag) : CA := ⟨ga K "Thing", ga K "Heap", ga K "Kind", ga K "Program", ga K "Run", ga K "House"⟩
theorem lk_word {a b : List Nat} {v : Value} {r : List (Str × Value)} (h : a = b) : List.lookup (S a) ((S b, v) :: r) = some v := by
  subst h
  simp [List.lookup]
theorem lk_next {a b : List Nat} {v : Value} {r : List (Str × Value)} (h : ¬ a = b) : List.lookup (S a) ((S b, v) :: r) = List.lookup (S a) r := by
  have e : (S a == S b) = false := by
    rw [beq_eq_false_iff_ne]
    exact fun z => h (S_inj.mp z)
  simp only [List.lookup, e]
theorem pair_tup {t : Addr} {a b : Nat} {k1 k2 : Tok} (l : K.lookup t = some ⟨.type "tuple", none, .seq #[.int (a : Nat) k1, .int (b : Nat) k2] 0, #[]⟩) : ∀ H, SqT K H t [.int (a : Nat), .int (b : Nat)] := fun H =>
  .inr ⟨_, _, _, l, rfl, rfl, big (show 2 ≤ 100000 by decide), .cons ⟨_, rfl⟩ (.cons ⟨_, rfl⟩ .nil)⟩
theorem txt_of (Y : SaysE faL fnL K) (X : K.In h) (G : h.Ns mainGlobals mg) {d1 d2 d3 d4 d5 d6 gt t1 t2 t3 t4 t5 t6 t7 t8 q1 q2 q3 q4 q5 q6 q7 f1 f2 f3 f4 f7 f8 f9 f10 f11 : Addr} {e1 e2 e3 e4 e5 e6 : Array DictEntry} {n1 n2 n3 n4 n5 n6 : Nat}
    {k1 k2 k3 k4 k5 k6 k7 k8 k9 k10 k11 k12 k13 k14 k15 k16 g1 g2 g3 u1 u2 u3 u4 u5 u6 u7 u8 u9 u10 u11 : Tok}
    (w1 : PySem.W.nsIn K mainGlobals "WORD_COUNTS" = some (some (.ref d1))) (w2 : K.lookup d1 = some ⟨.type "dict", none, .dict e1 n1, #[]⟩) (z1 : (d1 == sysModules) = false)
    (s1 : SEnts w.params e1 [("class", .ref t1), ("new", .ref t2), ("set", .ref t3), ("get", .ref t4), ("let", .ref t5), ("times", .ref t6), ("end", .ref t7), ("snap", .ref t8)])
    (l1 : K.lookup t1 = some ⟨.type "tuple", none, .seq #[.int 3 k1, .int 5 k2] 0, #[]⟩) (l2 : K.lookup t2 = some ⟨.type "tuple", none, .seq #[.int 3 k3, .int 3 k4] 0, #[]⟩)
    (l3 : K.lookup t3 = some ⟨.type "tuple", none, .seq #[.int 4 k5, .int 4 k6] 0, #[]⟩) (l4 : K.lookup t4 = some ⟨.type "tuple", none, .seq #[.int 4 k7, .int 4 k8] 0, #[]⟩)
    (l5 : K.lookup t5 = some ⟨.type "tuple", none, .seq #[.int 3 k9, .int 3 k10] 0, #[]⟩) (l6 : K.lookup t6 = some ⟨.type "tuple", none, .seq #[.int 2 k11, .int 2 k12] 0, #[]⟩)
    (l7 : K.lookup t7 = some ⟨.type "tuple", none, .seq #[.int 1 k13, .int 1 k14] 0, #[]⟩) (l8 : K.lookup t8 = some ⟨.type "tuple", none, .seq #[.int 1 k15, .int 1 k16] 0, #[]⟩)
    (w3 : PySem.W.nsIn K mainGlobals "DEEDS" = some (some (.ref d2))) (w4 : K.lookup d2 = some ⟨.type "dict", none, .dict e2 n2, #[]⟩) (z2 : (d2 == sysModules) = false)
    (s2 : SEnts w.params e2 [("new", .ref q1), ("set", .ref q2), ("get", .ref q3), ("let", .ref q4), ("times", .ref q5), ("end", .ref q6), ("snap", .ref q7)])
    (p1 : PySem.W.nsIn K mainGlobals "do_new" = some (some (.ref q1))) (p2 : PySem.W.nsIn K mainGlobals "do_set" = some (some (.ref q2))) (p3 : PySem.W.nsIn K mainGlobals "do_get" = some (some (.ref q3))) (p4 : PySem.W.nsIn K mainGlobals "do_let" = some (some (.ref q4)))
    (p5 : PySem.W.nsIn K mainGlobals "do_times" = some (some (.ref q5))) (p6 : PySem.W.nsIn K mainGlobals "do_end" = some (some (.ref q6))) (p7 : PySem.W.nsIn K mainGlobals "do_snap" = some (some (.ref q7)))
    (w5 : PySem.W.nsIn K mainGlobals "NUMBER_COUNTS" = some (some (.ref d3))) (w6 : K.lookup d3 = some ⟨.type "dict", none, .dict e3 n3, #[]⟩)
    (s3 : IEnts e3 [(1, .int 1 u1), (2, .int 1 u2), (3, .int 2 u3), (4, .int 2 u4), (5, .int 2 u5), (6, .int 3 u6), (7, .int 2 u7), (8, .int 1 u8), (9, .int 2 u9), (10, .int 2 u10), (11, .int 1 u11)])
    (v1 : PySem.W.nsIn K mainGlobals "GETTING" = some (some (.ref gt))) (v2 : K.lookup gt = some ⟨.type "tuple", none, .seq #[.str "new" g1, .str "get" g2, .str "let" g3] 0, #[]⟩)
    (a1 : PySem.W.nsIn K mainGlobals "ABOUT_SNAPSHOTS" = some (some (.ref d4))) (a2 : K.lookup d4 = some ⟨.type "dict", none, .dict e4 n4, #[]⟩) (z4 : (d4 == sysModules) = false) (s4 : IEnts e4 [(1, .ref f1), (2, .ref f2), (8, .ref f8), (11, .ref f11)])
    (b1 : PySem.W.nsIn K mainGlobals "ABOUT_THINGS" = some (some (.ref d5))) (b2 : K.lookup d5 = some ⟨.type "dict", none, .dict e5 n5, #[]⟩) (z5 : (d5 == sysModules) = false) (s5 : IEnts e5 [(3, .ref f3), (4, .ref f4), (7, .ref f7)])
    (c1 : PySem.W.nsIn K mainGlobals "ABOUT_TWO_SNAPSHOTS" = some (some (.ref d6))) (c2 : K.lookup d6 = some ⟨.type "dict", none, .dict e6 n6, #[]⟩) (z6 : (d6 == sysModules) = false) (s6 : IEnts e6 [(9, .ref f9), (10, .ref f10)])
    (r1 : PySem.W.nsIn K mainGlobals "snap" = some (some (.ref f1))) (r2 : PySem.W.nsIn K mainGlobals "things" = some (some (.ref f2))) (r3 : PySem.W.nsIn K mainGlobals "way" = some (some (.ref f3))) (r4 : PySem.W.nsIn K mainGlobals "keeps" = some (some (.ref f4)))
    (r7 : PySem.W.nsIn K mainGlobals "fewest" = some (some (.ref f7))) (r8 : PySem.W.nsIn K mainGlobals "never" = some (some (.ref f8))) (r9 : PySem.W.nsIn K mainGlobals "new" = some (some (.ref f9))) (r10 : PySem.W.nsIn K mainGlobals "grows" = some (some (.ref f10))) (r11 : PySem.W.nsIn K mainGlobals "classes" = some (some (.ref f11))) :
    TxtZ (caOf K) (fun _ => True) w K mg := by
  have lit1 : KDict K w d1 e1 n1 := ⟨w2, by obtain ⟨es⟩ := e1; exact s1.lit, z1⟩
  have lit2 : KDict K w d2 e2 n2 := ⟨w4, by obtain ⟨es⟩ := e2; exact s2.lit, z2⟩
  have ns1 := fun c : List Nat => s1.ns w2 (S c)
  have ns2 := fun c : List Nat => s2.ns w4 (S c)
  rw [s_class, s_new, s_set, s_get, s_let, s_times, s_end, s_snap] at ns1
  rw [s_new, s_set, s_get, s_let, s_times, s_end, s_snap] at ns2
  exact {
    dSign := dd_of (i := 0) (i' := 1) (j := 0) Y X G rfl rfl rfl (fun _ _ _ _ _ _ us hl => match us, hl with | [_], _ => rfl)
    dWords := dd_of (i := 2) (i' := 3) (j := 1) Y X G rfl rfl rfl (fun _ _ _ _ _ _ us hl => match us, hl with | [_], _ => rfl)
    dRows := dd_of (i := 4) (i' := 5) (j := 2) Y X G rfl rfl rfl (fun _ _ _ _ _ _ us hl => match us, hl with | [_], _ => rfl)
    dNumber := dd_of (i := 6) (i' := 7) (j := 3) Y X G rfl rfl rfl (fun _ _ _ _ _ _ us hl => match us, hl with | [_], _ => rfl)
    dName := dd_of (i := 8) (i' := 9) (j := 4) Y X G rfl rfl rfl (fun _ _ _ _ _ _ us hl => match us, hl with | [_], _ => rfl)
    dSuch := dd_of (i := 10) (i' := 11) (j := 5) Y X G rfl rfl rfl (fun _ _ _ _ _ _ us hl => match us, hl with | [_], _ => rfl)
    dNames := dd_of (i := 12) (i' := 13) (j := 6) Y X G rfl rfl rfl (fun _ _ _ _ _ _ us hl => match us, hl with | [_], _ => rfl)
    dReads := dd_of (i := 14) (i' := 15) (j := 7) Y X G rfl rfl rfl (fun _ _ _ _ _ _ us hl => match us, hl with | [_], _ => rfl)
    dFaultNo := dd_of (i := 16) (i' := 17) (j := 8) Y X G rfl rfl rfl (fun _ _ _ _ _ _ us hl => match us, hl with | [_, _], _ => rfl)
    dMis := dd_of (i := 18) (i' := 19) (j := 9) Y X G rfl rfl rfl (fun _ _ _ _ _ _ us hl => match us, hl with | [_, _], _ => rfl)
    dUnt := dd_of (i := 20) (i' := 21) (j := 10) Y X G rfl rfl rfl (fun _ _ _ _ _ _ us hl => match us, hl with | [_, _], _ => rfl)
    dBad := dd_of (i := 22) (i' := 23) (j := 11) Y X G rfl rfl rfl (fun _ _ _ _ _ _ us hl => match us, hl with | [_, _], _ => rfl)
    dMany := dd_of (i := 24) (i' := 25) (j := 12) Y X G rfl rfl rfl (fun _ _ _ _ _ _ us hl => match us, hl with | [_, _], _ => rfl)
    dFault := dd_of (i := 26) (i' := 27) (j := 13) Y X G rfl rfl rfl (fun _ _ _ _ _ _ us hl => match us, hl with | [_, _], _ => rfl)
    dTake := dd_of (i := 28) (i' := 29) (j := 14) Y X G rfl rfl rfl (fun _ _ _ _ _ _ us hl => match us, hl with | [_, _, _], _ => rfl)
    dRead := dd_of (i := 30) (i' := 31) (j := 15) Y X G rfl rfl rfl (fun _ _ _ _ _ _ us hl => match us, hl with | [_], _ => rfl)
    dSnapOf := dd_of (i := 32) (i' := 33) (j := 16) Y X G rfl rfl rfl (fun _ _ _ _ _ _ us hl => match us, hl with | [_], _ => rfl)
    dHeldBy := dd_of (i := 34) (i' := 35) (j := 17) Y X G rfl rfl rfl (fun _ _ _ _ _ _ us hl => match us, hl with | [_, _], _ => rfl)
    dHold := dd_of (i := 36) (i' := 37) (j := 18) Y X G rfl rfl rfl (fun _ _ _ _ _ _ us hl => match us, hl with | [_, _, _], _ => rfl)
    dPlace := dd_of (i := 38) (i' := 39) (j := 19) Y X G rfl rfl rfl (fun _ _ _ _ _ _ us hl => match us, hl with | [_, _, _], _ => rfl)
    dNew := dd_of (i := 40) (i' := 41) (j := 20) Y X G rfl rfl rfl (fun _ _ _ _ _ _ us hl => match us, hl with | [_, _], _ => rfl)
    dSet := dd_of (i := 42) (i' := 43) (j := 21) Y X G rfl rfl rfl (fun _ _ _ _ _ _ us hl => match us, hl with | [_, _], _ => rfl)
    dGet := dd_of (i := 44) (i' := 45) (j := 22) Y X G rfl rfl rfl (fun _ _ _ _ _ _ us hl => match us, hl with | [_, _], _ => rfl)
    dLet := dd_of (i := 46) (i' := 47) (j := 23) Y X G rfl rfl rfl (fun _ _ _ _ _ _ us hl => match us, hl with | [_, _], _ => rfl)
    dTimes := dd_of (i := 48) (i' := 49) (j := 24) Y X G rfl rfl rfl (fun _ _ _ _ _ _ us hl => match us, hl with | [_, _], _ => rfl)
    dEnd := dd_of (i := 50) (i' := 51) (j := 25) Y X G rfl rfl rfl (fun _ _ _ _ _ _ us hl => match us, hl with | [_, _], _ => rfl)
    dSnap := dd_of (i := 52) (i' := 53) (j := 26) Y X G rfl rfl rfl (fun _ _ _ _ _ _ us hl => match us, hl with | [_, _], _ => rfl)
    dBehind := dd_of (i := 54) (i' := 55) (j := 27) Y X G rfl rfl rfl (fun _ _ _ _ _ _ us hl => match us, hl with | [_], _ => rfl)
    dRunP := dd_of (i := 56) (i' := 57) (j := 28) Y X G rfl rfl rfl (fun _ _ _ _ _ _ us hl => match us, hl with | [_], _ => rfl)
    dStopped := dd_of (i := 58) (i' := 59) (j := 29) Y X G rfl rfl rfl (fun _ _ _ _ _ _ us hl => match us, hl with | [_], _ => rfl)
    dLinks := dd_of (i := 60) (i' := 61) (j := 30) Y X G rfl rfl rfl (fun _ _ _ _ _ _ us hl => match us, hl with | [_, _], _ => rfl)
    dAll := dd_of (i := 62) (i' := 63) (j := 31) Y X G rfl rfl rfl (fun _ _ _ _ _ _ us hl => match us, hl with | [_], _ => rfl)
    dWays := dd_of (i := 64) (i' := 65) (j := 32) Y X G rfl rfl rfl (fun _ _ _ _ _ _ us hl => match us, hl with | [_, _], _ => rfl)
    dCome := dd_of (i := 66) (i' := 67) (j := 33) Y X G rfl rfl rfl (fun _ _ _ _ _ _ us hl => match us, hl with | [_], _ => rfl)
    dBytes := dd_of (i := 68) (i' := 69) (j := 34) Y X G rfl rfl rfl (fun _ _ _ _ _ _ us hl => match us, hl with | [_, _], _ => rfl)
    dStill := dd_of (i := 70) (i' := 71) (j := 35) Y X G rfl rfl rfl (fun _ _ _ _ _ _ us hl => match us, hl with | [_, _], _ => rfl)
    dLeft := dd_of (i := 72) (i' := 73) (j := 36) Y X G rfl rfl rfl (fun _ _ _ _ _ _ us hl => match us, hl with | [_], _ => rfl)
    dFreed := dd_of (i := 74) (i' := 75) (j := 37) Y X G rfl rfl rfl (fun _ _ _ _ _ _ us hl => match us, hl with | [_], _ => rfl)
    dGo := dd_of (i := 76) (i' := 77) (j := 38) Y X G rfl rfl rfl (fun _ _ _ _ _ _ us hl => match us, hl with | [_, _], _ => rfl)
    dKept := dd_of (i := 78) (i' := 79) (j := 39) Y X G rfl rfl rfl (fun _ _ _ _ _ _ us hl => match us, hl with | [_, _], _ => rfl)
    dKeeper := dd_of (i := 80) (i' := 81) (j := 40) Y X G rfl rfl rfl (fun _ _ _ _ _ _ us hl => match us, hl with | [_, _], _ => rfl)
    dUses := dd_of (i := 82) (i' := 83) (j := 41) Y X G rfl rfl rfl (fun _ _ _ _ _ _ us hl => match us, hl with | [_], _ => rfl)
    dUse := dd_of (i := 84) (i' := 85) (j := 42) Y X G rfl rfl rfl (fun _ _ _ _ _ _ us hl => match us, hl with | [_, _, _], _ => rfl)
    dCan := dd_of (i := 86) (i' := 87) (j := 43) Y X G rfl rfl rfl (fun _ _ _ _ _ _ us hl => match us, hl with | [_, _, _, _], _ => rfl)
    dFirst := dd_of (i := 88) (i' := 89) (j := 44) Y X G rfl rfl rfl (fun _ _ _ _ _ _ us hl => match us, hl with | [_, _, _], _ => rfl)
    dFew := dd_of (i := 90) (i' := 91) (j := 45) Y X G rfl rfl rfl (fun _ _ _ _ _ _ us hl => match us, hl with | [_, _], _ => rfl)
    dCounts := dd_of (i := 92) (i' := 93) (j := 46) Y X G rfl rfl rfl (fun _ _ _ _ _ _ us hl => match us, hl with | [_], _ => rfl)
    dRising := dd_of (i := 94) (i' := 95) (j := 47) Y X G rfl rfl rfl (fun _ _ _ _ _ _ us hl => match us, hl with | [_], _ => rfl)
    dGrow := dd_of (i := 96) (i' := 97) (j := 48) Y X G rfl rfl rfl (fun _ _ _ _ _ _ us hl => match us, hl with | [_], _ => rfl)
    dAnd := dd_of (i := 98) (i' := 99) (j := 49) Y X G rfl rfl rfl (fun _ _ _ _ _ _ us hl => match us, hl with | [_], _ => rfl)
    dCounted := dd_of (i := 100) (i' := 101) (j := 50) Y X G rfl rfl rfl (fun _ _ _ _ _ _ us hl => match us, hl with | [_], _ => rfl)
    dCBytes := dd_of (i := 102) (i' := 103) (j := 51) Y X G rfl rfl rfl (fun _ _ _ _ _ _ us hl => match us, hl with | [_, _], _ => rfl)
    dSnapC := dd_of (i := 104) (i' := 105) (j := 52) Y X G rfl rfl rfl (fun _ _ _ _ _ _ us hl => match us, hl with | [_], _ => rfl)
    dThingsC := dd_of (i := 106) (i' := 107) (j := 53) Y X G rfl rfl rfl (fun _ _ _ _ _ _ us hl => match us, hl with | [_], _ => rfl)
    dNeverC := dd_of (i := 108) (i' := 109) (j := 54) Y X G rfl rfl rfl (fun _ _ _ _ _ _ us hl => match us, hl with | [_], _ => rfl)
    dClassesC := dd_of (i := 110) (i' := 111) (j := 55) Y X G rfl rfl rfl (fun _ _ _ _ _ _ us hl => match us, hl with | [_], _ => rfl)
    dCutC := dd_of (i := 112) (i' := 113) (j := 56) Y X G rfl rfl rfl (fun _ _ _ _ _ _ us hl => match us, hl with | [_, _, _], _ => rfl)
    dWayC := dd_of (i := 114) (i' := 115) (j := 57) Y X G rfl rfl rfl (fun _ _ _ _ _ _ us hl => match us, hl with | [_, _], _ => rfl)
    dKeepsC := dd_of (i := 116) (i' := 117) (j := 58) Y X G rfl rfl rfl (fun _ _ _ _ _ _ us hl => match us, hl with | [_, _], _ => rfl)
    dFewC := dd_of (i := 118) (i' := 119) (j := 59) Y X G rfl rfl rfl (fun _ _ _ _ _ _ us hl => match us, hl with | [_, _], _ => rfl)
    dNewC := dd_of (i := 120) (i' := 121) (j := 60) Y X G rfl rfl rfl (fun _ _ _ _ _ _ us hl => match us, hl with | [_, _, _], _ => rfl)
    dGrowsC := dd_of (i := 122) (i' := 123) (j := 61) Y X G rfl rfl rfl (fun _ _ _ _ _ _ us hl => match us, hl with | [_, _, _], _ => rfl)
    dOfThing := dd_of (i := 124) (i' := 125) (j := 62) Y X G rfl rfl rfl (fun _ _ _ _ _ _ us hl => match us, hl with | [_, _, _], _ => rfl)
    dOfSnap := dd_of (i := 126) (i' := 127) (j := 63) Y X G rfl rfl rfl (fun _ _ _ _ _ _ us hl => match us, hl with | [_, _, _], _ => rfl)
    dLook := dd_of (i := 128) (i' := 129) (j := 64) Y X G rfl rfl rfl (fun _ _ _ _ _ _ us hl => match us, hl with | [_, _, _], _ => rfl)
    dWrite := dd_of (i := 130) (i' := 131) (j := 65) Y X G rfl rfl rfl (fun _ _ _ _ _ _ us hl => match us, hl with | [_, _], _ => rfl)
    dHanded := dd_of (i := 132) (i' := 133) (j := 66) Y X G rfl rfl rfl (fun _ _ _ _ _ _ us hl => match us, hl with | [_, _], _ => rfl)
    dAnswers := dd_of (i := 134) (i' := 135) (j := 67) Y X G rfl rfl rfl (fun _ _ _ _ _ _ us hl => match us, hl with | [_], _ => rfl)
    cKind := cl_of (i1 := 138) (i2 := 139) (i3 := 140) (i4 := 141) (j := 69) Y X G rfl rfl rfl rfl rfl (fun a ha => by
      simp only [List.mem_cons, List.mem_nil_iff, or_false] at ha
      rcases ha with rfl | rfl
      · exact noat_ok (says_fa Y (i := 142) rfl)
      · exact noat_ok (says_fa Y (i := 143) rfl)) (fun _ _ _ _ _ _ us hl => match us, hl with | [_, _, _], _ => rfl)
    cProg := cl_of (i1 := 144) (i2 := 145) (i3 := 146) (i4 := 147) (j := 70) Y X G rfl rfl rfl rfl rfl (fun a ha => by
      simp only [List.mem_cons, List.mem_nil_iff, or_false] at ha
      rcases ha with rfl | rfl | rfl | rfl | rfl | rfl
      · exact noat_ok (says_fa Y (i := 148) rfl)
      · exact noat_ok (says_fa Y (i := 149) rfl)
      · exact noat_ok (says_fa Y (i := 150) rfl)
      · exact noat_ok (says_fa Y (i := 151) rfl)
      · exact noat_ok (says_fa Y (i := 152) rfl)
      · exact noat_ok (says_fa Y (i := 153) rfl)) (fun _ _ _ _ _ _ us hl => match us, hl with | [_, _], _ => rfl)
    cThing := cl_of (i1 := 154) (i2 := 155) (i3 := 156) (i4 := 157) (j := 71) Y X G rfl rfl rfl rfl rfl (fun a ha => by
      simp only [List.mem_cons, List.mem_nil_iff, or_false] at ha
      rcases ha with rfl | rfl | rfl | rfl
      · exact noat_ok (says_fa Y (i := 158) rfl)
      · exact noat_ok (says_fa Y (i := 159) rfl)
      · exact noat_ok (says_fa Y (i := 160) rfl)
      · exact noat_ok (says_fa Y (i := 161) rfl)) (fun _ _ _ _ _ _ us hl => match us, hl with | [_, _, _, _, _], _ => rfl)
    cHeap := cl_of (i1 := 162) (i2 := 163) (i3 := 164) (i4 := 165) (j := 72) Y X G rfl rfl rfl rfl rfl (fun a ha => by
      simp only [List.mem_cons, List.mem_nil_iff, or_false] at ha
      rcases ha with rfl | rfl | rfl
      · exact noat_ok (says_fa Y (i := 166) rfl)
      · exact noat_ok (says_fa Y (i := 167) rfl)
      · exact noat_ok (says_fa Y (i := 168) rfl)) (fun _ _ _ _ _ _ us hl => match us, hl with | [_, _, _, _], _ => rfl)
    cRun := cl_of (i1 := 169) (i2 := 170) (i3 := 171) (i4 := 172) (j := 73) Y X G rfl rfl rfl rfl rfl (fun a ha => by
      simp only [List.mem_cons, List.mem_nil_iff, or_false] at ha
      rcases ha with rfl | rfl | rfl | rfl | rfl | rfl
      · exact noat_ok (says_fa Y (i := 173) rfl)
      · exact noat_ok (says_fa Y (i := 174) rfl)
      · exact noat_ok (says_fa Y (i := 175) rfl)
      · exact noat_ok (says_fa Y (i := 176) rfl)
      · exact noat_ok (says_fa Y (i := 177) rfl)
      · exact noat_ok (says_fa Y (i := 178) rfl)) (fun _ _ _ _ _ _ us hl => match us, hl with | [_, _], _ => rfl)
    cHouse := cl_of (i1 := 179) (i2 := 180) (i3 := 181) (i4 := 182) (j := 74) Y X G rfl rfl rfl rfl rfl (fun a ha => by
      rw [List.mem_singleton.mp ha]
      exact noat_ok (says_fa Y (i := 183) rfl)) (fun _ _ _ _ _ _ us hl => match us, hl with | [_], _ => rfl)
    rounds_ := int_ok X G (says_fa Y (i := 184) rfl)
    cst0 := int_ok X G (says_fa Y (i := 185) rfl)
    cst1 := int_ok X G (says_fa Y (i := 186) rfl)
    cst2 := int_ok X G (says_fa Y (i := 187) rfl)
    cst3 := int_ok X G (says_fa Y (i := 188) rfl)
    cst4 := int_ok X G (says_fa Y (i := 189) rfl)
    cst5 := int_ok X G (says_fa Y (i := 190) rfl)
    cstC := int_ok X G (says_fa Y (i := 191) rfl)
    cstV := int_ok X G (says_fa Y (i := 192) rfl)
    cstD := int_ok X G (says_fa Y (i := 193) rfl)
    cstS := int_ok X G (says_fa Y (i := 194) rfl)
    cstT := int_ok X G (says_fa Y (i := 195) rfl)
    cstN := int_ok X G (says_fa Y (i := 196) rfl)
    cCut := int_ok X G (says_fa Y (i := 197) rfl)
    cNO := int_ok X G (says_fa Y (i := 198) rfl)
    cNS := int_ok X G (says_fa Y (i := 199) rfl)
    cNT := int_ok X G (says_fa Y (i := 200) rfl)
    cNC := int_ok X G (says_fa Y (i := 201) rfl)
    cNE := int_ok X G (says_fa Y (i := 202) rfl)
    cLG := int_ok X G (says_fa Y (i := 203) rfl)
    cMO := int_ok X G (says_fa Y (i := 204) rfl)
    cMB := int_ok X G (says_fa Y (i := 205) rfl)
    cHB := int_ok X G (says_fa Y (i := 206) rfl)
    cNX := int_ok X G (says_fa Y (i := 207) rfl)
    cW := int_ok X G (says_fa Y (i := 208) rfl)
    digits := str_ok X G (says_fa Y (i := 209) rfl)
    letters := str_ok X G (says_fa Y (i := 210) rfl)
    len := free_ok X G (says_fa Y (i := 211) rfl)
    all := free_ok X G (says_fa Y (i := 212) rfl)
    int_ := free_ok X G (says_fa Y (i := 213) rfl)
    any := free_ok X G (says_fa Y (i := 214) rfl)
    enumerate_ := free_ok X G (says_fa Y (i := 215) rfl)
    sorted_ := free_ok X G (says_fa Y (i := 216) rfl)
    sum_ := free_ok X G (says_fa Y (i := 217) rfl)
    all_ := free_ok X G (says_fa Y (i := 218) rfl)
    range_ := free_ok X G (says_fa Y (i := 219) rfl)
    list_ := free_ok X G (says_fa Y (i := 220) rfl)
    zip_ := free_ok X G (says_fa Y (i := 221) rfl)
    any_ := free_ok X G (says_fa Y (i := 222) rfl)
    counts_ := ⟨d1, e1, n1, PySem.W.mg_of X G w1, lit1, fun c => by
      have e := ns1 c
      unfold Kp.counts
      by_cases h0 : c = wClass
      · rw [if_pos h0]
        rw [lk_word h0] at e
        exact ⟨t1, e, pair_tup l1⟩
      rw [if_neg h0]
      by_cases h1 : c = wNew
      · rw [if_pos h1]
        rw [lk_next h0, lk_word h1] at e
        exact ⟨t2, e, pair_tup l2⟩
      rw [if_neg h1]
      by_cases h2 : c = wSet
      · rw [if_pos h2]
        rw [lk_next h0, lk_next h1, lk_word h2] at e
        exact ⟨t3, e, pair_tup l3⟩
      rw [if_neg h2]
      by_cases h3 : c = wGet
      · rw [if_pos h3]
        rw [lk_next h0, lk_next h1, lk_next h2, lk_word h3] at e
        exact ⟨t4, e, pair_tup l4⟩
      rw [if_neg h3]
      by_cases h4 : c = wLet
      · rw [if_pos h4]
        rw [lk_next h0, lk_next h1, lk_next h2, lk_next h3, lk_word h4] at e
        exact ⟨t5, e, pair_tup l5⟩
      rw [if_neg h4]
      by_cases h5 : c = wTimes
      · rw [if_pos h5]
        rw [lk_next h0, lk_next h1, lk_next h2, lk_next h3, lk_next h4, lk_word h5] at e
        exact ⟨t6, e, pair_tup l6⟩
      rw [if_neg h5]
      by_cases h6 : c = wEnd
      · rw [if_pos h6]
        rw [lk_next h0, lk_next h1, lk_next h2, lk_next h3, lk_next h4, lk_next h5, lk_word h6] at e
        exact ⟨t7, e, pair_tup l7⟩
      rw [if_neg h6]
      by_cases h7 : c = wSnap
      · rw [if_pos h7]
        rw [lk_next h0, lk_next h1, lk_next h2, lk_next h3, lk_next h4, lk_next h5, lk_next h6, lk_word h7] at e
        exact ⟨t8, e, pair_tup l8⟩
      rw [if_neg h7]
      rw [lk_next h0, lk_next h1, lk_next h2, lk_next h3, lk_next h4, lk_next h5, lk_next h6, lk_next h7] at e
      exact e⟩
    getting := ⟨gt, PySem.W.mg_of X G v1, fun H => by
      refine .inr ⟨_, _, _, v2, rfl, rfl, big (show 3 ≤ 100000 by decide), ?_⟩
      rw [← s_new, ← s_get, ← s_let]
      exact .cons ⟨_, rfl⟩ (.cons ⟨_, rfl⟩ (.cons ⟨_, rfl⟩ .nil))⟩
    deeds := ⟨d2, e2, n2, PySem.W.mg_of X G w3, lit2, fun c hc => by
      have e := ns2 c
      unfold deedName
      by_cases h0 : c = wNew
      · rw [if_pos h0]
        rw [lk_word h0] at e
        exact ⟨q1, e, PySem.W.mg_of X G p1⟩
      rw [if_neg h0]
      by_cases h1 : c = wSet
      · rw [if_pos h1]
        rw [lk_next h0, lk_word h1] at e
        exact ⟨q2, e, PySem.W.mg_of X G p2⟩
      rw [if_neg h1]
      by_cases h2 : c = wGet
      · rw [if_pos h2]
        rw [lk_next h0, lk_next h1, lk_word h2] at e
        exact ⟨q3, e, PySem.W.mg_of X G p3⟩
      rw [if_neg h2]
      by_cases h3 : c = wLet
      · rw [if_pos h3]
        rw [lk_next h0, lk_next h1, lk_next h2, lk_word h3] at e
        exact ⟨q4, e, PySem.W.mg_of X G p4⟩
      rw [if_neg h3]
      by_cases h4 : c = wTimes
      · rw [if_pos h4]
        rw [lk_next h0, lk_next h1, lk_next h2, lk_next h3, lk_word h4] at e
        exact ⟨q5, e, PySem.W.mg_of X G p5⟩
      rw [if_neg h4]
      by_cases h5 : c = wEnd
      · rw [if_pos h5]
        rw [lk_next h0, lk_next h1, lk_next h2, lk_next h3, lk_next h4, lk_word h5] at e
        exact ⟨q6, e, PySem.W.mg_of X G p6⟩
      rw [if_neg h5]
      have h6 : c = wSnap := by
        rcases hc with z | z | z | z | z | z | z
        · exact absurd z h0
        · exact absurd z h1
        · exact absurd z h2
        · exact absurd z h3
        · exact absurd z h4
        · exact absurd z h5
        · exact z
      rw [lk_next h0, lk_next h1, lk_next h2, lk_next h3, lk_next h4, lk_next h5, lk_word h6] at e
      exact ⟨q7, e, PySem.W.mg_of X G p7⟩⟩
    abS := ⟨d4, f1, f2, f8, f11, PySem.W.mg_of X G a1, ⟨e4, n4, a2, s4, z4⟩, PySem.W.mg_of X G r1, PySem.W.mg_of X G r2, PySem.W.mg_of X G r8, PySem.W.mg_of X G r11⟩
    abT := ⟨d5, f3, f4, f7, PySem.W.mg_of X G b1, ⟨e5, n5, b2, s5, z5⟩, PySem.W.mg_of X G r3, PySem.W.mg_of X G r4, PySem.W.mg_of X G r7⟩
    abW := ⟨d6, f9, f10, PySem.W.mg_of X G c1, ⟨e6, n6, c2, s6, z6⟩, PySem.W.mg_of X G r9, PySem.W.mg_of X G r10⟩
    nums := ⟨d3, e3, n3, _, PySem.W.mg_of X G w5, w6, s3, fun x _ hx => by
      cases x with
      | write w => exact absurd rfl hx
      | _ => exact ⟨_, rfl⟩⟩ }
theorem dc_most (Y : SaysE faL fnL K) (X : K.In h) (G : h.Ns mainGlobals mg) {cs : List (Addr × Addr)} (hcs : TabsOf mg h ["most"] cs) : ∃ c Pt, cs = [(c, Pt)] ∧ Dc K mg "most" sMostC ["heap", "how_many"] c := by
  obtain ⟨hl, hc⟩ := hcs
  match cs, hl with
  | [(c, Pt)], _ =>
    obtain ⟨a, o, fd, m, ho, hd, hcd, _, _⟩ := hc 0 "most" (c, Pt) rfl rfl
    obtain ⟨fd', F⟩ := fun_of (i := 137) (j := 68) (x := "most") (st := sMostC) Y rfl rfl
    have m' : mg "most" = some (.ref (ga K "most")) := glo_ok X G (says_fa Y (i := 136) rfl)
    refine ⟨c, Pt, rfl, _, fd', F, m', F.binds (fun _ _ _ _ _ _ us hl => match us, hl with | [_, _], _ => rfl), ?_⟩
    have ea : a = ga K "most" := by
      have := m.symm.trans m'
      cases this; rfl
    subst ea
    obtain ⟨oc, od, kV, doc, pm, an, cdv, ct, osl, e, lk, _⟩ := F.ex
    have := X _ _ lk
    rw [ho] at this
    cases this
    have : fd' = fd := by
      have hd : Data.func fd' = Data.func fd := hd
      cases hd; rfl
    rw [this]
    exact hcd
end
end Kq
namespace Kq
open PySem PySem.Spec PyProof.Rows L2 LamX He
open PySem.W (WData)
/-- what the end promises, of the one table -/
def spEnd (K : PySem.W.Frag) (cs : List (Addr × Addr)) : Sp := fun vs H Q E => ∀ c Pt, cs = [(c, Pt)] → spAnswers K (fun _ => True) Pt vs H Q E
theorem all_end {P : Program} {w : World} {K : PySem.W.Frag} {h : Heap} {mg : Str → Option Value} {fa : Addr} {cs : List (Addr × Addr)} (X : K.In h) (G : h.Ns mainGlobals mg) (hfa : mg "answers" = some (.ref fa)) (hcs : TabsOf mg h ["most"] cs) (Y : SaysE faL fnL K)
    (T : TxtZ (caOf K) (fun _ => True) w K mg) : ∀ base : Heap, K.In base → base.Ns mainGlobals mg → (∀ q ∈ cs, TabB base mg q.1 q.2) → ∃ fd, Binds K fd ["calls"] [] ∧ FnOk P w K mg base CX0 13 fa fd ["calls"] (spEnd K cs) := by
  intro base _ _ hTB
  obtain ⟨c, Pt, rfl, D⟩ := dc_most Y X G hcs
  have TB : TabB base mg c Pt := hTB (c, Pt) (by simp)
  have M := c_mostC (P := P) (base := base) T.toTxtC D TB
  obtain ⟨f, fd, F, m, _, b⟩ := c_answers (P := P) (base := base) T (c_lookC T.toTxtD M)
  have ef : f = fa := by
    have := m.symm.trans hfa
    cases this; rfl
  subst ef
  exact ⟨fd, b, F.imp fun vs H Q E q => q c Pt rfl⟩
theorem dw_int {K : PySem.W.Frag} {H : Hp} : ∀ {xs : List V} {l : List Int}, DwAll K H xs (l.map WData.int) → xs = l.map V.int
  | [], [], _ => rfl
  | [], z :: l, h => by cases h
  | x :: xs, [], h => by cases h
  | x :: xs, z :: l, h => by
    cases h with
    | cons h1 h2 =>
      cases h1
      rw [dw_int h2]
      rfl
theorem end_sp {K : PySem.W.Frag} {cs : List (Addr × Addr)} {H : Hp} {vs : List V} {l : List Int} (hT : ∀ q ∈ cs, H q.2 = some (.tbl #[])) (hlen : l.length ≤ 26000) (asked : PyHx01.answers_asked l = true) (hD : DwAll K H vs [.list (l.map WData.int)]) :
    spEnd K cs vs H (fun v H' => Dw K H' v (.list ((PyHx01.answers l).map WData.int))) fun _ _ _ => False := by
  rintro c Pt rfl
  have ht := hT (c, Pt) (by simp)
  obtain ⟨ks, e1, _, hin, e2, hshort⟩ := Kp.asked_calls asked
  cases hD with
  | cons h1 h2 =>
    cases h2
    cases h1 with
    | lst hs ha =>
      rename_i a xs
      obtain rfl := dw_int ha
      refine ⟨a, ks, rfl, ?_, fun x hx => ⟨trivial, (hin x hx).1, (hin x hx).2⟩, ?_, hshort, ?_, fun H' D eD => ?_⟩
      · rw [e1] at hs
        have e : (Kp.zs (ks.flatMap Kp.enc)).map V.int = vI (ks.flatMap Kp.enc) := by
          unfold vI Kp.zs
          rw [List.map_map]
          rfl
        rw [e] at hs
        exact hs
      · rw [e1, List.length_map] at hlen
        omega
      · intro p hp
        rw [List.mem_singleton.mp hp]
        refine ⟨#[], ht, ?_, fun pos cv z => ?_⟩
        · trivial
        · cases z
      · rw [e2]
        exact .lst (SqL.of eD) (dw_ints _)
theorem len_of {a : PySem.W.Codec.denoteAll PySem.Challenge.rw_keptalive_s01_answers.args} (hw : PySem.W.Codec.withinAll PySem.Challenge.rw_keptalive_s01_answers.args a = true) : (show List Int from a.1).length ≤ 26000 := by
  have h1 : (PySem.W.Codec.inList 0 26000 (PySem.W.Codec.inInt 0 4294967295) (show List Int from a.1) && true) = true := hw
  rw [Bool.and_true] at h1
  unfold PySem.W.Codec.inList at h1
  simp only [Bool.and_eq_true, PySem.W.Codec.inLen, PySem.W.Codec.inNat, decide_eq_true_eq] at h1
  exact h1.1.2
theorem last_sp (K : PySem.W.Frag) (cs : List (Addr × Addr)) (H : Hp) (vs : List V) (a : PySem.W.Codec.denoteAll PySem.Challenge.rw_keptalive_s01_answers.args) (hT : ∀ q ∈ cs, H q.2 = some (.tbl #[])) (hw : PySem.W.Codec.withinAll PySem.Challenge.rw_keptalive_s01_answers.args a = true)
    (ha : PySem.W.Codec.app PySem.Challenge.rw_keptalive_s01_answers.args PySem.Challenge.rw_keptalive_s01_answers.asked a = true) (hD : DwAll K H vs (PySem.W.Codec.encAll PySem.Challenge.rw_keptalive_s01_answers.args a)) :
    spEnd K cs vs H (fun v H' => Dw K H' v (PySem.Challenge.rw_keptalive_s01_answers.ret.enc (PySem.W.Codec.app PySem.Challenge.rw_keptalive_s01_answers.args PySem.Challenge.rw_keptalive_s01_answers.f a))) fun _ _ _ => False :=
  end_sp (l := (show List Int from a.1)) hT (len_of hw) ha hD
end Kq
open PySem PySem.W PyProof.Rows
set_option maxRecDepth 100000 in
set_option maxHeartbeats 8000000 in
theorem PySem.Challenge.cw_keptalive_s01_answers_holds : PySem.Challenge.rw_keptalive_s01_answers.Holds := by
  w_on; k_headS; (case hw => exact ⟨[.list [.int 1, .int 0]], by decide +kernel, by decide +kernel⟩)
  k_fillS
  refine Kq.walk_tabs2 (r := PySem.Challenge.rw_keptalive_s01_answers) (k := 13) (ps := ["calls"]) (sp := Kq.spEnd) ["most"] (by decide +kernel) rfl rfl ⟨rfl, by decide, by decide⟩ (by decide +kernel) (fun w h Y => PySem.W.kIn_of Y) ?B ?F Kq.last_sp
  case B => intro w; rfl
  case F =>
    intro w mg fa h cs _ KX G hmg hcs
    refine' Kq.all_end KX G hmg hcs ?Y (Kq.txt_of ?Y KX G ?w1 ?w2 ?z1 ?s1 ?l1 ?l2 ?l3 ?l4 ?l5 ?l6 ?l7 ?l8 ?w3 ?w4 ?z2 ?s2 ?p1 ?p2 ?p3 ?p4 ?p5 ?p6 ?p7 ?w5 ?w6 ?s3 ?v1 ?v2 ?a1 ?a2 ?z4 ?s4 ?b1 ?b2 ?z5 ?s5 ?c1 ?c2 ?z6 ?s6 ?r1 ?r2 ?r3 ?r4 ?r7 ?r8 ?r9 ?r10 ?r11)
    (case w1 => k_is); (case w2 => k_is); (case z1 => exact rfl); (case s1 => exact rfl)
    (case l1 => k_is); (case l2 => k_is); (case l3 => k_is); (case l4 => k_is); (case l5 => k_is); (case l6 => k_is); (case l7 => k_is); (case l8 => k_is)
    (case w3 => k_is); (case w4 => k_is); (case z2 => exact rfl); (case s2 => exact rfl)
    (case p1 => k_is); (case p2 => k_is); (case p3 => k_is); (case p4 => k_is); (case p5 => k_is); (case p6 => k_is); (case p7 => k_is)
    (case w5 => k_is); (case w6 => k_is); (case s3 => exact rfl); (case v1 => k_is); (case v2 => k_is)
    (case a1 => k_is); (case a2 => k_is); (case z4 => exact rfl); (case s4 => exact rfl)
    (case b1 => k_is); (case b2 => k_is); (case z5 => exact rfl); (case s5 => exact rfl)
    (case c1 => k_is); (case c2 => k_is); (case z6 => exact rfl); (case s6 => exact rfl)
    (case r1 => k_is); (case r2 => k_is); (case r3 => k_is); (case r4 => k_is); (case r7 => k_is); (case r8 => k_is); (case r9 => k_is); (case r10 => k_is); (case r11 => k_is)
    (case Y => unfold He.SaysE; kernel_rfl)
