import PyProof.Rows.All
import Wide.All
import OpenK.AllK
import Wide.FinOn
import PyProof.EqAt
import PyProof.EqKinds
import PyProof.TupleCall
import Open.SpecLaws
import KE.OsGo
import HandS.ForSpec
import HandS.Dict
import KE.KDictKeyed
import HandS.Comp
import HandS.ExcCtx
import HandS.ExcOwn
import KE.GoesComp
import KE.KAsSuite
import HandS.Iter
import HandS.Walk
import KE.GoesEnumKw
import HandS.SuiteRaise
import HandS.RaiseFrom
import HandS.ExcSuper
import KE.DataMinMax
import HandS.Conv
import HandS.TupAny
import PySem.Challenge.RW_fitpick_s01_pk_read
set_option Elab.async false
set_option linter.all false
set_option maxRecDepth 100000
set_option maxHeartbeats 4000000
/-! fitpick: the mathematics of reading a register. -/
namespace Fp
open Ql76
def glue (pre : Bytes) : List Bytes → List Bytes
  | p :: ps => (pre ++ p) :: ps
  | [] => [pre]
theorem glue_nil : ∀ (l : List Bytes), l ≠ [] → glue [] l = l
  | [], h => absurd rfl h
  | _ :: _, _ => rfl
theorem glue_glue (a b : Bytes) : ∀ (l : List Bytes), glue a (glue b l) = glue (a ++ b) l
  | [] => rfl
  | p :: ps => by show (a ++ (b ++ p)) :: ps = (a ++ b ++ p) :: ps; rw [List.append_assoc]
theorem pieces_ne (m : Nat) : ∀ (l : Bytes), pieces m l ≠ []
  | [] => by intro h; cases h
  | x :: r => by
    unfold pieces
    split
    · split <;> (intro h; cases h)
    · intro h; cases h
theorem pieces_mark (m : Nat) (r : Bytes) : pieces m (m :: r) = [] :: pieces m r := by
  have h := pieces_ne m r
  rw [pieces]
  split
  · rename_i p l e
    rw [if_pos rfl, e]
  · rename_i e
    exact absurd e h
theorem pieces_other {m x : Nat} (r : Bytes) (hx : x ≠ m) : pieces m (x :: r) = glue [x] (pieces m r) := by
  have h := pieces_ne m r
  rw [pieces]
  split
  · rename_i p l e
    rw [if_neg hx, e]
    rfl
  · rename_i e
    exact absurd e h
theorem pieces_length (m : Nat) : ∀ (l : Bytes), (pieces m l).length ≤ l.length + 1
  | [] => Nat.le_refl _
  | x :: r => by
    have ih := pieces_length m r
    by_cases hx : x = m
    · subst hx
      rw [pieces_mark, List.length_cons, List.length_cons]
      omega
    · rw [pieces_other r hx]
      cases e : pieces m r with
      | nil => exact absurd e (pieces_ne m r)
      | cons p ps =>
        rw [e] at ih
        show ((([x] ++ p) :: ps) : List Bytes).length ≤ (x :: r).length + 1
        simp only [List.length_cons] at ih ⊢
        omega
/-- no piece is longer than the text -/
theorem pieces_short (m : Nat) : ∀ (l : Bytes), ∀ p ∈ pieces m l, p.length ≤ l.length
  | [], p, h => by
    have : p ∈ ([[]] : List Bytes) := h
    simp at this
    subst this
    exact Nat.le_refl _
  | x :: r, p, h => by
    have ih := pieces_short m r
    by_cases hx : x = m
    · subst hx
      rw [pieces_mark] at h
      rcases List.mem_cons.mp h with rfl | hm
      · exact Nat.zero_le _
      · exact Nat.le_succ_of_le (ih p hm)
    · rw [pieces_other r hx] at h
      cases e : pieces m r with
      | nil => exact absurd e (pieces_ne m r)
      | cons q qs =>
        rw [e] at h ih
        rcases List.mem_cons.mp h with rfl | hm
        · have := ih q List.mem_cons_self
          show ([x] ++ q).length ≤ _
          simp only [List.length_append, List.length_cons, List.length_nil]
          omega
        · exact Nat.le_succ_of_le (ih p (List.mem_cons_of_mem _ hm))
/-- every byte of a piece is one of the text's -/
theorem pieces_mem (m : Nat) : ∀ (l : Bytes), ∀ p ∈ pieces m l, ∀ x ∈ p, x ∈ l
  | [], p, h, x, hx => by
    have : p ∈ ([[]] : List Bytes) := h
    simp at this
    subst this
    cases hx
  | y :: r, p, h, x, hx => by
    have ih := pieces_mem m r
    by_cases hy : y = m
    · subst hy
      rw [pieces_mark] at h
      rcases List.mem_cons.mp h with rfl | hm
      · cases hx
      · exact List.mem_cons_of_mem _ (ih p hm x hx)
    · rw [pieces_other r hy] at h
      cases e : pieces m r with
      | nil => exact absurd e (pieces_ne m r)
      | cons q qs =>
        rw [e] at h ih
        rcases List.mem_cons.mp h with rfl | hm
        · rcases List.mem_cons.mp (show x ∈ y :: q from hx) with rfl | hx
          · exact List.mem_cons_self
          · exact List.mem_cons_of_mem _ (ih q List.mem_cons_self x hx)
        · exact List.mem_cons_of_mem _ (ih p (List.mem_cons_of_mem _ hm) x hx)
/-- the loop of split_at behind i bytes: done, and the open piece from start on -/
def Cut (m : Nat) (l : Bytes) (i : Nat) (done : List Bytes) (start : Nat) : Prop :=
  start ≤ i ∧ pieces m l = done ++ glue ((l.drop start).take (i - start)) (pieces m (l.drop i))
theorem Cut.start (m : Nat) (l : Bytes) : Cut m l 0 [] 0 := by
  refine ⟨Nat.le_refl _, ?_⟩
  show pieces m l = [] ++ glue [] (pieces m l)
  rw [List.nil_append, glue_nil _ (pieces_ne m l)]
theorem drop_of_get {α : Type} : ∀ {l : List α} {i : Nat} {x : α}, l[i]? = some x → l.drop i = x :: l.drop (i + 1)
  | [], _, _, h => by simp at h
  | a :: l, 0, x, h => by
    have : a = x := Option.some.inj h
    subst this
    rfl
  | a :: l, i + 1, x, h => drop_of_get (l := l) (i := i) (x := x) h
theorem take_of_get {α : Type} : ∀ {l : List α} {i : Nat} {x : α}, l[i]? = some x → l.take (i + 1) = l.take i ++ [x]
  | [], _, _, h => by simp at h
  | a :: l, 0, x, h => by
    have : a = x := Option.some.inj h
    subst this
    rfl
  | a :: l, i + 1, x, h => by
    have ih := take_of_get (l := l) (i := i) (x := x) h
    show a :: l.take (i + 1) = (a :: l.take i) ++ [x]
    rw [ih]
    rfl
theorem Cut.mark {m : Nat} {l : Bytes} {i start : Nat} {done : List Bytes} (c : Cut m l i done start) (h : l[i]? = some m) : Cut m l (i + 1) (done ++ [(l.drop start).take (i - start)]) (i + 1) := by
  obtain ⟨c1, c2⟩ := c
  refine ⟨Nat.le_refl _, ?_⟩
  rw [c2, drop_of_get h, pieces_mark, Nat.sub_self, List.take_zero, glue_nil _ (pieces_ne m _), List.append_assoc]
  show done ++ ((((l.drop start).take (i - start)) ++ []) :: _) = _
  rw [List.append_nil]
  rfl
theorem Cut.other {m x : Nat} {l : Bytes} {i start : Nat} {done : List Bytes} (c : Cut m l i done start) (h : l[i]? = some x) (hx : x ≠ m) : Cut m l (i + 1) done start := by
  obtain ⟨c1, c2⟩ := c
  refine ⟨Nat.le_succ_of_le c1, ?_⟩
  have hk : (l.drop start)[i - start]? = some x := by
    rw [List.getElem?_drop]
    rw [show start + (i - start) = i by omega]
    exact h
  rw [c2, drop_of_get h, pieces_other _ hx, glue_glue, show i + 1 - start = (i - start) + 1 by omega, take_of_get hk]
theorem Cut.fin {m : Nat} {l : Bytes} {start : Nat} {done : List Bytes} (c : Cut m l l.length done start) : pieces m l = done ++ [l.drop start] := by
  obtain ⟨c1, c2⟩ := c
  rw [c2, List.drop_length]
  have e : (l.drop start).take (l.length - start) = l.drop start := by
    rw [← List.length_drop]
    exact List.take_length
  rw [e]
  show done ++ [l.drop start ++ []] = _
  rw [List.append_nil]
/-! ### names, numbers -/
theorem name_none_of {l : Bytes} (h : l.length < 1 ∨ 16 < l.length) : nameRead l = none := by
  unfold nameRead
  refine if_pos ?_
  rcases h with h | h
  · refine .inl ?_
    cases l with
    | nil => rfl
    | cons _ _ => simp at h
  · exact .inr (.inl h)
theorem name_none_at {l : Bytes} {i x : Nat} (h : l[i]? = some x) (hx : isLetter x = false) : nameRead l = none := by
  unfold nameRead
  refine if_pos (.inr (.inr ?_))
  rw [List.all_eq_false]
  exact ⟨x, List.mem_of_getElem? h, by rw [hx]; decide⟩
theorem name_some_of {l : Bytes} (h1 : 1 ≤ l.length) (h2 : l.length ≤ 16) (h3 : l.all isLetter = true) : nameRead l = some l := by
  unfold nameRead
  refine if_neg ?_
  rintro (h | h | h)
  · cases l with
    | nil => simp at h1
    | cons _ _ => simp at h
  · omega
  · rw [h3] at h; cases h
theorem name_is {l n : Bytes} (h : nameRead l = some n) : n = l := by
  unfold nameRead at h
  split at h
  · cases h
  · exact (Option.some.inj h).symm
theorem letter_iff {x : Nat} : isLetter x = true ↔ 97 ≤ x ∧ x ≤ 122 := by
  unfold isLetter
  simp
theorem digit_iff {x : Nat} : isDigit x = true ↔ 48 ≤ x ∧ x ≤ 57 := by
  unfold isDigit
  simp
theorem all_more {p : Nat → Bool} {l : Bytes} {i x : Nat} (h : (l.take i).all p = true) (hi : l[i]? = some x) (hx : p x = true) : (l.take (i + 1)).all p = true := by
  rw [take_of_get hi, List.all_append, h]
  simp [hx]
def val (l : Bytes) : Nat := l.foldl (fun (v c : Nat) => 10 * v + (c - 48)) 0
theorem val_more {l : Bytes} {i x : Nat} (hi : l[i]? = some x) : val (l.take (i + 1)) = 10 * val (l.take i) + (x - 48) := by
  unfold val
  rw [take_of_get hi, List.foldl_append]
  rfl
theorem val_lt : ∀ (l : Bytes) (a : Nat), l.all isDigit = true → l.foldl (fun (v c : Nat) => 10 * v + (c - 48)) a < (a + 1) * 10 ^ l.length
  | [], a, _ => by simp
  | x :: r, a, h => by
    have hh : isDigit x = true ∧ r.all isDigit = true := by simpa using h
    have ih := val_lt r (10 * a + (x - 48)) hh.2
    have hx := digit_iff.mp hh.1
    rw [List.foldl_cons, List.length_cons, Nat.pow_succ, Nat.mul_comm (10 ^ r.length) 10, ← Nat.mul_assoc]
    exact Nat.lt_of_lt_of_le ih (Nat.mul_le_mul_right _ (by omega))
theorem val_small {l : Bytes} (h : l.all isDigit = true) (hl : l.length ≤ 3) : val l < 1000 := by
  have := val_lt l 0 h
  unfold val
  refine Nat.lt_of_lt_of_le this ?_
  have := Nat.pow_le_pow_right (n := 10) (by decide) hl
  omega
theorem num_none_of {l : Bytes} (h : l.length < 1 ∨ 3 < l.length) : number l = none := by
  unfold number
  refine if_pos ?_
  rcases h with h | h
  · refine .inl ?_
    cases l with
    | nil => rfl
    | cons _ _ => simp at h
  · exact .inr (.inl h)
theorem num_none_zero {l : Bytes} (h : 1 < l.length) (h0 : l[0]? = some 48) : number l = none := by
  unfold number
  refine if_pos (.inr (.inr (.inr ⟨h, ?_⟩)))
  cases l with
  | nil => cases h0
  | cons x r => exact Option.some.inj h0
theorem num_none_at {l : Bytes} {i x : Nat} (h : l[i]? = some x) (hx : isDigit x = false) : number l = none := by
  unfold number
  refine if_pos (.inr (.inr (.inl ?_)))
  rw [List.all_eq_false]
  exact ⟨x, List.mem_of_getElem? h, by rw [hx]; decide⟩
theorem num_some_of {l : Bytes} (h1 : 1 ≤ l.length) (h2 : l.length ≤ 3) (h3 : l.all isDigit = true) (h4 : ¬ (1 < l.length ∧ l[0]? = some 48)) : number l = some (val l) := by
  unfold number
  refine if_neg ?_
  rintro (h | h | h | ⟨h, h'⟩)
  · cases l with
    | nil => simp at h1
    | cons _ _ => simp at h
  · omega
  · rw [h3] at h; cases h
  · refine h4 ⟨h, ?_⟩
    cases l with
    | nil => simp at h1
    | cons x r =>
      have : x = 48 := h'
      rw [this]
      rfl
/-! ### each -/
theorem each_none {α : Type} {f : Bytes → Option α} : ∀ {l : List Bytes} {i : Nat} {b : Bytes}, l[i]? = some b → f b = none → each f l = none
  | [], _, _, h, _ => by simp at h
  | a :: l, 0, b, h, e => by
    have : a = b := Option.some.inj h
    subst this
    unfold each
    rw [e]
  | a :: l, i + 1, b, h, e => by
    have ih := each_none (l := l) (i := i) (b := b) h e
    unfold each
    rw [ih]
    cases f a <;> rfl
theorem each_some {α : Type} {f : Bytes → Option α} : ∀ {l : List Bytes} {ys : List α}, ys.length = l.length → (∀ (i : Nat) (b : Bytes), l[i]? = some b → ∃ y, ys[i]? = some y ∧ f b = some y) → each f l = some ys
  | [], ys, h, _ => by
    cases ys with
    | nil => rfl
    | cons _ _ => simp at h
  | a :: l, ys, h, k => by
    cases ys with
    | nil => simp at h
    | cons y ys =>
      obtain ⟨z, e1, e2⟩ := k 0 a rfl
      have e1 : y = z := Option.some.inj e1
      subst e1
      have ih := each_some (f := f) (l := l) (ys := ys) (by simpa using h) (fun i b hb => k (i + 1) b hb)
      unfold each
      rw [e2, ih]
/-- what has been read of the first i -/
def Some1 {α : Type} (f : Bytes → Option α) (l : List Bytes) (i : Nat) (ys : List α) : Prop := each f (l.take i) = some ys
theorem each_append {α : Type} {f : Bytes → Option α} : ∀ {a b : List Bytes}, each f (a ++ b) = match each f a, each f b with
    | some x, some y => some (x ++ y)
    | _, _ => none
  | [], b => by
    show each f b = _
    cases each f b <;> rfl
  | x :: a, b => by
    have ih := each_append (f := f) (a := a) (b := b)
    show (match f x, each f (a ++ b) with
      | some x, some y => some (x :: y)
      | _, _ => none) = _
    rw [ih]
    show _ = match (match f x, each f a with
      | some x, some y => some (x :: y)
      | _, _ => none), each f b with
      | some x, some y => some (x ++ y)
      | _, _ => none
    cases f x <;> cases each f a <;> cases each f b <;> rfl
theorem each_length {α : Type} {f : Bytes → Option α} : ∀ {l : List Bytes} {ys : List α}, each f l = some ys → ys.length = l.length
  | [], ys, h => by
    have : ([] : List α) = ys := Option.some.inj h
    subst this
    rfl
  | a :: l, ys, h => by
    have h' : (match f a, each f l with
      | some x, some y => some (x :: y)
      | _, _ => none) = some ys := h
    cases e1 : f a with
    | none => rw [e1] at h'; cases h'
    | some x =>
      cases e2 : each f l with
      | none => rw [e1, e2] at h'; cases h'
      | some zs =>
        rw [e1, e2] at h'
        have : x :: zs = ys := Option.some.inj h'
        subst this
        have := each_length (f := f) (l := l) (ys := zs) e2
        simp [this]
theorem each_more {α : Type} {f : Bytes → Option α} {l : List Bytes} {i : Nat} {b : Bytes} {ys : List α} {y : α} (h : each f (l.take i) = some ys) (hi : l[i]? = some b) (hb : f b = some y) : each f (l.take (i + 1)) = some (ys ++ [y]) := by
  rw [take_of_get hi, each_append, h]
  show (match some ys, each f [b] with
    | some x, some y => some (x ++ y)
    | _, _ => none) = _
  have : each f [b] = some [y] := by
    show (match f b, each f [] with
      | some x, some y => some (x :: y)
      | _, _ => none) = _
    rw [hb]
    rfl
  rw [this]
/-! ### versions, ranges, needs -/
theorem ver_none_len {l : Bytes} (h : (pieces 46 l).length ≠ 3) : verRead l = none := by
  unfold verRead
  split
  · rename_i x y z e
    rw [e] at h
    exact absurd rfl h
  · rfl
theorem ver_each {l : Bytes} (h : (pieces 46 l).length = 3) : verRead l = each number (pieces 46 l) := by
  unfold verRead
  split
  · rename_i x y z e
    rw [e]
    cases hx : number x <;> cases hy : number y <;> cases hz : number z <;> simp only [each, hx, hy, hz]
  · rename_i hn
    exfalso
    match e : pieces 46 l, h, hn with
    | [x, y, z], _, hn => exact hn x y z rfl
/-- an atom as the program holds it -/
def code : Atom → Nat × Ver
  | .any => (62, [0, 0, 0])
  | .just v => (61, v)
  | .since v => (62, v)
  | .below v => (60, v)
  | .near v => (126, v)
  | .like v => (94, v)
theorem atom_any : atomRead [42] = some .any := rfl
def signs : List Nat := [61, 62, 60, 126, 94]
theorem atom_nil : atomRead [] = none := rfl
theorem atom_none {x : Nat} {r : Bytes} (h : x ∉ signs) (hs : ¬ (x = 42 ∧ r = [])) : atomRead (x :: r) = none := by
  unfold signs at h
  simp only [List.mem_cons, List.not_mem_nil, or_false, not_or] at h
  obtain ⟨h1, h2, h3, h4, h5⟩ := h
  unfold atomRead
  split
  · rename_i q e
    cases e
    refine if_neg fun z => hs ⟨rfl, ?_⟩
    cases r with
    | nil => rfl
    | cons _ _ => simp at z
  · rename_i e; cases e; exact absurd rfl h1
  · rename_i e; cases e; exact absurd rfl h2
  · rename_i e; cases e; exact absurd rfl h3
  · rename_i e; cases e; exact absurd rfl h4
  · rename_i e; cases e; exact absurd rfl h5
  · rfl
theorem atom_bad {x : Nat} {r : Bytes} (h : x ∈ signs) (hv : verRead r = none) : atomRead (x :: r) = none := by
  unfold signs at h
  simp only [List.mem_cons, List.not_mem_nil, or_false] at h
  rcases h with rfl | rfl | rfl | rfl | rfl <;> (show (verRead r).map _ = none; rw [hv]; rfl)
theorem atom_good {x : Nat} {r : Bytes} {v : Ver} (h : x ∈ signs) (hv : verRead r = some v) : ∃ a, atomRead (x :: r) = some a ∧ code a = (x, v) := by
  unfold signs at h
  simp only [List.mem_cons, List.not_mem_nil, or_false] at h
  rcases h with rfl | rfl | rfl | rfl | rfl
  · exact ⟨.just v, by show (verRead r).map _ = _; rw [hv]; rfl, rfl⟩
  · exact ⟨.since v, by show (verRead r).map _ = _; rw [hv]; rfl, rfl⟩
  · exact ⟨.below v, by show (verRead r).map _ = _; rw [hv]; rfl, rfl⟩
  · exact ⟨.near v, by show (verRead r).map _ = _; rw [hv]; rfl, rfl⟩
  · exact ⟨.like v, by show (verRead r).map _ = _; rw [hv]; rfl, rfl⟩
/-- a range -/
def rangeRead (l : Bytes) : Option (List Atom) := if 4 < (pieces 38 l).length then none else each atomRead (pieces 38 l)
theorem need_none_len {l : Bytes} (h : (pieces 58 l).length ≠ 2) : needRead l = none := by
  unfold needRead
  split
  · rename_i n r e
    rw [e] at h
    exact absurd rfl h
  · rfl
theorem need_of {l n r : Bytes} (h : pieces 58 l = [n, r]) : needRead l = match nameRead n, rangeRead r with
    | some n, some l => some ⟨n, l⟩
    | _, _ => none := by
  unfold needRead rangeRead ATOMS
  rw [h]
  show (if 4 < (pieces 38 r).length then none else _) = _
  by_cases c : 4 < (pieces 38 r).length
  · rw [if_pos c, if_pos c]
    cases nameRead n <;> rfl
  · rw [if_neg c, if_neg c]
    cases nameRead n <;> cases each atomRead (pieces 38 r) <;> rfl
/-! ### lines -/
theorem item_none_len {l : Bytes} (h : (pieces 32 l).length < 2 ∨ 10 < (pieces 32 l).length) : itemRead l = none := by
  unfold itemRead
  split
  · rename_i n v r e
    rw [e] at h
    have h8 : needsRead r = none := by
      unfold needsRead NEEDS
      refine if_pos ?_
      simp only [List.length_cons] at h
      omega
    rw [h8]
    cases nameRead n <;> cases verRead v <;> rfl
  · rfl
theorem item_of {l n v : Bytes} {r : List Bytes} (h : pieces 32 l = n :: v :: r) (hl : r.length ≤ 8) : itemRead l = match each needRead r, nameRead n, verRead v with
    | some l, some n, some v => some ⟨n, v, l⟩
    | _, _, _ => none := by
  unfold itemRead
  rw [h]
  have h8 : needsRead r = each needRead r := by
    unfold needsRead NEEDS
    exact if_neg (by omega)
  dsimp only
  rw [h8]
  cases nameRead n <;> cases verRead v <;> cases each needRead r <;> rfl
theorem lines_full {k : Nat} {r : Register} {b : Bytes} {l : List Bytes} (h : 128 ≤ r.length) : linesRead k r (b :: l) = .error k := by
  unfold linesRead
  split
  · rfl
  · exact if_pos (.inr h)
theorem lines_bad {k : Nat} {r : Register} {b : Bytes} {l : List Bytes} (h : itemRead b = none) : linesRead k r (b :: l) = .error k := by
  unfold linesRead
  rw [h]
def Held (r : Register) (n : Bytes) (v : Ver) : Prop := ∃ y ∈ r, y.name = n ∧ y.ver = v
theorem held_iff {r : Register} {x : Item} : r.any (fun (y : Item) => y.name == x.name && y.ver == x.ver) = true ↔ Held r x.name x.ver := by
  rw [List.any_eq_true]
  constructor
  · rintro ⟨y, hy, h⟩
    rw [Bool.and_eq_true] at h
    exact ⟨y, hy, eq_of_beq h.1, eq_of_beq h.2⟩
  · rintro ⟨y, hy, h1, h2⟩
    refine ⟨y, hy, ?_⟩
    rw [h1, h2, beq_self_eq_true, beq_self_eq_true]
    rfl
theorem lines_twice {k : Nat} {r : Register} {b : Bytes} {l : List Bytes} {x : Item} (h : itemRead b = some x) (hh : Held r x.name x.ver) : linesRead k r (b :: l) = .error k := by
  rw [linesRead, h]
  exact if_pos (.inl (held_iff.mpr hh))
theorem lines_more {k : Nat} {r : Register} {b : Bytes} {l : List Bytes} {x : Item} (h : itemRead b = some x) (hh : ¬ Held r x.name x.ver) (hl : r.length < 128) : linesRead k r (b :: l) = linesRead (k + 1) (r ++ [x]) l := by
  rw [linesRead, h]
  refine if_neg ?_
  rintro (z | z)
  · exact hh (held_iff.mp z)
  · unfold ITEMS at z
    omega
/-! ### the answer -/
theorem nats_ints {b : List Int} (h : ∀ x ∈ b, 0 ≤ x) : (Ql76Neutral.nats b).map (fun (n : Nat) => (n : Int)) = b := by
  unfold Ql76Neutral.nats
  rw [List.map_map]
  conv => rhs; rw [← List.map_id b]
  refine List.map_congr_left fun x hx => ?_
  have := h x hx
  show ((x.toNat : Nat) : Int) = x
  omega
def ans (l : Bytes) : List Int := match read l with
  | .ok r => [(r.length : Int)]
  | .error k => [-1, (k : Int)]
theorem pk_read_is {b : List Int} (h : b.length ≤ 32768) : PyQl76.pk_read b = ans (Ql76Neutral.nats b) := by
  unfold PyQl76.pk_read
  show Ql76.answer (.read ((b.length : Int)).toNat (Ql76Neutral.nats b)) = _
  show (if TEXT < ((b.length : Int)).toNat then [-2] else _) = _
  have : ¬ TEXT < ((b.length : Int)).toNat := by
    unfold TEXT
    omega
  rw [if_neg this]
  rfl
end Fp
/-! A dict whose keys are pairs of tuples of whole numbers. -/
namespace FpR
open PySem PySem.Spec PyProof.Rows L2
/-- a list of natural numbers as the program's ints -/
def vN (l : List Nat) : List V := l.map fun (n : Nat) => V.int (n : Int)
/-- an entry: key, the key's own address, value -/
abbrev Ent := NestedKey × Addr × V
/-- the dict at a with these entries, told by its own object alone -/
def dnO (P : Program) (w : World) (a : Addr) (es : List Ent) : HO := .ext fun h => (a == sysModules) = false ∧ ∃ xs : List (NestedKey × Addr × Value),
  Paired (fun (p : Ent) (q : NestedKey × Addr × Value) => p.1 = q.1 ∧ p.2.1 = q.2.1 ∧ RelV p.2.2 q.2.2) es xs ∧
    ∃ o ds ep, h.get? a = some o ∧ o.ExactDict ∧ o.data = .dict ds ep ∧ ds.toList = xs.map (entryOfKey (nestedKind P w)) ∧ (xs.map (·.1)).Nodup
theorem dn_mk {P : Program} {w : World} {H : Hp} {h : Heap} {a : Addr} {es : List Ent} {xs : List (NestedKey × Addr × Value)} (ha : (a == sysModules) = false)
    (hp : Paired (fun (p : Ent) (q : NestedKey × Addr × Value) => p.1 = q.1 ∧ p.2.1 = q.2.1 ∧ RelV p.2.2 q.2.2) es xs) (hd : h.DictOfH (nestedKind P w) a xs) : ObjOk P w H h a (dnO P w a es) := by
  obtain ⟨o, ds, ep, ho, hx, hdt, hes, _, hnd⟩ := hd
  refine ⟨⟨ha, xs, hp, o, ds, ep, ho, hx, hdt, hes, hnd⟩, ⟨o, ho⟩, fun h1 h2 z k => ?_⟩
  obtain ⟨z1, ys, z2, o', ds', ep', e', r⟩ := z
  exact ⟨z1, ys, z2, o', ds', ep', k _ e', r⟩
/-- the tuple at t is the key k, wherever H is held -/
def KeyAt (H : Hp) (k : NestedKey) (t : Addr) : Prop := ∀ (P : Program) (w : World) (h : Heap), HOk P w H h → (nestedKind P w).is h k t
theorem dn_get {P : Program} {w : World} {H : Hp} {h : Heap} {a : Addr} {es : List Ent} (hok : HOk P w H h) (e : H a = some (dnO P w a es)) (hk : ∀ p ∈ es, KeyAt H p.1 p.2.1) :
    (a == sysModules) = false ∧ ∃ xs : List (NestedKey × Addr × Value), Paired (fun (p : Ent) (q : NestedKey × Addr × Value) => p.1 = q.1 ∧ p.2.1 = q.2.1 ∧ RelV p.2.2 q.2.2) es xs ∧ h.DictOfH (nestedKind P w) a xs := by
  have x : ObjOk P w H h a (dnO P w a es) := hok a _ e
  obtain ⟨⟨ha, xs, hp, o, ds, ep, ho, hx, hdt, hes, hnd⟩, _, _⟩ := x
  refine ⟨ha, xs, hp, o, ds, ep, ho, hx, hdt, hes, fun y hy => ?_, hnd⟩
  have key : ∀ {l : List Ent} {ys : List (NestedKey × Addr × Value)}, Paired (fun (p : Ent) (q : NestedKey × Addr × Value) => p.1 = q.1 ∧ p.2.1 = q.2.1 ∧ RelV p.2.2 q.2.2) l ys → (∀ p ∈ l, KeyAt H p.1 p.2.1) → ∀ y ∈ ys, (nestedKind P w).is h y.1 y.2.1 := by
    intro l ys r
    induction r with
    | nil => intro _ y hy; cases hy
    | cons r1 _ ih =>
      intro hl y hy
      rcases List.mem_cons.mp hy with rfl | hin
      · rw [← r1.1, ← r1.2.1]
        exact hl _ List.mem_cons_self P w h hok
      · exact ih (fun p hp => hl p (List.mem_cons_of_mem _ hp)) y hin
  exact key hp hk y hy
/-- is k one of the keys -/
def hasK (es : List Ent) (k : NestedKey) : Bool := es.any fun p => decide (p.1 = k)
theorem atKey_has {es : List Ent} {xs : List (NestedKey × Addr × Value)} (r : Paired (fun (p : Ent) (q : NestedKey × Addr × Value) => p.1 = q.1 ∧ p.2.1 = q.2.1 ∧ RelV p.2.2 q.2.2) es xs) (k : NestedKey) : (atKey xs k).isSome = hasK es k := by
  induction r with
  | nil => rfl
  | @cons p q l ys r1 _ ih =>
    unfold hasK atKey at ih ⊢
    rw [List.any_cons, List.find?_cons, ← r1.1]
    by_cases h : p.1 = k
    · simp [h]
    · rw [decide_eq_false h]
      simpa using ih
theorem paired_append {α β : Type} {R : α → β → Prop} : ∀ {a c : List α} {b d : List β}, Paired R a b → Paired R c d → Paired R (a ++ c) (b ++ d)
  | _, _, _, _, .nil, s => s
  | _, _, _, _, .cons r t, s => .cons r (paired_append t s)
section
variable {X : Cx} {i o value : Expr} {ty td tv : TE} {pos pos' : Pos}
/-- {} -/
def tDNewN (P : Program) (w : World) : TE := fun _ H Q => ∀ p, H p = none → Q (.ref p) (upd H p (dnO P w p []))
theorem pe_dnewN : PE X (.Dict [] [] pos) (tDNewN X.prog X.w) := by
  refine ⟨fun pins s σ H Q I h => wpAny_Dict_empty ⟨.ref s.heap.objs.size, _, I.laid (a := s.heap.objs.size) (o := dnO X.prog X.w s.heap.objs.size []) (t' := s.toks) (fun _ _ q => Heap.get?_push_of_some _ q) (Nat.le_refl _) ?_, rfl, h _ (I.hok.fresh (Nat.le_refl _))⟩⟩
  exact dn_mk (xs := []) (beq_eq_false_iff_ne.mpr (Ne.symm (Nat.ne_of_lt I.big))) .nil (Heap.DictOfH.new s.heap)
/-- k in d -/
def tDInK (P : Program) (w : World) (ty td : TE) : TE := fun σ H Q => ty σ H fun y H1 => td σ H1 fun x H2 => ∃ (a t : Addr) (es : List Ent) (k : NestedKey), x = .ref a ∧ y = .ref t ∧ H2 a = some (dnO P w a es) ∧ (∀ p ∈ es, KeyAt H2 p.1 p.2.1) ∧ KeyAt H2 k t ∧ Q (.bl (hasK es k)) H2
theorem pc_dinK (hu : X.A.units + 64 < cLine) (hi : PE X i ty) (ho : PE X o td) : PC X .In i o (tDInK X.prog X.w ty td) := by
  refine ⟨fun pins s σ H Q I h => ?_⟩
  refine thn (hi.run pins s σ H _ I h) fun iv s1 ⟨y, H1, I1, ry, q1⟩ => thn (ho.run pins s1 σ H1 _ I1 q1) fun u s2 hh => ?_
  obtain ⟨x, H2, I2, rx, a, t, es, k, rfl, rfl, hd, hk, hkt, q2⟩ := hh
  obtain rfl : u = Value.ref a := rx
  obtain rfl : iv = Value.ref t := ry
  obtain ⟨ha, xs, hp, hm⟩ := dn_get I2.hok hd hk
  refine wpAny_in_heap (knd := nestedKind X.prog X.w) (by show X.A.units + 1 + 8 < cLine; omega) (hkt _ _ _ I2.hok) ha hm ?_
  rw [atKey_has hp k]
  exact ⟨.bl (hasK es k), H2, I2.tok _, rfl, q2⟩
/-- d[k] = v, k not there yet -/
def sDPutK (P : Program) (w : World) (td ty tv : TE) : TS := fun D σ H => tv σ H fun v H1 => td σ H1 fun x H2 => ty σ H2 fun y H3 => ∃ (a t : Addr) (es : List Ent) (k : NestedKey), x = .ref a ∧ y = .ref t ∧ H3 a = some (dnO P w a es) ∧ (∀ p ∈ es, KeyAt H3 p.1 p.2.1) ∧ KeyAt H3 k t ∧ hasK es k = false ∧ es.length ≤ sizeLine ∧
  D.nx σ (upd H3 a (dnO P w a (es ++ [(k, t, v)])))
theorem ps_dputK (hu : X.A.units + 64 < cLine) (ho : PE X o td) (hi : PE X i ty) (hv : PE X value tv) (hs : swapsWith value (some (.Subscript o i pos')) pos.line X.env = pure false) :
    PS X (.Assign [.Subscript o i pos'] value pos) (sDPutK X.prog X.w td ty tv) := by
  refine ⟨fun pins s σ H D I h => ?_⟩
  refine wpAny_Assign_Subscript (thn (hv.run pins s σ H _ I h) fun r s1 ⟨v, H1, I1, rv, q1⟩ => thn (ho.run pins s1 σ H1 _ I1 q1) fun u s2 ⟨x, H2, I2, rx, q2⟩ => thn (hi.run pins s2 σ H2 _ I2 q2) fun iv s3 hh => ?_) hs
  obtain ⟨y, H3, I3, ry, a, t, es, k, rfl, rfl, hd, hk, hkt, hno, hsz, q3⟩ := hh
  obtain rfl : u = Value.ref a := rx
  obtain rfl : iv = Value.ref t := ry
  obtain ⟨ha, xs, hp, hm⟩ := dn_get I3.hok hd hk
  have hl : xs.length ≤ sizeLine := by rw [← Paired.length hp]; exact hsz
  refine wpAny_setItem_heap (knd := nestedKind X.prog X.w) (hsz := hl) (by show X.A.units + 1 + 8 < cLine; omega) (hkt _ _ _ I3.hok) hm fun h' hm' sb => ?_
  have hn : atKey xs k = none := by
    have z := atKey_has hp k
    rw [hno] at z
    cases q : atKey xs k with
    | none => rfl
    | some _ => rw [q] at z; cases z
  rw [storedH_new hn] at hm'
  have heo : ∃ ob, h'.get? a = some ob := by obtain ⟨ob, _, _, e, _⟩ := hm'; exact ⟨ob, e⟩
  refine ⟨σ, _, I3.write (x := a) (e := a) (o := dnO X.prog X.w a (es ++ [(k, t, v)])) (t' := s3.toks + (nestedKind X.prog X.w).draws k) (by rw [hd]; exact True.intro) (.inl rfl) (fun b ob hb q => (sb.2 b hb).trans q) heo ?_, q3⟩
  exact dn_mk ha (paired_append hp (.cons ⟨rfl, rfl, rv⟩ .nil)) hm'
end
/-! ### a pair of tuples of numbers -/
def nums (l : List Nat) : List NestedKey := l.map fun (n : Nat) => NestedKey.num (n : Int)
def key2 (a b : List Nat) : NestedKey := .tup [.tup (nums a), .tup (nums b)]
theorem nums_inj : ∀ {a b : List Nat}, nums a = nums b → a = b
  | [], [], _ => rfl
  | [], _ :: _, h => by cases h
  | _ :: _, [], h => by cases h
  | x :: a, y :: b, h => by
    have h' : NestedKey.num (x : Int) :: nums a = NestedKey.num (y : Int) :: nums b := h
    obtain ⟨h1, h2⟩ := List.cons.inj h'
    have h3 : (x : Int) = (y : Int) := NestedKey.num.inj h1
    rw [nums_inj h2, Int.ofNat.inj h3]
theorem key2_inj {a b c d : List Nat} : key2 a b = key2 c d ↔ a = c ∧ b = d := by
  constructor
  · intro h
    have h' := NestedKey.tup.inj h
    obtain ⟨h1, h2⟩ := List.cons.inj h'
    obtain ⟨h3, _⟩ := List.cons.inj h2
    exact ⟨nums_inj (NestedKey.tup.inj h1), nums_inj (NestedKey.tup.inj h3)⟩
  · rintro ⟨rfl, rfl⟩
    rfl
theorem nums_all {h : Heap} : ∀ {l : List Nat} {us : List Value}, Vals (vN l) us → NestedAll h (nums l) us
  | [], _, r => by cases r; exact .nil
  | x :: l, _, r => by
    cases r with
    | cons r1 r2 =>
      obtain ⟨t, rfl⟩ := r1
      exact .cons (.int _ _) (nums_all r2)
theorem nums_depth : ∀ (l : List Nat), NestedKey.depthAll (nums l) = 0
  | [] => by show NestedKey.depthAll [] = 0; rw [NestedKey.depthAll]
  | x :: l => by
    show NestedKey.depthAll (NestedKey.num (x : Int) :: nums l) = 0
    rw [NestedKey.depthAll, NestedKey.depth, nums_depth l]
    rfl
/-- the tuple at t is the pair of the tuples of a and b -/
def Pair2 (H : Hp) (t : Addr) (a b : List Nat) : Prop := ∃ n v, H t = some (.tup [.ref n, .ref v]) ∧ H n = some (.tup (vN a)) ∧ H v = some (.tup (vN b))
theorem tup_is {P : Program} {w : World} {H : Hp} {h : Heap} {n : Addr} {l : List Nat} (hok : HOk P w H h) (e : H n = some (.tup (vN l))) : NestedIs h (.tup (nums l)) (.ref n) := by
  have x : ObjOk P w H h n (.tup (vN l)) := hok n _ e
  obtain ⟨_, its, r, o, ho, hc, k, hd⟩ := x
  exact .tup ho hc hd (nums_all r)
theorem Pair2.key {H : Hp} {t : Addr} {a b : List Nat} (p : Pair2 H t a b) : KeyAt H (key2 a b) t := by
  obtain ⟨n, v, ht, hn, hv⟩ := p
  intro P w h hok
  have x : ObjOk P w H h t (.tup [.ref n, .ref v]) := hok t _ ht
  obtain ⟨_, its, r, o, ho, hc, k, hd⟩ := x
  refine ⟨.tup ho hc hd ?_, ?_⟩
  · cases r with
    | cons r1 r2 =>
      cases r2 with
      | cons r2 r3 =>
        cases r3
        cases r1
        cases r2
        exact .cons (tup_is hok hn) (.cons (tup_is hok hv) .nil)
  · show NestedKey.depth (.tup [.tup (nums a), .tup (nums b)]) ≤ 8
    rw [NestedKey.depth, NestedKey.depthAll, NestedKey.depthAll, NestedKey.depthAll, NestedKey.depth, NestedKey.depth, nums_depth, nums_depth]
    decide
end FpR
/-! A list comprehension whose element is a call that may raise. -/
namespace FpR
open PySem PySem.Spec PyProof.Rows L2
theorem note_env (e : Value) {cenv env : Env} (h : cenv.frame = env.frame) : noteFrame e cenv = noteFrame e env := by
  unfold noteFrame PySem.frameOf; rw [h]
/-- what a call in the block let out -/
def CallOut (Y : Cx) (W : XK) (u : Value) (s' : Shared) : Prop := ∃ pins σ H s, Inv Y pins σ H s ∧ L2N.CX Y.prog Y.w Y.stack H s W u s'
/-- a block whose calls may raise -/
abbrev bx (X : Cx) (s : Shared) (H : Hp) (scope : Scope) (cenv : Env) (fp : List Addr) (W : XK) : Cx := (X.blk s H scope cenv fp).wish (CallOut (X.blk s H scope cenv fp) W)
theorem pass_bx {X : Cx} {s : Shared} {H : Hp} {scope : Scope} {cenv : Env} {fp : List Addr} {W : XK} (σ : L2.St) : PassesAt (L2N.CX X.prog X.w) (bx X s H scope cenv fp W) σ W :=
  fun pins H' s1 e s' J c => ⟨pins, σ, H', s1, J.unwish, c⟩
/-- a raise that flies out of the block: noted by the def's frame, the block let go -/
theorem out_bx {X : Cx} {pins : List (Addr × Obj)} {σ : L2.St} {H3 : Hp} {s3 : Shared} {scope : Scope} {ce : Env} {fp : List Addr} {W : XK} (hs : X.stack = X.env :: X.outer) (hf : X.env.frame = some X.env.locals)
    (hcf : ce.frame = X.env.frame) (hcl : ce.locals = s3.heap.objs.size) (tk : L2N.Takes X (fun cls d _ H => W cls d H)) (I3 : Inv X pins σ H3 s3) (f3 : ∀ b ∈ fp, FpOk X pins H3 b ∧ b < s3.heap.objs.size)
    {u : Value} {s' : Shared} (x : CallOut (X.blk s3 H3 scope ce fp) W u s') :
    notedBy (model X.prog X.w) X.A ce (CompFails (model X.prog X.w) X.A X.xe ce) u s' := by
  obtain ⟨pn, σ1, H1, s1, J, c⟩ := x
  have xx := L2N.XE.of_call (X := X.blk s3 H3 scope ce fp) (W := fun cls d _ H => W cls d H) J (fun _ _ _ h => h) c
  obtain ⟨a, B0, H0, cls0, d0, rfl, fl0, c'⟩ := c
  obtain ⟨a', B, sI, pn2, σ2, H2, cls, d, ea, JI, nb, up, sky, na, os, ag, w⟩ := xx
  obtain rfl : a = a' := Value.ref.inj ea
  obtain ⟨_, _, _, oe0, vs0, T0, oT0, ts0, he0, _, hd0, h10, _, _, hT0, hdT0, h30⟩ := id fl0
  have fl : HandSPX.FlyingZ B X.stack a (L2N.Zn cls d) s'.heap := by
    rcases sky with ⟨_, _, _, oe, vs, he, _, hd, h1⟩ | fl | ⟨_, _, _, oe, vs, T, oT, ts, he, _, hd, h1, _, _, hT, hdT, h3⟩
    · obtain rfl : oe0 = oe := Option.some.inj (he0.symm.trans he)
      obtain rfl : vs0 = vs := Data.fields.inj (hd0.symm.trans hd)
      have z := h10.symm.trans h1
      cases z
    · exact fl
    · obtain rfl : oe0 = oe := Option.some.inj (he0.symm.trans he)
      obtain rfl : vs0 = vs := Data.fields.inj (hd0.symm.trans hd)
      obtain rfl : T0 = T := Value.ref.inj (Option.some.inj (h10.symm.trans h1))
      obtain rfl : oT0 = oT := Option.some.inj (hT0.symm.trans hT)
      obtain rfl : ts0 = ts := Data.fields.inj (hdT0.symm.trans hdT)
      have z := Option.some.inj (h30.symm.trans h3)
      exact absurd z (by unfold rawInt; intro q; cases q)
  have hfr : X.A.frames = some (X.env :: X.outer) := by rw [I3.ok.frames, hs]
  rw [hs] at fl
  -- the def's own state without the exception
  have I5 : Inv X pins σ H2 sI := I3.call' (ch := fp) JI.os JI.base JI.hok JI.bare fun b hb => ⟨(f3 b hb).1.2.2.2.1, (f3 b hb).1.2.1, (f3 b hb).1.2.2.2.2.1, (f3 b hb).1.2.2.2.2.2⟩
  have nbC : ∀ {b o}, sI.heap.get? b = some o → b ∉ frs X.stack → B.get? b = some o := fun {b o} e hb => nb b o e hb
  -- the block's names stand
  obtain ⟨mC, hnC, _⟩ := JI.loc
  have hnC : sI.heap.Ns ce.locals mC := hnC
  have cF : ce.locals ∉ frs X.stack := fun hm => by
    have z : ce.locals ∈ X.env.locals :: X.fs := I3.stkSub _ hm
    rw [hcl] at z
    rcases List.mem_cons.mp z with zL | z
    · exact absurd I3.lt (by rw [← zL]; exact Nat.lt_irrefl _)
    · exact I3.nofs (Nat.le_refl _) z
  show wpAny _ _ (noteFrame (.ref a) ce) _ _ _
  rw [note_env _ hcf]
  refine PXN.looks_onZ L2N.Zn.steady hfr hf fl fun h1 held1 up1 => ?_
  have hn1 : h1.Ns ce.locals mC := by
    obtain ⟨oC, es, ep, eC, dC, r⟩ := hnC
    obtain ⟨sl, e1⟩ := (up.trans up1) _ oC eC fun vs q => by rw [dC] at q; cases q
    exact ⟨_, es, ep, e1, dC, r⟩
  refine ⟨mC, hn1, fun h2 m2 hn2 sb2 => ?_⟩
  -- the block's names go: a ground without them
  obtain ⟨G, g1, g2⟩ := restrict B fun b => decide (b ≠ ce.locals)
  have gk : ∀ b, b ≠ ce.locals → G.get? b = B.get? b := fun b hb => g1 b (decide_eq_true hb)
  have gB : ∀ b o, G.get? b = some o → B.get? b = some o ∧ b ≠ ce.locals := fun b o e => by
    by_cases hb : b = ce.locals
    · rw [g2 b (by simp [hb])] at e; cases e
    · exact ⟨(gk b hb).symm.trans e, hb⟩
  obtain ⟨k1, k2, k3, oe, vs, T, oT, ts, he, hz, hd, hv1, hnT, hTe, hT, hdT, h3⟩ := held1
  have notC : ∀ {b : Addr} {o : Obj} {fv : Array Value}, h1.get? b = some o → o.data = .fields fv → b ≠ ce.locals := fun {b o fv} e q z => by
    obtain ⟨oC, es, ep, eC, dC, _⟩ := hn1
    rw [z, eC] at e
    obtain rfl := Option.some.inj e
    rw [dC] at q; cases q
  have ne_e : a ≠ ce.locals := notC he hd
  have ne_T : T ≠ ce.locals := notC hT hdT
  have he2 : h2.get? a = some oe := (sb2.2 a ne_e).trans he
  have hT2 : h2.get? T = some oT := (sb2.2 T ne_T).trans hT
  have gn : ∀ {b}, B.get? b = none → G.get? b = none := fun {b} q => by
    cases z : G.get? b with
    | none => rfl
    | some o => rw [(gB b o z).1] at q; cases q
  have st2 : G.StaysIn h2 := fun b o e => (sb2.2 b (gB b o e).2).trans (k1 b o (gB b o e).1)
  have ff2 : h2.FunFrames G (X.env :: X.outer) := by
    have q1 : h1.FunFrames G (X.env :: X.outer) := funFrames_none k3 fun L hL => gn ((k3.mem hL).1)
    exact Heap.FunFrames.sameBut sb2 hn2 q1
  have held2 : HandSPX.HeldZ G (X.env :: X.outer) a (L2N.Zn cls d) X.env.locals h2 := ⟨st2, gn k2, ff2, oe, vs, T, oT, ts, he2, hz, hd, hv1, gn hnT, hTe, hT2, hdT, h3⟩
  unfold PySem.passOn
  refine wpAny_bind (wpAny_field he2 hd hv1 ?_)
  rw [if_neg (show ¬ ((Value.ref T == Value.none) = true) from by simp), hcf, hf]
  have fin : wpAny (model X.prog X.w) X.A (setFlight (.ref a) (some X.env.locals)) (fun _ s4 => wpAny (model X.prog X.w) X.A (throw (.ref a) : Sem Value) (fun _ _ => False) X.xe s4) X.xe { s' with heap := h2 } := by
    refine HandSPX.setFlight_onZ held2 fun h4 hh4 up4 => wpAny_throw (tk _ _ ?_)
    -- the def's state, its block's cells forgotten
    obtain ⟨S, s1', s2'⟩ := restrict sI.heap fun b => decide (b ≠ ce.locals)
    have sk : ∀ b, b ≠ ce.locals → S.get? b = sI.heap.get? b := fun b hb => s1' b (decide_eq_true hb)
    have sS : ∀ b o, S.get? b = some o → sI.heap.get? b = some o ∧ b ≠ ce.locals := fun b o e => by
      by_cases hb : b = ce.locals
      · rw [s2' b (by simp [hb])] at e; cases e
      · exact ⟨(sk b hb).symm.trans e, hb⟩
    have fC : FpOk X pins H2 ce.locals := by
      have z : H2 ce.locals = none := JI.free
      rw [hcl] at z ⊢
      exact I3.fpOk (Nat.le_refl _) z
    obtain ⟨f0, f1, f2, f3', f4, f5⟩ := fC
    have I6 : Inv X pins σ H2 { sI with heap := S, toks := sI.toks } := I5.turned (it := ce.locals) (fun b o hb e => (sk b hb).trans e) f0 f1 f3' f4 f5
    have sb1 : ∀ b o, S.get? b = some o → (∀ fv, o.data ≠ .fields fv) → ∃ sl, h4.get? b = some { o with slots := sl } := fun b o e q => by
      obtain ⟨e1, hb⟩ := sS b o e
      obtain ⟨sl, e2⟩ := (up.trans up1) b o e1 q
      obtain ⟨sl', e3⟩ := up4 b _ ((sb2.2 b hb).trans e2) q
      exact ⟨sl', e3⟩
    refine ⟨a, G, { sI with heap := S, toks := sI.toks }, pins, σ, H2, cls, d, rfl, I6, fun b o e hb => ?_, sb1, .inr (.inr (by rw [hs]; exact hh4)), na, os, ag, w⟩
    obtain ⟨e1, hbC⟩ := sS b o e
    exact (gk b hbC).trans (nb b o e1 hb)
  first | exact wpAny_bind (wpAny_pure (wpAny_bind fin)) | exact wpAny_bind fin
section
variable {X : Cx} {elt tg iter : Expr} {scope : Scope} {own : List (Str × Nat)} {wi : TI} {g : TG} {te : TE} {W : XK}
/-- what the rules below ask of a comprehension -/
structure LcOk (X : Cx) (elt tg iter : Expr) (scope : Scope) (own : List (Str × Nat)) (wi : TI) (g : TG) (te : TE) (W : XK) : Prop where
  hs : X.stack = X.env :: X.outer
  hf : X.env.frame = some X.env.locals
  hc : X.calm = true
  hN : X.N.Nodup
  tk : L2N.Takes X (fun cls d _ H => W cls d H)
  hi : PI X tg iter wi
  ok : BlkOk X.N X.env.scope scope own
  hg : ∀ (s : Shared) (H : Hp) (C : Addr) (cl : List (Str × Addr)) (fp : List Addr), PG (bx X s H scope (compEnvC scope cl C X.env) fp W) tg g
  he : ∀ (s : Shared) (H : Hp) (C : Addr) (cl : List (Str × Addr)) (fp : List Addr), PE (bx X s H scope (compEnvC scope cl C X.env) fp W) elt te
  hx : ∀ x, foldedSetIterable iter X.env x = pure x
theorem lcx_core {pins : List (Addr × Obj)} {s : Shared} {σ : L2.St} {H : Hp} {Q : VK} {pos pos' : Pos} {use : Option (Value → Sem Unit)} {Qf : Value → Shared → Prop}
    (L : LcOk X elt tg iter scope own wi g te W) (I : Inv X pins σ H s) (h : tLc wi g tYes te (own.map (·.2)) σ H Q)
    (hEnd : ∀ D (ce : Env) s' m H', Inv X pins σ H' s' → Q (.ref D) H' → s'.heap.Ns ce.locals m → FpOk X pins H' ce.locals → compEnds (model X.prog X.w) X.A X.xe use Qf (.ref D) ce (.ok .next) s') :
    wpAny (model X.prog X.w) X.A (comprehension (.ListComp elt [⟨tg, iter, [], 0⟩] scope pos) scope X.env pos' (newList []) false (eval iter X.env) use) Qf X.xe s := by
  have hfree : ∀ y ∈ scope.names, y.2 = .free → ∃ c, X.env.cells.lookup y.1 = some c := fun y hy e => (L.ok.free y hy e).elim (fun k => I.ok.has _ (.inl k)) fun k => I.ok.has _ (.inr k)
  refine comprehension_at (use := use) rfl L.hx (closure_ok hfree) L.ok.kind (fun y hy e => by rw [L.ok.uniq y hy, e])
    (thn (L.hi.run pins s σ H _ I h) fun xv g1 hx1 => thn hx1 fun itv g2 k2 => ?_)
  obtain ⟨it, fp, tn, J, M2, rfl, J2, T, tn2, fp2, q⟩ := k2
  refine wpAny_newObj_type (newEnv_comp ?_) (Nat.zero_le _)
  generalize eD : g2.heap.objs.size = D
  have nD : M2 D = none := J2.hok.fresh (Nat.le_of_eq eD)
  obtain ⟨Wt, ⟨mt0, wt0⟩, turn⟩ := q D nD
  generalize hg3 : ({ g2 with heap := g2.heap.push { cls := .type "list", data := .seq ([] : List Value).toArray } } : Shared) = g3
  have k3 : g3.heap = g2.heap.push { cls := .type "list", data := .seq ([] : List Value).toArray } := by rw [← hg3]
  have J3 : Inv X pins σ (upd M2 D (.lst [])) g3 := by
    rw [← hg3]
    refine J2.laid (t' := g2.toks) (fun b o e => Heap.get?_push_of_some _ e) (Nat.le_of_eq eD) ⟨Nat.zero_le _, [], 0, .nil, ?_⟩
    rw [← eD]; exact Heap.get?_push_size _ rfl
  have sz : ∀ b ∈ fp, b < g2.heap.objs.size := fun b hb => by obtain ⟨o, e, _⟩ := T.obj _ _ tn2 b hb; exact Heap.lt_size e
  have fp3 : ∀ b ∈ fp, FpOk X pins (upd M2 D (.lst [])) b ∧ b < g3.heap.objs.size := fun b hb => by
    refine ⟨⟨?_, (fp2 b hb).2⟩, by rw [k3, Heap.size_push]; exact Nat.lt_succ_of_lt (sz b hb)⟩
    rw [upd_ne (by rw [← eD]; exact Nat.ne_of_lt (sz b hb))]; exact (fp2 b hb).1
  have tn3 : tn 0 g3.heap := T.keep _ _ _ tn2 fun b _ o e => by rw [k3]; exact Heap.get?_push_of_some _ e
  have J4 := block_start J3 L.ok L.hN fp3
  show codeAny _ _ (.compStart (.ListComp elt [⟨tg, iter, [], 0⟩] scope pos) 0 (.ref it) (.ref D) (compEnvC scope (cellsFrom (g3.heap.objs.size + 1) scope.names (cloFrom X.env.cells scope.names [])) g3.heap.objs.size X.env))
    (compEnds (model X.prog X.w) X.A X.xe use Qf (.ref D) (compEnvC scope (cellsFrom (g3.heap.objs.size + 1) scope.names (cloFrom X.env.cells scope.names [])) g3.heap.objs.size X.env)) { g3 with heap := pushCells (g3.heap.push { cls := .type "dict", data := .dict #[] }) scope.names }
  have pg := L.hg g3 (upd M2 D (.lst [])) g3.heap.objs.size (cellsFrom (g3.heap.objs.size + 1) scope.names (cloFrom X.env.cells scope.names [])) fp
  have pe := L.he g3 (upd M2 D (.lst [])) g3.heap.objs.size (cellsFrom (g3.heap.objs.size + 1) scope.names (cloFrom X.env.cells scope.names [])) fp
  have no0 : ∀ b ∈ fp, (upd M2 D (.lst [])) b = none := fun b hb => (fp3 b hb).1.1
  generalize hce : compEnvC scope (cellsFrom (g3.heap.objs.size + 1) scope.names (cloFrom X.env.cells scope.names [])) g3.heap.objs.size X.env = ce at J4 pg pe ⊢
  have eL : ce.locals = g3.heap.objs.size := by subst hce; rfl
  have eF : ce.frame = X.env.frame := by subst hce; rfl
  generalize hM3 : upd M2 D (.lst []) = M3 at J3 J4 pg pe wt0 no0 fp3
  generalize hg4 : ({ g3 with heap := pushCells (g3.heap.push { cls := .type "dict", data := .dict #[] }) scope.names } : Shared) = g4 at J4 ⊢
  have tn4 : tn 0 g4.heap := T.keep _ _ _ tn3 fun b _ o e => by rw [← hg4]; exact pushCells_keeps _ _ _ _ (Heap.get?_push_of_some _ e)
  have out : ∀ u s', CallOut (X.blk g3 M3 scope ce fp) W u s' → notedBy (model X.prog X.w) X.A ce (CompFails (model X.prog X.w) X.A X.xe ce) u s' := fun u s' x => out_bx L.hs L.hf eF eL L.tk J3 fp3 x
  have fails : ∀ (x : Value) (s' : Shared), CompFails (model X.prog X.w) X.A X.xe ce x s' → compEnds (model X.prog X.w) X.A X.xe use Qf (.ref D) ce (.error x) s' := fun x s' z => by cases use <;> exact z
  have out2 : ∀ u s', CallOut (X.blk g3 M3 scope ce fp) W u s' → notedBy (model X.prog X.w) X.A ce (fun e s'' => compEnds (model X.prog X.w) X.A X.xe use Qf (.ref D) ce (.error e) s'') u s' := fun u s' x =>
    wpAny_mono (out u s' x) (fun _ _ z => fails _ _ z) fun e s'' z => fails e s'' z
  have stat : ∀ {σ' : L2.St} {H' : Hp} {s' : Shared}, Inv (X.blk g3 M3 scope ce fp) [] σ' H' s' → (∀ b ∈ fp, H' b = none) → ∀ b ∈ fp, FpOk (X.blk g3 M3 scope ce fp) [] H' b := fun {σ' H' s'} J' hn b hb =>
    ⟨hn b hb, (J'.ok.exf b hb).1, J'.ok.exfs b hb, .inl hb, fun x c e => (J'.ok.exf b hb).2 x c e, fun p hp => absurd (show p ∈ ([] : List (Addr × Obj)) ++ [] from hp) (by simp)⟩
  have loop : codeAny (model X.prog X.w) X.A (.compLoop (.ListComp elt [⟨tg, iter, [], 0⟩] scope pos) 0 (.ref it) (.ref D) ce) (compEnds (model X.prog X.w) X.A X.xe use Qf (.ref D) ce) g4 := by
    refine compLoop_any (fun n s' => ∃ i H', Inv (X.blk g3 M3 scope ce fp) [] (wipe σ (own.map (·.2))) H' s' ∧ tn i s'.heap ∧ (∀ b ∈ fp, H' b = none) ∧ Wt i n H') ?_ mt0 ⟨0, M3, J4, tn4, no0, wt0⟩
    rintro n g5 ⟨i, M5, J5, tn5, no5, wt5⟩
    rcases turn i n M5 wt5 with ⟨stop, qq⟩ | ⟨go, Nx, hNx, step⟩
    · refine thnF (T.done (X.blk g3 M3 scope ce fp) rfl rfl rfl L.hc i [] g5 _ M5 (fun _ _ => False) J5 (stat J5 no5) tn5 stop) fun r g6 ⟨hr, J6⟩ => ?_
      subst hr
      have J7 : Inv X pins σ M5 g6 := J3.call' (ch := fp) J6.os J6.base J6.hok J6.bare fun b hb => ⟨(fp3 b hb).1.2.2.2.1, (fp3 b hb).1.2.1, (fp3 b hb).1.2.2.2.2.1, (fp3 b hb).1.2.2.2.2.2⟩
      have nC : M5 ce.locals = none := J6.free
      obtain ⟨m, hn, _⟩ := J6.loc
      exact hEnd D ce g6 m M5 J7 qq hn (by rw [eL] at nC ⊢; exact J3.fpOk (Nat.le_refl _) nC)
    · refine thnF (T.item (X.blk g3 M3 scope ce fp) rfl rfl rfl L.hc i [] g5 _ M5 (fun _ _ => False) J5 (stat J5 no5) tn5 go) fun r g6 ⟨u, hr, k6⟩ => ?_
      subst hr
      refine thnF k6 fun _ g7 ⟨x, M7, J7, r7, y7, tn7, no7⟩ => ?_
      have J7' := (J7.pinned (stat J7 no7) (T.obj _ _ tn7)).wish (CallOut (X.blk g3 M3 scope ce fp) W)
      refine wpAny_mono (pg.run _ g7 _ M7 x u _ J7' r7 (step x M7 y7)) (fun _ g8 ⟨σ8, M8, J8, hw8, q8⟩ => ?_) fun e s' z => out2 e s' z
      refine wpAny_tests_nil ?_
      have q8 : te σ8 M8 fun y M4 => ∃ acc, M4 D = some (.lst acc) ∧ acc.length < sizeLine ∧ Nx (upd M4 D (.lst (acc ++ [y]))) := by
        have z : (if true = true then te σ8 M8 fun y M4 => ∃ acc, M4 D = some (.lst acc) ∧ acc.length < sizeLine ∧ Nx (upd M4 D (.lst (acc ++ [y]))) else Nx M8) := q8
        rw [if_pos rfl] at z; exact z
      rw [if_pos rfl]
      refine wpAny_mono (pe.run _ g8 σ8 M8 _ J8 q8) (fun z g10 ⟨yv, M10, J10, r10, acc, hD10, hz10, nx⟩ => ?_) fun e s' z => out2 e s' z
      refine app_ok (X := X.blk g3 M3 scope ce fp) J10.unwish hD10 hz10 r10 fun g11 J11 => ?_
      obtain ⟨m', hm, w'⟩ := hNx _ nx
      have pin' : ∀ b ∈ fp, ∀ o, g7.heap.get? b = some o → g11.heap.get? b = some o ∧ (upd M10 D (.lst (acc ++ [yv]))) b = none := fun b hb o e =>
        let z := J11.pin (b, o) (List.mem_append_right _ (List.mem_append_right _ (mem_pinsAt hb e)))
        ⟨z.1, z.2.1⟩
      have hlen : (wipe σ (own.map (·.2))).length = σ8.length := by rw [← hw8, wipe_length]
      refine ⟨m', hm, i + 1, _, (J11.unpinned (pins := [])).weak hlen (fun j v e => ?_), T.keep _ _ _ tn7 fun b hb o e => (pin' b hb o e).1, fun b hb => ?_, w'⟩
      · rw [← hw8] at e
        exact (wipe_some e).1
      · obtain ⟨o, e, _⟩ := T.obj _ _ tn7 b hb
        exact (pin' b hb o e).2
  exact codeAny_compStart_list loop (T.self X.A 0 _ _ _ tn4 loop)
/-- as a value -/
theorem pe_lcx {pos : Pos} (L : LcOk X elt tg iter scope own wi g te W) : PE X (.ListComp elt [⟨tg, iter, [], 0⟩] scope pos) (tLc wi g tYes te (own.map (·.2))) := by
  refine ⟨fun pins s σ H Q I h => ?_⟩
  rw [eval_ListComp]
  refine lcx_core L I h fun D ce s' m H' J' q hn ⟨f0, f1, f2, f3, f4, f5⟩ => ⟨m, hn, fun hh sB => ?_⟩
  exact ⟨.ref D, H', J'.turned (t' := s'.toks) (fun b o hb e => (sB.2 b hb).trans e) f0 f1 f3 f4 f5, rfl, q⟩
/-- name = [..] -/
theorem ps_lcx {i : Nat} {y : Str} {py pos spos : Pos} (L : LcOk X elt tg iter scope own wi g te W) (hy : X.N[i]? = some y) (hyl : X.env.scope.names.lookup y = some .local)
    (hsw : swapsWith (.ListComp elt [⟨tg, iter, [], 0⟩] scope pos) (some (.Name y py)) spos.line X.env = pure true) :
    PS X (.Assign [.Name y py] (.ListComp elt [⟨tg, iter, [], 0⟩] scope pos) spos) (tAsg (tLc wi g tYes te (own.map (·.2))) (gName i)) := by
  refine ⟨fun pins s σ H D I h => ?_⟩
  rw [exec_Assign_Name_used _ _ _ _ hsw]; refine wpAny_bind (wpAny_standAt (wpAny_bind ?_))
  show wpAny _ X.A (do let _ ← comprehension (.ListComp elt [⟨tg, iter, [], 0⟩] scope pos) scope X.env (firstIterPos [⟨tg, iter, [], 0⟩] pos) (newList []) false (eval iter X.env) (some (assign (.Name y py) X.env))) _ _ s
  have h : tLc wi g tYes te (own.map (·.2)) σ H (fun x H1 => gName i x σ H1 D.nx) := h
  refine wpAny_bind (thn (lcx_core (Qf := fun _ s' => SP X pins D .next s') L I h fun A ce s' m H' J' q hn ⟨f0, f1, f2, f3, f4, f5⟩ => ?_) fun _ s' hq => wpAny_pure (wpAny_pure hq))
  show wpAny _ _ (assign (.Name y py) X.env (.ref A)) _ _ _
  refine wpAny_assign_Name (store_ok2 (v := V.ref A) J' L.hN hy (.inl hyl) rfl (fun s2 I2 ⟨a, sB, ha⟩ => ?_) (.inr hyl))
  have haC : ce.locals ≠ a := ha.elim (fun z => by rw [z]; exact f1) fun z e => f4 y a z e.symm
  refine ⟨m, hn.sameBut sB haC, fun h3 sb3 => ⟨_, H', I2.turned (t' := s2.toks) (fun b o hb e => (sb3.2 b hb).trans e) f0 f1 f3 f4 f5, q⟩⟩
end
end FpR
/-! for i, x in enumerate(l, start=k) -/
namespace FpR
open PySem PySem.Spec PyProof.Rows L2
theorem callWith_typeK {M : Model} {A : Around} {E : Value → Shared → Prop} {s : Shared} {pos : Pos} {T : String} {first : List Value} {args : List (Bool × Sem Value)} {kws : List (Option Str × Sem Value)} {Q : Value → Shared → Prop} (h1 : args.any (·.1) = false) (h2 : kws.any (·.1.isNone) = false)
    (h : wpAny M A (evalArgs (.type T) true args kws) (fun a s₁ => wpAny M A (call (.type T) (first ++ a.pos) a.kw) Q E s₁) E s) : wpAny M A (callWith pos (.type T) first args kws) Q E s := by
  unfold callWith
  refine wpAny_bind (wpAny_holding (wpAny_mono h (fun a s2 q => wpAny_bind (wpAny_standAt ?_)) fun _ _ z => z))
  simp only [h1, h2, Bool.or_false]
  exact wpAny_bind (wpAny_pure (wpAny_bind (wpAny_mono q (fun r s3 hr => wpAny_bind (wpAny_holding (wpAny_point (wpAny_pure hr)))) fun _ _ z => z)))
/-- the list at a as it stands at each turn, each item in a new pair behind its number from k on -/
def Itk1 (K : PySem.W.Frag) (k : Int) (a : Addr) : It :=
  ⟨fun i H => ∃ (xs : List V) (x : V), SqL K H a xs ∧ xs[i]? = some x, fun i H v H' => ∃ T x, v = .ref T ∧ H T = none ∧ H' = upd H T (.tup [.int (k + (i : Nat)), x]) ∧ ∀ xs, SqL K H a xs → xs[i]? = some x,
    fun i H => ∃ xs : List V, SqL K H a xs ∧ xs.length = i⟩
theorem turn_enumk {P : Program} {w : World} {K : PySem.W.Frag} {elts : List Expr} {kk : Nat} {tpos : Pos} (k : Int) (a en ir : Addr) :
    Turn P w K (.Tuple elts kk tpos) (Itk1 K k a) [en, ir] en (fun i h => (∃ was, IsEnum h en ir (k + (i : Nat)) was) ∧ h.IsListIter ir a i ∧ en ≠ ir ∧ a ≠ ir ∧ a ≠ en) where
  mem := List.mem_cons_self
  obj := fun i h st0 b hb => by
    obtain ⟨⟨was, hen⟩, ⟨o, ho, hc, hd⟩, _⟩ := st0
    rcases List.mem_cons.mp hb with zz | zz
    · rw [zz]
      exact ⟨_, hen, fun v q => nomatch q⟩
    · rw [List.mem_singleton.mp zz]
      exact ⟨o, ho, fun v q => by rw [hd] at q; cases q⟩
  keep := fun i h h' st0 q => by
    obtain ⟨⟨was, hen⟩, hi, hn⟩ := st0
    exact ⟨⟨was, q en (by simp) _ hen⟩, hi.at fun o zz => q ir (by simp) o zz, hn⟩
  item := by
    intro X hP hw hK hc i pn s σ H E I hfp st0 hgo
    subst hP hw hK
    obtain ⟨⟨was, hen⟩, hir, hne, hai, hae⟩ := st0
    obtain ⟨xs, x, hq, hxi⟩ := hgo
    obtain ⟨its, rvs, p, _⟩ := I.list hq
    obtain ⟨uv, huv, ruv⟩ := rvs.get hxi
    have hlt1 : en < s.heap.objs.size := Heap.lt_size hen
    have hlt2 : ir < s.heap.objs.size := by obtain ⟨_, q, _⟩ := hir; exact Heap.lt_size q
    have hlt : i < its.toArray.size := by
      rw [List.size_toArray]
      exact (List.getElem?_eq_some_iff.mp huv).1
    refine wpAny_pyNext_enum_itemC (Draws.list (A := X.A.in1) (I.ok.hd hc) ir a hai its.toArray) hen ⟨hir, p.isList⟩ hlt hne (by simp [hne, Ne.symm hae]) fun u' h' tk hu' ho st' hT hsz hk => ?_
    obtain rfl : u' = uv := by
      have zz : its.toArray[i]? = some uv := by simpa using huv
      exact Option.some.inj (hu'.symm.trans zz)
    refine ⟨_, rfl, wpAny_letOwnedTupleGo_enum (s := { s with heap := h', toks := tk + 1 }) ho fun h'' he' sb => ?_⟩
    have hT2 : h''.get? s.heap.objs.size = some { cls := .type "tuple", data := .seq #[.int (k + (i : Nat)) tk, u'] } := (sb.2 _ (Nat.ne_of_gt hlt1)).trans hT
    have new : ObjOk X.prog X.w (upd H s.heap.objs.size (.tup [.int (k + (i : Nat)), x])) h'' s.heap.objs.size (.tup [.int (k + (i : Nat)), x]) :=
      ⟨by show 2 ≤ sizeLine; decide, [.int (k + (i : Nat)) tk, u'], .cons ⟨_, rfl⟩ (.cons ruv .nil), ⟨_, hT2, rfl, _, rfl⟩⟩
    have I1 : Inv X pn σ (upd H s.heap.objs.size (.tup [.int (k + (i : Nat)), x])) { s with heap := h'', toks := tk + 1 } :=
      I.turnedNew (ch := [en, ir]) (fun b ob hb q => (sb.2 b (fun zz => hb (by simp [zz]))).trans (hk b ob (fun zz => hb (by simp [zz])) (fun zz => hb (by simp [zz])) q)) hfp (Nat.le_refl _) new
    refine ⟨.ref s.heap.objs.size, _, I1, rfl, ⟨_, x, rfl, I.hok.fresh (Nat.le_refl _), rfl, fun ys hy => by rw [I.list_inj hy hq]; exact hxi⟩, ⟨⟨u', ?_⟩, st'.1.at fun o q => (sb.2 ir (Ne.symm hne)).trans q, hne, hai, hae⟩, fun b hb => ?_⟩
    · rw [show k + ((i + 1 : Nat) : Int) = k + (i : Nat) + 1 by omega]
      exact he'
    · have hlt3 : b < s.heap.objs.size := by
        rcases List.mem_cons.mp hb with zz | zz
        · rw [zz]; exact hlt1
        · rw [List.mem_singleton.mp zz]; exact hlt2
      rw [upd_ne (Nat.ne_of_lt hlt3)]
      exact (hfp b hb).1
  done := by
    intro X hP hw hK hc i pn s σ H E I hfp st0 hgo
    subst hP hw hK
    obtain ⟨⟨was, hen⟩, hir, hne, hai, hae⟩ := st0
    obtain ⟨xs, hq, hxi⟩ := hgo
    obtain ⟨its, rvs, p, _⟩ := I.list hq
    obtain ⟨q0, q1, q2, q3, q4, q5⟩ := hfp ir (by simp)
    have hn : its.toArray.size = i := by rw [List.size_toArray, ← rvs.length]; exact hxi
    rw [← hn] at hir
    refine wpAny_pyNext_enum_endD (Draws.list (A := X.A.in1) (I.ok.hd hc) ir a hai its.toArray) hen ⟨hir, p.isList⟩ fun h' eb => ⟨rfl, I.turned (t' := s.toks) (fun b o hb q => eb b o hb q) q0 q1 q3 q4 q5⟩
  self := fun A i s Q E st0 h => by obtain ⟨⟨_, hen⟩, _⟩ := st0; exact wpAny_pyIter_enum hen h
def iEnumK (K : PySem.W.Frag) (ta tk : TA) : TI := fun σ H R => ta σ H fun vs H1 => tk σ H1 fun ks H2 => ∃ a xs k, vs = [.ref a] ∧ ks = [.int k] ∧ -(2 ^ 63) ≤ k ∧ k < 2 ^ 63 ∧ SqL K H2 a xs ∧ R (Itk1 K k a) H2
theorem pi_enumk {X : Cx} {e ek : Expr} {ta tk : TA} {p pos tpos kpos : Pos} {elts : List Expr} {kk : Nat} (hg : Gl X "enumerate") (hm : X.mg "enumerate" = none) (ha : PA X [e] ta) (hk : PK X [⟨some (Str.ofString "start"), ek, kpos⟩] tk)
    (hall : (backToKw pos (keywordEach [⟨some (Str.ofString "start"), ek, kpos⟩] X.env)).all (·.1.isSome) = true := by rfl) (hks : (backToKw pos (keywordEach [⟨some (Str.ofString "start"), ek, kpos⟩] X.env)).filterMap (·.1) = [Str.ofString "start"] := by rfl)
    (hs : starEach [e] X.env = (false, eval e X.env) :: starEach [] X.env := by rfl) (hp1 : (backTo pos (starEach [e] X.env)).any (·.1) = false := by rfl) (hp2 : (backToKw pos (keywordEach [⟨some (Str.ofString "start"), ek, kpos⟩] X.env)).any (·.1.isNone) = false := by rfl) :
    PI X (.Tuple elts kk tpos) (.Call (.Name "enumerate" p) [e] [⟨some (Str.ofString "start"), ek, kpos⟩] pos) (iEnumK X.K ta tk) := by
  refine ⟨fun pns s σ H R I h => ?_⟩
  refine wpAny_Call_Name_kw (ld_blt I hg hm boot_enumerate (callWith_typeK hp1 hp2 (evalArgs_kw2 hall (thn (ha.run pos pns s σ H _ I h) fun us s1 ⟨vs, H1, I1, r1, q1⟩ => thn (hk.run pos pns s1 σ H1 _ I1 q1) fun ws s2 ⟨zs, H2, I2, r2, q2⟩ => ?_) hs)))
  obtain ⟨a, xs, k, rfl, rfl, k0, k1, hq, q⟩ := q2
  rw [hks]
  cases r1 with
  | cons r rr =>
    cases rr
    cases r
    cases r2 with
    | cons r' rr' =>
      cases rr'
      obtain ⟨t, rfl⟩ := r'
      obtain ⟨its, rv, p', hz⟩ := I2.list hq
      obtain ⟨oL, hoL, _⟩ := id p'.isList
      have haL : a < s2.heap.objs.size := Heap.lt_size hoL
      show wpAny _ _ (call (.type "enumerate") [.ref a] [(Str.ofString "start", .int k t)]) _ _ _
      refine enum_begins_start (begins_list a its.toArray) p'.isList k0 k1 fun h' he hit hsz hkp => wpAny_pyIter_enum he ?_
      have I3 : Inv X pns σ H2 { s2 with heap := h' } := I2.kept (t' := s2.toks) hkp
      refine ⟨s2.heap.objs.size + 1, [s2.heap.objs.size + 1, s2.heap.objs.size], _, _, H2, rfl, I3, turn_enumk k a (s2.heap.objs.size + 1) s2.heap.objs.size, ⟨⟨.none, ?_⟩, ⟨_, hit, rfl, rfl⟩, Nat.succ_ne_self _, Nat.ne_of_lt haL, Nat.ne_of_lt (Nat.lt_succ_of_lt haL)⟩, fun b hb => ?_, q⟩
      · rw [show k + ((0 : Nat) : Int) = k by omega]
        exact he
      · have hle : s2.heap.objs.size ≤ b := by
          rcases List.mem_cons.mp hb with zz | zz
          · rw [zz]; exact Nat.le_succ _
          · rw [List.mem_singleton.mp zz]; exact Nat.le_refl _
        exact I2.fpOk hle (I2.hok.fresh hle)
theorem walk_enumk {K : PySem.W.Frag} {k : Int} {a : Addr} {xs : List V} : Walk (Itk1 K k a) xs.length (fun H => SqL K H a xs) (YPair (fun i => some (.int (k + (i : Nat)))) (fun i => xs[i]?)) := by
  refine ⟨fun i _ hi q => ⟨xs, xs[i], q, by simp [hi]⟩, fun _ q => ⟨xs, q, rfl⟩, fun i H v H' _ q y => ?_⟩
  obtain ⟨T, x, e1, e2, e3, e4⟩ := y
  exact ⟨T, .int (k + (i : Nat)), x, e1, e2, e3, rfl, e4 xs q⟩
end FpR
/-! An own error over Exception with one field that its __init__ sets: class E(Exception): def __init__(self, number): self.number = number -/
namespace PySem
namespace WlX
open PySem.W PySem.Calls PyProof.Rows PySem.HandSPX
open PySem.ESX (exTail)
/-! ### the text of __init__ -/
def iA (p1 p2 : Pos) : Arguments := { posonlyargs := [], args := [{ arg := "self", annotation := none, pos := p1 }, { arg := "number", annotation := none, pos := p2 }], vararg := none, kwonlyargs := [], kw_defaults := [], kwarg := none, defaults := [] }
def iB (q1 q2 q3 q4 : Pos) : List Stmt := [.Assign [.Attribute (.Name "self" q1) "number" q2] (.Name "number" q3) q4]
def iS : Scope := { kind := .function, names := [(PySem.Str.ofString "self", .local), (PySem.Str.ofString "number", .local)], isGenerator := false, isCoroutine := false, more := [] }
/-- what the written part says of the class x, at C, and of its __init__, at fI -/
structure WlTxt (K : Frag) (mg : Str → Option Value) (x : Str) (qi : Str) (C fI : Addr) : Prop where
  gC : mg x = some (.ref C)
  cls : ∃ nm q N bs sn sub ab col dd k0 k1 k2 k3 k5, K.lookup C = some (excClassObj nm q C N bs exTail true sn sub ab col dd k0 k1 k2 k3 k5 "Exception.__new__")
  sa : findIn K (.ref C) "__setattr__" = some (some (.builtin "object.__setattr__"))
  ga : findIn K (.ref C) "__getattribute__" = some (some (.builtin "BaseException.__getattribute__"))
  gg : findIn K (.ref C) "__getattr__" = some none
  noN : findIn K (.ref C) "number" = some none
  iC : findIn K (.ref C) "__init__" = some (some (.ref fI))
  tC : typeIn K (.ref fI) = some (.type "function")
  kC : keepIn K (.ref C) = true
  exC : subIn K (.ref C) (.type "BaseException") = some true
  tyC : typeIn K (.ref C) = some (.type "type")
  hdC : hasDictIn K C = true
  te : exmOne K (.ref C) (.ref C) = some true
  fn : ∃ (oc : Value) (od : Option Addr) (doc pm : Value) (an : Option Addr) (cdv ct : Value) (osl : Array (Option Value)) (p1 p2 q1 q2 q3 q4 : Pos),
    K.lookup fI = some ⟨oc, od, .func (fnOf "__init__" qi (iA p1 p2) (iB q1 q2 q3 q4) iS .none .none doc pm an cdv ct), osl⟩ ∧ codeIn K cdv qi = true
theorem one_size (v : Value) : [v].length ≤ sizeLine := by
  rw [sizeLine_eq]
  exact (by decide : 1 ≤ 16777216)
theorem ldC {M : Model} {s : Shared} {name : Str} {scope : Scope} {L a : Addr} {cd : Value} {m : Str → Option Value} {x : Str} {pos : Pos} {v : Value} {Q : Value → Shared → Prop} {A : Around} {E : Value → Shared → Prop} (hn : s.heap.Ns L m) (hv : m x = some v) (h : Q v s)
    (hk : scope.kind = .function := by rfl) (hl : (envOfC name scope L a cd).kindOf x = some .local := by rfl) (hd : (x == ("__debug__" : Str)) = false := by decide) :
    wpAny M A (eval (.Name x pos) (envOfC name scope L a cd)) Q E s := wpAny_Name (wpAny_loadName_local hk hl hn hv h) hd
/-- what __init__ leaves of a fresh exception at x -/
structure InitEnd (h h' : Heap) (x C dx t1 : Addr) (v : Value) : Prop where
  keep : ∀ b o, b ≠ x → h.get? b = some o → h'.get? b = some o
  obj : h'.get? x = some { cls := .ref C, dict := some dx, data := .fields #[.ref t1, .none, .none, .none, .bool false, .none] }
  dbig : h.objs.size ≤ dx
  dne : dx ≠ x
  ns : h'.Ns1 dx (fun y => if y = "number" then some v else none)
/-- one that is made -/
structure OwnMade (h h' : Heap) (e C d : Addr) (v : Value) : Prop where
  keep : ∀ b o, h.get? b = some o → h'.get? b = some o
  new : h.objs.size ≤ e
  obj : ∃ t1 : Addr, h'.get? e = some ({ cls := .ref C, dict := some d, data := .fields #[.ref t1, .none, .none, .none, .bool false, .none] } : Obj)
  dbig : h.objs.size ≤ d
  dne : d ≠ e
  ns : h'.Ns1 d (fun y => if y = "number" then some v else none)
section
variable {prog : Program} {w : World} {A : Around} {E : Value → Shared → Prop} {R : Result → Shared → Prop} {s : Shared} {K : Frag} {mg : Str → Option Value} {xn qi : Str} {C fI : Addr}
theorem wl_init (T : WlTxt K mg xn qi C fI) {x t0 : Addr} {v : Value} (X : K.In s.heap) (hlim : s.heap.NoLimit) (hx : s.heap.get? x = some (excO C t0)) (hnx : K.lookup x = none) (hroom : A.depth < recursionLimit)
    (hq : ∀ h' tk dx, InitEnd s.heap h' x C dx t0 v → R (.ok (.ret .none)) { s with heap := h', toks := tk }) :
    codeAny (model prog w) A (.call (.ref fI) ⟨[.ref x, v], []⟩) R s := by
  obtain ⟨oc, od, doc, pm, an, cdv, ct, osl, p1, p2, q1, q2, q3, q4, ho, hcd⟩ := T.fn
  obtain ⟨nm, q, N, bs, sn, sub, ab, col, dd, k0, k1, k2, k3, k5, hC⟩ := T.cls
  have hcl : clsIn K C = some { name := nm, bases := bs, mro := .ref C :: exTail, ns := N, qualname := q, hasDict := true, slotNames := sn, subclasses := sub, abstract := ab, collection := col, hasDel := false } := by unfold clsIn; rw [hC] <;> rfl
  refine Att.call_fn (binds := [("self", .ref x), ("number", v)]) X hlim ho hcd hroom (BindsTo.of_eq (by first | rfl | with_unfolding_all rfl)) (by first | rfl | decide | with_unfolding_all rfl) (fun s₁ IC => ?_) rfl rfl rfl
  obtain ⟨h₁, tk₁, rfl⟩ := IC.toInCall.same
  have k : ∀ b o, s.heap.get? b = some o → h₁.get? b = some o := IC.toInCall.keep
  have hn := IC.toInCall.ns
  have hx1 := k _ _ hx
  show wpAny _ _ (execs _ _) _ _ _
  refine wpAny_execs_cons (plainObj_wpAny_Assign_Attribute ?_)
  refine ldC (v := v) hn (by first | rfl | with_unfolding_all rfl | kernel_rfl) (ldC (v := .ref x) hn (by first | rfl | with_unfolding_all rfl | kernel_rfl) ?_)
  refine set_plain (X.keeps k) (ox := excO C t0) (od := none) ⟨hx1, rfl, rfl, trivial⟩ T.sa ?_
  refine ESX.osa_new (X.keeps k) hx1 hcl rfl rfl T.noN (fun h₃ tk₃ dx k₃ dn dne hx₃ hn₃ => ?_)
  show wpAny _ _ (execs _ _) _ _ _
  have z : s.heap.objs.size < h₁.objs.size := hn.lt
  exact wpAny_execs_nil (hq h₃ tk₃ dx ⟨fun b o hb e => k₃ b o hb (k b o e), hx₃, Nat.le_of_lt (Nat.lt_of_lt_of_le z dn), dne, hn₃⟩)
theorem wl_made (T : WlTxt K mg xn qi C fI) {v : Value} (X : K.In s.heap) (hlim : s.heap.NoLimit) (hroom : A.depth + 1 < recursionLimit)
    (hq : ∀ h' tk e d, OwnMade s.heap h' e C d v → R (.ok (.ret (.ref e))) { s with heap := h', toks := tk }) :
    codeAny (model prog w) A (.call (.ref C) ⟨[v], []⟩) R s := by
  obtain ⟨nm, q, N, bs, sn, sub, ab, col, dd, k0, k1, k2, k3, k5, hC⟩ := T.cls
  obtain ⟨hp, g, dr, tk, os⟩ := s
  have k : ∀ b o, hp.get? b = some o → ((hp.push (kdv_tup [v])).push (excO C hp.objs.size)).get? b = some o := fun b o e => Heap.get?_push_of_some _ (Heap.get?_push_of_some _ e)
  have hget : ((hp.push (kdv_tup [v])).push (excO C hp.objs.size)).get? (hp.objs.size + 1) = some (excO C hp.objs.size) := by heap_get
  have hnx : K.lookup (hp.objs.size + 1) = none := by
    cases e : K.lookup (hp.objs.size + 1) with
    | none => rfl
    | some o =>
      have z : hp.get? (hp.objs.size + 1) = some o := X _ _ e
      exact absurd (Nat.lt_of_succ_lt (Heap.lt_size z)) (Nat.lt_irrefl _)
  refine call_own F.excBase_Exception (fun X => rfl) (X _ _ hC) (looks_findIn X T.iC) (fun self => bind_fn X self T.tC) (one_size v) ?_
  refine wl_init (s := ⟨(hp.push (kdv_tup [v])).push (excO C hp.objs.size), g, dr, tk, os⟩) T (X.keeps k) (hlim.keeps k) hget hnx ?_ fun h' tk' dx ⟨k', hx, dn, dne, hns⟩ => ?_
  · show A.depth + 1 < recursionLimit
    exact hroom
  · have old : ∀ b o, hp.get? b = some o → h'.get? b = some o := fun b o e => k' b o (Nat.ne_of_lt (Nat.lt_succ_of_lt (Heap.lt_size e))) (k b o e)
    have z : hp.objs.size + 1 + 1 ≤ dx := by
      first
        | (simpa only [Heap.size_push] using dn)
        | exact dn
        | (have q := dn; rw [Heap.size_push, Heap.size_push] at q; exact q)
    exact ⟨rfl, hq h' tk' (hp.objs.size + 1) dx ⟨old, Nat.le_succ _, ⟨_, hx⟩, Nat.le_trans (Nat.le_trans (Nat.le_succ _) (Nat.le_succ _)) z, dne, hns⟩⟩
end
end WlX
end PySem
namespace FpR
open PySem PySem.Spec PyProof.Rows L2
theorem relO_one {v : V} {v' : Value} (r : RelV v v') (f : Str) : RelO (List.lookup f [(("number" : Str), v)]) (if f = "number" then some v' else none) := by
  by_cases hw : f = "number"
  · subst hw
    rw [if_pos rfl, show List.lookup ("number" : Str) [(("number" : Str), v)] = some v by simp [List.lookup]]
    exact r
  · have qw : (f == ("number" : Str)) = false := by simpa using hw
    rw [if_neg hw, show List.lookup f [(("number" : Str), v)] = none by simp [List.lookup, qw]]
    trivial
section
variable {X : Cx} {xn qi : Str} {C fI : Addr}
/-- E(e) -/
def tMkW (C : Addr) (ta : TA) : L2.St → Hp → XK → Prop := fun σ H Q => ta σ H fun vs H1 => ∃ v, vs = [v] ∧ ∀ d, H1 d = none → Q (.ref C) (some d) (upd H1 d (.xd [(("number" : Str), v)]))
theorem pmk5_wl {a : Expr} {ta : TA} {p pos : Pos} (T : PySem.WlX.WlTxt X.K X.mg xn qi C fI) (hr : X.A.depth + 1 < recursionLimit) (ha : PA X [a] ta) (hg : Gl X xn) (hdb : (xn == ("__debug__" : Str)) = false := by decide)
    (he : starEach (a :: []) X.env = (false, eval a X.env) :: starEach [] X.env := by rfl) (hpl : (backTo pos (starEach [] X.env)).any (·.1) = false := by rfl) :
    L2H.PMk5 X (.Call (.Name xn p) [a] [] pos) (tMkW C ta) := by
  intro pins s σ H Q I h
  refine wpAny_Call_Name_kw (ld_glob I hg T.gC ?_ hdb)
  refine PySem.W.callWith_K (h₀ := X.base) I.ok.mod.kin T.kC (thn (ha.run pos pins s σ H _ I h) fun us s1 hh => ?_) he hpl
  obtain ⟨vs, H1, I1, r1, v, ev, q1⟩ := hh
  subst ev
  refine ⟨I1.kIn, ?_⟩
  cases r1 with
  | cons rv rn =>
    rename_i v' us'
    cases rn
    show wpAny _ _ (call (.ref C) [v']) _ _ _
    have hlim := I1.nolimit
    obtain ⟨hp, g, dr, tk, os⟩ := s1
    refine wpAny_call (PySem.WlX.wl_made T I1.kIn hlim hr fun h' tk' e d M => ?_)
    obtain ⟨t1, hoe⟩ := M.obj
    have hns := M.ns
    obtain ⟨G', g1, g2⟩ := restrict h' fun b => decide (b ≠ e)
    have gk : ∀ b, b ≠ e → G'.get? b = h'.get? b := fun b hb => g1 b (decide_eq_true hb)
    have ge : G'.get? e = none := g2 e (by simp)
    have old : ∀ b o, hp.get? b = some o → G'.get? b = some o := fun b o q => (gk b (Nat.ne_of_lt (Nat.lt_of_lt_of_le (Heap.lt_size q) M.new))).trans (M.keep b o q)
    have ob : ObjOk X.prog X.w (upd H1 d (.xd [(("number" : Str), v)])) G' d (.xd [(("number" : Str), v)]) :=
      ⟨_, hns.at (fun o q => (gk d M.dne).trans q), fun f => relO_one rv f⟩
    have J : Inv X pins σ (upd H1 d (.xd [(("number" : Str), v)])) ⟨G', g, dr, tk', os⟩ := I1.laid (t' := tk') old M.dbig ob
    refine ⟨⟨e, _, _, ⟨G', g, dr, tk', os⟩, _, .ref C, some d, rfl, J, fun b o q => ?_, ge, hoe, ⟨rfl, rfl, fun vs hv => ?_⟩, rfl, rfl, ?_, rfl, I1.bare, raises_own T.exC T.tyC, q1 d (I1.hok.fresh M.dbig)⟩, fun a oe vs ea2 hg2 hd2 => ?_⟩
    · by_cases hb : b = e
      · have q' : G'.get? b = some o := q
        rw [hb, ge] at q'; cases q'
      · exact (gk b hb).symm.trans q
    · cases hv
      rfl
    · rw [upd_ne (Ne.symm M.dne)]
      exact I1.hok.fresh M.new
    · cases ea2
      have hg3 : h'.get? e = some oe := hg2
      rw [hoe] at hg3
      cases hg3
      cases hd2
      show (4 : Nat) < 6
      decide
theorem pmk_of5 {e : Expr} {t : L2.St → Hp → XK → Prop} (h : L2H.PMk5 X e t) : L2.PMk X e t := fun pins s σ H Q I q => thn (h pins s σ H Q I q) fun u s' z => by
  obtain ⟨⟨a, oe, vs, sI, H', cls, d, e1, J, k, hne, ha, hz, hd, h1, na, os, ag, r, q1⟩, _⟩ := z
  exact ⟨a, oe, vs, sI, H', cls, d, e1, J, k, hne, ha, hz.zc, hd, h1, na, os, ag, r, q1⟩
/-- n.number, n the exception that the suite holds (at a; its class cls, its dict d) -/
def tNumW (C : Addr) (a : Addr) (cls : Value) (d : Option Addr) (te : TE) : TE := fun σ H Q => te σ H fun x H1 => x = .ref a ∧ cls = .ref C ∧ ∃ (dd : Addr) (v : V), d = some dd ∧ H1 dd = some (.xd [(("number" : Str), v)]) ∧ Q v H1
theorem pe_numW {a : Addr} {oe : Obj} {cls : Value} {d : Option Addr} {pn : List (Addr × Obj)} {e : Expr} {te : TE} {pos : Pos} (T : PySem.WlX.WlTxt X.K X.mg xn qi C fI) (hz : Zc cls d oe) (hf : ∃ vs, oe.data = .fields vs) (he : PE (X.suite a ((a, oe) :: pn)) e te)
    (hb : attributeBase e "number" X.env (eval e X.env) = eval e X.env := by rfl) :
    PE (X.suite a ((a, oe) :: pn)) (.Attribute e "number" pos) (tNumW C a cls d te) := by
  refine ⟨fun pins s σ H Q I h => ?_⟩
  refine attr_of hb (thn (he.run pins s σ H _ I h) fun u s1 hh => ?_)
  obtain ⟨x, H1, I1, rx, ex, ec, dd, v, ed, ea, q⟩ := hh
  subst ex
  obtain rfl : u = Value.ref a := rx
  subst ec
  subst ed
  obtain ⟨ha, _⟩ := I1.pin (a, oe) (List.mem_append_left _ List.mem_cons_self)
  obtain ⟨vs, hd⟩ := hf
  have hx : ObjOk X.prog X.w H1 s1.heap dd (.xd [(("number" : Str), v)]) := I1.hok dd _ ea
  obtain ⟨mA, hns, hr⟩ := hx
  obtain ⟨od, ho, hl⟩ := lookIn_ns hns
  have l : List.lookup ("number" : Str) [(("number" : Str), v)] = some v := by simp [List.lookup]
  obtain ⟨u, hu, ru⟩ := RelO.some_of (v := v) (o := mA "number") (by rw [← l]; exact hr "number")
  have J : PySem.W.InstAt s1.heap a oe C (some od) := ⟨ha, hz.1, by unfold PySem.W.notCls; rw [hd] <;> rfl, by rw [hz.2]; exact ho⟩
  exact HandSPX.exc_get I1.kIn J T.ga T.gg T.exC (PySem.W.findObj_own T.hdC T.noN rfl (by rw [hl, hu])) (handed_of ru) ⟨v, H1, I1.tok _, ru, q⟩
end
end FpR
namespace FpR
open PySem PySem.Spec PyProof.Rows L2
section
variable {X : Cx}
/-- xs[i], i below 0, as read by xs[i] op= e -/
def rBack (K : PySem.W.Frag) : V → V → Hp → VK → Prop := fun x y H Q => ∃ p xs i v, x = .ref p ∧ y = .int i ∧ i < 0 ∧ SqL K H p xs ∧ atI xs i = some v ∧ Q v H
theorem get_back : PGet X (rBack X.K) := by
  intro pins s σ H o i ov iv Q I ro ri h
  obtain ⟨p, xs, k, z, rfl, rfl, hk, hq, he, q⟩ := h
  cases ro
  obtain ⟨t, rfl⟩ := ri
  obtain ⟨its, r, pl, hz⟩ := I.list hq
  obtain ⟨j, h1, h2, h3, h4, h5⟩ := atI_get he
  obtain ⟨w, ew, rw'⟩ := r.get h2
  have hl := r.length
  have hn := line63
  have hj : (k + (its.toArray.size : Int)).toNat = j := by
    rw [seqIndex_neg (by omega) h4] at h1
    rw [List.size_toArray, ← hl]
    exact Option.some.inj h1
  exact wpAny_getItem_list_neg pl.isList (by omega) (by rw [List.size_toArray] <;> omega) (by omega) (by rw [hj]; simpa using ew) ⟨z, H, I, rw', q⟩
theorem vals_back_get : ∀ {xs : List V} {us : List Value} {i : Nat} {u : Value}, Vals xs us → us[i]? = some u → ∃ x, xs[i]? = some x ∧ RelV x u
  | _, _, _, _, .nil, e => by simp at e
  | _, _, 0, _, .cons r _, e => by
    have := Option.some.inj e
    subst this
    exact ⟨_, rfl, r⟩
  | _, _, i + 1, _, .cons _ t, e => vals_back_get (i := i) t e
/-- max(xs), min(xs) of a list of alike data: one of its items -/
def rPick (X : Cx) : List V → Hp → VK → Prop := fun vs H Q => ∃ (a : Addr) (xs : List V) (d : PyData) (ds : List PyData), vs = [V.ref a] ∧ SqL X.K H a xs ∧ DpAll X.K H xs (d :: ds) ∧ PySem.W.AlikeAll (d :: ds) ∧ X.A.units + 1 + PyData.depthAll (d :: ds) < cLine ∧ ∀ v, v ∈ xs → Q v H
theorem cr_maxP (hc : X.calm = true) : CallR X (.builtin "max") (rPick X) := by
  intro pins s σ H vs us Q I r h
  obtain ⟨a, xs, d, ds, rfl, hs, hd, ha, hu, q⟩ := h
  obtain ⟨its, rv, hl, _⟩ := I.list hs
  rw [Vals.ref1 r]
  obtain ⟨as, hr⟩ := Dp.readsAll I _ _ _ hd rv
  refine PySem.W.max_list_data (I.ok.hd hc) hl.isList hr ha hu fun i v h' tk bs hv _ hk => ?_
  have hv' : its[i]? = some v := by simpa using hv
  obtain ⟨x, hx, rx⟩ := vals_back_get rv hv'
  exact ⟨x, H, I.kept hk, rx, q x (List.mem_of_getElem? hx)⟩
theorem cr_minP (hc : X.calm = true) : CallR X (.builtin "min") (rPick X) := by
  intro pins s σ H vs us Q I r h
  obtain ⟨a, xs, d, ds, rfl, hs, hd, ha, hu, q⟩ := h
  obtain ⟨its, rv, hl, _⟩ := I.list hs
  rw [Vals.ref1 r]
  obtain ⟨as, hr⟩ := Dp.readsAll I _ _ _ hd rv
  refine PySem.W.min_list_data (I.ok.hd hc) hl.isList hr ha hu fun i v h' tk bs hv _ hk => ?_
  have hv' : its[i]? = some v := by simpa using hv
  obtain ⟨x, hx, rx⟩ := vals_back_get rv hv'
  exact ⟨x, H, I.kept hk, rx, q x (List.mem_of_getElem? hx)⟩
end
end FpR
namespace Fp
open PySem PySem.Spec PyProof.Rows L2 FpR
/-- the i-th statement of the program -/
def top (i : Nat) : Stmt := PySem.Challenge.pw_fitpick_s01_pk_read.main.body.getD i (.Pass ⟨0, 0, 0, 0⟩)
abbrev sSplit : Stmt := top 26
abbrev sLines : Stmt := top 27
/-! ### the heap -/
/-- at p a list of lists that weren't in G, each of the bytes of one of ls -/
def LL (G H : Hp) (p : Addr) (ls : List (List Nat)) : Prop := ∃ as : List Addr, H p = some (.lst (as.map V.ref)) ∧ Paired (fun a l => H a = some (.lst (vN l)) ∧ a ≠ p ∧ G a = none) as ls
theorem vN_length (l : List Nat) : (vN l).length = l.length := List.length_map ..
theorem vN_get {l : List Nat} {i : Nat} {v : V} (h : (vN l)[i]? = some v) : ∃ x, l[i]? = some x ∧ v = .int (x : Int) := by
  unfold vN at h
  rw [List.getElem?_map] at h
  cases e : l[i]? with
  | none =>
    rw [e] at h
    cases h
  | some x => rw [e] at h; exact ⟨x, rfl, (Option.some.inj h).symm⟩
theorem vN_at {l : List Nat} {i x : Nat} (h : l[i]? = some x) : (vN l)[i]? = some (.int (x : Int)) := by
  unfold vN
  rw [List.getElem?_map, h]
  rfl
theorem vN_drop (l : List Nat) (i : Nat) : (vN l).drop i = vN (l.drop i) := by unfold vN; rw [List.map_drop]
theorem vN_take (l : List Nat) (i : Nat) : (vN l).take i = vN (l.take i) := by unfold vN; rw [List.map_take]
theorem six (n i : Nat) (d : Nat) (h : i ≤ n) : HT.sIx n d (some (i : Int)) = i := by
  unfold HT.sIx
  have e : ¬ ((i : Int) < 0) := by omega
  simp [e]
  omega
theorem cut_both {l : List Nat} {s i : Nat} (hs : s ≤ i) (hi : i ≤ l.length) : cutV (vN l) (some (s : Int)) (some (i : Int)) = vN ((l.drop s).take (i - s)) := by
  unfold cutV
  rw [vN_length, six _ s _ (by omega), six _ i _ hi, vN_drop, vN_take]
theorem cut_from {l : List Nat} {s : Nat} (hs : s ≤ l.length) : cutV (vN l) (some (s : Int)) none = vN (l.drop s) := by
  unfold cutV
  rw [vN_length, six _ _ _ hs, vN_drop, vN_take]
  show vN ((l.drop s).take (l.length - s)) = _
  rw [← List.length_drop, List.take_length]
/-- an if whose test is known -/
theorem if_true_of {c : Bool} {A B : Prop} (hc : c = true) (h : A) : if c = true then A else B := by
  rw [if_pos hc]
  exact h
theorem if_false_of {c : Bool} {A B : Prop} (hc : c = false) (h : B) : if c = true then A else B := by
  rw [hc, if_neg Bool.false_ne_true]
  exact h
theorem big : 32768 < sizeLine := by rw [sizeLine_eq]; decide
theorem paired_imp {α β : Type} {R S : α → β → Prop} : ∀ {a : List α} {b : List β}, Paired R a b → (∀ x y, x ∈ a → y ∈ b → R x y → S x y) → Paired S a b
  | _, _, .nil, _ => .nil
  | _, _, .cons r t, h => .cons (h _ _ List.mem_cons_self List.mem_cons_self r) (paired_imp t fun x y hx hy q => h x y (List.mem_cons_of_mem _ hx) (List.mem_cons_of_mem _ hy) q)
/-! ### split_at -/
def spSplit (K : PySem.W.Frag) : Sp := fun vs H Q _ => ∃ (a : Addr) (l : List Nat) (m : Nat), vs = [.ref a, .int (m : Int)] ∧ SqL K H a (vN l) ∧ l.length ≤ 32768 ∧
  ∀ (H' : Hp) (p : Addr), Same H H' → H p = none → LL H H' p (Ql76.pieces m l) → Q (.ref p) H'
theorem scSp : FnScope ["text", "mark", "pieces", "start", "place", "byte"] ["text", "mark"] (defScope sSplit) := ⟨rfl, rfl, rfl, by decide +kernel, rfl, by decide +kernel, by decide +kernel⟩
section
variable {P : Program} {w : World} {K : PySem.W.Frag} {mg : Str → Option Value} {base : Heap}
theorem ok_split {f : Addr} {fd : FuncData} (F : Fun K "split_at" "split_at" sSplit f fd) (hE : mg "enumerate" = none) : FnOk P w K mg base CX0 1 f fd ["text", "mark"] (spSplit K) := by
  refine F.ok scSp (fun vs H Q E h => ?_) (fun cdv A outer s H vs Q E hr h => ?_)
  · obtain ⟨a, l, m, rfl, _⟩ := h
    rfl
  · refine ⟨_, pss_cons (ps_set (i := 2) scSp.nd rfl (.inl rfl) (pe_lst pa_nil))
      (pss_cons (ps_set (i := 3) scSp.nd rfl (.inl rfl) pe_int)
      (pss_cons (ps_for PassesOwn.never rfl (pi_enum (by rfl) hE (pa_cons (pv 0) pa_nil)) (pg_tup rfl (pgs_cons (pg_name (i := 4) scSp.nd rfl (.inl rfl)) (pgs_cons (pg_name (i := 5) scSp.nd rfl (.inl rfl)) pgs_nil)))
        (pss_one (ps_if (pt_cmpR op_eq (pv 5) (pv 1) (nomark _))
          (pss_cons (ps_expr (pe_bm PySem.F.plainAttrs_list PySem.F.slot_list_append PySem.F.type_list_append mt_append (pv 2) (pa_cons (pe_slice sl_list (pv 0) (po_some (pv 3)) (po_some (pv 4))) pa_nil)))
            (pss_one (ps_set (i := 3) scSp.nd rfl (.inl rfl) (pe_op op_add (pv 4) pe_int)))) pss_nil)))
      (pss_cons (ps_expr (pe_bm PySem.F.plainAttrs_list PySem.F.slot_list_append PySem.F.type_list_append mt_append (pv 2) (pa_cons (pe_slice sl_list (pv 0) (po_some (pv 3)) po_none) pa_nil)))
      (pss_one (ps_ret (pv 2)))))), ?_⟩
    obtain ⟨a, l, m, rfl, hS, hlen, k⟩ := h
    refine ⟨Nat.zero_le _, fun p hp => ?_⟩
    have s1 : Same H (upd H p (.lst [])) := fun b o e => by rw [upd_ne (ne_of_none e hp)]; exact e
    refine ⟨_, rfl, a, vN l, rfl, s1.seq hS, for_it (walk_enum (xs := vN l)) (fun i σ H' => ∃ (done : List (List Nat)) (st : Nat) (v4 v5 : Option V), σ = [some (.ref a), some (.int (m : Int)), some (.ref p), some (.int (st : Int)), v4, v5] ∧ Same H H' ∧ LL H H' p done ∧ Cut m l i done st)
      ⟨[], 0, none, none, rfl, s1, ⟨[], upd_same, .nil⟩, Cut.start m l⟩ (fun i σ H' _ ⟨_, _, _, _, _, s5, _⟩ => s5.seq hS) ?_ ?_⟩
    · rintro i v σ H1 H2 hi ⟨done, st, v4, v5, rfl, s5, LP, C⟩ ⟨T, x, y, rfl, hT, rfl, ex, ey⟩
      obtain rfl : V.int (i : Nat) = x := Option.some.inj ex
      obtain ⟨z, hz, rfl⟩ := vN_get ey
      have hil : i < l.length := by rw [← vN_length l]; exact hi
      obtain ⟨as, hP, hAs⟩ := LP
      have hpT : p ≠ T := ne_of_none hP hT
      have s6 : Same H1 (upd H1 T (.tup [.int (i : Nat), .int (z : Int)])) := fun b o e => by rw [upd_ne (ne_of_none e hT)]; exact e
      refine ⟨T, _, rfl, SqT.of upd_same, rfl, _, _, rfl, _, _, rfl, rfl, ?_⟩
      refine ⟨_, rfl, _, rfl, rfl, _, rfl, ?_⟩
      have hdl : done.length ≤ 32769 := by
        have e := C.2
        have e2 := pieces_length m l
        rw [e, List.length_append] at e2
        omega
      have hal : (as.map V.ref).length ≤ 32769 := by rw [List.length_map, Paired.length hAs]; exact hdl
      have hP2 := (upd_ne (o := HO.tup [.int (i : Nat), .int (z : Int)]) hpT).trans hP
      by_cases c : z = m
      · subst c
        refine if_true_of (decide_eq_true rfl) ?_
        refine ⟨_, rfl, .inl ⟨rfl, _, SqL.of hP2⟩, _, rfl, _, rfl, _, rfl, _, rfl, _, rfl, _, _, rfl, (s5.trans s6).seq hS, fun q hq => ?_⟩
        have hpq : p ≠ q := ne_of_none hP2 hq
        refine ⟨p, _, _, rfl, rfl, (upd_ne hpq).trans hP2, Nat.lt_of_le_of_lt hal (by rw [sizeLine_eq]; decide), ?_⟩
        refine ⟨_, rfl, _, _, rfl, rfl, ?_⟩
        refine ⟨done ++ [(l.drop st).take (i - st)], i + 1, _, _, rfl, fun b o e => ?_, ⟨as ++ [q], ?_, ?_⟩, C.mark hz⟩
        · have e1 := (s5.trans s6) b o e
          rw [upd_ne (fun z => by rw [z, hp] at e; cases e), upd_ne (ne_of_none e1 hq)]
          exact e1
        · rw [upd_same, List.map_append]
          rfl
        · refine paired_append (paired_imp hAs fun b y _ _ ⟨h1, h2, h3⟩ => ⟨?_, h2, h3⟩) (.cons ⟨?_, Ne.symm hpq, ?_⟩ .nil)
          · have e1 := s6 b _ h1
            rw [upd_ne h2, upd_ne (ne_of_none e1 hq)]
            exact e1
          · rw [upd_ne (Ne.symm hpq), upd_same, cut_both C.1 (Nat.le_of_lt hil)]
          · exact (s5.trans s6).free hq
      · refine if_false_of (decide_eq_false fun q => c (by have := V.int.inj q; omega)) ?_
        refine ⟨done, st, _, _, rfl, s5.trans s6, ⟨as, hP2, paired_imp hAs fun b y _ _ ⟨h1, h2⟩ => ⟨s6 b _ h1, h2⟩⟩, C.other hz c⟩
    · rintro σ H1 ⟨done, st, v4, v5, rfl, s5, ⟨as, hP, hAs⟩, C⟩
      rw [vN_length] at C
      have hdl : done.length ≤ 32769 := by
        have e := C.2
        have e2 := pieces_length m l
        rw [e, List.length_append] at e2
        omega
      have hal : (as.map V.ref).length ≤ 32769 := by rw [List.length_map, Paired.length hAs]; exact hdl
      refine ⟨_, rfl, .inl ⟨rfl, _, SqL.of hP⟩, _, rfl, _, rfl, _, rfl, _, _, rfl, s5.seq hS, fun q hq => ?_⟩
      have hpq : p ≠ q := ne_of_none hP hq
      refine ⟨p, _, _, rfl, rfl, (upd_ne hpq).trans hP, Nat.lt_of_le_of_lt hal (by rw [sizeLine_eq]; decide), ?_⟩
      refine ⟨_, rfl, ?_⟩
      refine k _ p (fun b o e => ?_) hp ?_
      · have e1 := s5 b o e
        rw [upd_ne (fun z => by rw [z, hp] at e; cases e), upd_ne (ne_of_none e1 hq)]
        exact e1
      · rw [C.fin]
        refine ⟨as ++ [q], ?_, paired_append (paired_imp hAs fun b y _ _ ⟨h1, h2, h3⟩ => ⟨?_, h2, h3⟩) (.cons ⟨?_, Ne.symm hpq, ?_⟩ .nil)⟩
        · rw [upd_same, List.map_append]
          rfl
        · rw [upd_ne h2, upd_ne (ne_of_none h1 hq)]
          exact h1
        · rw [upd_ne (Ne.symm hpq), upd_same, cut_from C.1]
        · exact s5.free hq
end
end Fp
namespace Fp
open PySem PySem.Spec PyProof.Rows L2 FpR
abbrev sName : Stmt := top 28
abbrev sNum : Stmt := top 29
/-- a def as the top leaves it -/
structure Dn (K : PySem.W.Frag) (mg : Str → Option Value) (x : Str) (st : Stmt) (ps : List Str) (f : Addr) (fd : FuncData) : Prop where
  F : Fun K x x st f fd
  g : mg x = some (.ref f)
  b : Binds K fd ps []
/-- a constant of the module -/
def Ci (mg : Str → Option Value) (x : Str) (i : Int) : Prop := ∃ t, mg x = some (.int i t)
theorem pe_ci {X : Cx} {x : Str} {i : Int} {pos : Pos} (h : Ci X.mg x i) (hg : Gl X x := by rfl) (hd : (x == ("__debug__" : Str)) = false := by decide) : PE X (.Name x pos) (tC (.int i)) :=
  let ⟨t, e⟩ := h
  pe_glob hg e ⟨t, rfl⟩ hd
/-- the class of the errors that say that a text is wrong -/
structure Wt (K : PySem.W.Frag) (mg : Str → Option Value) (C : Addr) : Prop where
  g : mg "WrongText" = some (.ref C)
  x : PySem.W.excIn K C [.type "Exception", .type "BaseException", .type "object"] "Exception.__new__" = true
  k : PySem.W.keepIn K (.ref C) = true
  b : PySem.W.subIn K (.ref C) (.type "BaseException") = some true
  t : PySem.W.typeIn K (.ref C) = some (.type "type")
  e : PySem.W.exmOne K (.ref C) (.ref C) = some true
section
variable {P : Program} {w : World} {K : PySem.W.Frag} {mg : Str → Option Value} {base : Heap}
/-- as Fun.ok, for a def that may raise where nothing is handled -/
theorem okN {x qual : Str} {st : Stmt} {f : Addr} {fd : FuncData} {N ps : List Str} {k : Nat} {sp : Sp} (F : Fun K x qual st f fd) (S : FnScope N ps (defScope st)) (len : ∀ vs H Q E, sp vs H Q E → vs.length = ps.length)
    (hb : ∀ (cdv : Value) (A : Around) (outer : List Env) (s : Shared) (H : Hp) (vs : List V) (Q : VK) (E : XK), Room k (A.deeper (envOfC qual (defScope st) s.heap.objs.size f cdv)) → sp vs H Q E →
      ∃ t, PSs (cxOf (L2N.CX P w) P w K mg base N qual (defScope st) f cdv A outer s H E) (defBody st) t ∧ t { nx := fun _ H' => Q .non H', rt := Q } (L2.start N vs) H) : FnOk P w K mg base (L2N.CX P w) (k + 1) f fd ps sp := by
  obtain ⟨_, _, _, _, _, _, cdv, _, _, rfl, lk, hcd⟩ := F.ex
  exact fn_of lk hcd S len fun A outer s H vs Q E hr hsp => hb cdv A outer s H vs Q E hr hsp
/-- raise WrongText('..') -/
theorem ps_wt {X : Cx} {W : WX} {C : Addr} {m : Str} {j : Nat} {p p2 pos pos2 : Pos} (T : Wt X.K X.mg C) (hc : X.calm = true) (tk : L2N.Takes X W) (hg : Gl X "WrongText") :
    PS X (.Raise (some (.Call (.Name "WrongText" p) [.Constant (.str m) j p2] [] pos)) none pos2) (fun _ σ H => W (.ref C) none σ H) :=
  L2N.ps_raise hc tk (L2N.pmk_own PySem.F.excBase_Exception T.x T.g T.k (raises_own T.b T.t) hg)
/-! ### split_lines -/
def spLines (K : PySem.W.Frag) : Sp := fun vs H Q _ => ∃ (a : Addr) (l : List Nat), vs = [.ref a] ∧ SqL K H a (vN l) ∧ l.length ≤ 32768 ∧
  ∀ (H' : Hp) (p : Addr), Same H H' → H p = none → LL H H' p (Ql76.linesOf l) → Q (.ref p) H'
theorem scLi : FnScope ["text", "pieces"] ["text"] (defScope sLines) := ⟨rfl, rfl, rfl, by decide +kernel, rfl, by decide +kernel, by decide +kernel⟩
theorem paired_last {α β : Type} {R : α → β → Prop} : ∀ {a : List α} {b : List β} {y : β}, Paired R a (b ++ [y]) → ∃ a' x, a = a' ++ [x] ∧ Paired R a' b ∧ R x y
  | _, [], _, r => by
    cases r with
    | cons r1 r2 => cases r2; exact ⟨[], _, rfl, .nil, r1⟩
  | _, _ :: b, _, r => by
    cases r with
    | cons r1 r2 =>
      obtain ⟨a', x, rfl, r3, r4⟩ := paired_last r2
      exact ⟨_ :: a', x, rfl, .cons r1 r3, r4⟩
theorem ok_lines {f fS : Addr} {fd fdS : FuncData} (F : Fun K "split_lines" "split_lines" sLines f fd) (hL : mg "len" = none) (hE : mg "enumerate" = none) (D : Dn K mg "split_at" sSplit ["text", "mark"] fS fdS) (cL : Ci mg "LINE_END" 10) :
    FnOk P w K mg base CX0 2 f fd ["text"] (spLines K) := by
  have GS : FnOk P w K mg base CX0 1 fS fdS ["text", "mark"] (spSplit K) := ok_split D.F hE
  refine F.ok scLi (fun vs H Q E h => ?_) (fun cdv A outer s H vs Q E hr h => ?_)
  · obtain ⟨a, l, rfl, _⟩ := h
    rfl
  · refine ⟨_, pss_cons (ps_set (i := 1) scLi.nd rfl (.inl rfl) (pe_call GS hr rfl D.g D.F.kp D.b .nil pass0 (pa_cons (pv 0) (pa_cons (pe_ci cL) pa_nil))))
      (pss_cons (ps_if (pt_cmpR op_eq (pe_callB call_len_seq (by rfl) hL PySem.boot_len (pa_cons (pe_ix ix_list (pv 1) (pe_un un_neg pe_int) (fun _ _ => rfl)) pa_nil)) pe_int (nomark _))
        (pss_one (ps_expr (pe_bm0 PySem.F.plainAttrs_list PySem.F.slot_list_pop PySem.F.type_list_pop mt_pop (pv 1)))) pss_nil)
      (pss_one (ps_ret (pv 1)))), ?_⟩
    obtain ⟨a, l, rfl, hS, hlen, k⟩ := h
    refine ⟨_, rfl, a, l, 10, rfl, hS, hlen, fun H1 p s1 hp LP => ?_⟩
    obtain ⟨as, hP, hAs⟩ := LP
    have hne := pieces_ne 10 l
    obtain ⟨ini, y, ey⟩ : ∃ ini y, Ql76.pieces 10 l = ini ++ [y] := ⟨_, _, (List.dropLast_concat_getLast hne).symm⟩
    rw [ey] at hAs
    obtain ⟨as', q, rfl, hAs', hq, hqp⟩ := paired_last hAs
    refine ⟨_, rfl, _, rfl, p, _, _, V.ref q, rfl, rfl, SqL.of hP, ?_, ?_⟩
    · rw [List.map_append]
      exact atI_last _ _
    refine ⟨q, vN y, rfl, .inl (SqL.of hq), rfl, _, rfl, ?_⟩
    have lin : Ql76.linesOf l = if y = [] then ini else ini ++ [y] := by
      unfold Ql76.linesOf
      show (if (Ql76.pieces 10 l).getLast? = some [] then (Ql76.pieces 10 l).dropLast else Ql76.pieces 10 l) = _
      rw [ey, List.getLast?_concat, List.dropLast_concat]
      by_cases c : y = []
      · rw [if_pos (by rw [c]), if_pos c]
      · rw [if_neg (fun z => c (Option.some.inj z)), if_neg c]
    by_cases c : y = []
    · subst c
      rw [if_pos rfl] at lin
      refine if_true_of (decide_eq_true rfl) ?_
      refine ⟨_, rfl, .inl ⟨rfl, _, SqL.of hP⟩, p, _, V.ref q, rfl, rfl, hP, ?_, ?_⟩
      · rw [List.map_append]
        simp
      · refine ⟨_, rfl, k _ p (fun b o e => ?_) hp ?_⟩
        · rw [upd_ne (fun z => by rw [z, hp] at e; cases e)]
          exact s1 b o e
        · rw [lin]
          refine ⟨as', ?_, paired_imp hAs' fun b x _ _ ⟨h1, h2, h3⟩ => ⟨(upd_ne h2).trans h1, h2, h3⟩⟩
          rw [upd_same, List.map_append]
          simp
    · rw [if_neg c] at lin
      refine if_false_of (decide_eq_false fun z => c ?_) ?_
      · have z' := V.int.inj z
        rw [vN_length] at z'
        have z2 : y.length = 0 := by omega
        exact List.length_eq_zero_iff.mp z2
      · refine ⟨_, rfl, k _ p s1 hp ?_⟩
        rw [lin]
        exact ⟨as' ++ [q], hP, hAs⟩
end
end Fp
namespace Fp
open PySem PySem.Spec PyProof.Rows L2 FpR
/-- what is tracked in H' and not in H -/
def dif (H H' : Hp) : Hp := fun b => match H b with
  | none => H' b
  | some _ => none
theorem dif_new {H H' : Hp} {b : Addr} (h : H b = none) : dif H H' b = H' b := by unfold dif; rw [h]
theorem dif_some {H H' : Hp} {b : Addr} {o : HO} (h : dif H H' b = some o) : H b = none ∧ H' b = some o := by
  unfold dif at h
  cases e : H b with
  | none => rw [e] at h; exact ⟨rfl, h⟩
  | some u => rw [e] at h; cases h
theorem dif_low {H H1 H' : Hp} (s : Same H H1) : Same (dif H1 H') (dif H H') := fun b o e => by
  obtain ⟨h1, h2⟩ := dif_some e
  rw [dif_new (s.free h1)]
  exact h2
theorem dif_up {H H' H2 : Hp} (s : Same H' H2) : Same (dif H H') (dif H H2) := fun b o e => by
  obtain ⟨h1, h2⟩ := dif_some e
  rw [dif_new h1]
  exact s b o h2
theorem dif_same {H H' : Hp} : Same (dif H H') H' := fun b o e => (dif_some e).2
/-- the promise of a def that reads a text: what it reads, how that lies in the heap (all of it new), the class of its error -/
def spR {α : Type} (K : PySem.W.Frag) (rd : List Nat → Option α) (At : Hp → V → α → Prop) (C : Addr) : Sp := fun vs H Q E => ∃ (a : Addr) (l : List Nat), vs = [.ref a] ∧ SqL K H a (vN l) ∧ l.length ≤ 32768 ∧
  (rd l = none → ∀ H', Same H H' → E (.ref C) none H') ∧ (∀ y, rd l = some y → ∀ H' v, Same H H' → At (dif H H') v y → Q v H')
def TupAt (H : Hp) (v : V) (l : List Nat) : Prop := ∃ p, v = .ref p ∧ H p = some (.tup (vN l))
/-- a test that leaves the heap as it is -/
theorem tIf_of {c : TT} {t u : TS} {D : Ends} {σ : L2.St} {H : Hp} (b : Bool) (h : ∀ Q : Bool → Hp → Prop, Q b H → c σ H Q) (h2 : if b = true then t D σ H else u D σ H) : tIfS c t u D σ H := h _ h2
theorem seq_if {c : TT} {t u r : TS} {D : Ends} {σ : L2.St} {H : Hp} (b : Bool) (h : ∀ Q : Bool → Hp → Prop, Q b H → c σ H Q) (h2 : if b = true then t { D with nx := r D } σ H else u { D with nx := r D } σ H) : tSeq (tIfS c t u) r D σ H := h _ h2
theorem nx_of {D : Ends} {σ : L2.St} {H : Hp} (h : D.nx σ H) : tNext D σ H := h
theorem ret_cb1 {r : List V → Hp → VK → Prop} {te : TE} {D : Ends} {σ : L2.St} {H : Hp} (h : te σ H fun x H1 => r [x] H1 D.rt) : tRet (tCB r (tCons te tNil)) D σ H := h
theorem ret_of {te : TE} {D : Ends} {σ : L2.St} {H : Hp} (h : te σ H D.rt) : tRet te D σ H := h
theorem seq_asg {te : TE} {g : TG} {r : TS} {D : Ends} {σ : L2.St} {H : Hp} (h : te σ H fun x H1 => g x σ H1 (r D)) : tSeq (tAsg te g) r D σ H := h
def NumAt (_ : Hp) (v : V) (n : Nat) : Prop := v = .int (n : Int)
theorem TupAt.mono {H H' : Hp} {v : V} {l : List Nat} (s : Same H H') (h : TupAt H v l) : TupAt H' v l := by
  obtain ⟨p, e, h⟩ := h
  exact ⟨p, e, s _ _ h⟩
/-- H without D -/
def hid (D : Addr) (H : Hp) : Hp := fun b => if b = D then none else H b
theorem hid_ne {D b : Addr} {H : Hp} (h : b ≠ D) : hid D H b = H b := if_neg h
theorem hid_some {D b : Addr} {H : Hp} {o : HO} (h : hid D H b = some o) : b ≠ D ∧ H b = some o := by
  unfold hid at h
  by_cases e : b = D
  · rw [if_pos e] at h; cases h
  · rw [if_neg e] at h; exact ⟨e, h⟩
theorem paired_get {α β : Type} {R : α → β → Prop} : ∀ {a : List α} {b : List β} {i : Nat} {x : α}, Paired R a b → a[i]? = some x → ∃ y, b[i]? = some y ∧ R x y
  | _, _, _, _, .nil, eb => by simp at eb
  | _, _, 0, _, .cons r _, e => by
    have := Option.some.inj e
    subst this
    exact ⟨_, rfl, r⟩
  | _, _, i + 1, _, .cons _ t, e => paired_get (i := i) t e
theorem yes_of {σ : L2.St} {H : Hp} {A B : Hp → Prop} (h : A H) : tYes σ H (fun b H3 => if b = true then A H3 else B H3) := by
  show if true = true then A H else B H
  rw [if_pos rfl]
  exact h
/-- what a comprehension over the walk J asks -/
def LcTail (te : TE) (i : Nat) (σ : L2.St) (Q : VK) (J : It) (H1 : Hp) : Prop := ∀ D, H1 D = none → ∃ Wt : Nat → Nat → Hp → Prop, (∃ m, Wt 0 m (upd H1 D (.lst []))) ∧ ∀ j m H, Wt j m H →
  (J.stop j H ∧ Q (.ref D) H) ∨ (J.go j H ∧ ∃ Nx : Hp → Prop, (∀ H', Nx H' → ∃ m', m' < m ∧ Wt (j + 1) m' H') ∧ ∀ x H', J.yld j H x H' → gName i x (wipe σ [i]) H' fun σ2 H2 =>
    wipe σ2 [i] = wipe σ [i] ∧ tYes σ2 H2 fun b H3 => if b = true then te σ2 H3 fun y H4 => ∃ acc, H4 D = some (.lst acc) ∧ acc.length < sizeLine ∧ Nx (upd H4 D (.lst (acc ++ [y]))) else Nx H3)
theorem lc_open {K : PySem.W.Frag} {te0 te : TE} {i : Nat} {σ : L2.St} {H : Hp} {Q : VK} (h : te0 σ H fun x H1 => ∃ a, x = .ref a ∧ (∃ xs, SqL K H1 a xs) ∧ LcTail te i σ Q (Itl K a) H1) : tLc (iList K te0) (gName i) tYes te [i] σ H Q := h
/-- a comprehension whose element reads a piece -/
theorem lc_rd {α : Type} {K : PySem.W.Frag} {rd : List Nat → Option α} {At : Hp → V → α → Prop} {C : Addr} {W : XK} {i : Nat} {σ : L2.St} {H1 : Hp} {a : Addr} {as : List Addr} {ls : List (List Nat)} {Q : VK} (hi : i < σ.length)
    (mono : ∀ {H H' : Hp} {v : V} {y : α}, Same H H' → At H v y → At H' v y) (hA : SqL K H1 a (as.map V.ref)) (hP : Paired (fun b l => H1 b = some (.lst (vN l))) as ls) (hb : ∀ l ∈ ls, l.length ≤ 32768) (hz : ls.length < sizeLine)
    (kN : Ql76.each rd ls = none → ∀ H', Same H1 H' → W (.ref C) none H')
    (kS : ∀ ys, Ql76.each rd ls = some ys → ∀ (D : Addr) (vs : List V) (H' : Hp), Same H1 H' → H1 D = none → H' D = some (.lst vs) → Paired (At (hid D (dif H1 H'))) vs ys → Q (.ref D) H') :
    LcTail (tCallS (spR K rd At C) (fun _ => W) (tCons (tVar i) tNil)) i σ Q (Itl K a) H1 := by
  intro D hD
  have sD : Same H1 (upd H1 D (.lst [])) := fun b o e => by rw [upd_ne (ne_of_none e hD)]; exact e
  refine lc_list (K := K) (a := a) (xs := as.map V.ref) (fun j H => ∃ (vs : List V) (ys : List α), Same H1 H ∧ H D = some (.lst vs) ∧ Paired (At (hid D (dif H1 H))) vs ys ∧ Ql76.each rd (ls.take j) = some ys)
    ⟨[], [], sD, upd_same, .nil, rfl⟩ (fun j H _ ⟨_, _, s5, _⟩ => s5.seq hA) ?_ ?_
  · rintro j x H hj ⟨vs, ys, s5, hDv, hV, hE⟩
    rw [List.getElem?_map] at hj
    obtain ⟨b, hb1, rfl⟩ : ∃ b, as[j]? = some b ∧ x = V.ref b := by
      cases e : as[j]? with
      | none => rw [e] at hj; cases hj
      | some b => rw [e] at hj; exact ⟨b, rfl, (Option.some.inj hj).symm⟩
    obtain ⟨l, hl, hlb⟩ := paired_get hP hb1
    refine ⟨?_, ?_⟩
    · show ((σ.set i none).set i (some (V.ref b))).set i none = σ.set i none
      rw [List.set_set, List.set_set]
    refine yes_of ?_
    refine ⟨.ref b, ?_, b, l, rfl, SqL.of (s5 b _ hlb), hb l (List.mem_of_getElem? hl), fun e H' s6 => ?_, fun y e H' v s6 hAt => ?_⟩
    · show ((σ.set i none).set i (some (V.ref b)))[i]? = _
      rw [List.set_set, List.getElem?_set_self hi]
    · exact kN (each_none hl e) H' (s5.trans s6)
    · have hlen : vs.length = j := by
        rw [Paired.length hV, each_length hE, List.length_take]
        have := (List.getElem?_eq_some_iff.mp hl).1
        omega
      have hjl : j < ls.length := (List.getElem?_eq_some_iff.mp hl).1
      refine ⟨vs, s6 D _ hDv, by omega, vs ++ [v], ys ++ [y], ?_, upd_same, ?_, each_more hE hl e⟩
      · intro c o ec
        have : c ≠ D := ne_of_none ec hD
        rw [upd_ne this]
        exact s6 c o (s5 c o ec)
      · have up : ∀ {Hd : Hp}, (∀ c o, Hd c = some o → c ≠ D ∧ H1 c = none ∧ H' c = some o) → Same Hd (hid D (dif H1 (upd H' D (.lst (vs ++ [v]))))) := fun {Hd} h c o ec => by
          obtain ⟨h1, h2, h3⟩ := h c o ec
          rw [hid_ne h1, dif_new h2, upd_ne h1]
          exact h3
        refine paired_append (paired_imp hV fun c z _ _ q => mono (up fun c o ec => ?_) q) (.cons (mono (up fun c o ec => ?_) hAt) .nil)
        · obtain ⟨h1, h2⟩ := hid_some ec
          obtain ⟨h3, h4⟩ := dif_some h2
          exact ⟨h1, h3, s6 c o h4⟩
        · obtain ⟨h3, h4⟩ := dif_some ec
          refine ⟨fun z => ?_, s5.free h3, h4⟩
          rw [z, hDv] at h3
          cases h3
  · rintro H ⟨vs, ys, s5, hDv, hV, hE⟩
    rw [List.length_map, Paired.length hP, List.take_length] at hE
    exact kS ys hE D vs H s5 hD hDv hV
section
variable {P : Program} {w : World} {K : PySem.W.Frag} {mg : Str → Option Value} {base : Heap} {C : Addr}
theorem scNa : FnScope ["text", "byte"] ["text"] (defScope sName) := ⟨rfl, rfl, rfl, by decide +kernel, rfl, by decide +kernel, by decide +kernel⟩
theorem ok_name {f : Addr} {fd : FuncData} (F : Fun K "read_name" "read_name" sName f fd) (T : Wt K mg C) (hL : mg "len" = none) (hT : mg "tuple" = none) (c1 : Ci mg "MOST_LETTERS" 16) (c2 : Ci mg "SMALL_A" 97) (c3 : Ci mg "SMALL_Z" 122) :
    FnOk P w K mg base (L2N.CX P w) 1 f fd ["text"] (spR K Ql76.nameRead TupAt C) := by
  refine okN F scNa (fun vs H Q E h => ?_) (fun cdv A outer s H vs Q E hr h => ?_)
  · obtain ⟨a, l, rfl, _⟩ := h
    rfl
  · refine ⟨_, pss_cons (ps_if (PW.pt (pw_or (pt_cmpR op_lt (pe_callB call_len_seq (by rfl) hL PySem.boot_len (pa_cons (pv 0) pa_nil)) pe_int (nomark _)) (pw_or1 (pt_cmpR op_gt (pe_callB call_len_seq (by rfl) hL PySem.boot_len (pa_cons (pv 0) pa_nil)) (pe_ci c1) (nomark _)))))
        (pss_one (ps_wt T rfl (L2N.takes_of rfl rfl rfl rfl) (by rfl))) pss_nil)
      (pss_cons (ps_for (passes_of rfl) rfl (pi_list (pv 0)) (pg_name (i := 1) scNa.nd rfl (.inl rfl))
        (pss_one (ps_if (PW.pt (pw_or (pt_cmpR op_lt (pv 1) (pe_ci c2) (nomark _)) (pw_or1 (pt_cmpR op_gt (pv 1) (pe_ci c3) (nomark _)))))
          (pss_one (ps_wt T rfl (L2N.takes_of rfl rfl rfl rfl) (by rfl))) pss_nil)))
      (pss_one (ps_ret (pe_callTy call_tuple_of (by rfl) hT (by decide +kernel) (pa_cons (pv 0) pa_nil))))), ?_⟩
    obtain ⟨a, l, rfl, hS, hlen, kN, kS⟩ := h
    refine ⟨_, rfl, a, _, rfl, .inl hS, _, _, rfl, rfl, _, rfl, ?_⟩
    rw [vN_length]
    by_cases c : (l.length : Int) < 1
    · refine if_true_of (decide_eq_true c) ?_
      exact if_true_of rfl (kN (name_none_of (.inl (by omega))) H (Same.refl H))
    refine if_false_of (decide_eq_false c) ?_
    refine ⟨_, rfl, a, _, rfl, .inl hS, _, _, rfl, rfl, _, rfl, ?_⟩
    rw [vN_length]
    by_cases c' : (16 : Int) < (l.length : Int)
    · exact if_true_of (decide_eq_true c') (kN (name_none_of (.inr (by omega))) H (Same.refl H))
    refine if_false_of (decide_eq_false c') ?_
    refine ⟨_, rfl, a, rfl, ⟨_, hS⟩, for_list (K := K) (a := a) (xs := vN l) (fun i σ H' => ∃ v : Option V, σ = [some (.ref a), v] ∧ H' = H ∧ (l.take i).all Ql76.isLetter = true)
      ⟨none, rfl, rfl, rfl⟩ (fun i σ H' _ ⟨_, _, e, _⟩ => by rw [e]; exact hS) ?_ ?_⟩
    · rintro i y σ H' hi ⟨v, rfl, rfl, hal⟩
      obtain ⟨z, hz, rfl⟩ := vN_get hi
      refine ⟨_, rfl, _, _, rfl, rfl, _, rfl, ?_⟩
      by_cases d : (z : Int) < 97
      · refine if_true_of (decide_eq_true d) ?_
        refine if_true_of rfl (kN (name_none_at hz ?_) _ (Same.refl _))
        cases e : Ql76.isLetter z with
        | false => rfl
        | true => have := letter_iff.mp e; omega
      refine if_false_of (decide_eq_false d) ?_
      refine ⟨_, rfl, _, _, rfl, rfl, _, rfl, ?_⟩
      by_cases d' : (122 : Int) < (z : Int)
      · refine if_true_of (decide_eq_true d') (kN (name_none_at hz ?_) _ (Same.refl _))
        cases e : Ql76.isLetter z with
        | false => rfl
        | true => have := letter_iff.mp e; omega
      refine if_false_of (decide_eq_false d') ?_
      exact ⟨some (.int (z : Int)), rfl, rfl, all_more hal hz (letter_iff.mpr (by omega))⟩
    · rintro σ H' ⟨v, rfl, rfl, hal⟩
      rw [vN_length, List.take_length] at hal
      refine ⟨_, rfl, a, _, rfl, .inl ⟨hS, fun p hp => ?_⟩⟩
      exact kS l (name_some_of (by omega) (by omega) hal) _ _ (fun b o e => by rw [upd_ne (ne_of_none e hp)]; exact e) ⟨p, rfl, (dif_new hp).trans upd_same⟩
theorem scNu : FnScope ["text", "number", "byte"] ["text"] (defScope sNum) := ⟨rfl, rfl, rfl, by decide +kernel, rfl, by decide +kernel, by decide +kernel⟩
theorem ok_num {f : Addr} {fd : FuncData} (F : Fun K "read_number" "read_number" sNum f fd) (T : Wt K mg C) (hL : mg "len" = none) (c1 : Ci mg "MOST_FIGURES" 3) (c2 : Ci mg "ZERO" 48) (c3 : Ci mg "NINE" 57) :
    FnOk P w K mg base (L2N.CX P w) 1 f fd ["text"] (spR K Ql76.number NumAt C) := by
  refine okN F scNu (fun vs H Q E h => ?_) (fun cdv A outer s H vs Q E hr h => ?_)
  · obtain ⟨a, l, rfl, _⟩ := h
    rfl
  · refine ⟨_, pss_cons (ps_if (PW.pt (pw_or (pt_cmpR op_lt (pe_callB call_len_seq (by rfl) hL PySem.boot_len (pa_cons (pv 0) pa_nil)) pe_int (nomark _)) (pw_or1 (pt_cmpR op_gt (pe_callB call_len_seq (by rfl) hL PySem.boot_len (pa_cons (pv 0) pa_nil)) (pe_ci c1) (nomark _)))))
        (pss_one (ps_wt T rfl (L2N.takes_of rfl rfl rfl rfl) (by rfl))) pss_nil)
      (pss_cons (ps_if (PW.pt (pw_and (pt_cmpR op_gt (pe_callB call_len_seq (by rfl) hL PySem.boot_len (pa_cons (pv 0) pa_nil)) pe_int (nomark _)) (pw_and1 (pt_cmpR op_eq (pe_ix ix_list (pv 0) pe_int (fun _ _ => rfl)) (pe_ci c2) (nomark _)))))
        (pss_one (ps_wt T rfl (L2N.takes_of rfl rfl rfl rfl) (by rfl))) pss_nil)
      (pss_cons (ps_set (i := 1) scNu.nd rfl (.inl rfl) pe_int)
      (pss_cons (ps_for (passes_of rfl) rfl (pi_list (pv 0)) (pg_name (i := 2) scNu.nd rfl (.inl rfl))
        (pss_cons (ps_if (PW.pt (pw_or (pt_cmpR op_lt (pv 2) (pe_ci c2) (nomark _)) (pw_or1 (pt_cmpR op_gt (pv 2) (pe_ci c3) (nomark _)))))
          (pss_one (ps_wt T rfl (L2N.takes_of rfl rfl rfl rfl) (by rfl))) pss_nil)
          (pss_one (ps_set (i := 1) scNu.nd rfl (.inl rfl) (pe_op op_sub (pe_op op_add (pe_op op_mul (pv 1) pe_int) (pv 2)) (pe_ci c2))))))
      (pss_one (ps_ret (pv 1)))))), ?_⟩
    obtain ⟨a, l, rfl, hS, hlen, kN, kS⟩ := h
    refine ⟨_, rfl, a, _, rfl, .inl hS, _, _, rfl, rfl, _, rfl, ?_⟩
    rw [vN_length]
    by_cases c : (l.length : Int) < 1
    · refine if_true_of (decide_eq_true c) ?_
      exact if_true_of rfl (kN (num_none_of (.inl (by omega))) H (Same.refl H))
    refine if_false_of (decide_eq_false c) ?_
    refine ⟨_, rfl, a, _, rfl, .inl hS, _, _, rfl, rfl, _, rfl, ?_⟩
    rw [vN_length]
    by_cases c' : (3 : Int) < (l.length : Int)
    · exact if_true_of (decide_eq_true c') (kN (num_none_of (.inr (by omega))) H (Same.refl H))
    refine if_false_of (decide_eq_false c') ?_
    -- a 0 in front
    refine nx_of ?_
    dsimp only
    refine seq_if (b := decide (1 < l.length ∧ l[0]? = some 48)) (fun Q0 q0 => ?_) ?_
    · refine ⟨_, rfl, a, _, rfl, .inl hS, _, _, rfl, rfl, _, rfl, ?_⟩
      rw [vN_length]
      obtain ⟨x0, h0⟩ : ∃ x0, l[0]? = some x0 := ⟨l[0]'(by omega), by simp⟩
      by_cases d : (1 : Int) < (l.length : Int)
      · refine if_true_of (decide_eq_true d) ?_
        refine ⟨_, rfl, a, _, 0, .int (x0 : Int), rfl, rfl, hS, atI_nat (j := 0) (vN_at h0), rfl, _, rfl, ?_⟩
        have e : decide (V.int (x0 : Int) = V.int 48) = decide (1 < l.length ∧ l[0]? = some 48) := by
          by_cases d' : x0 = 48
          · subst d'
            rw [decide_eq_true (show V.int ((48 : Nat) : Int) = V.int 48 from rfl), decide_eq_true ⟨by omega, h0⟩]
          · rw [decide_eq_false fun z => d' (by have := V.int.inj z; omega), decide_eq_false fun z => d' (by have := h0.symm.trans z.2; exact Option.some.inj this)]
        rw [e]
        exact q0
      · refine if_false_of (decide_eq_false d) ?_
        rw [decide_eq_false fun z => d (by omega)] at q0
        exact q0
    by_cases hz : 1 < l.length ∧ l[0]? = some 48
    · exact if_true_of (decide_eq_true hz) (kN (num_none_zero hz.1 hz.2) H (Same.refl H))
    refine if_false_of (decide_eq_false hz) ?_
    refine ⟨_, rfl, a, rfl, ⟨_, hS⟩, for_list (K := K) (a := a) (xs := vN l) (fun i σ H' => ∃ v : Option V, σ = [some (.ref a), some (.int (val (l.take i) : Int)), v] ∧ H' = H ∧ (l.take i).all Ql76.isDigit = true)
      ⟨none, rfl, rfl, rfl⟩ (fun i σ H' _ ⟨_, _, e, _⟩ => by rw [e]; exact hS) ?_ ?_⟩
    · rintro i y σ H' hi ⟨v, rfl, rfl, hal⟩
      obtain ⟨z, hz', rfl⟩ := vN_get hi
      have bad : Ql76.isDigit z = false → Ql76.number l = none := fun e => num_none_at hz' e
      refine seq_if (b := !Ql76.isDigit z) (fun Q0 q0 => ?_) ?_
      · refine ⟨_, rfl, _, _, rfl, rfl, _, rfl, ?_⟩
        by_cases d : (z : Int) < 48
        · refine if_true_of (decide_eq_true d) ?_
          have e : Ql76.isDigit z = false := by
            cases e : Ql76.isDigit z with
            | false => rfl
            | true => have := digit_iff.mp e; omega
          rw [e] at q0
          exact q0
        refine if_false_of (decide_eq_false d) ?_
        refine ⟨_, rfl, _, _, rfl, rfl, _, rfl, ?_⟩
        have e : decide ((57 : Int) < (z : Int)) = !Ql76.isDigit z := by
          by_cases d' : (57 : Int) < (z : Int)
          · rw [decide_eq_true d']
            cases e : Ql76.isDigit z with
            | false => rfl
            | true => have := digit_iff.mp e; omega
          · rw [decide_eq_false d', digit_iff.mpr (by omega)]
            rfl
        rw [e]
        exact q0
      cases e : Ql76.isDigit z with
      | false => exact if_true_of rfl (kN (bad e) _ (Same.refl _))
      | true =>
        refine if_false_of rfl ?_
        have hd := digit_iff.mp e
        have hsm : val (l.take i) < 1000 := val_small hal (by rw [List.length_take]; omega)
        refine ⟨_, rfl, _, _, rfl, rfl, .inl ⟨by omega, by omega⟩, _, rfl, _, _, rfl, rfl, _, _, rfl, rfl, ?_⟩
        refine ⟨some (.int (z : Int)), ?_, rfl, all_more hal hz' e⟩
        have ev := val_more hz'
        show [some (V.ref a), some (V.int (((val (l.take i) : Nat) : Int) * 10 + (z : Int) - 48)), some (V.int (z : Int))] = _
        rw [ev, show ((val (l.take i) : Nat) : Int) * 10 + (z : Int) - 48 = ((10 * val (l.take i) + (z - 48) : Nat) : Int) by omega]
    · rintro σ H' ⟨v, rfl, rfl, hal⟩
      rw [vN_length, List.take_length] at hal ⊢
      refine ⟨_, rfl, ?_⟩
      exact kS (val l) (num_some_of (by omega) (by omega) hal hz) _ _ (Same.refl _) rfl
end
end Fp
namespace Fp
open PySem PySem.Spec PyProof.Rows L2 FpR
abbrev sVer : Stmt := top 30
abbrev sSame : Stmt := top 31
abbrev sCaret : Stmt := top 32
abbrev sPart : Stmt := top 33
abbrev sRange : Stmt := top 34
abbrev sNeed : Stmt := top 35
section
variable {P : Program} {w : World} {K : PySem.W.Frag} {mg : Str → Option Value} {base : Heap} {C : Addr}
theorem scVe : FnScope ["text", "pieces", "piece"] ["text"] (defScope sVer) := ⟨rfl, rfl, rfl, by decide +kernel, rfl, by decide +kernel, by decide +kernel⟩
theorem LL.list {G H : Hp} {p : Addr} {ls : List (List Nat)} {as : List Addr} (hA : Paired (fun a l => H a = some (.lst (vN l)) ∧ a ≠ p ∧ G a = none) as ls) : Paired (fun b l => H b = some (.lst (vN l))) as ls := paired_imp hA fun _ _ _ _ h => h.1
theorem nums_at : ∀ {Hd : Hp} {vs : List V} {ys : List Nat}, Paired (NumAt Hd) vs ys → vs = vN ys
  | _, _, _, .nil => rfl
  | _, _, _, .cons r t => by
    rw [nums_at t, show _ = V.int _ from r]
    rfl
theorem ok_ver {f fS fN : Addr} {fd fdS fdN : FuncData} (F : Fun K "read_version" "read_version" sVer f fd) (T : Wt K mg C) (hL : mg "len" = none) (hT : mg "tuple" = none) (c1 : Ci mg "POINT" 46) (c2 : Ci mg "VERSION_NUMBERS" 3)
    (DS : Dn K mg "split_at" sSplit ["text", "mark"] fS fdS) (GS : FnOk P w K mg base CX0 1 fS fdS ["text", "mark"] (spSplit K))
    (DN : Dn K mg "read_number" sNum ["text"] fN fdN) (GN : FnOk P w K mg base (L2N.CX P w) 1 fN fdN ["text"] (spR K Ql76.number NumAt C)) :
    FnOk P w K mg base (L2N.CX P w) 2 f fd ["text"] (spR K Ql76.verRead TupAt C) := by
  refine okN F scVe (fun vs H Q E h => ?_) (fun cdv A outer s H vs Q E hr h => ?_)
  · obtain ⟨a, l, rfl, _⟩ := h
    rfl
  · refine ⟨_, pss_cons (ps_set (i := 1) scVe.nd rfl (.inl rfl) (pe_call GS hr rfl DS.g DS.F.kp DS.b .nil pass0 (pa_cons (pv 0) (pa_cons (pe_ci c1) pa_nil))))
      (pss_cons (ps_if (pt_cmpR op_ne (pe_callB call_len_seq (by rfl) hL PySem.boot_len (pa_cons (pv 1) pa_nil)) (pe_ci c2) (nomark _))
        (pss_one (ps_wt T rfl (L2N.takes_of rfl rfl rfl rfl) (by rfl))) pss_nil)
      (pss_one (ps_ret (pe_callTy call_tuple_of (by rfl) hT (by decide +kernel) (pa_cons (pe_lcx (own := [("piece", 2)]) (g := gName 2) (W := E)
        { hs := rfl, hf := rfl, hc := rfl, hN := scVe.nd, tk := L2N.takes_of rfl rfl rfl rfl, hi := pi_list (pv 1), ok := blkOk_by (N := ["text", "pieces", "piece"]) (sc := defScope sVer) (by decide +kernel),
          hg := fun _ _ _ _ _ => pg_name (i := 2) scVe.nd rfl (Or.inl rfl), he := fun _ _ _ _ _ => pe_callS (E := fun _ => E) GN hr rfl DN.g DN.F.kp DN.b (fun σ => pass_bx σ) (pa_cons (pv 2) pa_nil), hx := fun _ => rfl }) pa_nil))))), ?_⟩
    obtain ⟨a, l, rfl, hS, hlen, kN, kS⟩ := h
    refine ⟨_, rfl, a, l, 46, rfl, hS, hlen, fun H1 p s1 hp LP => ?_⟩
    obtain ⟨as, hP, hAs⟩ := LP
    have hal := Paired.length hAs
    refine ⟨_, rfl, p, _, rfl, .inl (SqL.of hP), rfl, _, rfl, ?_⟩
    rw [List.length_map, hal]
    by_cases c : (Ql76.pieces 46 l).length = 3
    · rw [c]
      refine if_false_of rfl ?_
      refine nx_of ?_
      dsimp only
      refine ret_cb1 (lc_open ?_)
      refine ⟨_, rfl, p, rfl, ⟨_, SqL.of hP⟩, ?_⟩
      refine lc_rd (Nat.lt_succ_self 2) (fun _ h => h) (SqL.of hP) (LL.list hAs) (fun x hx => Nat.le_trans (pieces_short 46 l x hx) hlen) (by rw [c, sizeLine_eq]; decide) (fun e H' s2 => kN ((ver_each c).trans e) H' (s1.trans s2)) ?_
      intro ys e D vs H' s2 hD hDv hV
      refine ⟨D, _, rfl, .inl ⟨SqL.of hDv, fun q hq => ?_⟩⟩
      have s3 : Same H (upd H' q (.tup vs)) := fun b o eb => by
        have e1 := s2 b o (s1 b o eb)
        rw [upd_ne (ne_of_none e1 hq)]
        exact e1
      refine kS ys ((ver_each c).trans e) _ _ s3 ⟨q, rfl, ?_⟩
      rw [dif_new ((s1.trans s2).free hq), upd_same, nums_at hV]
    · refine if_true_of ?_ (kN (ver_none_len c) H1 s1)
      rw [decide_eq_false fun z => c (by have := V.int.inj z; omega)]
      rfl
/-! ### a part of a range -/
def pis (l : List Nat) : List PyData := l.map fun (n : Nat) => PyData.int (n : Int)
theorem dp_ints {K : PySem.W.Frag} {H : Hp} : ∀ (l : List Nat), DpAll K H (vN l) (pis l)
  | [] => .nil
  | x :: l => .cons (.int _) (dp_ints l)
theorem lay_ints : ∀ (l : List Nat), PyData.canLayAll0 (pis l) = true
  | [] => rfl
  | x :: l => by
    show PyData.canLayAll0 (PyData.int (x : Int) :: pis l) = true
    rw [PyData.canLayAll0, lay_ints l]
    rfl
theorem depth_ints : ∀ (l : List Nat), PyData.depthAll (pis l) = 0
  | [] => rfl
  | x :: l => by
    show PyData.depthAll (PyData.int (x : Int) :: pis l) = 0
    rw [PyData.depthAll, depth_ints l]
    rfl
theorem shaped_ints (l : List Nat) : SeqAt.shaped (.list (pis l)) = true := by
  unfold SeqAt.shaped
  rw [PyData.canLay0, lay_ints, PyData.depth, depth_ints]
  rfl
theorem eqv_ints : ∀ (l m : List Nat), PyData.eqvAll (pis l) (pis m) = decide (l = m)
  | [], [] => rfl
  | [], _ :: _ => rfl
  | _ :: _, [] => rfl
  | x :: l, y :: m => by
    show PyData.eqvAll (PyData.int (x : Int) :: pis l) (PyData.int (y : Int) :: pis m) = _
    rw [PyData.eqvAll, PyData.eqv, eqv_ints l m]
    by_cases h : x = y
    · subst h
      by_cases h2 : l = m
      · subst h2
        simp
      · simp [h2]
    · have : ¬ ((x : Int) = (y : Int)) := by omega
      simp [h, this]
/-- the end of those that have the first c numbers the same -/
def eos : List Nat → Nat → List Nat
  | [a, _, _], 1 => [a + 1, 0, 0]
  | [a, b, _], 2 => [a, b + 1, 0]
  | [a, b, c], _ => [a, b, c + 1]
  | v, _ => v
theorem ver_three {l : List Nat} {v : List Nat} (h : Ql76.verRead l = some v) : ∃ x y z, v = [x, y, z] := by
  unfold Ql76.verRead at h
  split at h
  · split at h
    · exact ⟨_, _, _, (Option.some.inj h).symm⟩
    · cases h
  · cases h
def spSame (K : PySem.W.Frag) : Sp := fun vs H Q _ => ∃ (a : Addr) (x y z c : Nat), vs = [.ref a, .int (c : Int)] ∧ SqT K H a (vN [x, y, z]) ∧ 1 ≤ c ∧ c ≤ 3 ∧
  ∀ (H' : Hp) (p : Addr), Same H H' → H p = none → H' p = some (.tup (vN (eos [x, y, z] c))) → Q (.ref p) H'
theorem scSa : FnScope ["version", "count", "same"] ["version", "count"] (defScope sSame) := ⟨rfl, rfl, rfl, by decide +kernel, rfl, by decide +kernel, by decide +kernel⟩
theorem same_new {H : Hp} {d : Addr} {o : HO} (h : H d = none) : Same H (upd H d o) := fun b u e => by rw [upd_ne (ne_of_none e h)]; exact e
theorem six_none (n d : Nat) : HT.sIx n d none = d := rfl
theorem cut3_1 (x y z : Nat) : cutV (vN [x, y, z]) none (some ((1 : Nat) : Int)) = vN [x] := by
  unfold cutV
  rw [vN_length, six _ 1 _ (by simp)]
  rfl
theorem cut3_2 (x y z : Nat) : cutV (vN [x, y, z]) none (some ((2 : Nat) : Int)) = vN [x, y] := by
  unfold cutV
  rw [vN_length, six _ 2 _ (by simp)]
  rfl
theorem vN_append (l m : List Nat) : vN (l ++ m) = vN l ++ vN m := by unfold vN; exact List.map_append
theorem rep0 (k : Nat) : (List.replicate k [V.int 0]).flatten = vN (List.replicate k 0) := by
  induction k with
  | zero => rfl
  | succ k ih =>
    rw [List.replicate_succ, List.replicate_succ, List.flatten_cons, ih]
    rfl
theorem same_tail {K : PySem.W.Frag} {H H1 : Hp} {l : List Nat} {c k w : Nat} {a p : Addr} {Q : VK} (hc : (3 : Int) - (c : Int) = (k : Int)) (hk : k ≤ 2) (s1 : Same H H1) (hp : H p = none) (hP : H1 p = some (.lst (vN (l ++ [w])))) (hl : l.length ≤ 2)
    (kk : ∀ (H' : Hp) (q : Addr), Same H H' → H q = none → H' q = some (.tup (vN (l ++ [w + 1] ++ List.replicate k 0))) → Q (.ref q) H') {nx : L2.St → Hp → Prop} :
    tSeq (tAugS (tVar 2) (tUn (rU fun i => .int (-i)) (tC (.int 1))) (tC (.int 1)) (rBack K) (ipI fun i j => i + j) rSetL)
      (tRet (tCB (fun xs H Q => ∃ p ys, xs = [.ref p] ∧ (SqL K H p ys ∧ (∀ l, H l = none → Q (.ref l) (upd H l (.tup ys))) ∨ SqT K H p ys ∧ Q (.ref p) H)) (tCons (tOp rCat (tVar 2) (tOp rRep (tLst (tCons (tC (.int 0)) tNil)) (tOp (rI0 fun i j => .int (i - j)) (tC (.int 3)) (tVar 1)))) tNil))) { nx := nx, rt := Q } [some (V.ref a), some (V.int (c : Int)), some (V.ref p)] H1 := by
  have hix : atI (vN (l ++ [w])) (-1) = some (V.int (w : Int)) := by
    rw [vN_append]
    exact atI_last _ _
  have hset : ixN (vN (l ++ [w])).length (-1) = some l.length := by
    rw [vN_length, List.length_append]
    unfold ixN
    simp
    omega
  refine ⟨_, rfl, _, rfl, p, _, -1, _, rfl, rfl, by decide, SqL.of hP, hix, _, _, rfl, rfl, p, _, _, _, rfl, rfl, hP, hset, ?_⟩
  have hnew : (vN (l ++ [w])).set l.length (V.int ((w : Int) + 1)) = vN (l ++ [w + 1]) := by
    rw [vN_append, vN_append, List.set_append_right _ _ (by rw [vN_length]; exact Nat.le_refl _), vN_length, Nat.sub_self]
    rfl
  rw [hnew]
  refine ⟨_, rfl, (by show 1 ≤ sizeLine; rw [sizeLine_eq]; decide), fun q hq => ?_⟩
  have hpq : p ≠ q := ne_of_none upd_same hq
  refine ⟨_, rfl, _, _, rfl, rfl, q, _, _, rfl, rfl, upd_same, by omega, by omega, ?_, fun r hr => ?_⟩
  · rw [hc, sizeLine_eq]
    show 1 * (k : Int).toNat ≤ _
    omega
  rw [hc, Int.toNat_natCast, rep0] at *
  have hqr : q ≠ r := ne_of_none upd_same hr
  have hpr : p ≠ r := fun z => by
    have e : upd (upd H1 p (HO.lst (vN (l ++ [w + 1])))) q (HO.lst [V.int 0]) p = some (HO.lst (vN (l ++ [w + 1]))) := (upd_ne hpq).trans upd_same
    rw [← z, e] at hr
    cases hr
  refine ⟨p, r, _, _, rfl, rfl, (upd_ne hpr).trans ((upd_ne hpq).trans upd_same), upd_same, ?_, fun t ht => ?_⟩
  · rw [vN_length, vN_length, List.length_append, List.length_replicate, sizeLine_eq]
    simp
    omega
  rw [← vN_append]
  refine ⟨t, _, rfl, .inl ⟨SqL.of upd_same, fun u hu => ?_⟩⟩
  have free : ∀ b, b ≠ p → upd (upd (upd (upd H1 p (HO.lst (vN (l ++ [w + 1])))) q (HO.lst [V.int 0])) r (HO.lst (vN (List.replicate k 0)))) t (HO.lst (vN (l ++ [w + 1] ++ List.replicate k 0))) b = none → H1 b = none := fun b hb e => by
    by_cases h1 : b = t
    · rw [h1, upd_same] at e; cases e
    rw [upd_ne h1] at e
    by_cases h2 : b = r
    · rw [h2, upd_same] at e; cases e
    rw [upd_ne h2] at e
    by_cases h3 : b = q
    · rw [h3, upd_same] at e; cases e
    rw [upd_ne h3, upd_ne hb] at e
    exact e
  have hup : u ≠ p := fun z => by
    have e1 : upd (upd (upd H1 p (HO.lst (vN (l ++ [w + 1])))) q (HO.lst [V.int 0])) r (HO.lst (vN (List.replicate k 0))) p = some (HO.lst (vN (l ++ [w + 1]))) := (upd_ne hpr).trans ((upd_ne hpq).trans upd_same)
    have e2 := same_new (o := HO.lst (vN (l ++ [w + 1] ++ List.replicate k 0))) ht p _ e1
    rw [z, e2] at hu
    cases hu
  refine kk _ u (fun b o e => ?_) (s1.free (free u hup hu)) upd_same
  have hbp : b ≠ p := fun z => by rw [z, hp] at e; cases e
  have e1 : upd H1 p (HO.lst (vN (l ++ [w + 1]))) b = some o := by rw [upd_ne hbp]; exact s1 b o e
  exact same_new hu _ _ (same_new ht _ _ (same_new hr _ _ (same_new hq _ _ e1)))
section
variable {P : Program} {w : World} {K : PySem.W.Frag} {mg : Str → Option Value} {base : Heap}
theorem ok_same {f : Addr} {fd : FuncData} (F : Fun K "end_of_same" "end_of_same" sSame f fd) (hI : mg "list" = none) (hT : mg "tuple" = none) (c1 : Ci mg "VERSION_NUMBERS" 3) : FnOk P w K mg base CX0 1 f fd ["version", "count"] (spSame K) := by
  refine F.ok scSa (fun vs H Q E h => ?_) (fun cdv A outer s H vs Q E hr h => ?_)
  · obtain ⟨a, x, y, z, c, rfl, _⟩ := h
    rfl
  · refine ⟨_, pss_cons (ps_set (i := 2) scSa.nd rfl (.inl rfl) (pe_callTy call_list_of (by rfl) hI (by decide +kernel) (pa_cons (pe_slice sl_tupA (pv 0) po_none (po_some (pv 1))) pa_nil)))
      (pss_cons (ps_augS (pv 2) (pe_un un_neg pe_int) get_back pe_int ip_add set_list)
      (pss_one (ps_ret (pe_callTy call_tuple_of (by rfl) hT (by decide +kernel) (pa_cons (pe_op op_cat (pv 2) (pe_op op_rep (pe_lst (pa_cons pe_int pa_nil)) (pe_op op_sub (pe_ci c1) (pv 1)))) pa_nil))))), ?_⟩
    obtain ⟨a, x, y, z, c, rfl, hS, h1, h3, k⟩ := h
    refine ⟨_, rfl, _, rfl, _, rfl, ?_⟩
    have fin : ∀ (H1 : Hp) (l : List Nat) (w n : Nat), (3 : Int) - (c : Int) = (n : Int) → n ≤ 2 → l.length ≤ 2 → eos [x, y, z] c = l ++ [w + 1] ++ List.replicate n 0 → Same H H1 → ∀ t, H t = none → H1 t = some (.lst (vN (l ++ [w]))) →
        tSeq (tAugS (tVar 2) (tUn (rU fun i => .int (-i)) (tC (.int 1))) (tC (.int 1)) (rBack K) (ipI fun i j => i + j) rSetL)
      (tRet (tCB (fun xs H Q => ∃ p ys, xs = [.ref p] ∧ (SqL K H p ys ∧ (∀ l, H l = none → Q (.ref l) (upd H l (.tup ys))) ∨ SqT K H p ys ∧ Q (.ref p) H)) (tCons (tOp rCat (tVar 2) (tOp rRep (tLst (tCons (tC (.int 0)) tNil)) (tOp (rI0 fun i j => .int (i - j)) (tC (.int 3)) (tVar 1)))) tNil))) { nx := fun x H' => Q V.non H', rt := Q } [some (V.ref a), some (V.int (c : Int)), some (V.ref t)] H1 := fun H1 l w n h1 h2 h3 he s1 t ht hT => same_tail h1 h2 s1 ht hT h3 (fun H' q s2 hq e => k H' q s2 hq (by rw [he]; exact e))
    rcases (show c = 1 ∨ c = 2 ∨ c = 3 by omega) with rfl | rfl | rfl
    · refine ⟨a, _, rfl, hS, fun h => ?_, fun _ p hp => ?_⟩
      · rw [vN_length, six _ 1 _ (by simp)] at h
        exact absurd h.2 (by simp)
      rw [cut3_1]
      refine ⟨p, _, rfl, .inr (SqT.of upd_same), fun t ht => ?_⟩
      have hH : H t = none := (same_new hp).free ht
      exact fin _ [] x 2 rfl (by decide) (by decide) rfl ((same_new hp).trans (same_new ht)) t hH upd_same
    · refine ⟨a, _, rfl, hS, fun h => ?_, fun _ p hp => ?_⟩
      · rw [vN_length, six _ 2 _ (by simp)] at h
        exact absurd h.2 (by simp)
      rw [cut3_2]
      refine ⟨p, _, rfl, .inr (SqT.of upd_same), fun t ht => ?_⟩
      have hH : H t = none := (same_new hp).free ht
      exact fin _ [x] y 1 rfl (by decide) (by simp) rfl ((same_new hp).trans (same_new ht)) t hH upd_same
    · refine ⟨a, _, rfl, hS, fun _ => ?_, fun h => ?_⟩
      · refine ⟨a, _, rfl, .inr hS, fun t ht => ?_⟩
        exact fin _ [x, y] z 0 rfl (by decide) (by simp) rfl (same_new ht) t ht upd_same
      · refine absurd ⟨rfl, ?_⟩ h
        rw [vN_length, six _ 3 _ (by simp)]
        rfl
def spCaret (K : PySem.W.Frag) : Sp := fun vs H Q _ => ∃ (a : Addr) (x y z : Nat), vs = [.ref a] ∧ SqT K H a (vN [x, y, z]) ∧
  ∀ (H' : Hp) (p : Addr) (l : List Nat), Same H H' → H p = none → H' p = some (.tup (vN l)) → Q (.ref p) H'
theorem scCa : FnScope ["version"] ["version"] (defScope sCaret) := ⟨rfl, rfl, rfl, by decide +kernel, rfl, by decide +kernel, by decide +kernel⟩
theorem ok_caret {f fE : Addr} {fd fdE : FuncData} (F : Fun K "end_of_caret" "end_of_caret" sCaret f fd) (DE : Dn K mg "end_of_same" sSame ["version", "count"] fE fdE) (GE : FnOk P w K mg base CX0 1 fE fdE ["version", "count"] (spSame K)) :
    FnOk P w K mg base CX0 2 f fd ["version"] (spCaret K) := by
  refine F.ok scCa (fun vs H Q E h => ?_) (fun cdv A outer s H vs Q E hr h => ?_)
  · obtain ⟨a, x, y, z, rfl, _⟩ := h
    rfl
  · refine ⟨_, pss_cons (ps_if (pt_cmpR op_gt (pe_ix ix_tup (pv 0) pe_int (fun _ _ => rfl)) pe_int (nomark _)) (pss_one (ps_ret (pe_call GE hr rfl DE.g DE.F.kp DE.b .nil pass0 (pa_cons (pv 0) (pa_cons pe_int pa_nil))))) pss_nil)
      (pss_cons (ps_if (pt_cmpR op_gt (pe_ix ix_tup (pv 0) pe_int (fun _ _ => rfl)) pe_int (nomark _)) (pss_one (ps_ret (pe_call GE hr rfl DE.g DE.F.kp DE.b .nil pass0 (pa_cons (pv 0) (pa_cons pe_int pa_nil))))) pss_nil)
      (pss_one (ps_ret (pe_call GE hr rfl DE.g DE.F.kp DE.b .nil pass0 (pa_cons (pv 0) (pa_cons pe_int pa_nil)))))), ?_⟩
    obtain ⟨a, x, y, z, rfl, hS, k⟩ := h
    refine ⟨_, rfl, a, _, 0, .int (x : Int), rfl, rfl, hS, atI_nat (j := 0) rfl, _, _, rfl, rfl, _, rfl, ?_⟩
    by_cases c : (0 : Int) < (x : Int)
    · refine if_true_of (decide_eq_true c) ?_
      exact ⟨_, rfl, a, x, y, z, 1, rfl, hS, by decide, by decide, fun H' p s1 hp e => k H' p _ s1 hp e⟩
    refine if_false_of (decide_eq_false c) ?_
    refine ⟨_, rfl, a, _, 1, .int (y : Int), rfl, rfl, hS, atI_nat (j := 1) rfl, _, _, rfl, rfl, _, rfl, ?_⟩
    by_cases c' : (0 : Int) < (y : Int)
    · refine if_true_of (decide_eq_true c') ?_
      exact ⟨_, rfl, a, x, y, z, 2, rfl, hS, by decide, by decide, fun H' p s1 hp e => k H' p _ s1 hp e⟩
    refine if_false_of (decide_eq_false c') ?_
    exact ⟨_, rfl, a, x, y, z, 3, rfl, hS, by decide, by decide, fun H' p s1 hp e => k H' p _ s1 hp e⟩
end
end
theorem gn_of {i : Nat} {v : V} {σ : L2.St} {H : Hp} {Q : L2.St → Hp → Prop} (h : Q (σ.set i (some v)) H) : gName i v σ H Q := h
/-- two tuples of numbers, side by side -/
def AtomAt (H : Hp) (v : V) (_ : Ql76.Atom) : Prop := ∃ p q r l m, v = .ref p ∧ H p = some (.tup [.ref q, .ref r]) ∧ H q = some (.tup (vN l)) ∧ H r = some (.tup (vN m))
theorem AtomAt.mono {H H' : Hp} {v : V} {a : Ql76.Atom} (s : Same H H') (h : AtomAt H v a) : AtomAt H' v a := by
  obtain ⟨p, q, r, l, m, e, h1, h2, h3⟩ := h
  exact ⟨p, q, r, l, m, e, s _ _ h1, s _ _ h2, s _ _ h3⟩
theorem atom_pair {H H1 : Hp} {q r : Addr} {l m : List Nat} {Q : VK} {a : Ql76.Atom} (s1 : Same H H1) (hq : H q = none) (hr : H r = none) (h1 : H1 q = some (.tup (vN l))) (h2 : H1 r = some (.tup (vN m))) (k : ∀ H' v, Same H H' → AtomAt (dif H H') v a → Q v H') :
    ([V.ref q, V.ref r] : List V).length ≤ sizeLine ∧ ∀ p, H1 p = none → Q (.ref p) (upd H1 p (.tup [.ref q, .ref r])) := by
  refine ⟨(by show 2 ≤ sizeLine; rw [sizeLine_eq]; decide), fun p hp => k _ _ (s1.trans (same_new hp)) ⟨p, q, r, l, m, rfl, ?_, ?_, ?_⟩⟩
  · rw [dif_new (s1.free hp), upd_same]
  · rw [dif_new hq]
    exact same_new hp _ _ h1
  · rw [dif_new hr]
    exact same_new hp _ _ h2
theorem scPa : FnScope ["text", "version"] ["text"] (defScope sPart) := ⟨rfl, rfl, rfl, by decide +kernel, rfl, by decide +kernel, by decide +kernel⟩
section
variable {P : Program} {w : World} {K : PySem.W.Frag} {mg : Str → Option Value} {base : Heap} {C : Addr}
theorem ok_part {f fV fE fC : Addr} {fd fdV fdE fdC : FuncData} (F : Fun K "read_range_part" "read_range_part" sPart f fd) (T : Wt K mg C) (hL : mg "len" = none) (c1 : Ci mg "STAR" 42) (c2 : Ci mg "NUMBERS_END" 1000)
    (d1 : Ci mg "JUST" 61) (d2 : Ci mg "AT_LEAST" 62) (d3 : Ci mg "BELOW" 60) (d4 : Ci mg "TILDE" 126) (d5 : Ci mg "CARET" 94)
    (DV : Dn K mg "read_version" sVer ["text"] fV fdV) (GV : FnOk P w K mg base (L2N.CX P w) 2 fV fdV ["text"] (spR K Ql76.verRead TupAt C))
    (DE : Dn K mg "end_of_same" sSame ["version", "count"] fE fdE) (GE : FnOk P w K mg base CX0 1 fE fdE ["version", "count"] (spSame K))
    (DC : Dn K mg "end_of_caret" sCaret ["version"] fC fdC) (GC : FnOk P w K mg base CX0 2 fC fdC ["version"] (spCaret K)) :
    FnOk P w K mg base (L2N.CX P w) 3 f fd ["text"] (spR K Ql76.atomRead AtomAt C) := by
  refine okN F scPa (fun vs H Q E h => ?_) (fun cdv A outer s H vs Q E hr h => ?_)
  · obtain ⟨a, l, rfl, _⟩ := h
    rfl
  · refine ⟨_, pss_cons (ps_if (pt_cmpR (op_eqD hr.units) (pv 0) (pe_lst (pa_cons (pe_ci c1) pa_nil)) (nomark _))
        (pss_one (ps_ret (pe_tup (pa_cons (pe_tup (pa_cons pe_int (pa_cons pe_int (pa_cons pe_int pa_nil)))) (pa_cons (pe_tup (pa_cons (pe_ci c2) (pa_cons pe_int (pa_cons pe_int pa_nil)))) pa_nil))))) pss_nil)
      (pss_cons (ps_if (pt_cmpR op_eq (pe_callB call_len_seq (by rfl) hL PySem.boot_len (pa_cons (pv 0) pa_nil)) pe_int (nomark _))
        (pss_one (ps_wt T rfl (L2N.takes_of rfl rfl rfl rfl) (by rfl))) pss_nil)
      (pss_cons (ps_set (i := 1) scPa.nd rfl (.inl rfl) (pe_callS GV hr rfl DV.g DV.F.kp DV.b (fun σ => L2N.passAt (L2N.takes_of rfl rfl rfl rfl) σ) (pa_cons (pe_slice sl_list (pv 0) (po_some pe_int) po_none) pa_nil)))
      (pss_cons (ps_if (pt_cmpR op_eq (pe_ix ix_list (pv 0) pe_int (fun _ _ => rfl)) (pe_ci d1) (nomark _))
        (pss_one (ps_ret (pe_tup (pa_cons (pv 1) (pa_cons (pe_call GE (hr.mono (by decide)) rfl DE.g DE.F.kp DE.b .nil pass0 (pa_cons (pv 1) (pa_cons pe_int pa_nil))) pa_nil))))) pss_nil)
      (pss_cons (ps_if (pt_cmpR op_eq (pe_ix ix_list (pv 0) pe_int (fun _ _ => rfl)) (pe_ci d2) (nomark _))
        (pss_one (ps_ret (pe_tup (pa_cons (pv 1) (pa_cons (pe_tup (pa_cons (pe_ci c2) (pa_cons pe_int (pa_cons pe_int pa_nil)))) pa_nil))))) pss_nil)
      (pss_cons (ps_if (pt_cmpR op_eq (pe_ix ix_list (pv 0) pe_int (fun _ _ => rfl)) (pe_ci d3) (nomark _))
        (pss_one (ps_ret (pe_tup (pa_cons (pe_tup (pa_cons pe_int (pa_cons pe_int (pa_cons pe_int pa_nil)))) (pa_cons (pv 1) pa_nil))))) pss_nil)
      (pss_cons (ps_if (pt_cmpR op_eq (pe_ix ix_list (pv 0) pe_int (fun _ _ => rfl)) (pe_ci d4) (nomark _))
        (pss_one (ps_ret (pe_tup (pa_cons (pv 1) (pa_cons (pe_call GE (hr.mono (by decide)) rfl DE.g DE.F.kp DE.b .nil pass0 (pa_cons (pv 1) (pa_cons pe_int pa_nil))) pa_nil))))) pss_nil)
      (pss_cons (ps_if (pt_cmpR op_eq (pe_ix ix_list (pv 0) pe_int (fun _ _ => rfl)) (pe_ci d5) (nomark _))
        (pss_one (ps_ret (pe_tup (pa_cons (pv 1) (pa_cons (pe_call GC hr rfl DC.g DC.F.kp DC.b .nil pass0 (pa_cons (pv 1) pa_nil)) pa_nil))))) pss_nil)
      (pss_one (ps_wt T rfl (L2N.takes_of rfl rfl rfl rfl) (by rfl)))))))))), ?_⟩
    obtain ⟨a, l, rfl, hS, hlen, kN, kS⟩ := h
    refine ⟨_, rfl, (by show 1 ≤ sizeLine; rw [sizeLine_eq]; decide), fun q hq => ?_⟩
    have s1 : Same H (upd H q (.lst [.int 42])) := same_new hq
    refine ⟨.list (pis l), .list (pis [42]), .lst (s1.seq hS) (dp_ints l), .lst (SqL.of upd_same) (dp_ints [42]), shaped_ints l, shaped_ints [42], _, rfl, ?_⟩
    rw [PyData.eqv, eqv_ints]
    generalize upd H q (.lst [.int 42]) = H0 at s1 ⊢
    have three : (3 : Nat) ≤ sizeLine := by rw [sizeLine_eq]; decide
    by_cases c : l = [42]
    · subst c
      refine if_true_of (decide_eq_true rfl) ?_
      refine ⟨three, fun t ht => ⟨three, fun u hu => ?_⟩⟩
      have hut : u ≠ t := fun z => by rw [z, upd_same] at hu; cases hu
      exact atom_pair (l := [0, 0, 0]) (m := [1000, 0, 0]) ((s1.trans (same_new ht)).trans (same_new hu)) (s1.free ht) ((s1.trans (same_new ht)).free hu) ((upd_ne (Ne.symm hut)).trans upd_same) upd_same (kS .any rfl)
    refine if_false_of (decide_eq_false c) ?_
    refine nx_of ?_
    dsimp only
    have hS1 := s1.seq hS
    cases l with
    | nil =>
      refine seq_if (b := true) (fun Q0 q0 => ⟨_, rfl, a, _, rfl, .inl hS1, rfl, _, rfl, q0⟩) ?_
      exact if_true_of rfl (kN rfl _ s1)
    | cons x r =>
      refine seq_if (b := false) (fun Q0 q0 => ⟨_, rfl, a, _, rfl, .inl hS1, rfl, _, rfl, ?_⟩) ?_
      · rw [vN_length, decide_eq_false fun z => by have := V.int.inj z; simp at this; omega]
        exact q0
      refine if_false_of rfl ?_
      refine ⟨_, rfl, _, rfl, a, _, rfl, hS1, fun t ht => ?_⟩
      have s2 := s1.trans (same_new (o := HO.lst (cutV (vN (x :: r)) (some 1) none)) ht)
      refine ⟨t, r, rfl, ?_, ?_, fun e H' s3 => kN ?_ H' (s2.trans s3), fun v e H' u s3 hV => ?_⟩
      · refine SqL.of (upd_same.trans ?_)
        rw [show (1 : Int) = ((1 : Nat) : Int) from rfl, cut_from (by simp)]
        rfl
      · simp at hlen
        omega
      · by_cases m : x ∈ signs
        · exact atom_bad m e
        · exact atom_none m fun z => c (by rw [z.1, z.2])
      obtain ⟨z, rfl, hz⟩ := hV
      obtain ⟨v1, v2, v3, rfl⟩ := ver_three e
      obtain ⟨hz1, hz2⟩ := dif_some hz
      have s4 := s2.trans s3
      have hz0 : H z = none := s2.free hz1
      have hSx := s4.seq hS
      have test : ∀ (n : Nat) (Q0 : Bool → Hp → Prop), Q0 (decide (x = n)) H' → Q0 (decide (V.int (x : Int) = V.int (n : Int))) H' := fun n Q0 q0 => by
        have e : decide (V.int (x : Int) = V.int (n : Int)) = decide (x = n) := by
          by_cases d : x = n
          · rw [decide_eq_true d, decide_eq_true (by rw [d])]
          · rw [decide_eq_false d, decide_eq_false fun z => d (by have := V.int.inj z; omega)]
        rw [e]
        exact q0
      refine gn_of ?_
      dsimp only
      refine seq_if (b := decide (x = 61)) (fun Q0 q0 => ⟨_, rfl, a, _, 0, .int (x : Int), rfl, rfl, hSx, atI_nat (j := 0) rfl, rfl, _, rfl, test 61 Q0 q0⟩) ?_
      by_cases e1 : x = 61
      · obtain ⟨at1, ea, -⟩ := atom_good (x := x) (by rw [e1]; decide) e
        refine if_true_of (decide_eq_true e1) ?_
        exact ⟨_, rfl, _, rfl, z, v1, v2, v3, 3, rfl, SqT.of hz2, by decide, by decide, fun H5 p s5 hp e5 => atom_pair (s4.trans s5) hz0 (s4.free hp) (s5 _ _ hz2) e5 (kS at1 ea)⟩
      refine if_false_of (decide_eq_false e1) ?_
      refine nx_of ?_
      dsimp only
      refine seq_if (b := decide (x = 62)) (fun Q0 q0 => ⟨_, rfl, a, _, 0, .int (x : Int), rfl, rfl, hSx, atI_nat (j := 0) rfl, rfl, _, rfl, test 62 Q0 q0⟩) ?_
      by_cases e2 : x = 62
      · obtain ⟨at1, ea, -⟩ := atom_good (x := x) (by rw [e2]; decide) e
        refine if_true_of (decide_eq_true e2) ?_
        exact ⟨_, rfl, three, fun p hp => atom_pair (m := [1000, 0, 0]) (s4.trans (same_new hp)) hz0 (s4.free hp) (same_new hp _ _ hz2) upd_same (kS at1 ea)⟩
      refine if_false_of (decide_eq_false e2) ?_
      refine nx_of ?_
      dsimp only
      refine seq_if (b := decide (x = 60)) (fun Q0 q0 => ⟨_, rfl, a, _, 0, .int (x : Int), rfl, rfl, hSx, atI_nat (j := 0) rfl, rfl, _, rfl, test 60 Q0 q0⟩) ?_
      by_cases e3 : x = 60
      · obtain ⟨at1, ea, -⟩ := atom_good (x := x) (by rw [e3]; decide) e
        refine if_true_of (decide_eq_true e3) ?_
        exact ⟨three, fun p hp => ⟨_, rfl, atom_pair (l := [0, 0, 0]) (s4.trans (same_new hp)) (s4.free hp) hz0 upd_same (same_new hp _ _ hz2) (kS at1 ea)⟩⟩
      refine if_false_of (decide_eq_false e3) ?_
      refine nx_of ?_
      dsimp only
      refine seq_if (b := decide (x = 126)) (fun Q0 q0 => ⟨_, rfl, a, _, 0, .int (x : Int), rfl, rfl, hSx, atI_nat (j := 0) rfl, rfl, _, rfl, test 126 Q0 q0⟩) ?_
      by_cases e4 : x = 126
      · obtain ⟨at1, ea, -⟩ := atom_good (x := x) (by rw [e4]; decide) e
        refine if_true_of (decide_eq_true e4) ?_
        exact ⟨_, rfl, _, rfl, z, v1, v2, v3, 2, rfl, SqT.of hz2, by decide, by decide, fun H5 p s5 hp e5 => atom_pair (s4.trans s5) hz0 (s4.free hp) (s5 _ _ hz2) e5 (kS at1 ea)⟩
      refine if_false_of (decide_eq_false e4) ?_
      refine nx_of ?_
      dsimp only
      refine seq_if (b := decide (x = 94)) (fun Q0 q0 => ⟨_, rfl, a, _, 0, .int (x : Int), rfl, rfl, hSx, atI_nat (j := 0) rfl, rfl, _, rfl, test 94 Q0 q0⟩) ?_
      by_cases e5 : x = 94
      · obtain ⟨at1, ea, -⟩ := atom_good (x := x) (by rw [e5]; decide) e
        refine if_true_of (decide_eq_true e5) ?_
        exact ⟨_, rfl, _, rfl, z, v1, v2, v3, rfl, SqT.of hz2, fun H5 p l5 s5 hp e5 => atom_pair (s4.trans s5) hz0 (s4.free hp) (s5 _ _ hz2) e5 (kS at1 ea)⟩
      refine if_false_of (decide_eq_false e5) ?_
      refine nx_of ?_
      refine kN (atom_none ?_ fun y => c (by rw [y.1, y.2])) _ s4
      unfold signs
      simp [e1, e2, e3, e4, e5]
end
end Fp
namespace Fp
open PySem PySem.Spec PyProof.Rows L2 FpR
def ListAt {α : Type} (At : Hp → V → α → Prop) (H : Hp) (v : V) (l : List α) : Prop := ∃ q vs, v = .ref q ∧ H q = some (.lst vs) ∧ Paired (At H) vs l
theorem ListAt.mono {α : Type} {At : Hp → V → α → Prop} (m : ∀ {H H' : Hp} {v : V} {y : α}, Same H H' → At H v y → At H' v y) {H H' : Hp} {v : V} {l : List α} (s : Same H H') (h : ListAt At H v l) : ListAt At H' v l := by
  obtain ⟨q, vs, e, h1, h2⟩ := h
  exact ⟨q, vs, e, s _ _ h1, paired_imp h2 fun _ _ _ _ z => m s z⟩
/-- the ends of a whole range -/
def RangeAt (H : Hp) (v : V) (_ : List Ql76.Atom) : Prop := AtomAt H v .any
theorem RangeAt.mono {H H' : Hp} {v : V} {l : List Ql76.Atom} (s : Same H H') (h : RangeAt H v l) : RangeAt H' v l := AtomAt.mono s h
def NeedAt (H : Hp) (v : V) (_ : Ql76.Need) : Prop := ∃ p a b c, v = .ref p ∧ H p = some (.tup [a, b, c])
theorem NeedAt.mono {H H' : Hp} {v : V} {n : Ql76.Need} (s : Same H H') (h : NeedAt H v n) : NeedAt H' v n := by
  obtain ⟨p, a, b, c, e, h1⟩ := h
  exact ⟨p, a, b, c, e, s _ _ h1⟩
theorem hid_same {D : Addr} {H : Hp} : Same (hid D H) H := fun b o e => (hid_some e).2
/-! ### max and min over tuples of numbers -/
def Tps (H : Hp) (cs : List Addr) : Prop := ∀ c ∈ cs, ∃ l, H c = some (.tup (vN l))
theorem alike_ints : ∀ (l m : List Nat), PySem.W.alikeAll (pis l) (pis m) = true
  | [], _ => by unfold pis; rw [List.map_nil, PySem.W.alikeAll]
  | _ :: _, [] => by
    show PySem.W.alikeAll (_ :: _) [] = true
    rw [PySem.W.alikeAll]
  | x :: l, y :: m => by
    show PySem.W.alikeAll (PyData.int (x : Int) :: pis l) (PyData.int (y : Int) :: pis m) = true
    rw [PySem.W.alikeAll, PySem.W.alike, alike_ints l m]
    rfl
theorem tps_data {K : PySem.W.Frag} {H : Hp} : ∀ {cs : List Addr}, Tps H cs → ∃ ls : List (List Nat), ls.length = cs.length ∧ DpAll K H (cs.map V.ref) (ls.map fun l => PyData.tuple (pis l))
  | [], _ => ⟨[], rfl, .nil⟩
  | c :: cs, h => by
    obtain ⟨l, hl⟩ := h c List.mem_cons_self
    obtain ⟨ls, e, hd⟩ := tps_data (K := K) (cs := cs) fun x hx => h x (List.mem_cons_of_mem _ hx)
    exact ⟨l :: ls, by rw [List.length_cons, List.length_cons, e], .cons (.tup (SqT.of hl) (dp_ints l)) hd⟩
theorem depth_tps : ∀ (ls : List (List Nat)), PyData.depthAll (ls.map fun l => PyData.tuple (pis l)) ≤ 1
  | [] => by rw [List.map_nil, PyData.depthAll]; decide
  | l :: ls => by
    rw [List.map_cons, PyData.depthAll, PyData.depth, depth_ints]
    have := depth_tps ls
    omega
theorem alike_tps (ls : List (List Nat)) : PySem.W.AlikeAll (ls.map fun l => PyData.tuple (pis l)) := by
  refine ⟨fun x hx y hy => ?_, fun x hx e => ?_⟩
  · obtain ⟨l, _, rfl⟩ := List.mem_map.mp hx
    obtain ⟨m, _, rfl⟩ := List.mem_map.mp hy
    rw [PySem.W.alike]
    exact alike_ints l m
  · obtain ⟨l, _, rfl⟩ := List.mem_map.mp hx
    cases e
theorem pick_of {X : Cx} {H : Hp} {D : Addr} {cs : List Addr} {Q : VK} (hD : H D = some (.lst (cs.map V.ref))) (hT : Tps H cs) (hne : cs ≠ []) (hu : X.A.units + 64 < cLine) (k : ∀ c ∈ cs, Q (.ref c) H) : rPick X [.ref D] H Q := by
  obtain ⟨ls, e, hd⟩ := tps_data (K := X.K) hT
  match ls, e, hd with
  | [], e, _ => exact absurd (List.length_eq_zero_iff.mp e.symm) hne
  | l :: ls, e, hd =>
    refine ⟨D, _, _, _, rfl, SqL.of hD, hd, alike_tps (l :: ls), ?_, fun v hv => ?_⟩
    · have h1 : PyData.depthAll ((fun l => PyData.tuple (pis l)) l :: List.map (fun l => PyData.tuple (pis l)) ls) ≤ 1 := depth_tps (l :: ls)
      omega
    · obtain ⟨c, hc, rfl⟩ := List.mem_map.mp hv
      exact k c hc
/-- one of the two places of each part -/
theorem lc_col {K : PySem.W.Frag} {i n : Nat} {σ : L2.St} {H1 Hs : Hp} {a : Addr} {vs : List V} {ys : List Ql76.Atom} {Q : VK} (hn : n < 2) (hi : i < σ.length) (hA : H1 a = some (.lst vs)) (sS : Same Hs H1) (hP : Paired (AtomAt Hs) vs ys) (hz : vs.length < sizeLine)
    (k : ∀ (D : Addr) (cs : List Addr) (H' : Hp), H1 D = none → Same H1 H' → H' D = some (.lst (cs.map V.ref)) → cs.length = vs.length → Tps Hs cs → Q (.ref D) H') :
    LcTail (tOp (rIxT K) (tVar i) (tC (.int (n : Int)))) i σ Q (Itl K a) H1 := by
  intro D hD
  have haD : a ≠ D := ne_of_none hA hD
  refine lc_list (K := K) (a := a) (xs := vs) (fun j H => ∃ cs : List Addr, H = upd H1 D (.lst (cs.map V.ref)) ∧ cs.length = j ∧ Tps Hs cs) ⟨[], rfl, rfl, fun c hc => by cases hc⟩ (fun j H _ ⟨cs, e, _⟩ => by rw [e]; exact SqL.of ((upd_ne haD).trans hA)) ?_ ?_
  · rintro j x H hj ⟨cs, rfl, hl, hT⟩
    obtain ⟨y, _, p, q, r, l, m, rfl, h1, h2, h3⟩ := paired_get hP hj
    replace h1 := sS _ _ h1
    have hpD : p ≠ D := ne_of_none h1 hD
    have hjl : j < vs.length := (List.getElem?_eq_some_iff.mp hj).1
    refine ⟨?_, yes_of ⟨.ref p, ?_, ?_⟩⟩
    · show ((σ.set i none).set i (some (V.ref p))).set i none = σ.set i none
      rw [List.set_set, List.set_set]
    · show ((σ.set i none).set i (some (V.ref p)))[i]? = _
      rw [List.set_set, List.getElem?_set_self hi]
    have more : ∀ c, (∃ l, Hs c = some (.tup (vN l))) → ∃ acc, upd H1 D (.lst (cs.map V.ref)) D = some (.lst acc) ∧ acc.length < sizeLine ∧ ∃ cs' : List Addr, upd (upd H1 D (.lst (cs.map V.ref))) D (.lst (acc ++ [.ref c])) = upd H1 D (.lst (cs'.map V.ref)) ∧ cs'.length = j + 1 ∧ Tps Hs cs' := fun c hc => by
      refine ⟨_, upd_same, by rw [List.length_map, hl]; omega, cs ++ [c], ?_, by rw [List.length_append, hl]; rfl, fun d hd => ?_⟩
      · funext b
        by_cases e : b = D
        · rw [e, upd_same, upd_same, List.map_append]
          rfl
        · rw [upd_ne e, upd_ne e, upd_ne e]
      · rcases List.mem_append.mp hd with h | h
        · exact hT d h
        · rw [List.mem_singleton.mp h]
          exact hc
    rcases (show n = 0 ∨ n = 1 by omega) with rfl | rfl
    · exact ⟨p, _, 0, .ref q, rfl, rfl, SqT.of ((upd_ne hpD).trans h1), atI_nat (j := 0) rfl, more q ⟨l, h2⟩⟩
    · exact ⟨p, _, 1, .ref r, rfl, rfl, SqT.of ((upd_ne hpD).trans h1), atI_nat (j := 1) rfl, more r ⟨m, h3⟩⟩
  · rintro H ⟨cs, rfl, hl, hT⟩
    exact k D cs _ hD (same_new hD) upd_same hl hT
theorem tup2_of {ta tb : TE} {σ : L2.St} {H : Hp} {Q : VK} (h : ta σ H fun x H1 => tb σ H1 fun y H2 => ([x, y] : List V).length ≤ sizeLine ∧ ∀ p, H2 p = none → Q (.ref p) (upd H2 p (.tup [x, y]))) : tTup (tCons ta (tCons tb tNil)) σ H Q := h
theorem cb1_of {r : List V → Hp → VK → Prop} {te : TE} {σ : L2.St} {H : Hp} {Q : VK} (h : te σ H fun x H1 => r [x] H1 Q) : tCB r (tCons te tNil) σ H Q := h
section
variable {P : Program} {w : World} {K : PySem.W.Frag} {mg : Str → Option Value} {base : Heap} {C : Addr}
theorem scRa : FnScope ["text", "pieces", "parts", "piece", "part"] ["text"] (defScope sRange) := ⟨rfl, rfl, rfl, by decide +kernel, rfl, by decide +kernel, by decide +kernel⟩
theorem ok_range {f fS fP : Addr} {fd fdS fdP : FuncData} (F : Fun K "read_range" "read_range" sRange f fd) (T : Wt K mg C) (hL : mg "len" = none) (hMx : mg "max" = none) (hMn : mg "min" = none) (c1 : Ci mg "AMPERSAND" 38) (c2 : Ci mg "MOST_RANGE_PARTS" 4)
    (DS : Dn K mg "split_at" sSplit ["text", "mark"] fS fdS) (GS : FnOk P w K mg base CX0 1 fS fdS ["text", "mark"] (spSplit K))
    (DP : Dn K mg "read_range_part" sPart ["text"] fP fdP) (GP : FnOk P w K mg base (L2N.CX P w) 3 fP fdP ["text"] (spR K Ql76.atomRead AtomAt C)) :
    FnOk P w K mg base (L2N.CX P w) 4 f fd ["text"] (spR K rangeRead RangeAt C) := by
  refine okN F scRa (fun vs H Q E h => ?_) (fun cdv A outer s H vs Q E hr h => ?_)
  · obtain ⟨a, l, rfl, _⟩ := h
    rfl
  · refine ⟨_, pss_cons (ps_set (i := 1) scRa.nd rfl (.inl rfl) (pe_call GS (hr.mono (by decide)) rfl DS.g DS.F.kp DS.b .nil pass0 (pa_cons (pv 0) (pa_cons (pe_ci c1) pa_nil))))
      (pss_cons (ps_if (pt_cmpR op_gt (pe_callB call_len_seq (by rfl) hL PySem.boot_len (pa_cons (pv 1) pa_nil)) (pe_ci c2) (nomark _))
        (pss_one (ps_wt T rfl (L2N.takes_of rfl rfl rfl rfl) (by rfl))) pss_nil)
      (pss_cons (ps_lcx (i := 2) (own := [("piece", 3)]) (g := gName 3) (W := E)
        { hs := rfl, hf := rfl, hc := rfl, hN := scRa.nd, tk := L2N.takes_of rfl rfl rfl rfl, hi := pi_list (pv 1), ok := blkOk_by (N := ["text", "pieces", "parts", "piece", "part"]) (sc := defScope sRange) (by decide +kernel),
          hg := fun _ _ _ _ _ => pg_name (i := 3) scRa.nd rfl (Or.inl rfl), he := fun _ _ _ _ _ => pe_callS (E := fun _ => E) GP hr rfl DP.g DP.F.kp DP.b (fun σ => pass_bx σ) (pa_cons (pv 3) pa_nil), hx := fun _ => rfl } rfl rfl (sw_true rfl rfl rfl (by decide +kernel)))
      (pss_one (ps_ret (pe_tup (pa_cons
        (pe_callB (cr_maxP rfl) (by rfl) hMx boot_max (pa_cons (pe_lcx (own := [("part", 4)]) (g := gName 4) (te := tOp (rIxT K) (tVar 4) (tC (.int 0))) (W := E)
          { hs := rfl, hf := rfl, hc := rfl, hN := scRa.nd, tk := L2N.takes_of rfl rfl rfl rfl, hi := pi_list (pv 2), ok := blkOk_by (N := ["text", "pieces", "parts", "piece", "part"]) (sc := defScope sRange) (by decide +kernel),
            hg := fun _ _ _ _ _ => pg_name (i := 4) scRa.nd rfl (Or.inl rfl), he := fun _ _ _ _ _ => pe_ix ix_tup (pv 4) pe_int (fun _ _ => rfl), hx := fun _ => rfl }) pa_nil))
        (pa_cons (pe_callB (cr_minP rfl) (by rfl) hMn boot_min (pa_cons (pe_lcx (own := [("part", 4)]) (g := gName 4) (te := tOp (rIxT K) (tVar 4) (tC (.int 1))) (W := E)
          { hs := rfl, hf := rfl, hc := rfl, hN := scRa.nd, tk := L2N.takes_of rfl rfl rfl rfl, hi := pi_list (pv 2), ok := blkOk_by (N := ["text", "pieces", "parts", "piece", "part"]) (sc := defScope sRange) (by decide +kernel),
            hg := fun _ _ _ _ _ => pg_name (i := 4) scRa.nd rfl (Or.inl rfl), he := fun _ _ _ _ _ => pe_ix ix_tup (pv 4) pe_int (fun _ _ => rfl), hx := fun _ => rfl }) pa_nil)) pa_nil))))))), ?_⟩
    obtain ⟨a, l, rfl, hS, hlen, kN, kS⟩ := h
    refine ⟨_, rfl, a, l, 38, rfl, hS, hlen, fun H1 p s1 hp LP => ?_⟩
    obtain ⟨as, hP, hAs⟩ := LP
    have hal := Paired.length hAs
    refine ⟨_, rfl, p, _, rfl, .inl (SqL.of hP), _, _, rfl, rfl, _, rfl, ?_⟩
    rw [List.length_map, hal]
    by_cases c : 4 < (Ql76.pieces 38 l).length
    · refine if_true_of (decide_eq_true (by omega)) (kN ?_ H1 s1)
      unfold rangeRead
      exact if_pos c
    refine if_false_of (decide_eq_false (by omega)) ?_
    have er : rangeRead l = Ql76.each Ql76.atomRead (Ql76.pieces 38 l) := by
      unfold rangeRead
      exact if_neg c
    refine nx_of ?_
    dsimp only
    refine seq_asg (lc_open ?_)
    refine ⟨_, rfl, p, rfl, ⟨_, SqL.of hP⟩, ?_⟩
    refine lc_rd (by show 3 < 5; decide) AtomAt.mono (SqL.of hP) (LL.list hAs) (fun x hx => Nat.le_trans (pieces_short 38 l x hx) hlen) (by rw [sizeLine_eq]; omega) (fun e H' s2 => kN (er.trans e) H' (s1.trans s2)) ?_
    intro ys e D vs H2 s2 hD hDv hV
    have hV2 : Paired (AtomAt H2) vs ys := paired_imp hV fun _ _ _ _ z => AtomAt.mono (hid_same.trans dif_same) z
    have hvl : vs.length ≤ 4 := by rw [Paired.length hV, each_length e]; omega
    have hne : vs ≠ [] := fun z => by
      rw [z] at hV
      have h0 := Paired.length hV
      have h1 := each_length e
      have h2 := pieces_ne 38 l
      rw [← h0] at h1
      exact h2 (List.length_eq_zero_iff.mp h1.symm)
    have hu := hr.units
    refine gn_of (ret_of (tup2_of (cb1_of (lc_open ?_))))
    refine ⟨_, rfl, D, rfl, ⟨_, SqL.of hDv⟩, ?_⟩
    have sS : Same (hid D (dif H1 H2)) H2 := hid_same.trans dif_same
    refine lc_col (Hs := hid D (dif H1 H2)) (n := 0) (by decide) (by show 4 < 5; decide) hDv sS hV (by rw [sizeLine_eq]; omega) (fun D3 cs H3 hD3 s3 hL3 hl3 hT3 => ?_)
    have tps : ∀ {Hx : Hp} {xs : List Addr}, Same H2 Hx → Tps (hid D (dif H1 H2)) xs → Tps Hx xs := fun {Hx xs} sx ht c hc => by
      obtain ⟨m, hm⟩ := ht c hc
      exact ⟨m, sx _ _ (sS _ _ hm)⟩
    have cne : ∀ {xs : List Addr}, xs.length = vs.length → xs ≠ [] := fun {xs} hx z => by
      rw [z] at hx
      exact hne (List.length_eq_zero_iff.mp hx.symm)
    refine pick_of hL3 (tps s3 hT3) (cne hl3) hu (fun q hq => ?_)
    refine cb1_of (lc_open ?_)
    refine ⟨_, rfl, D, rfl, ⟨_, SqL.of (s3 _ _ hDv)⟩, ?_⟩
    refine lc_col (Hs := hid D (dif H1 H2)) (n := 1) (by decide) (by show 4 < 5; decide) (s3 _ _ hDv) (sS.trans s3) hV (by rw [sizeLine_eq]; omega) (fun D4 cs4 H4 hD4 s4 hL4 hl4 hT4 => ?_)
    refine pick_of hL4 (tps (s3.trans s4) hT4) (cne hl4) hu (fun r hr4 => ?_)
    obtain ⟨m1, hm1⟩ := hT3 q hq
    obtain ⟨m2, hm2⟩ := hT4 r hr4
    have s14 := (s1.trans s2).trans (s3.trans s4)
    exact atom_pair (a := .any) s14 (s1.free (dif_some (hid_some hm1).2).1) (s1.free (dif_some (hid_some hm2).2).1) (s4 _ _ (s3 _ _ (sS _ _ hm1))) (s4 _ _ (s3 _ _ (sS _ _ hm2))) (kS ys (er.trans e))
theorem scNe : FnScope ["text", "pieces", "fits"] ["text"] (defScope sNeed) := ⟨rfl, rfl, rfl, by decide +kernel, rfl, by decide +kernel, by decide +kernel⟩
theorem ok_need {f fS fN fR : Addr} {fd fdS fdN fdR : FuncData} (F : Fun K "read_need" "read_need" sNeed f fd) (T : Wt K mg C) (hL : mg "len" = none) (c1 : Ci mg "COLON" 58)
    (DS : Dn K mg "split_at" sSplit ["text", "mark"] fS fdS) (GS : FnOk P w K mg base CX0 1 fS fdS ["text", "mark"] (spSplit K))
    (DN : Dn K mg "read_name" sName ["text"] fN fdN) (GN : FnOk P w K mg base (L2N.CX P w) 1 fN fdN ["text"] (spR K Ql76.nameRead TupAt C))
    (DR : Dn K mg "read_range" sRange ["text"] fR fdR) (GR : FnOk P w K mg base (L2N.CX P w) 4 fR fdR ["text"] (spR K rangeRead RangeAt C)) :
    FnOk P w K mg base (L2N.CX P w) 5 f fd ["text"] (spR K Ql76.needRead NeedAt C) := by
  refine okN F scNe (fun vs H Q E h => ?_) (fun cdv A outer s H vs Q E hr h => ?_)
  · obtain ⟨a, l, rfl, _⟩ := h
    rfl
  · refine ⟨_, pss_cons (ps_set (i := 1) scNe.nd rfl (.inl rfl) (pe_call GS (hr.mono (by decide)) rfl DS.g DS.F.kp DS.b .nil pass0 (pa_cons (pv 0) (pa_cons (pe_ci c1) pa_nil))))
      (pss_cons (ps_if (pt_cmpR op_ne (pe_callB call_len_seq (by rfl) hL PySem.boot_len (pa_cons (pv 1) pa_nil)) pe_int (nomark _))
        (pss_one (ps_wt T rfl (L2N.takes_of rfl rfl rfl rfl) (by rfl))) pss_nil)
      (pss_cons (ps_set (i := 2) scNe.nd rfl (.inl rfl) (pe_callS GR hr rfl DR.g DR.F.kp DR.b (fun σ => L2N.passAt (L2N.takes_of rfl rfl rfl rfl) σ) (pa_cons (pe_ix ix_list (pv 1) pe_int (fun _ _ => rfl)) pa_nil)))
      (pss_one (ps_ret (pe_tup (pa_cons (pe_callS GN (hr.mono (by decide)) rfl DN.g DN.F.kp DN.b (fun σ => L2N.passAt (L2N.takes_of rfl rfl rfl rfl) σ) (pa_cons (pe_ix ix_list (pv 1) pe_int (fun _ _ => rfl)) pa_nil))
        (pa_cons (pe_ix ix_tup (pv 2) pe_int (fun _ _ => rfl)) (pa_cons (pe_ix ix_tup (pv 2) pe_int (fun _ _ => rfl)) pa_nil)))))))), ?_⟩
    obtain ⟨a, l, rfl, hS, hlen, kN, kS⟩ := h
    refine ⟨_, rfl, a, l, 58, rfl, hS, hlen, fun H1 p s1 hp LP => ?_⟩
    obtain ⟨as, hP, hAs⟩ := LP
    have hal := Paired.length hAs
    refine ⟨_, rfl, p, _, rfl, .inl (SqL.of hP), rfl, _, rfl, ?_⟩
    rw [List.length_map, hal]
    by_cases c : (Ql76.pieces 58 l).length = 2
    · rw [c]
      refine if_false_of rfl ?_
      obtain ⟨n, r, enr⟩ : ∃ n r, Ql76.pieces 58 l = [n, r] := by
        match e : Ql76.pieces 58 l, c with
        | [n, r], _ => exact ⟨n, r, rfl⟩
      have ed := need_of enr
      have hb : ∀ x ∈ [n, r], x.length ≤ 32768 := fun x hx => Nat.le_trans (pieces_short 58 l x (by rw [enr]; exact hx)) hlen
      rw [enr] at hAs
      cases hAs with
      | @cons a1 _ as1 _ h1 t1 =>
        cases t1 with
        | @cons a2 _ as2 _ h2 t2 =>
          cases t2
          have bad : rangeRead r = none → Ql76.needRead l = none := fun e => by
            rw [ed, e]
            cases Ql76.nameRead n <;> rfl
          refine ⟨_, rfl, p, _, 1, .ref a2, rfl, rfl, SqL.of hP, atI_nat (j := 1) rfl, a2, r, rfl, SqL.of h2.1, hb r (by simp), fun e H' s2 => kN (bad e) H' (s1.trans s2), fun ys e2 H2 u s2 hU => ?_⟩
          obtain ⟨pp, q1, q2, l1, l2, rfl, g1, g2, g3⟩ := RangeAt.mono dif_same hU
          have hP2 := s2 p _ hP
          refine ⟨_, rfl, p, _, 0, .ref a1, rfl, rfl, SqL.of hP2, atI_nat (j := 0) rfl, a1, n, rfl, SqL.of (s2 _ _ h1.1), hb n (by simp), fun e H' s3 => kN ?_ H' ((s1.trans s2).trans s3), fun y e H3 v s3 hV => ?_⟩
          · rw [ed, e]
          · have g1' := s3 _ _ g1
            refine ⟨_, rfl, pp, _, 0, .ref q1, rfl, rfl, SqT.of g1', atI_nat (j := 0) rfl, _, rfl, pp, _, 1, .ref q2, rfl, rfl, SqT.of g1', atI_nat (j := 1) rfl, (by show 3 ≤ sizeLine; rw [sizeLine_eq]; decide), fun q hq => ?_⟩
            have s4 := (s1.trans s2).trans s3
            refine kS ⟨y, ys⟩ (by rw [ed, e, e2]) _ _ (s4.trans (same_new hq)) ⟨q, v, .ref q1, .ref q2, rfl, ?_⟩
            rw [dif_new (s4.free hq), upd_same]
    · refine if_true_of ?_ (kN (need_none_len c) H1 s1)
      rw [decide_eq_false fun z => c (by have := V.int.inj z; omega)]
      rfl
end
end Fp
namespace Fp
open PySem PySem.Spec PyProof.Rows L2 FpR
abbrev sLine : Stmt := top 36
abbrev sInit : Stmt := inClass (top 25) 0
/-- a line's fields -/
def lF (b n v d : V) : List (Str × V) := [("label", b), ("name", n), ("version", v), ("needs", d)]
theorem lk_here {k : Str} {v : V} {r : List (Str × V)} : List.lookup k ((k, v) :: r) = some v := by
  have e : (k == k) = true := beq_self_eq_true k
  simp only [List.lookup, e]
theorem lk_past {k g : Str} {v : V} {r : List (Str × V)} (h : (k == g) = false) : List.lookup k ((g, v) :: r) = List.lookup k r := by
  simp only [List.lookup, h]
theorem put_here {f : Str} {v x : V} {r : List (Str × V)} : putF f v ((f, x) :: r) = (f, v) :: r := if_pos rfl
theorem put_past {f g : Str} {v x : V} {r : List (Str × V)} (h : ¬ g = f) : putF f v ((g, x) :: r) = (g, x) :: putF f v r := if_neg h
theorem lF_name (b n v d : V) : (lF b n v d).lookup ("name" : Str) = some n := (lk_past (by decide +kernel)).trans lk_here
theorem lF_ver (b n v d : V) : (lF b n v d).lookup ("version" : Str) = some v := (lk_past (by decide +kernel)).trans ((lk_past (by decide +kernel)).trans lk_here)
theorem lF_2 (b n : V) : putF "name" n (putF "label" b []) = [(("label" : Str), b), (("name" : Str), n)] := (put_past (by decide +kernel)).trans rfl
theorem lF_3 (b n v : V) : putF "version" v (putF "name" n (putF "label" b [])) = [(("label" : Str), b), (("name" : Str), n), (("version" : Str), v)] := by
  rw [lF_2]
  exact (put_past (by decide +kernel)).trans (congrArg _ ((put_past (by decide +kernel)).trans rfl))
theorem lF_new (b n v d : V) : putF "needs" d (putF "version" v (putF "name" n (putF "label" b []))) = lF b n v d := by
  rw [lF_3]
  exact (put_past (by decide +kernel)).trans (congrArg _ ((put_past (by decide +kernel)).trans (congrArg _ ((put_past (by decide +kernel)).trans rfl))))
/-- what the top has written of the class of lines -/
structure Ln (K : PySem.W.Frag) (mg : Str → Option Value) (CL fI : Addr) (fdI : FuncData) : Prop where
  cl : Cls K CL
  n0 : NoAttr K CL "label"
  n1 : NoAttr K CL "name"
  n2 : NoAttr K CL "version"
  n3 : NoAttr K CL "needs"
  g : mg "Line" = some (.ref CL)
  M : Mk K CL fI
  F : Fun K "__init__" "Line.__init__" sInit fI fdI
  b : Binds K fdI ["self", "label", "name", "version", "needs"] []
def spInit (CL : Addr) : Sp := fun vs H Q _ => ∃ (p dx : Addr) (b n v d : V), vs = [.ref p, b, n, v, d] ∧ H p = some (.ins CL dx []) ∧
  ∀ H' : Hp, H' p = some (.ins CL dx (lF b n v d)) → (∀ b o, H b = some o → b ≠ p → H' b = some o) → Q .non H'
def LineAt (CL : Addr) (H : Hp) (v : V) (x : Ql76.Item) : Prop := ∃ p dx b n vr nd, v = .ref p ∧ H p = some (.ins CL dx (lF b (.ref n) (.ref vr) nd)) ∧ H n = some (.tup (vN x.name)) ∧ H vr = some (.tup (vN x.ver)) ∧ ListAt NeedAt H nd x.needs
theorem LineAt.mono {CL : Addr} {H H' : Hp} {v : V} {x : Ql76.Item} (s : Same H H') (h : LineAt CL H v x) : LineAt CL H' v x := by
  obtain ⟨p, dx, b, n, vr, nd, e, h1, h2, h3, h4⟩ := h
  exact ⟨p, dx, b, n, vr, nd, e, s _ _ h1, s _ _ h2, s _ _ h3, ListAt.mono (At := NeedAt) NeedAt.mono s h4⟩
section
variable {P : Program} {w : World} {K : PySem.W.Frag} {mg : Str → Option Value} {base : Heap} {C CL fI : Addr} {fdI : FuncData}
theorem scIn : FnScope ["self", "label", "name", "version", "needs"] ["self", "label", "name", "version", "needs"] (defScope sInit) := ⟨rfl, rfl, rfl, by decide +kernel, rfl, by decide +kernel, by decide +kernel⟩
theorem ok_init (L : Ln K mg CL fI fdI) : FnOk P w K mg base CX0 1 fI fdI ["self", "label", "name", "version", "needs"] (spInit CL) := by
  refine L.F.ok scIn (fun vs H Q E h => ?_) (fun cdv A outer s H vs Q E hr h => ?_)
  · obtain ⟨p, dx, b, n, v, d, rfl, _⟩ := h
    rfl
  · refine ⟨_, pss_cons (ps_fld (pv 0) (pv 1) rfl) (pss_cons (ps_fld (pv 0) (pv 2) rfl) (pss_cons (ps_fld (pv 0) (pv 3) rfl) (pss_one (ps_fld (pv 0) (pv 4) rfl)))), ?_⟩
    obtain ⟨p, dx, b, n, v, d, rfl, hp, k⟩ := h
    refine ⟨_, rfl, _, rfl, p, CL, dx, [], rfl, hp, L.cl, L.n0, (by show 0 < 1000; decide), ?_⟩
    refine ⟨_, rfl, _, rfl, p, CL, dx, _, rfl, upd_same, L.cl, L.n1, (by show 1 < 1000; decide), ?_⟩
    refine ⟨_, rfl, _, rfl, p, CL, dx, _, rfl, upd_same, L.cl, L.n2, ?_, ?_⟩
    · rw [lF_2]
      show 2 < 1000
      decide
    refine ⟨_, rfl, _, rfl, p, CL, dx, _, rfl, upd_same, L.cl, L.n3, ?_, ?_⟩
    · rw [lF_3]
      show 3 < 1000
      decide
    exact k _ (upd_same.trans (congrArg (fun q => some (HO.ins CL dx q)) (lF_new b n v d))) fun c o e hb => by
      rw [upd_ne hb, upd_ne hb, upd_ne hb, upd_ne hb]
      exact e
theorem scLn : FnScope ["text", "words", "needs", "label", "word"] ["text"] (defScope sLine) := ⟨rfl, rfl, rfl, by decide +kernel, rfl, by decide +kernel, by decide +kernel⟩
theorem paired_drop {α β : Type} {R : α → β → Prop} : ∀ {a : List α} {b : List β} (n : Nat), Paired R a b → Paired R (a.drop n) (b.drop n)
  | _, _, 0, r => r
  | _, _, _ + 1, .nil => .nil
  | _, _, n + 1, .cons _ t => paired_drop n t
theorem cut_refs {as : List Addr} {n : Nat} (h : n ≤ as.length) : cutV (as.map V.ref) (some (n : Int)) none = (as.drop n).map V.ref := by
  unfold cutV
  rw [List.length_map, six _ n _ h, ← List.map_drop]
  show List.take (as.length - n) _ = _
  rw [← List.length_drop, ← List.length_map (f := V.ref), List.take_length]
theorem ok_line {f fS fN fV fD : Addr} {fd fdS fdN fdV fdD : FuncData} (F : Fun K "read_line" "read_line" sLine f fd) (T : Wt K mg C) (L : Ln K mg CL fI fdI) (hL : mg "len" = none) (c1 : Ci mg "SPACE" 32) (c2 : Ci mg "MOST_NEEDS" 8)
    (DS : Dn K mg "split_at" sSplit ["text", "mark"] fS fdS) (GS : FnOk P w K mg base CX0 1 fS fdS ["text", "mark"] (spSplit K))
    (DN : Dn K mg "read_name" sName ["text"] fN fdN) (GN : FnOk P w K mg base (L2N.CX P w) 1 fN fdN ["text"] (spR K Ql76.nameRead TupAt C))
    (DV : Dn K mg "read_version" sVer ["text"] fV fdV) (GV : FnOk P w K mg base (L2N.CX P w) 2 fV fdV ["text"] (spR K Ql76.verRead TupAt C))
    (DD : Dn K mg "read_need" sNeed ["text"] fD fdD) (GD : FnOk P w K mg base (L2N.CX P w) 5 fD fdD ["text"] (spR K Ql76.needRead NeedAt C)) :
    FnOk P w K mg base (L2N.CX P w) 6 f fd ["text"] (spR K Ql76.itemRead (LineAt CL) C) := by
  have GI : FnOk P w K mg base CX0 1 fI fdI ["self", "label", "name", "version", "needs"] (spInit CL) := ok_init L
  refine okN F scLn (fun vs H Q E h => ?_) (fun cdv A outer s H vs Q E hr h => ?_)
  · obtain ⟨a, l, rfl, _⟩ := h
    rfl
  · refine ⟨_, pss_cons (ps_set (i := 1) scLn.nd rfl (.inl rfl) (pe_call GS (hr.mono (by decide)) rfl DS.g DS.F.kp DS.b .nil pass0 (pa_cons (pv 0) (pa_cons (pe_ci c1) pa_nil))))
      (pss_cons (ps_if (PW.pt (pw_or (pt_cmpR op_lt (pe_callB call_len_seq (by rfl) hL PySem.boot_len (pa_cons (pv 1) pa_nil)) pe_int (nomark _)) (pw_or1 (pt_cmpR op_gt (pe_callB call_len_seq (by rfl) hL PySem.boot_len (pa_cons (pv 1) pa_nil)) (pe_op op_add pe_int (pe_ci c2)) (nomark _)))))
        (pss_one (ps_wt T rfl (L2N.takes_of rfl rfl rfl rfl) (by rfl))) pss_nil)
      (pss_cons (ps_lcx (i := 2) (own := [("word", 4)]) (g := gName 4) (W := E)
        { hs := rfl, hf := rfl, hc := rfl, hN := scLn.nd, tk := L2N.takes_of rfl rfl rfl rfl, hi := pi_list (pe_slice sl_list (pv 1) (po_some pe_int) po_none), ok := blkOk_by (N := ["text", "words", "needs", "label", "word"]) (sc := defScope sLine) (by decide +kernel),
          hg := fun _ _ _ _ _ => pg_name (i := 4) scLn.nd rfl (Or.inl rfl), he := fun _ _ _ _ _ => pe_callS (E := fun _ => E) GD hr rfl DD.g DD.F.kp DD.b (fun σ => pass_bx σ) (pa_cons (pv 4) pa_nil), hx := fun _ => rfl } rfl rfl (sw_true rfl rfl rfl (by decide +kernel)))
      (pss_cons (ps_set (i := 3) scLn.nd rfl (.inl rfl) (pe_op op_cat (pe_op op_cat (pe_ix ix_list (pv 1) pe_int (fun _ _ => rfl)) (pe_lst (pa_cons (pe_ci c1) pa_nil))) (pe_ix ix_list (pv 1) pe_int (fun _ _ => rfl))))
      (pss_one (ps_ret (pe_make L.M GI (hr.mono (by decide)) rfl L.g L.b .nil pass0
        (pa_cons (pv 3) (pa_cons (pe_callS GN (hr.mono (by decide)) rfl DN.g DN.F.kp DN.b (fun σ => L2N.passAt (L2N.takes_of rfl rfl rfl rfl) σ) (pa_cons (pe_ix ix_list (pv 1) pe_int (fun _ _ => rfl)) pa_nil))
        (pa_cons (pe_callS GV (hr.mono (by decide)) rfl DV.g DV.F.kp DV.b (fun σ => L2N.passAt (L2N.takes_of rfl rfl rfl rfl) σ) (pa_cons (pe_ix ix_list (pv 1) pe_int (fun _ _ => rfl)) pa_nil))
        (pa_cons (pv 2) pa_nil)))))))))), ?_⟩
    obtain ⟨a, l, rfl, hS, hlen, kN, kS⟩ := h
    refine ⟨_, rfl, a, l, 32, rfl, hS, hlen, fun H1 p s1 hp LP => ?_⟩
    obtain ⟨as, hP, hAs⟩ := LP
    have hal := Paired.length hAs
    refine ⟨_, rfl, p, _, rfl, .inl (SqL.of hP), _, _, rfl, rfl, _, rfl, ?_⟩
    rw [List.length_map, hal]
    by_cases c : ((Ql76.pieces 32 l).length : Int) < 2
    · refine if_true_of (decide_eq_true c) ?_
      exact if_true_of rfl (kN (item_none_len (.inl (by omega))) H1 s1)
    refine if_false_of (decide_eq_false c) ?_
    refine ⟨_, rfl, p, _, rfl, .inl (SqL.of hP), _, _, rfl, rfl, _, _, rfl, rfl, _, rfl, ?_⟩
    rw [List.length_map, hal]
    by_cases c' : ((2 : Int) + 8) < ((Ql76.pieces 32 l).length : Int)
    · exact if_true_of (decide_eq_true c') (kN (item_none_len (.inr (by omega))) H1 s1)
    refine if_false_of (decide_eq_false c') ?_
    refine nx_of ?_
    dsimp only
    obtain ⟨n, v, r, enr⟩ : ∃ n v r, Ql76.pieces 32 l = n :: v :: r := by
      match e : Ql76.pieces 32 l, c with
      | n :: v :: r, _ => exact ⟨n, v, r, rfl⟩
      | [n], c => exact absurd (show ((1 : Nat) : Int) < 2 by decide) c
      | [], c => exact absurd (show ((0 : Nat) : Int) < 2 by decide) c
    have hrl : r.length ≤ 8 := by
      rw [enr] at c'
      simp only [List.length_cons] at c'
      omega
    have ei := item_of enr hrl
    have hb : ∀ x ∈ n :: v :: r, x.length ≤ 32768 := fun x hx => Nat.le_trans (pieces_short 32 l x (by rw [enr]; exact hx)) hlen
    rw [enr] at hAs
    refine seq_asg (lc_open ?_)
    refine ⟨_, rfl, _, rfl, p, _, rfl, SqL.of hP, fun q hq => ?_⟩
    have hqp : p ≠ q := ne_of_none hP hq
    have s2 : Same H1 (upd H1 q (.lst (cutV (as.map V.ref) (some 2) none))) := fun b o e => by rw [upd_ne (ne_of_none e hq)]; exact e
    have hA2 : (upd H1 q (.lst (cutV (as.map V.ref) (some 2) none))) q = some (.lst ((as.drop 2).map V.ref)) := by
      rw [upd_same, show (2 : Int) = ((2 : Nat) : Int) from rfl, cut_refs (by rw [Paired.length hAs]; simp)]
    refine ⟨q, rfl, ⟨_, SqL.of hA2⟩, ?_⟩
    refine lc_rd (ls := r) (by show 4 < 5; decide) NeedAt.mono (SqL.of hA2) (paired_imp (paired_drop 2 hAs) fun b x _ _ z => s2 _ _ z.1) (fun x hx => hb x (List.mem_cons_of_mem _ (List.mem_cons_of_mem _ hx))) (by rw [sizeLine_eq]; omega)
      (fun e H' s3 => kN ?_ H' ((s1.trans s2).trans s3)) ?_
    · rw [ei, e]
    intro ys e D vs H3 s3 hD hDv hV
    have s13 := (s1.trans s2).trans s3
    cases hAs with
    | @cons a1 _ as1 _ h1 t1 =>
      cases t1 with
      | @cons a2 _ as2 _ h2 t2 =>
        have hP3 := s3 _ _ (s2 _ _ hP)
        have b1 := s3 _ _ (s2 _ _ h1.1)
        have b2 := s3 _ _ (s2 _ _ h2.1)
        have hln : n.length + 1 + v.length ≤ sizeLine := by
          have e1 := hb n (by simp)
          have e2 := hb v (by simp)
          rw [sizeLine_eq]
          omega
        -- label = words[0] + [SPACE] + words[1]
        refine gn_of ?_
        refine ⟨_, rfl, p, _, 0, .ref a1, rfl, rfl, SqL.of hP3, atI_nat (j := 0) rfl, (by show 1 ≤ sizeLine; rw [sizeLine_eq]; decide), fun g1 hg1 => ?_⟩
        have t1 : Same H3 (upd H3 g1 (.lst [.int 32])) := same_new hg1
        refine ⟨a1, g1, _, _, rfl, rfl, t1 _ _ b1, upd_same, (by rw [vN_length]; show _ + 1 ≤ _; omega), fun g2 hg2 => ?_⟩
        have t2 := t1.trans (same_new (o := HO.lst (vN n ++ [.int 32])) hg2)
        refine ⟨_, rfl, p, _, 1, .ref a2, rfl, rfl, SqL.of (t2 _ _ hP3), atI_nat (j := 1) rfl, g2, a2, _, _, rfl, rfl, upd_same, t2 _ _ b2, (by rw [List.length_append, vN_length, vN_length]; exact hln), fun g3 hg3 => ?_⟩
        have t3 := t2.trans (same_new (o := HO.lst (vN n ++ [.int 32] ++ vN v)) hg3)
        generalize upd (upd (upd H3 g1 (.lst [.int 32])) g2 (.lst (vN n ++ [.int 32]))) g3 (.lst (vN n ++ [.int 32] ++ vN v)) = Hb at t3 ⊢
        have s13 := s13.trans t3
        have hPb := t3 _ _ hP3
        have c1' := t3 _ _ b1
        have c2' := t3 _ _ b2
        refine gn_of ?_
        dsimp only
        refine ⟨_, rfl, _, rfl, p, _, 0, .ref a1, rfl, rfl, SqL.of hPb, atI_nat (j := 0) rfl, a1, n, rfl, SqL.of c1', hb n (by simp), fun en H' s4 => kN ?_ H' (s13.trans s4), fun y en H4 u s4 hU => ?_⟩
        · rw [ei, e, en]
        obtain rfl := name_is en
        obtain ⟨z, rfl, hz⟩ := hU
        have hP4 := s4 _ _ hPb
        refine ⟨_, rfl, p, _, 1, .ref a2, rfl, rfl, SqL.of hP4, atI_nat (j := 1) rfl, a2, v, rfl, SqL.of (s4 _ _ c2'), hb v (by simp), fun ev H' s5 => kN ?_ H' ((s13.trans s4).trans s5), fun yv ev H5 u s5 hU => ?_⟩
        · rw [ei, e, en, ev]
        obtain ⟨zv, rfl, hzv⟩ := hU
        have s15 := (s13.trans s4).trans s5
        refine ⟨_, rfl, ?_⟩
        intro x dx nx ndx nex
        refine ⟨x, dx, .ref g3, .ref z, .ref zv, .ref D, rfl, upd_same, fun H6 hx6 kp => ⟨rfl, ?_⟩⟩
        have s56 : Same H5 H6 := fun b o eb => by
          have hbx : b ≠ x := ne_of_none eb nx
          have hbd : b ≠ dx := ne_of_none eb ndx
          exact kp b o (by rw [upd_ne hbx, upd_ne hbd]; exact eb) hbx
        obtain ⟨hz1, hz2⟩ := dif_some hz
        obtain ⟨hv1, hv2⟩ := dif_some hzv
        refine kS ⟨y, yv, ys⟩ (by rw [ei, e, en, ev]) H6 _ (s15.trans s56) ⟨x, dx, .ref g3, z, zv, .ref D, rfl, ?_, ?_, ?_, D, vs, rfl, ?_, ?_⟩
        · rw [dif_new (s15.free nx)]
          exact hx6
        · rw [dif_new (s13.free hz1)]
          exact s56 _ _ (s5 _ _ hz2)
        · rw [dif_new ((s13.trans s4).free hv1)]
          exact s56 _ _ hv2
        · rw [dif_new ((s1.trans s2).free hD)]
          exact s56 _ _ (s5 _ _ (s4 _ _ (t3 _ _ hDv)))
        · refine paired_imp hV fun b y _ _ q => NeedAt.mono (fun c o ec => ?_) q
          obtain ⟨e3, e4⟩ := dif_some (hid_some ec).2
          rw [dif_new ((s1.trans s2).free e3)]
          exact s56 _ _ (s5 _ _ (s4 _ _ (t3 _ _ e4)))
end
end Fp
namespace Fp
open PySem PySem.Spec PyProof.Rows L2 FpR
abbrev sRead : Stmt := top 37
abbrev CXe := @L2.CX
/-- all but p and sd is kept -/
def K2 (p sd : Addr) (H H' : Hp) : Prop := ∀ b o, b ≠ p → b ≠ sd → H b = some o → H' b = some o
def spLs (K : PySem.W.Frag) (CL CW : Addr) : Sp := fun vs H Q E => ∃ (a : Addr) (l : List Nat), vs = [.ref a] ∧ SqL K H a (vN l) ∧ l.length ≤ 32768 ∧
  (∀ k, Ql76.read l = .error k → ∀ H' d, Same H H' → H' d = some (.xd [(("number" : Str), .int (k : Int))]) → E (.ref CW) (some d) H') ∧
  (∀ r, Ql76.read l = .ok r → ∀ H' v, Same H H' → ListAt (LineAt CL) (dif H H') v r → Q v H')
theorem scRd : FnScope ["b", "lines", "seen", "number", "text", "line"] ["b"] (defScope sRead) := ⟨rfl, rfl, rfl, by decide +kernel, rfl, by decide +kernel, by decide +kernel⟩
theorem K2.of {p sd : Addr} {H H' : Hp} (s : Same H H') : K2 p sd H H' := fun b o _ _ e => s b o e
theorem K2.trans {p sd : Addr} {H H1 H2 : Hp} (a : K2 p sd H H1) (b : K2 p sd H1 H2) : K2 p sd H H2 := fun c o h1 h2 e => b c o h1 h2 (a c o h1 h2 e)
theorem pair2_k2 {P : Program} {w : World} {p sd t : Addr} {H H' : Hp} {vs : List V} {es : List Ent} {a b : List Nat} (k : K2 p sd H H') (hp : H p = some (.lst vs)) (hs : H sd = some (dnO P w sd es)) (h : Pair2 H t a b) : Pair2 H' t a b := by
  obtain ⟨n, v, h1, h2, h3⟩ := h
  have key : ∀ {c : Addr} {xs : List V}, H c = some (.tup xs) → H' c = some (.tup xs) := fun {c xs} e => k c _ (ne_of e hp (by intro z; cases z)) (ne_of e hs (by intro z; have z' : HO.tup xs = HO.ext _ := z; cases z')) e
  exact ⟨n, v, key h1, key h2, key h3⟩
/-- what is carried from turn to turn beside the two that change -/
structure St7 (CL : Addr) (H0 : Hp) (p sd q : Addr) (as : List Addr) (ls : List (List Nat)) (H : Hp) (vs : List V) (items : List Ql76.Item) (es : List Ent) : Prop where
  same : Same H0 H
  lines : Paired (LineAt CL (hid p (hid sd (dif H0 H)))) vs items
  keys : Paired (fun (e : Ent) (x : Ql76.Item) => e.1 = key2 x.name x.ver ∧ Pair2 H e.2.1 x.name x.ver) es items
  at_q : H q = some (.lst (as.map V.ref))
  texts : Paired (fun b x => H b = some (.lst (vN x))) as ls
theorem St7.k2 {P : Program} {w : World} {CL : Addr} {H0 : Hp} {p sd q : Addr} {as : List Addr} {ls : List (List Nat)} {H H' : Hp} {vs vs' : List V} {items : List Ql76.Item} {es es' : List Ent} (S : St7 CL H0 p sd q as ls H vs items es) (k : K2 p sd H H')
    (hp0 : H0 p = none) (hs0 : H0 sd = none) (hp : H p = some (.lst vs')) (hs : H sd = some (dnO P w sd es')) (hqp : q ≠ p) (hqs : q ≠ sd) (has : ∀ b ∈ as, b ≠ p ∧ b ≠ sd) : St7 CL H0 p sd q as ls H' vs items es where
  same := fun b o e => k b o (ne_of_none e hp0) (ne_of_none e hs0) (S.same b o e)
  lines := paired_imp S.lines fun _ _ _ _ z => LineAt.mono (fun b o e => by
    obtain ⟨h1, e⟩ := hid_some e
    obtain ⟨h2, e⟩ := hid_some e
    obtain ⟨h3, e⟩ := dif_some e
    rw [hid_ne h1, hid_ne h2, dif_new h3]
    exact k b o h1 h2 e) z
  keys := paired_imp S.keys fun _ _ _ _ z => ⟨z.1, pair2_k2 k hp hs z.2⟩
  at_q := k _ _ hqp hqs S.at_q
  texts := paired_imp S.texts fun b x hb _ z => k _ _ (has b hb).1 (has b hb).2 z
theorem hasK_iff {H : Hp} : ∀ {es : List Ent} {items : List Ql76.Item} {n v : List Nat}, Paired (fun (e : Ent) (x : Ql76.Item) => e.1 = key2 x.name x.ver ∧ Pair2 H e.2.1 x.name x.ver) es items → (hasK es (key2 n v) = true ↔ Held items n v)
  | _, _, n, v, .nil => by
    constructor
    · intro h
      cases h
    · rintro ⟨_, h, _⟩
      cases h
  | _, _, n, v, .cons (a := e) (b := x) r t => by
    have ih := hasK_iff (n := n) (v := v) t
    unfold hasK at ih ⊢
    rw [List.any_cons, Bool.or_eq_true, ih, decide_eq_true_eq, r.1, key2_inj]
    constructor
    · rintro (h | ⟨y, hy, h⟩)
      · exact ⟨x, List.mem_cons_self, h⟩
      · exact ⟨y, List.mem_cons_of_mem _ hy, h⟩
    · rintro ⟨y, hy, h⟩
      rcases List.mem_cons.mp hy with rfl | hin
      · exact .inl h
      · exact .inr ⟨y, hin, h⟩
section
variable {P : Program} {w : World} {K : PySem.W.Frag} {mg : Str → Option Value} {base : Heap} {C CL CW fI fW : Addr} {fdI : FuncData}
theorem ok_read {f fL fR : Addr} {fd fdL fdR : FuncData} (F : Fun K "read_lines" "read_lines" sRead f fd) (T : Wt K mg C) (L : Ln K mg CL fI fdI) (TW : PySem.WlX.WlTxt K mg "WrongLine" "WrongLine.__init__" CW fW) (hE : mg "enumerate" = none) (c1 : Ci mg "MOST_LINES" 128)
    (DL : Dn K mg "split_lines" sLines ["text"] fL fdL) (GL : FnOk P w K mg base CX0 2 fL fdL ["text"] (spLines K))
    (DR : Dn K mg "read_line" sLine ["text"] fR fdR) (GR : FnOk P w K mg base (L2N.CX P w) 6 fR fdR ["text"] (spR K Ql76.itemRead (LineAt CL) C)) :
    FnOk P w K mg base (L2.CX P w) 7 f fd ["b"] (spLs K CL CW) := by
  refine F.okX scRd (fun vs H Q E h => ?_) (fun cdv A outer s H vs Q E hr h => ?_)
  · obtain ⟨a, l, rfl, _⟩ := h
    rfl
  · have hu := hr.units
    have hd : (A.deeper (envOfC "read_lines" (defScope sRead) s.heap.objs.size f cdv)).depth + 1 < recursionLimit := by have := hr.dp; omega
    refine ⟨_, pss_cons (ps_set (i := 1) scRd.nd rfl (.inl rfl) (pe_lst pa_nil))
      (pss_cons (ps_set (i := 2) scRd.nd rfl (.inl rfl) pe_dnewN)
      (pss_cons (ps_for (passes_of rfl) rfl (pi_enumk (by rfl) hE (pa_cons (pe_call GL (hr.mono (by decide)) rfl DL.g DL.F.kp DL.b .nil pass0 (pa_cons (pv 0) pa_nil)) pa_nil) (pk_cons pe_int pk_nil))
          (pg_tup rfl (pgs_cons (pg_name (i := 3) scRd.nd rfl (.inl rfl)) (pgs_cons (pg_name (i := 4) scRd.nd rfl (.inl rfl)) pgs_nil)))
        (pss_cons (ps_if (pt_cmpR op_gt (pv 3) (pe_ci c1) (nomark _)) (pss_one (ps_raise rfl (takes_of rfl rfl rfl rfl) (pmk_of5 (pmk5_wl TW hd (pa_cons (pv 3) pa_nil) (by rfl))))) pss_nil)
        (pss_cons (L2H.ps_try_onlyX (tb := fun W => tAsg (tCallS (spR K Ql76.itemRead (LineAt CL) C) (WE W) (tCons (tVar 4) tNil)) (gName 5)) (ts := fun _ _ _ => fun _ σ H => tMkW CW (tCons (tVar 3) tNil) σ H fun cls d H' => E cls d H') (Wout := fun cls d _ H => E cls d H)
            rfl rfl ⟨rfl, by decide, Or.inl T.g⟩ (L2H.passesAt_of rfl) (takes_of rfl rfl rfl rfl)
          (fun W pn xe tk _ _ => pss_one (ps_set (i := 5) scRd.nd rfl (.inl rfl) (by exact (pe_callS GR hr rfl DR.g DR.F.kp DR.b (fun σ => L2N.passAt tk σ) (by exact (pa_cons (pv 4) pa_nil))))))
          (fun a oe cls d pn hz hf tkS hot => pss_one (L2H.ps_raiseHN hot tkS (pmk5_wl TW hd (by exact (pa_cons (pv 3) pa_nil)) (by rfl)))))
        (pss_cons (ps_if (pt_cmp (pc_dinK hu (pe_tup (pa_cons (pe_fld (pv 5) rfl) (pa_cons (pe_fld (pv 5) rfl) pa_nil))) (pv 2))) (pss_one (ps_raise rfl (takes_of rfl rfl rfl rfl) (pmk_of5 (pmk5_wl TW hd (pa_cons (pv 3) pa_nil) (by rfl))))) pss_nil)
        (pss_cons (ps_dputK hu (pv 2) (pe_tup (pa_cons (pe_fld (pv 5) rfl) (pa_cons (pe_fld (pv 5) rfl) pa_nil))) pe_bl rfl)
        (pss_one (ps_expr (pe_bm PySem.F.plainAttrs_list PySem.F.slot_list_append PySem.F.type_list_append mt_append (pv 1) (pa_cons (pv 5) pa_nil)))))))))
      (pss_one (ps_ret (pv 1))))), ?_⟩
    obtain ⟨a, l, rfl, hS, hlen, kN, kS⟩ := h
    refine ⟨Nat.zero_le _, fun p hp sd hsd => ?_⟩
    have hps : p ≠ sd := ne_of_none upd_same hsd
    have hs0 : H sd = none := (same_new hp).free hsd
    have s2 : Same H (upd (upd H p (.lst [])) sd (dnO P w sd [])) := (same_new hp).trans (same_new hsd)
    have hp2 : upd (upd H p (.lst [])) sd (dnO P w sd []) p = some (.lst []) := (upd_ne hps).trans upd_same
    have hs2 : upd (upd H p (.lst [])) sd (dnO P w sd []) sd = some (dnO P w sd []) := upd_same
    refine ⟨_, rfl, a, l, rfl, s2.seq hS, hlen, fun H3 q s3 hq LQ => ?_⟩
    obtain ⟨as, hQ, hAs⟩ := LQ
    have hqp : q ≠ p := Ne.symm (ne_of_none hp2 hq)
    have hqs : q ≠ sd := Ne.symm (ne_of_none hs2 hq)
    have has : ∀ b ∈ as, b ≠ p ∧ b ≠ sd := by
      have key : ∀ {xs : List Addr} {ls : List (List Nat)}, Paired (fun b x => H3 b = some (.lst (vN x)) ∧ b ≠ q ∧ upd (upd H p (.lst [])) sd (dnO P w sd []) b = none) xs ls → ∀ b ∈ xs, b ≠ p ∧ b ≠ sd := by
        intro xs ls r
        induction r with
        | nil => intro b hb; cases hb
        | cons r1 _ ih =>
          intro b hb
          rcases List.mem_cons.mp hb with rfl | hm
          · exact ⟨Ne.symm (ne_of_none hp2 r1.2.2), Ne.symm (ne_of_none hs2 r1.2.2)⟩
          · exact ih b hm
      exact key hAs
    have hshort : ∀ x ∈ Ql76.linesOf l, x.length ≤ 32768 := fun x hx => by
      have e : x ∈ Ql76.pieces 10 l := by
        have hx' : x ∈ (if (Ql76.pieces 10 l).getLast? = some [] then (Ql76.pieces 10 l).dropLast else Ql76.pieces 10 l) := hx
        by_cases c : (Ql76.pieces 10 l).getLast? = some []
        · rw [if_pos c] at hx'
          exact List.dropLast_subset _ hx'
        · rw [if_neg c] at hx'
          exact hx'
      exact Nat.le_trans (pieces_short 10 l x e) hlen
    refine ⟨q, _, 1, rfl, rfl, (by decide), (by decide), SqL.of hQ, for_it (walk_enumk (xs := as.map V.ref)) (fun i σ H' => ∃ (vs : List V) (items : List Ql76.Item) (es : List Ent) (v3 v4 v5 : Option V), σ = [some (.ref a), some (.ref p), some (.ref sd), v3, v4, v5] ∧
        St7 CL H p sd q as (Ql76.linesOf l) H' vs items es ∧ H' p = some (.lst vs) ∧ H' sd = some (dnO P w sd es) ∧ items.length = i ∧ Ql76.read l = Ql76.linesRead (i + 1) items ((Ql76.linesOf l).drop i))
      ⟨[], [], [], none, none, none, rfl, ⟨s2.trans s3, .nil, .nil, hQ, paired_imp hAs fun _ _ _ _ z => z.1⟩, s3 _ _ hp2, s3 _ _ hs2, rfl, rfl⟩ (fun i σ H' _ ⟨_, _, _, _, _, _, _, S, _⟩ => SqL.of S.at_q) ?_ ?_⟩
    · rintro i u σ H1 H1' hi ⟨vs, items, es, v3, v4, v5, rfl, S, hP, hSd, hil, hread⟩ ⟨TT, x, y, rfl, hT, rfl, ex, ey⟩
      obtain rfl : V.int (1 + (i : Nat)) = x := Option.some.inj ex
      replace ey : (as.map V.ref)[i]? = some y := ey
      rw [List.getElem?_map] at ey
      obtain ⟨b, hb, rfl⟩ : ∃ b, as[i]? = some b ∧ V.ref b = y := by
        cases e : as[i]? with
        | none => rw [e] at ey; cases ey
        | some b => rw [e] at ey; exact ⟨b, rfl, Option.some.inj ey⟩
      obtain ⟨li, hli, hlb⟩ := paired_get S.texts hb
      rw [drop_of_get hli] at hread
      have sT : Same H1 (upd H1 TT (.tup [.int (1 + (i : Nat)), .ref b])) := same_new hT
      refine ⟨TT, _, rfl, SqT.of upd_same, rfl, _, _, rfl, _, _, rfl, rfl, ?_⟩
      have S2 := S.k2 (K2.of sT) hp hs0 hP hSd hqp hqs has
      have hP2 := sT _ _ hP
      have hSd2 := sT _ _ hSd
      have hlb2 := sT _ _ hlb
      generalize upd H1 TT (.tup [.int (1 + (i : Nat)), .ref b]) = Hc at S2 hP2 hSd2 hlb2 ⊢
      have eN : (1 : Int) + ((i : Nat) : Int) = ((i + 1 : Nat) : Int) := by omega
      have fail : ∀ {Hx : Hp} {d : Addr}, Ql76.read l = .error (i + 1) → Same H Hx → Hx d = none → E (.ref CW) (some d) (upd Hx d (.xd [(("number" : Str), .int (1 + (i : Nat)))])) := fun {Hx d} e sx hd' =>
        kN (i + 1) e _ d (sx.trans (same_new hd')) (by rw [upd_same, eN])
      refine ⟨_, rfl, _, _, rfl, rfl, _, rfl, ?_⟩
      by_cases c : (128 : Int) < 1 + (i : Nat)
      · refine if_true_of (decide_eq_true c) ?_
        exact ⟨_, rfl, _, rfl, fun d hd' => fail (hread.trans (lines_full (by omega))) S2.same hd'⟩
      refine if_false_of (decide_eq_false c) ?_
      refine ⟨_, rfl, b, li, rfl, SqL.of hlb2, hshort li (List.mem_of_getElem? hli), fun e H' s4 => ?_, fun x e H4 u s4 hU => ?_⟩
      · refine ⟨true, T.e, fun _ a0 _ => ?_, fun q => Bool.noConfusion q⟩
        exact ⟨_, rfl, _, rfl, fun d hd' => fail (hread.trans (lines_bad e)) (S2.same.trans s4) hd'⟩
      have S4 := S2.k2 (K2.of s4) hp hs0 hP2 hSd2 hqp hqs has
      have hP4 := s4 _ _ hP2
      have hSd4 := s4 _ _ hSd2
      have hU' := LineAt.mono dif_same hU
      have hUn : LineAt CL (hid p (hid sd (dif H H4))) u x := LineAt.mono (fun c o ec => by
        obtain ⟨e1, e2⟩ := dif_some ec
        rw [hid_ne (fun z => by rw [z, hP2] at e1; cases e1), hid_ne (fun z => by rw [z, hSd2] at e1; cases e1), dif_new (S2.same.free e1)]
        exact e2) hU
      obtain ⟨pl, dx, lb, n, vr, nd, rfl, hpl, hn, hvr, _⟩ := hU'
      -- (line.name, line.version) in seen
      refine ⟨_, rfl, pl, CL, dx, _, _, rfl, hpl, L.cl, L.n1, lF_name _ _ _ _, _, rfl, pl, CL, dx, _, _, rfl, hpl, L.cl, L.n2, lF_ver _ _ _ _, (by show 2 ≤ sizeLine; rw [sizeLine_eq]; decide), fun t ht => ?_⟩
      have s5 : Same H4 (upd H4 t (.tup [.ref n, .ref vr])) := same_new ht
      have S5 := S4.k2 (K2.of s5) hp hs0 hP4 hSd4 hqp hqs has
      have pr5 : Pair2 (upd H4 t (.tup [.ref n, .ref vr])) t x.name x.ver := ⟨n, vr, upd_same, s5 _ _ hn, s5 _ _ hvr⟩
      have hP5 := s5 _ _ hP4
      have hSd5 := s5 _ _ hSd4
      have hpl5 := s5 _ _ hpl
      have hn5 := s5 _ _ hn
      have hvr5 := s5 _ _ hvr
      have hUn5 : LineAt CL (hid p (hid sd (dif H (upd H4 t (.tup [.ref n, .ref vr]))))) (.ref pl) x := LineAt.mono (fun c o ec => by
        obtain ⟨h1, ec⟩ := hid_some ec
        obtain ⟨h2, ec⟩ := hid_some ec
        obtain ⟨h3, ec⟩ := dif_some ec
        rw [hid_ne h1, hid_ne h2, dif_new h3]
        exact s5 _ _ ec) hUn
      generalize upd H4 t (.tup [.ref n, .ref vr]) = H5 at S5 pr5 hP5 hSd5 hpl5 hn5 hvr5 hUn5 ⊢
      have keysAt : ∀ {Hx : Hp} {xs : List Ent} {its : List Ql76.Item}, Paired (fun (e : Ent) (x : Ql76.Item) => e.1 = key2 x.name x.ver ∧ Pair2 Hx e.2.1 x.name x.ver) xs its → ∀ e ∈ xs, KeyAt Hx e.1 e.2.1 := by
        intro Hx xs its r
        induction r with
        | nil => intro e he; cases he
        | cons r1 _ ih =>
          intro e he
          rcases List.mem_cons.mp he with rfl | hm
          · rw [r1.1]
            exact r1.2.key
          · exact ih e hm
      refine ⟨_, rfl, sd, t, es, key2 x.name x.ver, rfl, rfl, hSd5, keysAt S5.keys, pr5.key, _, rfl, ?_⟩
      by_cases hh : Held items x.name x.ver
      · refine if_true_of ((hasK_iff S5.keys).mpr hh) ?_
        exact ⟨_, rfl, _, rfl, fun d hd' => fail (hread.trans (lines_twice e hh)) S5.same hd'⟩
      have hno : hasK es (key2 x.name x.ver) = false := by
        cases z : hasK es (key2 x.name x.ver) with
        | false => rfl
        | true => exact absurd ((hasK_iff S5.keys).mp z) hh
      refine if_false_of hno ?_
      have hel : es.length = i := (Paired.length S5.keys).trans hil
      have hvl : vs.length = i := (Paired.length S5.lines).trans hil
      -- seen[..] = True
      refine ⟨_, rfl, _, rfl, pl, CL, dx, _, _, rfl, hpl5, L.cl, L.n1, lF_name _ _ _ _, _, rfl, pl, CL, dx, _, _, rfl, hpl5, L.cl, L.n2, lF_ver _ _ _ _, (by show 2 ≤ sizeLine; rw [sizeLine_eq]; decide), fun t2 ht2 => ?_⟩
      have s6 : Same H5 (upd H5 t2 (.tup [.ref n, .ref vr])) := same_new ht2
      have S6 := S5.k2 (K2.of s6) hp hs0 hP5 hSd5 hqp hqs has
      have pr6 : Pair2 (upd H5 t2 (.tup [.ref n, .ref vr])) t2 x.name x.ver := ⟨n, vr, upd_same, s6 _ _ hn5, s6 _ _ hvr5⟩
      have hP6 := s6 _ _ hP5
      have hSd6 := s6 _ _ hSd5
      generalize hH6 : upd H5 t2 (.tup [.ref n, .ref vr]) = H6 at S6 pr6 hP6 hSd6 s6 ⊢
      refine ⟨sd, t2, es, key2 x.name x.ver, rfl, rfl, hSd6, keysAt S6.keys, pr6.key, hno, (by rw [hel, sizeLine_eq]; omega), ?_⟩
      -- lines.append(line)
      have hP7 : upd H6 sd (dnO P w sd (es ++ [(key2 x.name x.ver, t2, .bl true)])) p = some (.lst vs) := (upd_ne hps).trans hP6
      refine ⟨_, rfl, .inl ⟨rfl, _, SqL.of hP7⟩, _, rfl, p, _, _, rfl, rfl, hP7, (by rw [hvl, sizeLine_eq]; omega), ?_⟩
      have kk : K2 p sd H6 (upd (upd H6 sd (dnO P w sd (es ++ [(key2 x.name x.ver, t2, .bl true)]))) p (.lst (vs ++ [.ref pl]))) := fun c o h1 h2 ec => by
        rw [upd_ne h1, upd_ne h2]
        exact ec
      have S8 := S6.k2 kk hp hs0 hP6 hSd6 hqp hqs has
      refine ⟨vs ++ [.ref pl], items ++ [x], es ++ [(key2 x.name x.ver, t2, .bl true)], _, _, _, rfl, ⟨S8.same, ?_, ?_, S8.at_q, S8.texts⟩, upd_same, ?_, ?_, ?_⟩
      · refine paired_append S8.lines (.cons (LineAt.mono (fun c o ec => ?_) hUn5) .nil)
        obtain ⟨h1, ec⟩ := hid_some ec
        obtain ⟨h2, ec⟩ := hid_some ec
        obtain ⟨h3, ec⟩ := dif_some ec
        rw [hid_ne h1, hid_ne h2, dif_new h3]
        exact kk _ _ h1 h2 (s6 _ _ ec)
      · exact paired_append S8.keys (.cons ⟨rfl, pair2_k2 kk hP6 hSd6 pr6⟩ .nil)
      · exact (upd_ne (Ne.symm hps)).trans upd_same
      · rw [List.length_append, hil]
        rfl
      · rw [hread, lines_more e hh (by omega)]
    · rintro σ H1 ⟨vs, items, es, v3, v4, v5, rfl, S, hP, hSd, hil, hread⟩
      have hal : (as.map V.ref).length = (Ql76.linesOf l).length := by rw [List.length_map, Paired.length hAs]
      rw [hal, List.drop_length] at hread
      refine ⟨_, rfl, ?_⟩
      refine kS items hread H1 _ S.same ⟨p, vs, rfl, ?_, paired_imp S.lines fun _ _ _ _ z => LineAt.mono (hid_same.trans hid_same) z⟩
      rw [dif_new hp]
      exact hP
end
end Fp
namespace Fp
open PySem PySem.Spec PyProof.Rows L2 FpR
open PySem.W (Codec)
abbrev sAns : Stmt := top 38
def spAns (K : PySem.W.Frag) : Sp := fun vs H Q _ => ∃ (a : Addr) (ns : List Int), vs = [.ref a] ∧ SqL K H a (ns.map V.int) ∧ (∀ x ∈ ns, 0 ≤ x) ∧ ns.length ≤ 32768 ∧
  ∀ (H' : Hp) (p : Addr), H' p = some (.lst ((PyQl76.pk_read ns).map V.int)) → Q (.ref p) H'
theorem scAn : FnScope ["b", "lines", "e"] ["b"] (defScope sAns) := ⟨rfl, rfl, rfl, by decide +kernel, rfl, by decide +kernel, by decide +kernel⟩
section
variable {P : Program} {w : World} {K : PySem.W.Frag} {mg : Str → Option Value} {base : Heap} {CL CW fW : Addr}
theorem ok_ans {f fR : Addr} {fd fdR : FuncData} (F : Fun K "pk_read" "pk_read" sAns f fd) (TW : PySem.WlX.WlTxt K mg "WrongLine" "WrongLine.__init__" CW fW) (hL : mg "len" = none)
    (DR : Dn K mg "read_lines" sRead ["b"] fR fdR) (GR : FnOk P w K mg base (L2.CX P w) 7 fR fdR ["b"] (spLs K CL CW)) : FnOk P w K mg base CX0 8 f fd ["b"] (spAns K) := by
  refine F.ok scAn (fun vs H Q E h => ?_) (fun cdv A outer s H vs Q E hr h => ?_)
  · obtain ⟨a, ns, rfl, _⟩ := h
    rfl
  · refine ⟨_, pss_cons (ps_try_as (i := 2) (tb := fun W => tAsg (tCallS (spLs K CL CW) (WE W) (tCons (tVar 0) tNil)) (gName 1)) (ts := fun a cls d => tRet (tLst (tCons (tUn (rU fun i => .int (-i)) (tC (.int 1))) (tCons (tNumW CW a cls d (tVar 2)) tNil)))) (Wout := fun _ _ _ _ => False)
        rfl rfl scAn.nd rfl rfl ⟨rfl, by decide, Or.inl TW.gC⟩ takes0
        (fun W pn xe tk _ => pss_one (ps_set (i := 1) scAn.nd rfl (Or.inl rfl) (by exact (pe_callS GR hr rfl DR.g DR.F.kp DR.b (fun σ => passAt tk σ) (by exact (pa_cons (pv 0) pa_nil))))))
        (fun a oe cls d pn hz hf => pss_one (ps_ret (by exact (pe_lst (pa_cons (pe_un un_neg pe_int) (pa_cons (pe_numW TW hz hf (pv 2)) pa_nil)))))))
      (pss_one (ps_ret (pe_lst (pa_cons (pe_callB call_len_seq (by rfl) hL PySem.boot_len (pa_cons (pv 1) pa_nil)) pa_nil)))), ?_⟩
    obtain ⟨a, ns, rfl, hS, hpos, hlen, k⟩ := h
    have en := nats_ints hpos
    have ev : ns.map V.int = vN (Ql76Neutral.nats ns) := by
      conv => lhs; rw [← en]
      rw [List.map_map]
      rfl
    have hl2 : (Ql76Neutral.nats ns).length ≤ 32768 := by
      unfold Ql76Neutral.nats
      rw [List.length_map]
      exact hlen
    have ea := pk_read_is hlen
    rw [ev] at hS
    refine ⟨_, rfl, a, Ql76Neutral.nats ns, rfl, hS, hl2, fun j e H' d s1 hd => ?_, fun r e H' v s1 hV => ?_⟩
    · refine ⟨true, TW.te, fun _ a0 _ => ?_, fun q => Bool.noConfusion q⟩
      refine ⟨_, rfl, _, rfl, rfl, rfl, d, _, rfl, hd, (by show 2 ≤ sizeLine; rw [sizeLine_eq]; decide), fun p hp => ?_⟩
      refine k _ p (upd_same.trans ?_)
      rw [ea]
      unfold ans
      rw [e]
      rfl
    · obtain ⟨q, vs, rfl, hq, hP⟩ := hV
      have hq' := dif_same _ _ hq
      refine ⟨_, rfl, q, _, rfl, .inl (SqL.of hq'), (by show 1 ≤ sizeLine; rw [sizeLine_eq]; decide), fun p hp => ?_⟩
      refine k _ p (upd_same.trans ?_)
      rw [ea]
      unfold ans
      rw [e, Paired.length hP]
      rfl
end
end Fp
namespace Fp
open PySem PySem.Spec PyProof.Rows L2 FpR
open PySem.W (Codec)
/-! ### the end: what the top has written -/
theorem exm_self {K : PySem.W.Frag} {S : Addr} (h1 : PySem.W.subIn K (.ref S) (.type "BaseException") = some true) (h2 : PySem.W.isClsIn K S = true) (h3 : PySem.W.typeIn K (.ref S) = some (.type "type")) (h4 : PySem.W.subIn K (.ref S) (.ref S) = some true) :
    PySem.W.exmOne K (.ref S) (.ref S) = some true := by
  have e1 : (PySem.W.subIn K (.ref S) (.type "BaseException") == some true) = true := by rw [h1] <;> rfl
  have e2 : ((PySem.W.clsIn K S).isSome && PySem.W.typeIn K (.ref S) == some (.type "type")) = true := by
    have h2' : (PySem.W.clsIn K S).isSome = true := h2
    rw [h2', h3] <;> rfl
  show (if (PySem.W.subIn K (.ref S) (.type "BaseException") == some true) = true then (if ((PySem.W.clsIn K S).isSome && PySem.W.typeIn K (.ref S) == some (.type "type")) = true then PySem.W.subIn K (.ref S) (.ref S) else none) else none) = some true
  rw [if_pos e1, if_pos e2]
  exact h4
theorem all_mk {P : Program} {w : World} {K : PySem.W.Frag} {h : Heap} {mg : Str → Option Value} {fa C CW CL fW fI : Addr} (X : K.In h) (G : h.Ns mainGlobals mg) (hfa : mg "pk_read" = some (.ref fa))
    {f0 f1 f2 f3 f4 f5 f6 f7 f8 f9 f10 f11 f12 : Addr} {od0 an0 od1 an1 od2 an2 od3 an3 od4 an4 od5 an5 od6 an6 od7 an7 od8 an8 od9 an9 od10 an10 od11 an11 od12 an12 od90 an90 od91 an91 : Option Addr} {sl0 sl1 sl2 sl3 sl4 sl5 sl6 sl7 sl8 sl9 sl10 sl11 sl12 sl90 sl91 : Array (Option Value)} {oc0 kV0 dc0 pm0 cd0 ct0 oc1 kV1 dc1 pm1 cd1 ct1 oc2 kV2 dc2 pm2 cd2 ct2 oc3 kV3 dc3 pm3 cd3 ct3 oc4 kV4 dc4 pm4 cd4 ct4 oc5 kV5 dc5 pm5 cd5 ct5 oc6 kV6 dc6 pm6 cd6 ct6 oc7 kV7 dc7 pm7 cd7 ct7 oc8 kV8 dc8 pm8 cd8 ct8 oc9 kV9 dc9 pm9 cd9 ct9 oc10 kV10 dc10 pm10 cd10 ct10 oc11 kV11 dc11 pm11 cd11 ct11 oc12 kV12 dc12 pm12 cd12 ct12 oc90 kV90 dc90 pm90 cd90 ct90 oc91 dc91 pm91 cd91 ct91 : Value}
    {t0 t1 t2 t3 t4 t5 t6 t7 t8 t9 t10 t11 t12 t13 t14 t15 t16 t17 t18 t19 t20 t21 : Tok}
    {nm q : Str} {N : Addr} {bs : List Value} {sn : List Str} {sub : List Value} {ab : Bool} {col : Option Bool} {dd : Option Addr} {m0 m1 m2 m3 m5 : Option Value}
    (a0 : PySem.W.nsIn K mainGlobals "split_at" = some (some (.ref f0)))
    (l0 : K.lookup f0 = some ⟨oc0, od0, .func (PySem.W.fnOf "split_at" "split_at" (defArgs sSplit) (defBody sSplit) (defScope sSplit) .none kV0 dc0 pm0 an0 cd0 ct0), sl0⟩)
    (c0 : PySem.W.codeIn K cd0 "split_at" = true)
    (k0 : PySem.W.keepIn K (.ref f0) = true)
    (a1 : PySem.W.nsIn K mainGlobals "split_lines" = some (some (.ref f1)))
    (l1 : K.lookup f1 = some ⟨oc1, od1, .func (PySem.W.fnOf "split_lines" "split_lines" (defArgs sLines) (defBody sLines) (defScope sLines) .none kV1 dc1 pm1 an1 cd1 ct1), sl1⟩)
    (c1 : PySem.W.codeIn K cd1 "split_lines" = true)
    (k1 : PySem.W.keepIn K (.ref f1) = true)
    (a2 : PySem.W.nsIn K mainGlobals "read_name" = some (some (.ref f2)))
    (l2 : K.lookup f2 = some ⟨oc2, od2, .func (PySem.W.fnOf "read_name" "read_name" (defArgs sName) (defBody sName) (defScope sName) .none kV2 dc2 pm2 an2 cd2 ct2), sl2⟩)
    (c2 : PySem.W.codeIn K cd2 "read_name" = true)
    (k2 : PySem.W.keepIn K (.ref f2) = true)
    (a3 : PySem.W.nsIn K mainGlobals "read_number" = some (some (.ref f3)))
    (l3 : K.lookup f3 = some ⟨oc3, od3, .func (PySem.W.fnOf "read_number" "read_number" (defArgs sNum) (defBody sNum) (defScope sNum) .none kV3 dc3 pm3 an3 cd3 ct3), sl3⟩)
    (c3 : PySem.W.codeIn K cd3 "read_number" = true)
    (k3 : PySem.W.keepIn K (.ref f3) = true)
    (a4 : PySem.W.nsIn K mainGlobals "read_version" = some (some (.ref f4)))
    (l4 : K.lookup f4 = some ⟨oc4, od4, .func (PySem.W.fnOf "read_version" "read_version" (defArgs sVer) (defBody sVer) (defScope sVer) .none kV4 dc4 pm4 an4 cd4 ct4), sl4⟩)
    (c4 : PySem.W.codeIn K cd4 "read_version" = true)
    (k4 : PySem.W.keepIn K (.ref f4) = true)
    (a5 : PySem.W.nsIn K mainGlobals "end_of_same" = some (some (.ref f5)))
    (l5 : K.lookup f5 = some ⟨oc5, od5, .func (PySem.W.fnOf "end_of_same" "end_of_same" (defArgs sSame) (defBody sSame) (defScope sSame) .none kV5 dc5 pm5 an5 cd5 ct5), sl5⟩)
    (c5 : PySem.W.codeIn K cd5 "end_of_same" = true)
    (k5 : PySem.W.keepIn K (.ref f5) = true)
    (a6 : PySem.W.nsIn K mainGlobals "end_of_caret" = some (some (.ref f6)))
    (l6 : K.lookup f6 = some ⟨oc6, od6, .func (PySem.W.fnOf "end_of_caret" "end_of_caret" (defArgs sCaret) (defBody sCaret) (defScope sCaret) .none kV6 dc6 pm6 an6 cd6 ct6), sl6⟩)
    (c6 : PySem.W.codeIn K cd6 "end_of_caret" = true)
    (k6 : PySem.W.keepIn K (.ref f6) = true)
    (a7 : PySem.W.nsIn K mainGlobals "read_range_part" = some (some (.ref f7)))
    (l7 : K.lookup f7 = some ⟨oc7, od7, .func (PySem.W.fnOf "read_range_part" "read_range_part" (defArgs sPart) (defBody sPart) (defScope sPart) .none kV7 dc7 pm7 an7 cd7 ct7), sl7⟩)
    (c7 : PySem.W.codeIn K cd7 "read_range_part" = true)
    (k7 : PySem.W.keepIn K (.ref f7) = true)
    (a8 : PySem.W.nsIn K mainGlobals "read_range" = some (some (.ref f8)))
    (l8 : K.lookup f8 = some ⟨oc8, od8, .func (PySem.W.fnOf "read_range" "read_range" (defArgs sRange) (defBody sRange) (defScope sRange) .none kV8 dc8 pm8 an8 cd8 ct8), sl8⟩)
    (c8 : PySem.W.codeIn K cd8 "read_range" = true)
    (k8 : PySem.W.keepIn K (.ref f8) = true)
    (a9 : PySem.W.nsIn K mainGlobals "read_need" = some (some (.ref f9)))
    (l9 : K.lookup f9 = some ⟨oc9, od9, .func (PySem.W.fnOf "read_need" "read_need" (defArgs sNeed) (defBody sNeed) (defScope sNeed) .none kV9 dc9 pm9 an9 cd9 ct9), sl9⟩)
    (c9 : PySem.W.codeIn K cd9 "read_need" = true)
    (k9 : PySem.W.keepIn K (.ref f9) = true)
    (a10 : PySem.W.nsIn K mainGlobals "read_line" = some (some (.ref f10)))
    (l10 : K.lookup f10 = some ⟨oc10, od10, .func (PySem.W.fnOf "read_line" "read_line" (defArgs sLine) (defBody sLine) (defScope sLine) .none kV10 dc10 pm10 an10 cd10 ct10), sl10⟩)
    (c10 : PySem.W.codeIn K cd10 "read_line" = true)
    (k10 : PySem.W.keepIn K (.ref f10) = true)
    (a11 : PySem.W.nsIn K mainGlobals "read_lines" = some (some (.ref f11)))
    (l11 : K.lookup f11 = some ⟨oc11, od11, .func (PySem.W.fnOf "read_lines" "read_lines" (defArgs sRead) (defBody sRead) (defScope sRead) .none kV11 dc11 pm11 an11 cd11 ct11), sl11⟩)
    (c11 : PySem.W.codeIn K cd11 "read_lines" = true)
    (k11 : PySem.W.keepIn K (.ref f11) = true)
    (a12 : PySem.W.nsIn K mainGlobals "pk_read" = some (some (.ref f12)))
    (l12 : K.lookup f12 = some ⟨oc12, od12, .func (PySem.W.fnOf "pk_read" "pk_read" (defArgs sAns) (defBody sAns) (defScope sAns) .none kV12 dc12 pm12 an12 cd12 ct12), sl12⟩)
    (c12 : PySem.W.codeIn K cd12 "pk_read" = true)
    (k12 : PySem.W.keepIn K (.ref f12) = true)
    (n0 : PySem.W.nsIn K mainGlobals "LINE_END" = some (some (.int 10 t0)))
    (n1 : PySem.W.nsIn K mainGlobals "SPACE" = some (some (.int 32 t1)))
    (n2 : PySem.W.nsIn K mainGlobals "AMPERSAND" = some (some (.int 38 t2)))
    (n3 : PySem.W.nsIn K mainGlobals "STAR" = some (some (.int 42 t3)))
    (n4 : PySem.W.nsIn K mainGlobals "POINT" = some (some (.int 46 t4)))
    (n5 : PySem.W.nsIn K mainGlobals "ZERO" = some (some (.int 48 t5)))
    (n6 : PySem.W.nsIn K mainGlobals "NINE" = some (some (.int 57 t6)))
    (n7 : PySem.W.nsIn K mainGlobals "COLON" = some (some (.int 58 t7)))
    (n8 : PySem.W.nsIn K mainGlobals "SMALL_A" = some (some (.int 97 t8)))
    (n9 : PySem.W.nsIn K mainGlobals "SMALL_Z" = some (some (.int 122 t9)))
    (n10 : PySem.W.nsIn K mainGlobals "JUST" = some (some (.int 61 t10)))
    (n11 : PySem.W.nsIn K mainGlobals "AT_LEAST" = some (some (.int 62 t11)))
    (n12 : PySem.W.nsIn K mainGlobals "BELOW" = some (some (.int 60 t12)))
    (n13 : PySem.W.nsIn K mainGlobals "TILDE" = some (some (.int 126 t13)))
    (n14 : PySem.W.nsIn K mainGlobals "CARET" = some (some (.int 94 t14)))
    (n15 : PySem.W.nsIn K mainGlobals "NUMBERS_END" = some (some (.int 1000 t15)))
    (n16 : PySem.W.nsIn K mainGlobals "MOST_FIGURES" = some (some (.int 3 t16)))
    (n17 : PySem.W.nsIn K mainGlobals "VERSION_NUMBERS" = some (some (.int 3 t17)))
    (n18 : PySem.W.nsIn K mainGlobals "MOST_RANGE_PARTS" = some (some (.int 4 t18)))
    (n19 : PySem.W.nsIn K mainGlobals "MOST_LETTERS" = some (some (.int 16 t19)))
    (n20 : PySem.W.nsIn K mainGlobals "MOST_NEEDS" = some (some (.int 8 t20)))
    (n21 : PySem.W.nsIn K mainGlobals "MOST_LINES" = some (some (.int 128 t21)))
    (z_len : PySem.W.nsIn K mainGlobals "len" = some none)
    (z_tuple : PySem.W.nsIn K mainGlobals "tuple" = some none)
    (z_enumerate : PySem.W.nsIn K mainGlobals "enumerate" = some none)
    (z_list : PySem.W.nsIn K mainGlobals "list" = some none)
    (z_max : PySem.W.nsIn K mainGlobals "max" = some none)
    (z_min : PySem.W.nsIn K mainGlobals "min" = some none)
    (aC : PySem.W.nsIn K mainGlobals "WrongText" = some (some (.ref C)))
    (xF : PySem.W.excIn K C [.type "Exception", .type "BaseException", .type "object"] "Exception.__new__" = true)
    (kF : PySem.W.keepIn K (.ref C) = true)
    (bF : PySem.W.subIn K (.ref C) (.type "BaseException") = some true)
    (tF : PySem.W.typeIn K (.ref C) = some (.type "type"))
    (iF : PySem.W.isClsIn K C = true)
    (sF : PySem.W.subIn K (.ref C) (.ref C) = some true)
    (aL : PySem.W.nsIn K mainGlobals "Line" = some (some (.ref CL)))
    (aI : PySem.W.findIn K (.ref CL) "__init__" = some (some (.ref fI)))
    (iI : PySem.W.isFn K (.ref fI) = true)
    (lI : K.lookup fI = some ⟨oc90, od90, .func (PySem.W.fnOf "__init__" "Line.__init__" (defArgs sInit) (defBody sInit) (defScope sInit) .none kV90 dc90 pm90 an90 cd90 ct90), sl90⟩)
    (cI : PySem.W.codeIn K cd90 "Line.__init__" = true)
    (kI : PySem.W.keepIn K (.ref fI) = true)
    (pg : PySem.W.plainGet K CL Str.empty = true)
    (hd : PySem.W.hasDictIn K CL = true)
    (po : PySem.W.plainOver K CL = true)
    (sa : PySem.W.findIn K (.ref CL) "__setattr__" = some (some (.builtin "object.__setattr__")))
    (mk : PySem.W.makesIn K CL = true)
    (kc : PySem.W.keepIn K (.ref CL) = true)
    (u0 : PySem.W.findIn K (.ref CL) "label" = some none)
    (u1 : PySem.W.findIn K (.ref CL) "name" = some none)
    (u2 : PySem.W.findIn K (.ref CL) "version" = some none)
    (u3 : PySem.W.findIn K (.ref CL) "needs" = some none)
    (aW : PySem.W.nsIn K mainGlobals "WrongLine" = some (some (.ref CW)))
    (xL : K.lookup CW = some (excClassObj nm q CW N bs [.type "Exception", .type "BaseException", .type "object"] true sn sub ab col dd m0 m1 m2 m3 m5 "Exception.__new__"))
    (wsa : PySem.W.findIn K (.ref CW) "__setattr__" = some (some (.builtin "object.__setattr__")))
    (wga : PySem.W.findIn K (.ref CW) "__getattribute__" = some (some (.builtin "BaseException.__getattribute__")))
    (wgg : PySem.W.findIn K (.ref CW) "__getattr__" = some none)
    (wnb : PySem.W.findIn K (.ref CW) "number" = some none)
    (wi : PySem.W.findIn K (.ref CW) "__init__" = some (some (.ref fW)))
    (wt : PySem.W.typeIn K (.ref fW) = some (.type "function"))
    (wl : K.lookup fW = some ⟨oc91, od91, .func (PySem.W.fnOf "__init__" "WrongLine.__init__" (PySem.WlX.iA ⟨28, 17, 28, 21⟩ ⟨28, 23, 28, 29⟩) (PySem.WlX.iB ⟨29, 8, 29, 12⟩ ⟨29, 8, 29, 19⟩ ⟨29, 22, 29, 28⟩ ⟨29, 8, 29, 28⟩) PySem.WlX.iS .none .none dc91 pm91 an91 cd91 ct91), sl91⟩)
    (wc : PySem.W.codeIn K cd91 "WrongLine.__init__" = true)
    (wk : PySem.W.keepIn K (.ref CW) = true)
    (we : PySem.W.subIn K (.ref CW) (.type "BaseException") = some true)
    (wty : PySem.W.typeIn K (.ref CW) = some (.type "type"))
    (wh : PySem.W.hasDictIn K CW = true)
    (wcl : PySem.W.isClsIn K CW = true)
    (ws : PySem.W.subIn K (.ref CW) (.ref CW) = some true)
    : ∃ fd : FuncData, (∀ (s : Shared) (us : List Value), us.length = (["b"] : List Str).length → BindsTo s fd ⟨us, []⟩ ((["b"] : List Str).zip us)) ∧ ∀ base : Heap, K.In base → base.Ns mainGlobals mg → FnOk P w K mg base CX0 8 fa fd ["b"] (spAns K) := by
  have e := hfa.symm.trans (PySem.W.mg_of X G a12)
  cases e
  have T : Wt K mg C := ⟨PySem.W.mg_of X G aC, xF, kF, bF, tF, exm_self bF iF tF sF⟩
  have TW : PySem.WlX.WlTxt K mg "WrongLine" "WrongLine.__init__" CW fW :=
    { gC := PySem.W.mg_of X G aW, cls := ⟨nm, q, N, bs, sn, sub, ab, col, dd, m0, m1, m2, m3, m5, xL⟩, sa := wsa, ga := wga, gg := wgg, noN := wnb, iC := wi, tC := wt, kC := wk, exC := we, tyC := wty, hdC := wh, te := exm_self we wcl wty ws,
      fn := ⟨_, _, _, _, _, _, _, _, _, _, _, _, _, _, wl, wc⟩ }
  have FI := fun_mk (st := sInit) lI cI kI
  have L : Ln K mg CL fI _ := ⟨⟨pg, hd, po, sa⟩, u0, u1, u2, u3, PySem.W.mg_of X G aL, ⟨mk, aI, iI, kc⟩, FI, FI.binds fun _ _ _ _ _ _ us hl => match us, hl with | [_, _, _, _, _], _ => rfl⟩
  have F0 := fun_mk (st := sSplit) l0 c0 k0
  have D0 : Dn K mg "split_at" sSplit ["text", "mark"] f0 _ := ⟨F0, PySem.W.mg_of X G a0, F0.binds fun _ _ _ _ _ _ us hl => match us, hl with | [_, _], _ => rfl⟩
  have F1 := fun_mk (st := sLines) l1 c1 k1
  have D1 : Dn K mg "split_lines" sLines ["text"] f1 _ := ⟨F1, PySem.W.mg_of X G a1, F1.binds fun _ _ _ _ _ _ us hl => match us, hl with | [_], _ => rfl⟩
  have F2 := fun_mk (st := sName) l2 c2 k2
  have D2 : Dn K mg "read_name" sName ["text"] f2 _ := ⟨F2, PySem.W.mg_of X G a2, F2.binds fun _ _ _ _ _ _ us hl => match us, hl with | [_], _ => rfl⟩
  have F3 := fun_mk (st := sNum) l3 c3 k3
  have D3 : Dn K mg "read_number" sNum ["text"] f3 _ := ⟨F3, PySem.W.mg_of X G a3, F3.binds fun _ _ _ _ _ _ us hl => match us, hl with | [_], _ => rfl⟩
  have F4 := fun_mk (st := sVer) l4 c4 k4
  have D4 : Dn K mg "read_version" sVer ["text"] f4 _ := ⟨F4, PySem.W.mg_of X G a4, F4.binds fun _ _ _ _ _ _ us hl => match us, hl with | [_], _ => rfl⟩
  have F5 := fun_mk (st := sSame) l5 c5 k5
  have D5 : Dn K mg "end_of_same" sSame ["version", "count"] f5 _ := ⟨F5, PySem.W.mg_of X G a5, F5.binds fun _ _ _ _ _ _ us hl => match us, hl with | [_, _], _ => rfl⟩
  have F6 := fun_mk (st := sCaret) l6 c6 k6
  have D6 : Dn K mg "end_of_caret" sCaret ["version"] f6 _ := ⟨F6, PySem.W.mg_of X G a6, F6.binds fun _ _ _ _ _ _ us hl => match us, hl with | [_], _ => rfl⟩
  have F7 := fun_mk (st := sPart) l7 c7 k7
  have D7 : Dn K mg "read_range_part" sPart ["text"] f7 _ := ⟨F7, PySem.W.mg_of X G a7, F7.binds fun _ _ _ _ _ _ us hl => match us, hl with | [_], _ => rfl⟩
  have F8 := fun_mk (st := sRange) l8 c8 k8
  have D8 : Dn K mg "read_range" sRange ["text"] f8 _ := ⟨F8, PySem.W.mg_of X G a8, F8.binds fun _ _ _ _ _ _ us hl => match us, hl with | [_], _ => rfl⟩
  have F9 := fun_mk (st := sNeed) l9 c9 k9
  have D9 : Dn K mg "read_need" sNeed ["text"] f9 _ := ⟨F9, PySem.W.mg_of X G a9, F9.binds fun _ _ _ _ _ _ us hl => match us, hl with | [_], _ => rfl⟩
  have F10 := fun_mk (st := sLine) l10 c10 k10
  have D10 : Dn K mg "read_line" sLine ["text"] f10 _ := ⟨F10, PySem.W.mg_of X G a10, F10.binds fun _ _ _ _ _ _ us hl => match us, hl with | [_], _ => rfl⟩
  have F11 := fun_mk (st := sRead) l11 c11 k11
  have D11 : Dn K mg "read_lines" sRead ["b"] f11 _ := ⟨F11, PySem.W.mg_of X G a11, F11.binds fun _ _ _ _ _ _ us hl => match us, hl with | [_], _ => rfl⟩
  have F12 := fun_mk (st := sAns) l12 c12 k12
  have CLINE_END : Ci mg "LINE_END" 10 := ⟨_, PySem.W.mg_of X G n0⟩
  have CSPACE : Ci mg "SPACE" 32 := ⟨_, PySem.W.mg_of X G n1⟩
  have CAMPERSAND : Ci mg "AMPERSAND" 38 := ⟨_, PySem.W.mg_of X G n2⟩
  have CSTAR : Ci mg "STAR" 42 := ⟨_, PySem.W.mg_of X G n3⟩
  have CPOINT : Ci mg "POINT" 46 := ⟨_, PySem.W.mg_of X G n4⟩
  have CZERO : Ci mg "ZERO" 48 := ⟨_, PySem.W.mg_of X G n5⟩
  have CNINE : Ci mg "NINE" 57 := ⟨_, PySem.W.mg_of X G n6⟩
  have CCOLON : Ci mg "COLON" 58 := ⟨_, PySem.W.mg_of X G n7⟩
  have CSMALL_A : Ci mg "SMALL_A" 97 := ⟨_, PySem.W.mg_of X G n8⟩
  have CSMALL_Z : Ci mg "SMALL_Z" 122 := ⟨_, PySem.W.mg_of X G n9⟩
  have CJUST : Ci mg "JUST" 61 := ⟨_, PySem.W.mg_of X G n10⟩
  have CAT_LEAST : Ci mg "AT_LEAST" 62 := ⟨_, PySem.W.mg_of X G n11⟩
  have CBELOW : Ci mg "BELOW" 60 := ⟨_, PySem.W.mg_of X G n12⟩
  have CTILDE : Ci mg "TILDE" 126 := ⟨_, PySem.W.mg_of X G n13⟩
  have CCARET : Ci mg "CARET" 94 := ⟨_, PySem.W.mg_of X G n14⟩
  have CNUMBERS_END : Ci mg "NUMBERS_END" 1000 := ⟨_, PySem.W.mg_of X G n15⟩
  have CMOST_FIGURES : Ci mg "MOST_FIGURES" 3 := ⟨_, PySem.W.mg_of X G n16⟩
  have CVERSION_NUMBERS : Ci mg "VERSION_NUMBERS" 3 := ⟨_, PySem.W.mg_of X G n17⟩
  have CMOST_RANGE_PARTS : Ci mg "MOST_RANGE_PARTS" 4 := ⟨_, PySem.W.mg_of X G n18⟩
  have CMOST_LETTERS : Ci mg "MOST_LETTERS" 16 := ⟨_, PySem.W.mg_of X G n19⟩
  have CMOST_NEEDS : Ci mg "MOST_NEEDS" 8 := ⟨_, PySem.W.mg_of X G n20⟩
  have CMOST_LINES : Ci mg "MOST_LINES" 128 := ⟨_, PySem.W.mg_of X G n21⟩
  have zl := PySem.W.mg_none_of X G z_len
  have zt := PySem.W.mg_none_of X G z_tuple
  have ze := PySem.W.mg_none_of X G z_enumerate
  have zi := PySem.W.mg_none_of X G z_list
  have zx := PySem.W.mg_none_of X G z_max
  have zn := PySem.W.mg_none_of X G z_min
  refine ⟨PySem.W.fnOf "pk_read" "pk_read" (defArgs sAns) (defBody sAns) (defScope sAns) .none kV12 dc12 pm12 an12 cd12 ct12, fun s us hu => match us, hu with | [_], _ => .of_eq rfl, fun base _ _ => ?_⟩
  have G0 : FnOk P w K mg base CX0 1 f0 _ ["text", "mark"] (spSplit K) := ok_split F0 ze
  have G1 : FnOk P w K mg base CX0 2 f1 _ ["text"] (spLines K) := ok_lines F1 zl ze D0 CLINE_END
  have G2 : FnOk P w K mg base (L2N.CX P w) 1 f2 _ ["text"] (spR K Ql76.nameRead TupAt C) := ok_name F2 T zl zt CMOST_LETTERS CSMALL_A CSMALL_Z
  have G3 : FnOk P w K mg base (L2N.CX P w) 1 f3 _ ["text"] (spR K Ql76.number NumAt C) := ok_num F3 T zl CMOST_FIGURES CZERO CNINE
  have G4 : FnOk P w K mg base (L2N.CX P w) 2 f4 _ ["text"] (spR K Ql76.verRead TupAt C) := ok_ver F4 T zl zt CPOINT CVERSION_NUMBERS D0 G0 D3 G3
  have G5 : FnOk P w K mg base CX0 1 f5 _ ["version", "count"] (spSame K) := ok_same F5 zi zt CVERSION_NUMBERS
  have G6 : FnOk P w K mg base CX0 2 f6 _ ["version"] (spCaret K) := ok_caret F6 D5 G5
  have G7 : FnOk P w K mg base (L2N.CX P w) 3 f7 _ ["text"] (spR K Ql76.atomRead AtomAt C) := ok_part F7 T zl CSTAR CNUMBERS_END CJUST CAT_LEAST CBELOW CTILDE CCARET D4 G4 D5 G5 D6 G6
  have G8 : FnOk P w K mg base (L2N.CX P w) 4 f8 _ ["text"] (spR K rangeRead RangeAt C) := ok_range F8 T zl zx zn CAMPERSAND CMOST_RANGE_PARTS D0 G0 D7 G7
  have G9 : FnOk P w K mg base (L2N.CX P w) 5 f9 _ ["text"] (spR K Ql76.needRead NeedAt C) := ok_need F9 T zl CCOLON D0 G0 D2 G2 D8 G8
  have G10 : FnOk P w K mg base (L2N.CX P w) 6 f10 _ ["text"] (spR K Ql76.itemRead (LineAt CL) C) := ok_line F10 T L zl CSPACE CMOST_NEEDS D0 G0 D2 G2 D4 G4 D9 G9
  have G11 : FnOk P w K mg base (L2.CX P w) 7 f11 _ ["b"] (spLs K CL CW) := ok_read F11 T L TW ze CMOST_LINES D1 G1 D10 G10
  exact ok_ans F12 TW zl D11 G11
end Fp
open PySem PySem.W PyProof.Rows
set_option maxRecDepth 100000 in
set_option maxHeartbeats 8000000 in
theorem PySem.Challenge.cw_fitpick_s01_pk_read_holds : PySem.Challenge.rw_fitpick_s01_pk_read.Holds := by
  w_on; k_headS; (case hw => exact ⟨[.list []], by decide +kernel, by decide +kernel⟩)
  k_fillS
  refine L2.walk_specK (r := PySem.Challenge.rw_fitpick_s01_pk_read) (k := 8) (CX := L2.CX0) (ps := ["b"]) (sp := Fp.spAns) (by decide +kernel) rfl rfl ⟨rfl, by decide, by decide⟩ (fun w h Y => PySem.W.kIn_of Y) ?F ?S (fun _ _ _ _ z => z)
  case F =>
    intro w mg fa h Y KX G hmg
    refine' Fp.all_mk KX G hmg ?a0 ?l0 ?c0 ?k0 ?a1 ?l1 ?c1 ?k1 ?a2 ?l2 ?c2 ?k2 ?a3 ?l3 ?c3 ?k3 ?a4 ?l4 ?c4 ?k4 ?a5 ?l5 ?c5 ?k5 ?a6 ?l6 ?c6 ?k6 ?a7 ?l7 ?c7 ?k7 ?a8 ?l8 ?c8 ?k8 ?a9 ?l9 ?c9 ?k9 ?a10 ?l10 ?c10 ?k10 ?a11 ?l11 ?c11 ?k11 ?a12 ?l12 ?c12 ?k12 ?n0 ?n1 ?n2 ?n3 ?n4 ?n5 ?n6 ?n7 ?n8 ?n9 ?n10 ?n11 ?n12 ?n13 ?n14 ?n15 ?n16 ?n17 ?n18 ?n19 ?n20 ?n21 ?z_len ?z_tuple ?z_enumerate ?z_list ?z_max ?z_min ?aC ?xF ?kF ?bF ?tF ?iF ?sF ?aL ?aI ?iI ?lI ?cI ?kI ?pg ?hd ?po ?sa ?mk ?kc ?u0 ?u1 ?u2 ?u3 ?aW ?xL ?wsa ?wga ?wgg ?wnb ?wi ?wt ?wl ?wc ?wk ?we ?wty ?wh ?wcl ?ws
    (case a0 => k_is)
    (case l0 => k_is)
    (case c0 => k_is)
    (case k0 => k_is)
    (case a1 => k_is)
    (case l1 => k_is)
    (case c1 => k_is)
    (case k1 => k_is)
    (case a2 => k_is)
    (case l2 => k_is)
    (case c2 => k_is)
    (case k2 => k_is)
    (case a3 => k_is)
    (case l3 => k_is)
    (case c3 => k_is)
    (case k3 => k_is)
    (case a4 => k_is)
    (case l4 => k_is)
    (case c4 => k_is)
    (case k4 => k_is)
    (case a5 => k_is)
    (case l5 => k_is)
    (case c5 => k_is)
    (case k5 => k_is)
    (case a6 => k_is)
    (case l6 => k_is)
    (case c6 => k_is)
    (case k6 => k_is)
    (case a7 => k_is)
    (case l7 => k_is)
    (case c7 => k_is)
    (case k7 => k_is)
    (case a8 => k_is)
    (case l8 => k_is)
    (case c8 => k_is)
    (case k8 => k_is)
    (case a9 => k_is)
    (case l9 => k_is)
    (case c9 => k_is)
    (case k9 => k_is)
    (case a10 => k_is)
    (case l10 => k_is)
    (case c10 => k_is)
    (case k10 => k_is)
    (case a11 => k_is)
    (case l11 => k_is)
    (case c11 => k_is)
    (case k11 => k_is)
    (case a12 => k_is)
    (case l12 => k_is)
    (case c12 => k_is)
    (case k12 => k_is)
    (case n0 => k_is)
    (case n1 => k_is)
    (case n2 => k_is)
    (case n3 => k_is)
    (case n4 => k_is)
    (case n5 => k_is)
    (case n6 => k_is)
    (case n7 => k_is)
    (case n8 => k_is)
    (case n9 => k_is)
    (case n10 => k_is)
    (case n11 => k_is)
    (case n12 => k_is)
    (case n13 => k_is)
    (case n14 => k_is)
    (case n15 => k_is)
    (case n16 => k_is)
    (case n17 => k_is)
    (case n18 => k_is)
    (case n19 => k_is)
    (case n20 => k_is)
    (case n21 => k_is)
    (case z_len => k_is)
    (case z_tuple => k_is)
    (case z_enumerate => k_is)
    (case z_list => k_is)
    (case z_max => k_is)
    (case z_min => k_is)
    (case aC => k_is)
    (case xF => k_exc)
    (case kF => k_is)
    (case bF => k_is)
    (case tF => k_is)
    (case iF => k_is)
    (case sF => first | rfl | k_is)
    (case aL => k_is)
    (case aI => k_is)
    (case iI => k_is)
    (case lI => k_is)
    (case cI => k_is)
    (case kI => k_is)
    (case pg => k_is)
    (case hd => k_is)
    (case po => k_is)
    (case sa => k_is)
    (case mk => k_is)
    (case kc => k_is)
    (case u0 => k_is)
    (case u1 => k_is)
    (case u2 => k_is)
    (case u3 => k_is)
    (case aW => k_is)
    (case xL => k_is)
    (case wsa => k_is)
    (case wga => k_is)
    (case wgg => k_is)
    (case wnb => k_is)
    (case wi => k_is)
    (case wt => k_is)
    (case wl => k_is)
    (case wc => k_is)
    (case wk => k_is)
    (case we => k_is)
    (case wty => k_is)
    (case wh => k_is)
    (case wcl => k_is)
    (case ws => first | rfl | k_is)
  case S =>
    intro K H xs a hO hwi hask hx
    cases hx with
    | cons h1 h2 =>
      cases h2
      cases h1 with
      | lst hs ha =>
        have e := L2.ints_dw a.1 _ ha
        subst e
        have q : ((Codec.inLen 0 32768 a.1 && a.1.all (Codec.inInt 0 255)) && true) = true := hwi
        rw [Bool.and_eq_true, Bool.and_eq_true] at q
        refine ⟨_, a.1, rfl, hs, fun x hx => ?_, (Codec.inNat_iff.mp q.1.1).2, fun H' p hp => .lst (L2.SqL.of hp) (L2.dw_ints _)⟩
        have z := List.all_eq_true.mp q.1.2 x hx
        exact (Codec.inInt_iff.mp z).1
