import PyProof.Rows.All
import Kct5Spec
import PyKct5
import PyFlatLaws
import Wide.All
import OpenK.AllK
import Wide.FinOn
import PyProof.EqAt
import PyProof.EqKinds
import PyProof.TupleCall
import KE.BitLaws
import Open.SpecLaws
import KE.OsHead
import KE.OsGo
import KE.KSortTupG
import KE.KDictSum
import PySem.Challenge.RW_bentwords_s01_answers
namespace Bw
open Kct5
def glue (row : Bytes) : List Bytes → List Bytes
  | [] => [row]
  | x :: r => (row ++ x) :: r
theorem parted_ne (c : Nat) : ∀ l : Bytes, parted c l ≠ []
  | [] => by intro h; cases h
  | b :: l => by
    unfold parted
    by_cases h : b = c
    · rw [if_pos h]; intro q; cases q
    · rw [if_neg h]
      cases e : parted c l with
      | nil => intro q; cases q
      | cons x r => intro q; cases q
theorem glue_nil (c : Nat) (l : Bytes) : glue [] (parted c l) = parted c l := by
  cases e : parted c l with
  | nil => exact absurd e (parted_ne c l)
  | cons x r => rfl
theorem glue_hit {c b : Nat} (h : b = c) (row l : Bytes) : glue row (parted c (b :: l)) = row :: glue [] (parted c l) := by
  rw [glue_nil]
  conv => lhs; unfold parted
  rw [if_pos h]
  show (row ++ []) :: parted c l = _
  rw [List.append_nil]
theorem glue_miss {c b : Nat} (h : ¬ b = c) (row l : Bytes) : glue row (parted c (b :: l)) = glue (row ++ [b]) (parted c l) := by
  conv => lhs; unfold parted
  rw [if_neg h]
  cases e : parted c l with
  | nil => exact absurd e (parted_ne c l)
  | cons x r =>
    show (row ++ b :: x) :: r = (row ++ [b] ++ x) :: r
    rw [List.append_assoc]
    rfl
theorem glue_end (c : Nat) (row : Bytes) : glue row (parted c []) = [row] := by
  show [row ++ []] = [row]
  rw [List.append_nil]
theorem parted_len {c : Nat} : ∀ {l : Bytes} {p : Bytes}, p ∈ parted c l → p.length ≤ l.length
  | [], p, hp => by
    rw [show parted c [] = [[]] from rfl, List.mem_singleton] at hp
    subst hp
    exact Nat.le_refl _
  | b :: l, p, hp => by
    unfold parted at hp
    by_cases h : b = c
    · rw [if_pos h] at hp
      rcases List.mem_cons.mp hp with rfl | hp
      · exact Nat.zero_le _
      · exact Nat.le_succ_of_le (parted_len hp)
    · rw [if_neg h] at hp
      cases e : parted c l with
      | nil => exact absurd e (parted_ne c l)
      | cons y r =>
        rw [e] at hp
        rcases List.mem_cons.mp hp with rfl | hp
        · exact Nat.succ_le_succ (parted_len (c := c) (l := l) (by rw [e]; exact List.mem_cons_self))
        · exact Nat.le_succ_of_le (parted_len (c := c) (l := l) (by rw [e]; exact List.mem_cons_of_mem _ hp))
def brackAt (not : Bool) (r : Bytes) : Option (Item × Bytes) :=
  if r.takeWhile letter ≠ [] ∧ (r.drop (r.takeWhile letter).length).head? = some 93 then some (if not then .none_ (r.takeWhile letter) else .one (r.takeWhile letter), r.drop ((r.takeWhile letter).length + 1)) else none
def brack (r : Bytes) : Option (Item × Bytes) := if (r.head? == some 94) = true then brackAt true (r.drop 1) else brackAt false r
def place (c : Nat) (r : Bytes) : Option (Item × Bytes) :=
  if letter c then some (.one [c], r) else if c = 46 then some (.any, r) else if c = 91 then brack r else none
theorem brackAt_len {n : Bool} {r s : Bytes} {i : Item} (h : brackAt n r = some (i, s)) : s.length ≤ r.length := by
  unfold brackAt at h
  split at h
  · have e := (Prod.mk.inj (Option.some.inj h)).2
    rw [← e, List.length_drop]; omega
  · cases h
theorem brack_len {r s : Bytes} {i : Item} (h : brack r = some (i, s)) : s.length ≤ r.length := by
  unfold brack at h
  split at h
  · have := brackAt_len h
    rw [List.length_drop] at this; omega
  · exact brackAt_len h
theorem brackAt_pat (n : Bool) (f : Nat) (r : Bytes) : (if r.takeWhile letter = [] ∨ (r.drop (r.takeWhile letter).length).head? ≠ some 93 then none else (pattern f (r.drop ((r.takeWhile letter).length + 1))).map ((if n then Item.none_ (r.takeWhile letter) else .one (r.takeWhile letter)) :: ·)) = (brackAt n r).bind fun p => (pattern f p.2).map (p.1 :: ·) := by
  unfold brackAt
  by_cases h : r.takeWhile letter = [] ∨ (r.drop (r.takeWhile letter).length).head? ≠ some 93
  · rw [if_pos h, if_neg]
    · rfl
    · rintro ⟨h1, h2⟩
      exact h.elim h1 fun z => z h2
  · have h' : r.takeWhile letter ≠ [] ∧ (r.drop (r.takeWhile letter).length).head? = some 93 := ⟨fun z => h (.inl z), Classical.byContradiction fun z => h (.inr z)⟩
    rw [if_neg h, if_pos h']
    rfl
theorem place_len {c : Nat} {r s : Bytes} {i : Item} (h : place c r = some (i, s)) : s.length ≤ r.length := by
  unfold place at h
  split at h
  · rw [← (Prod.mk.inj (Option.some.inj h)).2]; exact Nat.le_refl _
  · split at h
    · rw [← (Prod.mk.inj (Option.some.inj h)).2]; exact Nat.le_refl _
    · split at h
      · exact brack_len h
      · cases h
theorem pattern_succ (f : Nat) (c : Nat) (r : Bytes) : pattern (f + 1) (c :: r) = (place c r).bind fun p => (pattern f p.2).map (p.1 :: ·) := by
  conv => lhs; unfold pattern
  unfold place
  by_cases h1 : letter c = true
  · rw [if_pos h1, if_pos h1]; rfl
  · rw [if_neg h1, if_neg h1]
    by_cases h2 : c = 46
    · rw [if_pos h2, if_pos h2]; rfl
    · rw [if_neg h2, if_neg h2]
      by_cases h3 : c = 91
      · rw [if_pos h3, if_pos h3]
        unfold brack
        by_cases q : (r.head? == some 94) = true
        · rw [if_pos q]
          dsimp only
          rw [q]
          exact brackAt_pat true f (r.drop 1)
        · rw [if_neg q]
          dsimp only
          rw [Bool.eq_false_iff.mpr q]
          exact brackAt_pat false f r
      · rw [if_neg h3, if_neg h3]; rfl
theorem pattern_more : ∀ (n : Nat) (l : Bytes), l.length ≤ n → ∀ f g, l.length ≤ f → l.length ≤ g → pattern f l = pattern g l
  | _, [], _, f, g, _, _ => by
    cases f <;> cases g <;> rfl
  | n + 1, c :: r, hn, f + 1, g + 1, hf, hg => by
    rw [pattern_succ, pattern_succ]
    cases e : place c r with
    | none => rfl
    | some p =>
      obtain ⟨i, s⟩ := p
      have hs := place_len e
      have h1 : r.length + 1 ≤ n + 1 := hn
      have h2 : r.length + 1 ≤ f + 1 := hf
      have h3 : r.length + 1 ≤ g + 1 := hg
      show (pattern f s).map (i :: ·) = (pattern g s).map (i :: ·)
      rw [pattern_more n s (by omega) f g (by omega) (by omega)]
  | 0, c :: r, hn, _, _, _, _ => by cases hn
  | n + 1, c :: r, _, 0, _, hf, _ => by cases hf
  | n + 1, c :: r, _, f + 1, 0, _, hg => by cases hg
theorem patternOf_cons (c : Nat) (r : Bytes) : patternOf (c :: r) = (place c r).bind fun p => (patternOf p.2).map (p.1 :: ·) := by
  unfold patternOf
  show pattern (r.length + 1) (c :: r) = _
  rw [pattern_succ]
  cases e : place c r with
  | none => rfl
  | some p =>
    obtain ⟨i, s⟩ := p
    have hs := place_len e
    show (pattern r.length s).map (i :: ·) = (pattern s.length s).map (i :: ·)
    rw [pattern_more r.length s hs r.length s.length hs (Nat.le_refl _)]
theorem patternOf_bad {c : Nat} {r : Bytes} (h : place c r = none) : patternOf (c :: r) = none := by
  rw [patternOf_cons, h]; rfl
theorem patternOf_good {c : Nat} {r s : Bytes} {i : Item} (h : place c r = some (i, s)) : patternOf (c :: r) = (patternOf s).map (i :: ·) := by
  rw [patternOf_cons, h]; rfl
def Fits (i : Item) (l : Bytes) : Prop := ∀ c, letter c = true → (fits i c = true ↔ c ∈ l)
def without (those : Bytes) : Bytes := ((List.range 26).map (97 + ·)).filter fun c => !those.contains c
theorem mem_without {those : Bytes} {c : Nat} : c ∈ without those ↔ letter c = true ∧ ¬ c ∈ those := by
  unfold without letter
  rw [List.mem_filter, List.mem_map, Bool.and_eq_true, decide_eq_true_eq, decide_eq_true_eq]
  constructor
  · rintro ⟨⟨k, hk, rfl⟩, h⟩
    rw [List.mem_range] at hk
    refine ⟨by omega, fun q => ?_⟩
    rw [List.contains_iff_mem.mpr q] at h
    cases h
  · rintro ⟨⟨h1, h2⟩, h⟩
    refine ⟨⟨c - 97, List.mem_range.mpr (by omega), by omega⟩, ?_⟩
    cases e : those.contains c with
    | true => exact absurd (List.contains_iff_mem.mp e) h
    | false => rfl
theorem fits_any : Fits .any (without []) := fun c hc => by
  rw [mem_without]
  exact ⟨fun _ => ⟨hc, by simp⟩, fun _ => rfl⟩
theorem fits_one (l : Bytes) : Fits (.one l) l := fun _ _ => List.contains_iff_mem
theorem fits_none (l : Bytes) : Fits (.none_ l) (without l) := fun c hc => by
  rw [mem_without]
  show (!l.contains c) = true ↔ _
  cases e : l.contains c with
  | true => exact ⟨fun h => (by cases h), fun h => absurd (List.contains_iff_mem.mp e) h.2⟩
  | false => exact ⟨fun _ => ⟨hc, fun q => by rw [List.contains_iff_mem.mpr q] at e; cases e⟩, fun _ => rfl⟩
theorem take_tw {p : Nat → Bool} : ∀ {l : Bytes} {k : Nat}, (∀ x ∈ l.take k, p x = true) → (∀ x, l[k]? = some x → p x = false) → k ≤ l.length → l.takeWhile p = l.take k
  | [], k, _, _, hk => by
    have : k = 0 := Nat.le_zero.mp hk
    subst this; rfl
  | a :: l, 0, _, h2, _ => by
    rw [List.takeWhile_cons, h2 a rfl]; rfl
  | a :: l, k + 1, h1, h2, hk => by
    rw [List.takeWhile_cons, h1 a (by rw [List.take_succ_cons]; exact List.mem_cons_self), if_pos rfl, List.take_succ_cons]
    congr 1
    exact (take_tw (fun x hx => h1 x (by rw [List.take_succ_cons]; exact List.mem_cons_of_mem _ hx)) (fun x hx => h2 x hx) (by have : k + 1 ≤ l.length + 1 := hk; omega))
theorem tw_all {p : Nat → Bool} : ∀ {l : Bytes} {x : Nat}, x ∈ l.takeWhile p → p x = true
  | a :: l, x, h => by
    rw [List.takeWhile_cons] at h
    split at h
    · rename_i q
      rcases List.mem_cons.mp h with rfl | h
      · exact q
      · exact tw_all h
    · cases h
theorem tw_take (p : Nat → Bool) : ∀ l : Bytes, l.takeWhile p = l.take (l.takeWhile p).length
  | [] => rfl
  | a :: l => by
    by_cases q : p a = true
    · have e : (a :: l).takeWhile p = a :: l.takeWhile p := by rw [List.takeWhile_cons, if_pos q]
      rw [e, List.length_cons, List.take_succ_cons, ← tw_take p l]
    · have e : (a :: l).takeWhile p = [] := by rw [List.takeWhile_cons, if_neg q]
      rw [e]; rfl
theorem letter93 : letter 93 = false := by decide
theorem named_iff {r : Bytes} {k : Nat} (hk : r[k]? = some 93) (hf : ∀ x ∈ r.take k, x ≠ 93) :
    (r.takeWhile letter ≠ [] ∧ (r.drop (r.takeWhile letter).length).head? = some 93) ↔ (1 ≤ k ∧ ∀ x ∈ r.take k, letter x = true) := by
  obtain ⟨hlt, _⟩ := List.getElem?_eq_some_iff.mp hk
  constructor
  · rintro ⟨h1, h2⟩
    rw [List.head?_drop] at h2
    have e : (r.takeWhile letter).length = k := by
      rcases Nat.lt_trichotomy (r.takeWhile letter).length k with h | h | h
      · exact absurd rfl (hf 93 (List.mem_take_iff_getElem.mpr ⟨(r.takeWhile letter).length, by omega, (List.getElem?_eq_some_iff.mp h2).2⟩))
      · exact h
      · have := tw_all (p := letter) (l := r) (x := 93) (by
          rw [tw_take]
          exact List.mem_take_iff_getElem.mpr ⟨k, by omega, (List.getElem?_eq_some_iff.mp hk).2⟩)
        rw [letter93] at this; cases this
    refine ⟨?_, ?_⟩
    · cases k with
      | zero => exact absurd (List.length_eq_zero_iff.mp e) h1
      | succ k => exact Nat.succ_le_succ (Nat.zero_le _)
    · intro x hx
      rw [← e, ← tw_take] at hx
      exact tw_all hx
  · rintro ⟨h1, h2⟩
    have e : r.takeWhile letter = r.take k := take_tw h2 (fun x hx => by rw [hk] at hx; cases hx; exact letter93) (Nat.le_of_lt hlt)
    have el : (r.take k).length = k := by rw [List.length_take]; omega
    refine ⟨?_, ?_⟩
    · rw [e]; intro q; rw [q] at el; rw [← el] at h1; cases h1
    · rw [e, el, List.head?_drop]; exact hk
theorem named_none {r : Bytes} (hf : ∀ x ∈ r, x ≠ 93) : ¬ (r.takeWhile letter ≠ [] ∧ (r.drop (r.takeWhile letter).length).head? = some 93) := by
  rintro ⟨_, h2⟩
  rw [List.head?_drop] at h2
  exact hf 93 (List.mem_of_getElem? h2) rfl
theorem brack_open {r : Bytes} (hf : ∀ x ∈ r, x ≠ 93) : brack r = none := by
  unfold brack brackAt
  split
  · rw [if_neg (named_none fun x hx => hf x (List.mem_of_mem_drop hx))]
  · rw [if_neg (named_none hf)]
theorem brack_not {r : Bytes} {k : Nat} (h0 : r.head? = some 94) (hk : r[k]? = some 93) (hf : ∀ x ∈ r.take k, x ≠ 93) :
    brack r = if isLetters 1 (k + 2) ((r.take k).drop 1) = true then some (.none_ ((r.take k).drop 1), r.drop (k + 1)) else none := by
  cases r with
  | nil => cases h0
  | cons a r =>
    have ea : a = 94 := Option.some.inj h0
    subst ea
    cases k with
    | zero => cases Option.some.inj hk
    | succ k =>
      have hk' : r[k]? = some 93 := hk
      obtain ⟨hlt, _⟩ := List.getElem?_eq_some_iff.mp hk'
      have hf' : ∀ x ∈ r.take k, x ≠ 93 := fun x hx => hf x (by rw [List.take_succ_cons]; exact List.mem_cons_of_mem _ hx)
      have ni := named_iff hk' hf'
      have ed : ((94 :: r).take (k + 1)).drop 1 = r.take k := rfl
      have el : (r.take k).length = k := by rw [List.length_take]; omega
      unfold brack
      rw [if_pos (by rfl), ed]
      show (if r.takeWhile letter ≠ [] ∧ (r.drop (r.takeWhile letter).length).head? = some 93 then some (Item.none_ (r.takeWhile letter), r.drop ((r.takeWhile letter).length + 1)) else none) = _
      by_cases h : 1 ≤ k ∧ ∀ x ∈ r.take k, letter x = true
      · have e : r.takeWhile letter = r.take k := take_tw h.2 (fun x hx => by rw [hk'] at hx; cases hx; exact letter93) (Nat.le_of_lt hlt)
        rw [if_pos (ni.mpr h), if_pos, e, el]
        · rfl
        · unfold isLetters
          rw [el, Bool.and_eq_true, Bool.and_eq_true, decide_eq_true_eq, decide_eq_true_eq, List.all_eq_true]
          exact ⟨⟨h.1, by omega⟩, h.2⟩
      · rw [if_neg (fun z => h (ni.mp z)), if_neg]
        unfold isLetters
        rw [el, Bool.and_eq_true, Bool.and_eq_true, decide_eq_true_eq, decide_eq_true_eq, List.all_eq_true]
        exact fun z => h ⟨z.1.1, z.2⟩
theorem brack_one {r : Bytes} {k : Nat} (h0 : r.head? ≠ some 94) (hk : r[k]? = some 93) (hf : ∀ x ∈ r.take k, x ≠ 93) :
    brack r = if isLetters 1 (k + 2) (r.take k) = true then some (.one (r.take k), r.drop (k + 1)) else none := by
  obtain ⟨hlt, _⟩ := List.getElem?_eq_some_iff.mp hk
  have ni := named_iff hk hf
  have el : (r.take k).length = k := by rw [List.length_take]; omega
  unfold brack brackAt
  rw [if_neg (by rw [beq_iff_eq]; exact h0)]
  by_cases h : 1 ≤ k ∧ ∀ x ∈ r.take k, letter x = true
  · have e : r.takeWhile letter = r.take k := take_tw h.2 (fun x hx => by rw [hk] at hx; cases hx; exact letter93) (Nat.le_of_lt hlt)
    have hl : isLetters 1 (k + 2) (r.take k) = true := by
      unfold isLetters
      rw [el, Bool.and_eq_true, Bool.and_eq_true, decide_eq_true_eq, decide_eq_true_eq, List.all_eq_true]
      exact ⟨⟨h.1, by omega⟩, h.2⟩
    rw [if_pos (ni.mpr h), if_pos hl, e, el]
    rfl
  · rw [if_neg (fun z => h (ni.mp z)), if_neg]
    unfold isLetters
    rw [el, Bool.and_eq_true, Bool.and_eq_true, decide_eq_true_eq, decide_eq_true_eq, List.all_eq_true]
    exact fun z => h ⟨z.1.1, z.2⟩
end Bw
namespace Bw
open Kct5
theorem isLetters_iff {lo hi : Nat} {w : Bytes} : isLetters lo hi w = true ↔ lo ≤ w.length ∧ w.length ≤ hi ∧ ∀ x ∈ w, letter x = true := by
  unfold isLetters
  rw [Bool.and_eq_true, Bool.and_eq_true, decide_eq_true_eq, decide_eq_true_eq, List.all_eq_true]
  exact ⟨fun h => ⟨h.1.1, h.1.2, h.2⟩, fun h => ⟨⟨h.1, h.2.1⟩, h.2.2⟩⟩
structure PartOk (p : Part) : Prop where
  pat : p.pat.length ≤ 16
  strip : isLetters 0 16 p.strip = true
  add : isLetters 0 16 p.add = true
structure RuleOk (r : Rule) : Prop where
  cl : r.class_ < 64
  sl : r.slot < 16
  fr : PartOk r.front
  bk : PartOk r.back
structure OddOk (n : Nat) (o : Odd) : Prop where
  wd : o.word < n
  sl : o.slot < 16
  fm : ∀ x, o.form = some x → isLetters 1 40 x = true
structure Ok (s : Abs) : Prop where
  nr : s.rules.length ≤ 512
  nw : s.words.length ≤ 512
  no : s.odd.length ≤ 256
  ru : ∀ r ∈ s.rules, RuleOk r
  wd : ∀ w ∈ s.words, w.class_ < 64 ∧ isLetters 1 24 w.lemma_ = true
  od : ∀ o ∈ s.odd, OddOk s.words.length o
theorem ok_first : Ok first := ⟨Nat.zero_le _, Nat.zero_le _, Nat.zero_le _, fun _ h => (nomatch h), fun _ h => (nomatch h), fun _ h => (nomatch h)⟩
theorem partOf_ok {b : Bytes} {p : Part} (h : partOf b = some p) : PartOk p := by
  unfold partOf at h
  split at h
  · rename_i x y z e
    cases q : patternOf x with
    | none => rw [q] at h; cases h
    | some l =>
      rw [q] at h
      have h' : (if isLetters 0 16 y = true ∧ isLetters 0 16 z = true ∧ l.length ≤ 16 then some (⟨l, y, z⟩ : Part) else none) = some p := h
      split at h'
      · rename_i g
        cases Option.some.inj h'
        exact ⟨g.2.2, g.1, g.2.1⟩
      · cases h'
  · cases h
theorem partsOf_ok {b : Bytes} {p : Part × Part} (h : partsOf b = some p) : PartOk p.1 ∧ PartOk p.2 := by
  unfold partsOf at h
  split at h
  · rename_i f e _
    cases q1 : partOf f with
    | none => rw [q1] at h; cases h
    | some x =>
      cases q2 : partOf e with
      | none => rw [q1, q2] at h; cases h
      | some y =>
        rw [q1, q2] at h
        cases Option.some.inj h
        exact ⟨partOf_ok q1, partOf_ok q2⟩
  · cases h
theorem ok_step {s : Abs} (h : Ok s) (c : Call) : Ok (step s c).1 := by
  cases c with
  | begin_ => exact ok_first
  | rule k j t =>
    unfold step
    dsimp only
    split
    · exact h
    · rename_i g
      have g1 : k < 64 := Nat.lt_of_not_le fun z => g (.inl z)
      have g2 : j < 16 := Nat.lt_of_not_le fun z => g (.inr (.inl z))
      split
      · exact h
      · rename_i p hp
        split
        · exact h
        · rename_i gr
          have gr' : s.rules.length < 512 := Nat.lt_of_not_le gr
          obtain ⟨p1, p2⟩ := partsOf_ok hp
          refine ⟨by show (s.rules ++ [_]).length ≤ 512; rw [List.length_append]; exact gr', h.nw, h.no, fun r hr => ?_, h.wd, h.od⟩
          rcases List.mem_append.mp hr with z | z
          · exact h.ru r z
          · rw [List.mem_singleton.mp z]
            exact ⟨g1, g2, p1, p2⟩
  | word k w =>
    unfold step
    dsimp only
    split
    · exact h
    · rename_i g
      have g1 : k < 64 := Nat.lt_of_not_le fun z => g (.inl z)
      have g2 : isLetters 1 24 w = true := by
        cases e : isLetters 1 24 w with
        | true => rfl
        | false => exact absurd (.inr e) g
      split
      · exact h
      · split
        · exact h
        · rename_i gr
          have gr' : s.words.length < 512 := Nat.lt_of_not_le gr
          have el : (s.words ++ [(⟨w, k⟩ : Word)]).length = s.words.length + 1 := by rw [List.length_append]; rfl
          refine ⟨h.nr, by show (s.words ++ [_]).length ≤ 512; rw [el]; exact gr', h.no, h.ru, fun r hr => ?_, fun o ho => ?_⟩
          · rcases List.mem_append.mp hr with z | z
            · exact h.wd r z
            · rw [List.mem_singleton.mp z]
              exact ⟨g1, g2⟩
          · have := h.od o ho
            exact ⟨by show o.word < (s.words ++ [_]).length; rw [el]; exact Nat.lt_succ_of_lt this.wd, this.sl, this.fm⟩
  | odd n j x =>
    unfold step
    dsimp only
    split
    · exact h
    · rename_i g
      have g1 : j < 16 := Nat.lt_of_not_le fun z => g (.inl z)
      have g2 : isLetters 0 40 x = true := by
        cases e : isLetters 0 40 x with
        | true => rfl
        | false => exact absurd (.inr e) g
      split
      · exact h
      · rename_i gn
        split
        · exact h
        · split
          · exact h
          · rename_i gr
            have gr' : s.odd.length < 256 := Nat.lt_of_not_le gr
            refine ⟨h.nr, h.nw, by show (s.odd ++ [_]).length ≤ 256; rw [List.length_append]; exact gr', h.ru, h.wd, fun o ho => ?_⟩
            rcases List.mem_append.mp ho with z | z
            · exact h.od o z
            · rw [List.mem_singleton.mp z]
              refine ⟨Nat.lt_of_not_le gn, g1, fun y hy => ?_⟩
              have hy' : (if x = [] then none else some x) = some y := hy
              split at hy'
              · cases hy'
              · rename_i ne
                cases Option.some.inj hy'
                rw [isLetters_iff] at g2 ⊢
                refine ⟨?_, g2.2⟩
                cases x with
                | nil => exact absurd rfl ne
                | cons a l => exact Nat.succ_le_succ (Nat.zero_le _)
  | form n j =>
    unfold step
    dsimp only
    split
    · exact h
    · split
      · exact h
      · exact h
  | found x k =>
    unfold step
    dsimp only
    split
    · exact h
    · split
      · exact h
      · exact h
  | near x k =>
    unfold step
    dsimp only
    split
    · exact h
    · exact h
  | check t k =>
    unfold step
    dsimp only
    split
    · exact h
    · split
      · exact h
      · exact h
theorem applied_ok {r : Rule} {w x : Bytes} (hr : RuleOk r) (hw : ∀ c ∈ w, letter c = true) (h : applied r w = some x) : isLetters 1 40 x = true := by
  unfold applied at h
  dsimp only at h
  split at h
  · split at h
    · rename_i g
      cases Option.some.inj h
      rw [isLetters_iff]
      refine ⟨g.1, g.2, fun c hc => ?_⟩
      rcases List.mem_append.mp hc with hc | hc
      · rcases List.mem_append.mp hc with hc | hc
        · exact (isLetters_iff.mp hr.fr.add).2.2 c hc
        · exact hw c (List.mem_of_mem_drop (List.mem_of_mem_take hc))
      · exact (isLetters_iff.mp hr.bk.add).2.2 c hc
    · cases h
  · cases h
theorem form_ok {s : Abs} (h : Ok s) {n j : Nat} {x : Bytes} (e : form s n j = some x) : isLetters 1 40 x = true := by
  unfold form at e
  split at e
  · cases e
  · rename_i w hw
    split at e
    · cases e
    · split at e
      · rename_i o ho
        exact (h.od o (List.mem_of_find?_eq_some ho)).fm x e
      · unfold regular at e
        obtain ⟨l1, r, l2, el, hr, _⟩ := List.findSome?_eq_some_iff.mp e
        have mr : r ∈ s.rules := by rw [el]; exact List.mem_append_right _ List.mem_cons_self
        split at hr
        · exact applied_ok (h.ru r mr) (isLetters_iff.mp (h.wd w (List.mem_of_getElem? hw)).2).2.2 hr
        · cases hr
def rulesOf (s : Abs) (k j : Nat) : List Rule := s.rules.filter fun r => r.class_ == k && r.slot == j
theorem regular_eq (s : Abs) (w : Word) (j : Nat) : regular s w j = (rulesOf s w.class_ j).findSome? fun r => applied r w.lemma_ := by
  unfold regular rulesOf
  induction s.rules with
  | nil => rfl
  | cons r l ih =>
    rw [List.findSome?_cons, List.filter_cons]
    by_cases h : r.class_ = w.class_ ∧ r.slot = j
    · rw [if_pos h, if_pos (by rw [Bool.and_eq_true, beq_iff_eq, beq_iff_eq]; exact h), List.findSome?_cons]
      cases applied r w.lemma_ with
      | some x => rfl
      | none => exact ih
    · rw [if_neg h, if_neg (by rw [Bool.and_eq_true, beq_iff_eq, beq_iff_eq]; exact h)]
      exact ih
theorem tw_pos {p : Nat → Bool} {c : Nat} {r : Bytes} (h : p c = true) : 1 ≤ ((c :: r).takeWhile p).length := by
  rw [List.takeWhile_cons, if_pos h]; exact Nat.succ_le_succ (Nat.zero_le _)
theorem unknown_more (s : Abs) : ∀ (n : Nat) (l : Bytes), l.length ≤ n → ∀ a f g, l.length ≤ f → l.length ≤ g → unknown s f a l = unknown s g a l
  | _, [], _, a, f, g, _, _ => by
    cases f <;> cases g <;> unfold unknown <;> rfl
  | n + 1, c :: r, hn, a, f + 1, g + 1, hf, hg => by
    have h1 : r.length + 1 ≤ n + 1 := hn
    have h2 : r.length + 1 ≤ f + 1 := hf
    have h3 : r.length + 1 ≤ g + 1 := hg
    unfold unknown
    split
    · rename_i q
      have t := tw_pos (p := isWordByte) (c := c) (r := r) q
      dsimp only
      split
      · have el : ((c :: r).drop ((c :: r).takeWhile isWordByte).length).length ≤ r.length := by
          rw [List.length_drop, List.length_cons]; omega
        exact unknown_more s n _ (by omega) _ f g (by omega) (by omega)
      · rfl
    · exact unknown_more s n r (by omega) _ f g (by omega) (by omega)
  | 0, _ :: _, hn, _, _, _, _, _ => by cases hn
  | n + 1, _ :: _, _, _, 0, _, hf, _ => by cases hf
  | n + 1, _ :: _, _, _, f + 1, 0, _, hg => by cases hg
def unk (s : Abs) (a : Nat) (l : Bytes) : Option (Nat × Nat) := unknown s l.length a l
theorem unk_eq {s : Abs} {f a : Nat} {l : Bytes} (h : l.length ≤ f) : unknown s f a l = unk s a l := unknown_more s l.length l (Nat.le_refl _) a f l.length h (Nat.le_refl _)
theorem unk_nil (s : Abs) (a : Nat) : unk s a [] = none := by unfold unk unknown; rfl
theorem unk_skip {s : Abs} {a c : Nat} {r : Bytes} (h : isWordByte c = false) : unk s a (c :: r) = unk s (a + 1) r := by
  have e : unk s a (c :: r) = unknown s (r.length + 1) a (c :: r) := rfl
  rw [e]
  unfold unknown
  rw [if_neg (by rw [h]; exact Bool.false_ne_true)]
  rfl
theorem unk_word {s : Abs} {a c : Nat} {r w : Bytes} (h : isWordByte c = true) (hw : (c :: r).takeWhile isWordByte = w) : unk s a (c :: r) = if known s (w.map small) = true then unk s (a + w.length) ((c :: r).drop w.length) else some (a, w.length) := by
  have e : unk s a (c :: r) = unknown s (r.length + 1) a (c :: r) := rfl
  rw [e]
  unfold unknown
  rw [if_pos h]
  dsimp only
  rw [hw]
  have t := tw_pos (p := isWordByte) (c := c) (r := r) h
  rw [hw] at t
  split
  · exact unk_eq (by rw [List.length_drop, List.length_cons]; omega)
  · rfl
end Bw
namespace Bw
open Kct5
theorem less_cons {a b : Nat} {x y : Bytes} : less (a :: x) (b :: y) = true ↔ a < b ∨ (a = b ∧ less x y = true) := by
  have e : less (a :: x) (b :: y) = (decide (a < b) || (a == b && less x y)) := by conv => lhs; unfold less
  rw [e, Bool.or_eq_true, Bool.and_eq_true, decide_eq_true_eq, beq_iff_eq]
theorem less_nil_cons {b : Nat} {y : Bytes} : less [] (b :: y) = true := by unfold less; rfl
theorem less_nil {x : Bytes} : less x [] = false := by cases x <;> unfold less <;> rfl
theorem less_irrefl : ∀ x : Bytes, less x x = false
  | [] => by unfold less; rfl
  | a :: x => by
    cases e : less (a :: x) (a :: x) with
    | false => rfl
    | true =>
      rcases less_cons.mp e with h | ⟨_, h⟩
      · omega
      · rw [less_irrefl x] at h; cases h
theorem less_trans : ∀ {x y z : Bytes}, less x y = true → less y z = true → less x z = true
  | _, [], _, h, _ => by rw [less_nil] at h; cases h
  | _, _ :: _, [], _, h => by rw [less_nil] at h; cases h
  | [], _ :: _, _ :: _, _, _ => less_nil_cons
  | a :: x, b :: y, c :: z, h1, h2 => by
    rw [less_cons] at h1 h2 ⊢
    rcases h1 with h1 | ⟨h1, g1⟩ <;> rcases h2 with h2 | ⟨h2, g2⟩
    · exact .inl (by omega)
    · exact .inl (by omega)
    · exact .inl (by omega)
    · exact .inr ⟨by omega, less_trans g1 g2⟩
theorem less_total : ∀ x y : Bytes, less x y = true ∨ x = y ∨ less y x = true
  | [], [] => .inr (.inl rfl)
  | [], _ :: _ => .inl less_nil_cons
  | _ :: _, [] => .inr (.inr less_nil_cons)
  | a :: x, b :: y => by
    rcases Nat.lt_trichotomy a b with h | h | h
    · exact .inl (less_cons.mpr (.inl h))
    · subst h
      rcases less_total x y with h | h | h
      · exact .inl (less_cons.mpr (.inr ⟨rfl, h⟩))
      · subst h; exact .inr (.inl rfl)
      · exact .inr (.inr (less_cons.mpr (.inr ⟨rfl, h⟩)))
    · exact .inr (.inr (less_cons.mpr (.inl h)))
def le (a b : Bytes) : Bool := a == b || less a b
theorem le_iff {a b : Bytes} : le a b = true ↔ a = b ∨ less a b = true := by
  unfold le; rw [Bool.or_eq_true, beq_iff_eq]
theorem le_trans (a b c : Bytes) (h1 : le a b = true) (h2 : le b c = true) : le a c = true := by
  rw [le_iff] at h1 h2 ⊢
  rcases h1 with rfl | h1
  · exact h2
  · rcases h2 with rfl | h2
    · exact .inr h1
    · exact .inr (less_trans h1 h2)
theorem le_total (a b : Bytes) : (le a b || le b a) = true := by
  rw [Bool.or_eq_true, le_iff, le_iff]
  rcases less_total a b with h | h | h
  · exact .inl (.inr h)
  · exact .inl (.inl h)
  · exact .inr (.inr h)
abbrev Rising (l : List Bytes) : Prop := l.Pairwise fun a b => less a b = true
theorem erase_rising : ∀ (n : Nat) (l : List Bytes), l.length ≤ n → l.Pairwise (fun a b => le a b = true) → Rising l.eraseDups
  | _, [], _, _ => by
    rw [List.eraseDups_nil]
    exact List.Pairwise.nil
  | n + 1, a :: l, hn, h => by
    rw [List.eraseDups_cons]
    obtain ⟨h1, h2⟩ := List.pairwise_cons.mp h
    refine List.pairwise_cons.mpr ⟨fun b hb => ?_, ?_⟩
    · rw [List.mem_eraseDups, List.mem_filter] at hb
      rcases le_iff.mp (h1 b hb.1) with e | e
      · subst e
        have := hb.2
        rw [beq_self_eq_true] at this
        cases this
      · exact e
    · refine erase_rising n _ ?_ (h2.filter _)
      have e : l.length + 1 ≤ n + 1 := hn
      exact Nat.le_trans (List.length_filter_le _ _) (by omega)
  | 0, _ :: _, hn, _ => by cases hn
theorem rising_one : ∀ {l m : List Bytes}, Rising l → Rising m → (∀ x, x ∈ l ↔ x ∈ m) → l = m
  | [], [], _, _, _ => rfl
  | [], b :: m, _, _, h => by cases (h b).mpr List.mem_cons_self
  | a :: l, [], _, _, h => by cases (h a).mp List.mem_cons_self
  | a :: l, b :: m, h1, h2, h => by
    obtain ⟨p1, q1⟩ := List.pairwise_cons.mp h1
    obtain ⟨p2, q2⟩ := List.pairwise_cons.mp h2
    have e : a = b := by
      rcases List.mem_cons.mp ((h a).mp List.mem_cons_self) with e | ha
      · exact e
      · rcases List.mem_cons.mp ((h b).mpr List.mem_cons_self) with e | hb
        · exact e.symm
        · have := less_trans (p1 b hb) (p2 a ha)
          rw [less_irrefl] at this; cases this
    subst e
    have : l = m := by
      refine rising_one q1 q2 fun x => ⟨fun hx => ?_, fun hx => ?_⟩
      · rcases List.mem_cons.mp ((h x).mp (List.mem_cons_of_mem _ hx)) with e | hx'
        · subst e
          have := p1 x hx
          rw [less_irrefl] at this; cases this
        · exact hx'
      · rcases List.mem_cons.mp ((h x).mpr (List.mem_cons_of_mem _ hx)) with e | hx'
        · subst e
          have := p2 x hx
          rw [less_irrefl] at this; cases this
        · exact hx'
    rw [this]
theorem forms_rising (s : Abs) : Rising (forms s) := by
  unfold forms
  exact erase_rising _ _ (Nat.le_refl _) (List.pairwise_mergeSort (le := fun a b => a == b || less a b) le_trans le_total _)
def Known (s : Abs) (x : Bytes) : Prop := ∃ n j, n < s.words.length ∧ j < SLOTS ∧ form s n j = some x
theorem mem_places {s : Abs} {p : Nat × Nat} : p ∈ places s ↔ p.1 < s.words.length ∧ p.2 < SLOTS := by
  unfold places
  rw [List.mem_flatMap]
  constructor
  · rintro ⟨n, hn, h⟩
    obtain ⟨k, hk, e⟩ := List.mem_map.mp h
    subst e
    exact ⟨List.mem_range.mp hn, List.mem_range.mp hk⟩
  · rintro ⟨h1, h2⟩
    exact ⟨p.1, List.mem_range.mpr h1, List.mem_map.mpr ⟨p.2, List.mem_range.mpr h2, rfl⟩⟩
theorem mem_forms {s : Abs} {x : Bytes} : x ∈ forms s ↔ Known s x := by
  unfold forms
  rw [List.mem_eraseDups, List.mem_mergeSort, List.mem_filterMap]
  constructor
  · rintro ⟨p, hp, e⟩
    exact ⟨p.1, p.2, (mem_places.mp hp).1, (mem_places.mp hp).2, e⟩
  · rintro ⟨n, j, h1, h2, e⟩
    exact ⟨(n, j), mem_places.mpr ⟨h1, h2⟩, e⟩
theorem known_iff {s : Abs} {x : Bytes} : known s x = true ↔ Known s x := by
  unfold known found
  constructor
  · intro h
    cases e : (places s).filter fun p => form s p.1 p.2 == some x with
    | nil => rw [e] at h; cases h
    | cons p r =>
      have hp : p ∈ (places s).filter fun p => form s p.1 p.2 == some x := by rw [e]; exact List.mem_cons_self
      obtain ⟨h1, h2⟩ := List.mem_filter.mp hp
      exact ⟨p.1, p.2, (mem_places.mp h1).1, (mem_places.mp h1).2, eq_of_beq h2⟩
  · rintro ⟨n, j, h1, h2, e⟩
    have hp : (n, j) ∈ (places s).filter fun p => form s p.1 p.2 == some x := List.mem_filter.mpr ⟨mem_places.mpr ⟨h1, h2⟩, by show (form s n j == some x) = true; rw [e]; exact beq_self_eq_true _⟩
    cases q : (places s).filter fun p => form s p.1 p.2 == some x with
    | nil => rw [q] at hp; cases hp
    | cons p r => rfl
theorem near_rising (s : Abs) (x : Bytes) : Rising (near s x) := (forms_rising s).filter _
theorem mem_near {s : Abs} {x y : Bytes} : y ∈ near s x ↔ Known s y ∧ oneOff x y = true := by
  unfold near
  rw [List.mem_filter, mem_forms]
theorem near_eq {s : Abs} {x : Bytes} {l : List Bytes} (h : Rising l) (m : ∀ y, y ∈ l ↔ Known s y ∧ oneOff x y = true) : near s x = l :=
  rising_one (near_rising s x) h fun y => mem_near.trans (m y).symm
theorem mem_fewer : ∀ {x y : Bytes}, y ∈ fewer x ↔ ∃ i, i < x.length ∧ y = x.take i ++ x.drop (i + 1)
  | [], y => by
    constructor
    · intro h; cases h
    · rintro ⟨i, h, _⟩; cases h
  | c :: r, y => by
    unfold fewer
    rw [List.mem_cons, List.mem_map]
    constructor
    · rintro (rfl | ⟨z, hz, rfl⟩)
      · exact ⟨0, Nat.succ_pos _, rfl⟩
      · obtain ⟨i, hi, rfl⟩ := mem_fewer.mp hz
        exact ⟨i + 1, Nat.succ_lt_succ hi, rfl⟩
    · rintro ⟨i, hi, rfl⟩
      cases i with
      | zero => exact .inl rfl
      | succ i => exact .inr ⟨r.take i ++ r.drop (i + 1), mem_fewer.mpr ⟨i, Nat.lt_of_succ_lt_succ hi, rfl⟩, rfl⟩
theorem fewer_in {x y : Bytes} : x ∈ fewer y ↔ ∃ i c, i ≤ x.length ∧ y = x.take i ++ c :: x.drop i := by
  rw [mem_fewer]
  constructor
  · rintro ⟨i, hi, rfl⟩
    have e1 : (y.take i ++ y.drop (i + 1)).take i = y.take i := by
      rw [List.take_append_of_le_length (by rw [List.length_take]; omega), List.take_take]; congr 1; omega
    have e2 : (y.take i ++ y.drop (i + 1)).drop i = y.drop (i + 1) := by
      rw [List.drop_append_of_le_length (by rw [List.length_take]; omega), List.drop_take_self, List.nil_append]
    refine ⟨i, y[i], ?_, ?_⟩
    · rw [List.length_append, List.length_take, List.length_drop]; omega
    · rw [e1, e2, ← List.drop_eq_getElem_cons hi, List.take_append_drop]
  · rintro ⟨i, c, hi, rfl⟩
    have el : (x.take i).length = i := by rw [List.length_take]; omega
    refine ⟨i, ?_, ?_⟩
    · rw [List.length_append, el, List.length_cons]; omega
    · rw [List.take_append_of_le_length (by omega), List.take_of_length_le (by omega), ← List.drop_drop, List.drop_append_of_le_length (by omega)]
      have e3 : (x.take i).drop i = [] := List.drop_of_length_le (by omega)
      rw [e3, List.nil_append]
      show x = x.take i ++ x.drop i
      rw [List.take_append_drop]
theorem mem_swapped : ∀ {x y : Bytes}, y ∈ swapped x ↔ ∃ i a b, x[i]? = some a ∧ x[i + 1]? = some b ∧ y = x.take i ++ b :: a :: x.drop (i + 2)
  | [], y => by
    constructor
    · intro h; unfold swapped at h; cases h
    · rintro ⟨i, a, b, h, _⟩; simp at h
  | [c], y => by
    constructor
    · intro h; unfold swapped at h; cases h
    · rintro ⟨i, a, b, _, h, _⟩; simp at h
  | c :: d :: r, y => by
    unfold swapped
    rw [List.mem_cons, List.mem_map]
    constructor
    · rintro (rfl | ⟨z, hz, rfl⟩)
      · exact ⟨0, c, d, rfl, rfl, rfl⟩
      · obtain ⟨i, a, b, h1, h2, rfl⟩ := mem_swapped.mp hz
        exact ⟨i + 1, a, b, h1, h2, rfl⟩
    · rintro ⟨i, a, b, h1, h2, rfl⟩
      cases i with
      | zero =>
        cases Option.some.inj h1
        cases Option.some.inj h2
        exact .inl rfl
      | succ i => exact .inr ⟨(d :: r).take i ++ b :: a :: (d :: r).drop (i + 2), mem_swapped.mpr ⟨i, a, b, h1, h2, rfl⟩, rfl⟩
theorem diff_one : ∀ {x y : Bytes}, (x.length = y.length ∧ ((x.zip y).filter fun p => p.1 != p.2).length = 1) ↔ ∃ i c, i < x.length ∧ x[i]? ≠ some c ∧ y = x.take i ++ c :: x.drop (i + 1)
  | [], y => by
    constructor
    · rintro ⟨_, h⟩; simp at h
    · rintro ⟨i, c, h, _⟩; cases h
  | a :: x, [] => by
    constructor
    · rintro ⟨h, _⟩; cases h
    · rintro ⟨i, c, _, _, h⟩; simp at h
  | a :: x, b :: y => by
    rw [List.zip_cons_cons, List.filter_cons]
    by_cases hab : a = b
    · subst hab
      rw [if_neg (by simp)]
      constructor
      · rintro ⟨h1, h2⟩
        obtain ⟨i, c, hi, hc, e⟩ := diff_one.mp ⟨Nat.succ.inj h1, h2⟩
        exact ⟨i + 1, c, Nat.succ_lt_succ hi, hc, by rw [e]; rfl⟩
      · rintro ⟨i, c, hi, hc, e⟩
        cases i with
        | zero =>
          have e' : a :: y = c :: x := e
          injection e' with e1 e2
          exact absurd (by rw [e1]; rfl) hc
        | succ i =>
          have e' : a :: y = a :: (x.take i ++ c :: x.drop (i + 1)) := e
          injection e' with _ e2
          obtain ⟨g1, g2⟩ := diff_one.mpr ⟨i, c, Nat.lt_of_succ_lt_succ hi, hc, e2⟩
          exact ⟨congrArg Nat.succ g1, g2⟩
    · rw [if_pos (by simpa using hab)]
      constructor
      · rintro ⟨h1, h2⟩
        have h0 : ((x.zip y).filter fun p => p.1 != p.2).length = 0 := by
          have : ((x.zip y).filter fun p => p.1 != p.2).length + 1 = 1 := h2
          omega
        have hxy : ∀ (x y : Bytes), x.length = y.length → ((x.zip y).filter fun p => p.1 != p.2).length = 0 → x = y := by
          intro x
          induction x with
          | nil => intro y hl _; cases y with
            | nil => rfl
            | cons _ _ => cases hl
          | cons u x ih => intro y hl hz; cases y with
            | nil => cases hl
            | cons v y =>
              rw [List.zip_cons_cons, List.filter_cons] at hz
              by_cases huv : u = v
              · subst huv
                rw [if_neg (by simp)] at hz
                rw [ih y (Nat.succ.inj hl) hz]
              · rw [if_pos (by simpa using huv)] at hz
                cases hz
        have := hxy x y (Nat.succ.inj h1) h0
        subst this
        refine ⟨0, b, Nat.succ_pos _, ?_, rfl⟩
        intro q
        exact hab (Option.some.inj q)
      · rintro ⟨i, c, hi, hc, e⟩
        cases i with
        | zero =>
          have e' : b :: y = c :: x := e
          injection e' with e1 e2
          subst e2
          refine ⟨rfl, ?_⟩
          have hz : ∀ x : Bytes, ((x.zip x).filter fun p => p.1 != p.2) = [] := by
            intro x
            induction x with
            | nil => rfl
            | cons u x ih => rw [List.zip_cons_cons, List.filter_cons, if_neg (by simp), ih]
          rw [List.length_cons, hz]; rfl
        | succ i =>
          have e' : b :: y = a :: (x.take i ++ c :: x.drop (i + 1)) := e
          injection e' with e1 _
          exact absurd e1.symm hab
theorem oneOff_iff {x y : Bytes} : oneOff x y = true ↔ x ≠ y ∧
    ((∃ i, i < x.length ∧ y = x.take i ++ x.drop (i + 1)) ∨ (∃ i c, i ≤ x.length ∧ y = x.take i ++ c :: x.drop i) ∨
     (∃ i a b, x[i]? = some a ∧ x[i + 1]? = some b ∧ y = x.take i ++ b :: a :: x.drop (i + 2)) ∨
     (∃ i c, i < x.length ∧ x[i]? ≠ some c ∧ y = x.take i ++ c :: x.drop (i + 1))) := by
  unfold oneOff
  rw [Bool.and_eq_true, Bool.or_eq_true, Bool.or_eq_true, Bool.or_eq_true, Bool.and_eq_true, List.contains_iff_mem, List.contains_iff_mem, List.contains_iff_mem, mem_fewer, fewer_in, mem_swapped, beq_iff_eq, beq_iff_eq, diff_one, bne_iff_ne]
  constructor
  · rintro ⟨h, ((h1 | h1) | h1) | h1⟩
    · exact ⟨h, .inl h1⟩
    · exact ⟨h, .inr (.inl h1)⟩
    · exact ⟨h, .inr (.inr (.inl h1))⟩
    · exact ⟨h, .inr (.inr (.inr h1))⟩
  · rintro ⟨h, h1 | h1 | h1 | h1⟩
    · exact ⟨h, .inl (.inl (.inl h1))⟩
    · exact ⟨h, .inl (.inl (.inr h1))⟩
    · exact ⟨h, .inl (.inr h1)⟩
    · exact ⟨h, .inr h1⟩
end Bw
namespace Bw
open Kct5
def upto : Bytes → Nat
  | [] => 0
  | x :: r => if x = 93 then 1 else upto r + 1
def psize (c : Nat) (r : Bytes) : Nat := if c = 91 then upto r + 1 else 1
theorem upto_le : ∀ r : Bytes, upto r ≤ r.length
  | [] => Nat.le_refl _
  | x :: r => by
    unfold upto
    split
    · exact Nat.succ_le_succ (Nat.zero_le _)
    · exact Nat.succ_le_succ (upto_le r)
theorem psize_le (c : Nat) (r : Bytes) : 1 ≤ psize c r ∧ psize c r ≤ r.length + 1 := by
  unfold psize
  have := upto_le r
  split <;> omega
theorem upto_none : ∀ {r : Bytes}, (∀ x ∈ r, x ≠ 93) → upto r = r.length
  | [], _ => rfl
  | x :: r, h => by
    unfold upto
    rw [if_neg (h x List.mem_cons_self), upto_none fun y hy => h y (List.mem_cons_of_mem _ hy)]
    rfl
theorem upto_at : ∀ {r : Bytes} {k : Nat}, r[k]? = some 93 → (∀ x ∈ r.take k, x ≠ 93) → upto r = k + 1
  | [], k, h, _ => by simp at h
  | x :: r, 0, h, _ => by
    unfold upto
    rw [if_pos (Option.some.inj h)]
  | x :: r, k + 1, h, f => by
    unfold upto
    rw [if_neg (f x (by rw [List.take_succ_cons]; exact List.mem_cons_self)), upto_at (k := k) h fun y hy => f y (by rw [List.take_succ_cons]; exact List.mem_cons_of_mem _ hy)]
theorem closes (r : Bytes) : (∀ x ∈ r, x ≠ 93) ∨ ∃ k, r[k]? = some 93 ∧ ∀ x ∈ r.take k, x ≠ 93 := by
  induction r with
  | nil => exact .inl fun x hx => nomatch hx
  | cons a r ih =>
    by_cases h : a = 93
    · exact .inr ⟨0, by rw [h]; rfl, fun x hx => nomatch hx⟩
    · rcases ih with ih | ⟨k, h1, h2⟩
      · refine .inl fun x hx => ?_
        rcases List.mem_cons.mp hx with rfl | hx
        · exact h
        · exact ih x hx
      · refine .inr ⟨k + 1, h1, fun x hx => ?_⟩
        rw [List.take_succ_cons] at hx
        rcases List.mem_cons.mp hx with rfl | hx
        · exact h
        · exact h2 x hx
def rbrack (s : Bytes) : Option Bytes :=
  if s.getLast? ≠ some 93 then none
  else if ((s.drop 1).dropLast).head? = some 94 then (if isLetters 1 s.length (((s.drop 1).dropLast).drop 1) = true then some (without (((s.drop 1).dropLast).drop 1)) else none)
  else (if isLetters 1 s.length ((s.drop 1).dropLast) = true then some ((s.drop 1).dropLast) else none)
def rplace (s : Bytes) : Option Bytes :=
  if s.head? = some 91 then rbrack s else if s.head? = some 46 then some (without []) else match s.head? with
    | some c => if letter c = true then some [c] else none
    | none => none
theorem take_upto_none {r : Bytes} (h : ∀ x ∈ r, x ≠ 93) : r.take (upto r) = r := by rw [upto_none h, List.take_length]
theorem last_take {r : Bytes} {k : Nat} {x : Nat} (h : r[k]? = some x) : r.take (k + 1) = r.take k ++ [x] := by
  obtain ⟨h1, h2⟩ := List.getElem?_eq_some_iff.mp h
  rw [List.take_succ_eq_append_getElem h1, h2]
theorem place_none {c : Nat} {r : Bytes} (h : rplace ((c :: r).take (psize c r)) = none) : place c r = none := by
  by_cases h3 : c = 91
  · subst h3
    have ep : psize 91 r = upto r + 1 := by unfold psize; rw [if_pos rfl]
    rw [ep, List.take_succ_cons] at h
    have h' : rbrack (91 :: r.take (upto r)) = none := by
      unfold rplace at h
      rw [if_pos (by rfl)] at h
      exact h
    have e0 : place 91 r = brack r := by unfold place; rw [if_neg (by decide), if_neg (by decide), if_pos rfl]
    rw [e0]
    rcases closes r with hn | ⟨k, hk, hf⟩
    · exact brack_open hn
    · rw [upto_at hk hf, last_take hk] at h'
      obtain ⟨hlt, _⟩ := List.getElem?_eq_some_iff.mp hk
      have el : (r.take k).length = k := by rw [List.length_take]; omega
      have d1 : ((91 :: (r.take k ++ [93])).drop 1).dropLast = r.take k := by
        show (r.take k ++ [93]).dropLast = r.take k
        exact List.dropLast_concat
      have l1 : (91 :: (r.take k ++ [93])).getLast? = some 93 := by
        rw [← List.cons_append, List.getLast?_concat]
      have l2 : (91 :: (r.take k ++ [93])).length = k + 2 := by
        rw [List.length_cons, List.length_append, el]; rfl
      unfold rbrack at h'
      rw [if_neg (by rw [l1]; exact fun z => z rfl), d1, l2] at h'
      by_cases h0 : r.head? = some 94
      · rw [brack_not h0 hk hf]
        have hh : (r.take k).head? = some 94 := by
          cases k with
          | zero =>
            rw [List.head?_eq_getElem?, hk] at h0
            cases h0
          | succ k =>
            cases r with
            | nil => cases h0
            | cons a r => exact h0
        rw [if_pos hh] at h'
        split at h'
        · cases h'
        · rename_i q
          rw [if_neg q]
      · rw [brack_one h0 hk hf]
        have hh : ¬ (r.take k).head? = some 94 := by
          cases k with
          | zero => intro z; cases z
          | succ k =>
            cases r with
            | nil => intro z; cases z
            | cons a r => exact h0
        rw [if_neg hh] at h'
        split at h'
        · cases h'
        · rename_i q
          rw [if_neg q]
  · have ep : psize c r = 1 := by unfold psize; rw [if_neg h3]
    rw [ep] at h
    have h' : rplace [c] = none := h
    unfold rplace at h'
    rw [if_neg (by intro z; exact h3 (Option.some.inj z))] at h'
    unfold place
    by_cases h2 : c = 46
    · subst h2
      rw [if_pos (by rfl)] at h'
      cases h'
    · rw [if_neg (by intro z; exact h2 (Option.some.inj z))] at h'
      have h'' : (if letter c = true then some [c] else none) = (none : Option Bytes) := h'
      split at h''
      · cases h''
      · rename_i q
        rw [if_neg q, if_neg h2, if_neg h3]
theorem place_some {c : Nat} {r l : Bytes} (h : rplace ((c :: r).take (psize c r)) = some l) : ∃ i, place c r = some (i, (c :: r).drop (psize c r)) ∧ Fits i l ∧ ∀ x ∈ l, letter x = true := by
  by_cases h3 : c = 91
  · subst h3
    have ep : psize 91 r = upto r + 1 := by unfold psize; rw [if_pos rfl]
    rw [ep, List.take_succ_cons] at h
    have h' : rbrack (91 :: r.take (upto r)) = some l := by
      unfold rplace at h
      rw [if_pos (by rfl)] at h
      exact h
    have e0 : place 91 r = brack r := by unfold place; rw [if_neg (by decide), if_neg (by decide), if_pos rfl]
    rw [e0, ep, List.drop_succ_cons]
    rcases closes r with hn | ⟨k, hk, hf⟩
    · rw [take_upto_none hn] at h'
      unfold rbrack at h'
      rw [if_pos] at h'
      · cases h'
      · intro z
        have m : 93 ∈ (91 :: r) := List.mem_of_getLast? z
        rcases List.mem_cons.mp m with z | z
        · cases z
        · exact hn 93 z rfl
    · rw [upto_at hk hf, last_take hk] at h'
      rw [upto_at hk hf]
      obtain ⟨hlt, _⟩ := List.getElem?_eq_some_iff.mp hk
      have el : (r.take k).length = k := by rw [List.length_take]; omega
      have d1 : ((91 :: (r.take k ++ [93])).drop 1).dropLast = r.take k := by
        show (r.take k ++ [93]).dropLast = r.take k
        exact List.dropLast_concat
      have l1 : (91 :: (r.take k ++ [93])).getLast? = some 93 := by
        rw [← List.cons_append, List.getLast?_concat]
      have l2 : (91 :: (r.take k ++ [93])).length = k + 2 := by
        rw [List.length_cons, List.length_append, el]; rfl
      unfold rbrack at h'
      rw [if_neg (by rw [l1]; exact fun z => z rfl), d1, l2] at h'
      by_cases h0 : r.head? = some 94
      · rw [brack_not h0 hk hf]
        have hh : (r.take k).head? = some 94 := by
          cases k with
          | zero =>
            rw [List.head?_eq_getElem?, hk] at h0
            cases h0
          | succ k =>
            cases r with
            | nil => cases h0
            | cons a r => exact h0
        rw [if_pos hh] at h'
        split at h'
        · rename_i q
          cases Option.some.inj h'
          rw [if_pos q]
          exact ⟨_, rfl, fits_none _, fun x hx => (mem_without.mp hx).1⟩
        · cases h'
      · rw [brack_one h0 hk hf]
        have hh : ¬ (r.take k).head? = some 94 := by
          cases k with
          | zero => intro z; cases z
          | succ k =>
            cases r with
            | nil => intro z; cases z
            | cons a r => exact h0
        rw [if_neg hh] at h'
        split at h'
        · rename_i q
          cases Option.some.inj h'
          rw [if_pos q]
          refine ⟨_, rfl, fits_one _, fun x hx => ?_⟩
          unfold isLetters at q
          rw [Bool.and_eq_true, List.all_eq_true] at q
          exact q.2 x hx
        · cases h'
  · have ep : psize c r = 1 := by unfold psize; rw [if_neg h3]
    rw [ep] at h ⊢
    have h' : rplace [c] = some l := h
    unfold rplace at h'
    rw [if_neg (by intro z; exact h3 (Option.some.inj z))] at h'
    unfold place
    by_cases h2 : c = 46
    · subst h2
      rw [if_pos (by rfl)] at h'
      cases Option.some.inj h'
      rw [if_neg (by decide), if_pos rfl]
      exact ⟨_, rfl, fits_any, fun x hx => (mem_without.mp hx).1⟩
    · rw [if_neg (by intro z; exact h2 (Option.some.inj z))] at h'
      have h'' : (if letter c = true then some [c] else none) = some l := h'
      split at h''
      · rename_i q
        cases Option.some.inj h''
        rw [if_pos q]
        exact ⟨_, rfl, fits_one _, fun x hx => by rw [List.mem_singleton.mp hx]; exact q⟩
      · cases h''
end Bw
namespace Bw
open Kct5
theorem whole_id (c : List (List Int)) : PyKct5.whole c = c := by
  unfold PyKct5.whole
  split <;> rfl
inductive Kind : List (List Int) → Call → Prop
  | begin_ : Kind [[0]] .begin_
  | rule (a b : Nat) (t : Bytes) : a < 4294967296 → b < 4294967296 → (∀ x ∈ t, x < 256) → Kind [[1, a, b], t.map Int.ofNat] (.rule a b t)
  | word (a : Nat) (t : Bytes) : a < 4294967296 → (∀ x ∈ t, x < 256) → Kind [[2, a], t.map Int.ofNat] (.word a t)
  | odd (a b : Nat) (t : Bytes) : a < 4294967296 → b < 4294967296 → (∀ x ∈ t, x < 256) → Kind [[3, a, b], t.map Int.ofNat] (.odd a b t)
  | form (a b : Nat) : a < 4294967296 → b < 4294967296 → Kind [[4, a, b]] (.form a b)
  | found (a : Nat) (t : Bytes) : a < 4294967296 → (∀ x ∈ t, x < 256) → Kind [[5, a], t.map Int.ofNat] (.found t a)
  | near (a : Nat) (t : Bytes) : a < 4294967296 → (∀ x ∈ t, x < 256) → Kind [[6, a], t.map Int.ofNat] (.near t a)
  | check (a : Nat) (t : Bytes) : a < 4294967296 → (∀ x ∈ t, x < 256) → Kind [[7, a], t.map Int.ofNat] (.check t a)
theorem nat_of {z : Int} {k : Nat} (h : Kct5Neutral.natural z k = true) : ∃ n : Nat, z = (n : Int) ∧ n < 2 ^ k := by
  unfold Kct5Neutral.natural at h
  rw [Bool.and_eq_true, decide_eq_true_eq, decide_eq_true_eq] at h
  obtain ⟨h1, h2⟩ := h
  refine ⟨z.toNat, by omega, ?_⟩
  have e : ((z.toNat : Nat) : Int) < ((2 ^ k : Nat) : Int) := by
    rw [Int.toNat_of_nonneg h1]
    rw [Int.natCast_pow]
    exact h2
  exact Int.ofNat_lt.mp e
theorem bytes_of {d : List Int} (h : d.all (fun (z : Int) => Kct5Neutral.natural z 8) = true) : ∃ t : Bytes, d = t.map Int.ofNat ∧ ∀ x ∈ t, x < 256 := by
  rw [List.all_eq_true] at h
  refine ⟨d.map Int.toNat, ?_, ?_⟩
  · rw [List.map_map]
    conv => lhs; rw [← List.map_id d]
    refine List.map_congr_left fun z hz => ?_
    obtain ⟨n, e, _⟩ := nat_of (h z hz)
    subst e
    rfl
  · intro x hx
    obtain ⟨z, hz, e⟩ := List.mem_map.mp hx
    obtain ⟨n, e2, hn⟩ := nat_of (h z hz)
    subst e2
    rw [← e]
    exact hn
theorem back (t : Bytes) : (t.map Int.ofNat).map Int.toNat = t := by
  rw [List.map_map]
  conv => rhs; rw [← List.map_id t]
  exact List.map_congr_left fun z _ => rfl
theorem kind_of {c : List (List Int)} (h : Kct5Neutral.asked1 c = true) : Kind c (Kct5Neutral.call c) := by
  unfold Kct5Neutral.asked1 at h
  split at h
  · exact .begin_
  · rename_i a b d
    rw [Bool.and_eq_true, Bool.and_eq_true] at h
    obtain ⟨x, rfl, hx⟩ := nat_of h.1.1
    obtain ⟨y, rfl, hy⟩ := nat_of h.1.2
    obtain ⟨t, rfl, ht⟩ := bytes_of h.2
    have e : Kct5Neutral.call [[1, (x : Int), (y : Int)], t.map Int.ofNat] = .rule x y ((t.map Int.ofNat).map Int.toNat) := rfl
    rw [e, back]
    exact .rule x y t hx hy ht
  · rename_i a d
    rw [Bool.and_eq_true] at h
    obtain ⟨x, rfl, hx⟩ := nat_of h.1
    obtain ⟨t, rfl, ht⟩ := bytes_of h.2
    have e : Kct5Neutral.call [[2, (x : Int)], t.map Int.ofNat] = .word x ((t.map Int.ofNat).map Int.toNat) := rfl
    rw [e, back]
    exact .word x t hx ht
  · rename_i a b d
    rw [Bool.and_eq_true, Bool.and_eq_true] at h
    obtain ⟨x, rfl, hx⟩ := nat_of h.1.1
    obtain ⟨y, rfl, hy⟩ := nat_of h.1.2
    obtain ⟨t, rfl, ht⟩ := bytes_of h.2
    have e : Kct5Neutral.call [[3, (x : Int), (y : Int)], t.map Int.ofNat] = .odd x y ((t.map Int.ofNat).map Int.toNat) := rfl
    rw [e, back]
    exact .odd x y t hx hy ht
  · rename_i a b
    rw [Bool.and_eq_true] at h
    obtain ⟨x, rfl, hx⟩ := nat_of h.1
    obtain ⟨y, rfl, hy⟩ := nat_of h.2
    exact .form x y hx hy
  · rename_i a d
    rw [Bool.and_eq_true] at h
    obtain ⟨x, rfl, hx⟩ := nat_of h.1
    obtain ⟨t, rfl, ht⟩ := bytes_of h.2
    have e : Kct5Neutral.call [[5, (x : Int)], t.map Int.ofNat] = .found ((t.map Int.ofNat).map Int.toNat) x := rfl
    rw [e, back]
    exact .found x t hx ht
  · rename_i a d
    rw [Bool.and_eq_true] at h
    obtain ⟨x, rfl, hx⟩ := nat_of h.1
    obtain ⟨t, rfl, ht⟩ := bytes_of h.2
    have e : Kct5Neutral.call [[6, (x : Int)], t.map Int.ofNat] = .near ((t.map Int.ofNat).map Int.toNat) x := rfl
    rw [e, back]
    exact .near x t hx ht
  · rename_i a d
    rw [Bool.and_eq_true] at h
    obtain ⟨x, rfl, hx⟩ := nat_of h.1
    obtain ⟨t, rfl, ht⟩ := bytes_of h.2
    have e : Kct5Neutral.call [[7, (x : Int)], t.map Int.ofNat] = .check ((t.map Int.ofNat).map Int.toNat) x := rfl
    rw [e, back]
    exact .check x t hx ht
  · cases h
def run (s : Abs) : List Call → List (List Int)
  | [] => []
  | c :: r => Kct5Neutral.told (Kct5.step s c).2 :: run (Kct5.step s c).1 r
def after (s : Abs) : List Call → Abs
  | [] => s
  | c :: r => after (Kct5.step s c).1 r
theorem played_run : ∀ (cs : List (List (List Int))) (s : Abs), PyFlat.played Kct5Neutral.step s cs = run s (cs.map Kct5Neutral.call)
  | [], _ => rfl
  | c :: r, s => by
    show (Kct5Neutral.step s c).2 :: PyFlat.played Kct5Neutral.step (Kct5Neutral.step s c).1 r = _
    rw [played_run r]
    rfl
theorem line_of {l : List Int} (h : PyKct5.answers_asked l = true) : ∃ cs : List (List (List Int)), l = PyFlat.put cs ∧ cs.length ≤ 1200 ∧
    (∀ c ∈ cs, Kind c (Kct5Neutral.call c)) ∧ PyKct5.answers l = PyFlat.told (run first (cs.map Kct5Neutral.call)) := by
  unfold PyKct5.answers_asked at h
  unfold PyKct5.answers
  unfold PyKct5.calls at h ⊢
  cases e : PyFlat.calls PyKct5.shape l.length l with
  | none => rw [e] at h; cases h
  | some cs =>
    rw [e] at h
    have hw : cs.map PyKct5.whole = cs := by
      conv => rhs; rw [← List.map_id cs]
      exact List.map_congr_left fun c _ => whole_id c
    have h' : (PyFlat.atMost 1200 (cs.map PyKct5.whole) && Kct5Neutral.asked (cs.map PyKct5.whole)) = true := h
    rw [hw, Bool.and_eq_true] at h'
    obtain ⟨h1, h2⟩ := h'
    unfold PyFlat.atMost at h1
    rw [decide_eq_true_eq] at h1
    unfold Kct5Neutral.asked at h2
    rw [Bool.and_eq_true, Bool.and_eq_true, Bool.and_eq_true] at h2
    have h3 := h2.1.2.1
    rw [List.all_eq_true] at h3
    refine ⟨cs, (PyFlat.put_calls _ _ _ e).1, h1, fun c hc => kind_of (h3 c hc), ?_⟩
    show PyFlat.told (PyFlat.played Kct5Neutral.step Kct5Neutral.start (cs.map PyKct5.whole)) = _
    rw [hw, played_run]
    rfl
theorem run_snoc : ∀ (cs : List Call) (s : Abs) (c : Call), run s (cs ++ [c]) = run s cs ++ [Kct5Neutral.told (Kct5.step (after s cs) c).2]
  | [], _, _ => rfl
  | d :: r, s, c => by
    show _ :: run _ (r ++ [c]) = _ :: (run _ r ++ _)
    rw [run_snoc r]
    rfl
theorem after_snoc : ∀ (cs : List Call) (s : Abs) (c : Call), after s (cs ++ [c]) = (Kct5.step (after s cs) c).1
  | [], _, _ => rfl
  | d :: r, s, c => by
    show after _ (r ++ [c]) = _
    rw [after_snoc r]
    rfl
theorem told_snoc (l : List (List Int)) (a : List Int) : PyFlat.told (l ++ [a]) = PyFlat.told l ++ ((a.length : Int) :: a) := by
  unfold PyFlat.told
  rw [List.flatMap_append]
  simp
end Bw
set_option Elab.async false
set_option linter.all false
set_option maxRecDepth 100000
namespace Bw
open Kct5
theorem take_snoc {α : Type} {l : List α} {k : Nat} {x : α} (h : l[k]? = some x) : l.take (k + 1) = l.take k ++ [x] := by
  obtain ⟨h1, h2⟩ := List.getElem?_eq_some_iff.mp h
  rw [List.take_succ_eq_append_getElem h1, h2]
def pairFits (pat : List Item) (u : Bytes) : Bool := (pat.zip u).all fun p => fits p.1 p.2
theorem front_eq : ∀ (pat : List Item) (w : Bytes), fitsFront pat w = (decide (pat.length ≤ w.length) && pairFits pat (w.take pat.length))
  | [], w => by simp [fitsFront, pairFits]
  | i :: l, [] => by simp [fitsFront]
  | i :: l, c :: w => by
    show (fits i c && fitsFront l w) = _
    rw [front_eq l w]
    unfold pairFits
    rw [List.length_cons, List.length_cons, List.take_succ_cons, List.zip_cons_cons, List.all_cons]
    by_cases h : l.length ≤ w.length
    · rw [decide_eq_true h, decide_eq_true (show l.length + 1 ≤ w.length + 1 by omega), Bool.true_and, Bool.true_and]
    · rw [decide_eq_false h, decide_eq_false (show ¬ l.length + 1 ≤ w.length + 1 by omega), Bool.false_and, Bool.false_and, Bool.and_false]
theorem zip_rev {α β : Type} : ∀ (l : List α) (m : List β), l.length = m.length → l.reverse.zip m.reverse = (l.zip m).reverse
  | [], [], _ => rfl
  | a :: l, b :: m, h => by
    have h' : l.length = m.length := by simpa using h
    rw [List.reverse_cons, List.reverse_cons, List.zip_append (by simpa using h'), zip_rev l m h']
    simp
theorem end_eq (pat : List Item) (w : Bytes) : fitsEnd pat w = (decide (pat.length ≤ w.length) && pairFits pat (w.drop (w.length - pat.length))) := by
  unfold fitsEnd
  rw [front_eq, List.length_reverse, List.length_reverse]
  by_cases h : pat.length ≤ w.length
  · rw [decide_eq_true h, Bool.true_and, Bool.true_and]
    unfold pairFits
    rw [List.take_reverse, zip_rev _ _ (by rw [List.length_drop]; omega), List.all_reverse]
  · rw [decide_eq_false h, Bool.false_and, Bool.false_and]
def appl (p : Part × Part) (w : Bytes) : Option Bytes := applied ⟨0, 0, p.1, p.2⟩ w
def made (p : Part × Part) (w : Bytes) : Bytes := (appl p w).getD []
theorem made_over {p : Part × Part} {w : Bytes} (h : w.length < p.1.strip.length + p.2.strip.length) : made p w = [] := by
  unfold made appl applied
  dsimp only
  rw [if_neg (fun z => by have := z.2.2.2.2; omega)]
  rfl
theorem made_eq {p : Part × Part} {w : Bytes} (h : p.1.strip.length + p.2.strip.length ≤ w.length) :
    made p w = if (w.take p.1.strip.length = p.1.strip ∧ w.drop (w.length - p.2.strip.length) = p.2.strip) ∧ fitsFront p.1.pat w = true ∧ fitsEnd p.2.pat w = true then
      (if (p.1.add ++ (w.drop p.1.strip.length).take (w.length - p.2.strip.length - p.1.strip.length) ++ p.2.add).length ≤ 40 then p.1.add ++ (w.drop p.1.strip.length).take (w.length - p.2.strip.length - p.1.strip.length) ++ p.2.add else []) else [] := by
  have e1 : p.1.strip <+: w ↔ w.take p.1.strip.length = p.1.strip := by rw [List.prefix_iff_eq_take]; exact eq_comm
  have e2 : p.2.strip <:+ w ↔ w.drop (w.length - p.2.strip.length) = p.2.strip := by rw [List.suffix_iff_eq_drop]; exact eq_comm
  have e3 : w.length - p.1.strip.length - p.2.strip.length = w.length - p.2.strip.length - p.1.strip.length := by omega
  unfold made appl applied
  dsimp only
  rw [e3]
  generalize p.1.add ++ (w.drop p.1.strip.length).take (w.length - p.2.strip.length - p.1.strip.length) ++ p.2.add = x
  by_cases hc : (w.take p.1.strip.length = p.1.strip ∧ w.drop (w.length - p.2.strip.length) = p.2.strip) ∧ fitsFront p.1.pat w = true ∧ fitsEnd p.2.pat w = true
  · rw [if_pos hc, if_pos ⟨hc.2.1, hc.2.2, e1.mpr hc.1.1, e2.mpr hc.1.2, h⟩]
    by_cases hx : x.length ≤ 40
    · rw [if_pos hx]
      by_cases h1 : 1 ≤ x.length
      · rw [if_pos ⟨h1, hx⟩]
        rfl
      · rw [if_neg (fun z => h1 z.1)]
        cases x with
        | nil => rfl
        | cons a l => exact (h1 (by rw [List.length_cons]; omega)).elim
    · rw [if_neg hx, if_neg (fun z => hx z.2)]
      rfl
  · rw [if_neg hc, if_neg (fun z => hc ⟨⟨e1.mp z.2.2.1, e2.mp z.2.2.2.1⟩, z.1, z.2.1⟩)]
    rfl
theorem made_some {p : Part × Part} {w x : Bytes} (h : appl p w = some x) : x ≠ [] := by
  unfold appl applied at h
  dsimp only at h
  split at h
  · split at h
    · rename_i hx
      cases h
      intro z
      rw [z] at hx
      exact absurd hx.1 (by decide)
    · cases h
  · cases h
theorem made_nil {p : Part × Part} {w : Bytes} : made p w = [] ↔ appl p w = none := by
  unfold made
  cases h : appl p w with
  | none => simp
  | some x => simpa using made_some h
def firstOf (ps : List (Part × Part)) (w : Bytes) : Option Bytes := ps.findSome? fun p => appl p w
end Bw
set_option Elab.async false
set_option linter.all false
set_option maxRecDepth 100000
namespace Bw
open Kct5
def alph : Bytes := without []
theorem mem_alph {c : Nat} : c ∈ alph ↔ letter c = true := by
  unfold alph
  rw [mem_without]
  simp
theorem alph_len : alph.length = 26 := by decide
def putIn (x y : Bytes) : List Bytes := alph.map fun c => x ++ [c] ++ y
def between (x y : Bytes) : List Bytes :=
  putIn x y ++ (if 0 < y.length then [x ++ y.drop 1] ++ putIn x (y.drop 1) else []) ++ (if 1 < y.length then [x ++ [y.getD 1 0, y.getD 0 0] ++ y.drop 2] else [])
def stepsTo (l : Bytes) (n : Nat) : List Bytes := (List.range n).flatMap fun i => between (l.take i) (l.drop i)
def stepsOf (l : Bytes) : List Bytes := (stepsTo l (l.length + 1)).filter fun y => !decide (y = l)
theorem stepsTo_succ (l : Bytes) (n : Nat) : stepsTo l (n + 1) = stepsTo l n ++ between (l.take n) (l.drop n) := by
  unfold stepsTo
  rw [List.range_succ, List.flatMap_append]
  simp
theorem putIn_len (x y : Bytes) : (putIn x y).length = 26 := by
  unfold putIn
  rw [List.length_map, alph_len]
theorem between_len (x y : Bytes) : (between x y).length ≤ 54 := by
  unfold between
  rw [List.length_append, List.length_append, putIn_len]
  have h1 : (if 0 < y.length then [x ++ y.drop 1] ++ putIn x (y.drop 1) else []).length ≤ 27 := by
    split
    · rw [List.length_append, putIn_len]
      exact Nat.le_refl _
    · exact Nat.zero_le _
  have h2 : (if 1 < y.length then [x ++ [y.getD 1 0, y.getD 0 0] ++ y.drop 2] else []).length ≤ 1 := by
    split
    · exact Nat.le_refl _
    · exact Nat.zero_le _
  omega
theorem stepsTo_len (l : Bytes) : ∀ n, (stepsTo l n).length ≤ 54 * n
  | 0 => Nat.le_refl _
  | n + 1 => by
    rw [stepsTo_succ, List.length_append]
    have := stepsTo_len l n
    have := between_len (l.take n) (l.drop n)
    omega
theorem mem_putIn {x y z : Bytes} : z ∈ putIn x y ↔ ∃ c, letter c = true ∧ z = x ++ c :: y := by
  unfold putIn
  rw [List.mem_map]
  constructor
  · rintro ⟨c, hc, rfl⟩
    exact ⟨c, mem_alph.mp hc, by simp⟩
  · rintro ⟨c, hc, rfl⟩
    exact ⟨c, mem_alph.mpr hc, by simp⟩
theorem mem_between {x y z : Bytes} : z ∈ between x y ↔ (∃ c, letter c = true ∧ z = x ++ c :: y) ∨ (∃ a r, y = a :: r ∧ z = x ++ r) ∨ (∃ a r c, y = a :: r ∧ letter c = true ∧ z = x ++ c :: r) ∨ (∃ a b r, y = a :: b :: r ∧ z = x ++ b :: a :: r) := by
  unfold between
  rw [List.mem_append, List.mem_append, mem_putIn]
  match y with
  | [] => simp
  | [a] =>
    simp only [List.length_singleton, Nat.lt_irrefl, if_false, Nat.zero_lt_one, if_true, List.drop_one, List.tail_cons, List.mem_append, mem_putIn, List.mem_singleton, List.not_mem_nil, or_false]
    constructor
    · rintro (h | h | h)
      · exact .inl h
      · exact .inr (.inl ⟨a, [], rfl, h⟩)
      · obtain ⟨c, hc, e⟩ := h
        exact .inr (.inr (.inl ⟨a, [], c, rfl, hc, e⟩))
    · rintro (h | ⟨a', r, e, h⟩ | ⟨a', r, c, e, hc, h⟩ | ⟨a', b, r, e, h⟩)
      · exact .inl h
      · cases e
        exact .inr (.inl h)
      · cases e
        exact .inr (.inr ⟨c, hc, h⟩)
      · cases e
  | a :: b :: r =>
    have e1 : 0 < (a :: b :: r).length := by simp
    have e2 : 1 < (a :: b :: r).length := by simp
    rw [if_pos e1, if_pos e2, List.mem_append, mem_putIn]
    show (_ ∨ (z ∈ [x ++ b :: r] ∨ ∃ c, letter c = true ∧ z = x ++ c :: b :: r)) ∨ z ∈ [x ++ [b, a] ++ r] ↔ _
    rw [List.mem_singleton, List.mem_singleton]
    constructor
    · rintro ((h | h | ⟨c, hc, h⟩) | h)
      · exact .inl h
      · exact .inr (.inl ⟨a, _, rfl, h⟩)
      · exact .inr (.inr (.inl ⟨a, _, c, rfl, hc, h⟩))
      · exact .inr (.inr (.inr ⟨a, b, r, rfl, by rw [h]; simp⟩))
    · rintro (h | ⟨a', r', e, h⟩ | ⟨a', r', c, e, hc, h⟩ | ⟨a', b', r', e, h⟩)
      · exact .inl (.inl h)
      · cases e
        exact .inl (.inr (.inl h))
      · cases e
        exact .inl (.inr (.inr ⟨c, hc, h⟩))
      · cases e
        exact .inr (by rw [h]; simp)
theorem mem_stepsTo {l z : Bytes} {n : Nat} : z ∈ stepsTo l n ↔ ∃ i, i < n ∧ z ∈ between (l.take i) (l.drop i) := by
  unfold stepsTo
  rw [List.mem_flatMap]
  simp [List.mem_range]
theorem drop_cons_at {l : Bytes} {i a : Nat} {r : Bytes} (h : l.drop i = a :: r) : i < l.length ∧ l[i]? = some a ∧ r = l.drop (i + 1) := by
  have h1 : i < l.length := by
    refine Nat.lt_of_not_le fun z => ?_
    rw [List.drop_of_length_le z] at h
    cases h
  rw [List.drop_eq_getElem_cons h1] at h
  injection h with h2 h3
  exact ⟨h1, by rw [List.getElem?_eq_getElem h1, h2], h3.symm⟩
theorem mem_steps {l z : Bytes} (hz : ∀ c ∈ z, letter c = true) : z ∈ stepsOf l ↔ oneOff l z = true := by
  unfold stepsOf
  rw [List.mem_filter, mem_stepsTo, oneOff_iff]
  have hne : (!decide (z = l)) = true ↔ l ≠ z := by
    by_cases h : z = l
    · simp [h]
    · simp [h, Ne.symm h]
  rw [hne]
  constructor
  · rintro ⟨⟨i, hi, h⟩, hd⟩
    refine ⟨hd, ?_⟩
    rcases mem_between.mp h with ⟨c, hc, e⟩ | ⟨a, r, e, e2⟩ | ⟨a, r, c, e, hc, e2⟩ | ⟨a, b, r, e, e2⟩
    · exact .inr (.inl ⟨i, c, by omega, e⟩)
    · obtain ⟨h1, h2, h3⟩ := drop_cons_at e
      exact .inl ⟨i, h1, by rw [e2, h3]⟩
    · obtain ⟨h1, h2, h3⟩ := drop_cons_at e
      by_cases hac : l[i]? = some c
      · exfalso
        apply hd
        rw [e2, h3]
        rw [h2] at hac
        have : a = c := Option.some.inj hac
        rw [← this, ← h3, ← e, List.take_append_drop]
      · exact .inr (.inr (.inr ⟨i, c, h1, hac, by rw [e2, h3]⟩))
    · obtain ⟨h1, h2, h3⟩ := drop_cons_at e
      obtain ⟨h4, h5, h6⟩ := drop_cons_at h3.symm
      exact .inr (.inr (.inl ⟨i, a, b, h2, h5, by rw [e2, h6]⟩))
  · rintro ⟨hd, ⟨i, hi, e⟩ | ⟨i, c, hi, e⟩ | ⟨i, a, b, h1, h2, e⟩ | ⟨i, c, hi, hc, e⟩⟩
    · refine ⟨⟨i, by omega, mem_between.mpr (.inr (.inl ⟨l[i], l.drop (i + 1), List.drop_eq_getElem_cons hi, e⟩))⟩, hd⟩
    · refine ⟨⟨i, by omega, mem_between.mpr (.inl ⟨c, hz c ?_, e⟩)⟩, hd⟩
      rw [e]
      simp
    · obtain ⟨g1, g2⟩ := List.getElem?_eq_some_iff.mp h1
      obtain ⟨g3, g4⟩ := List.getElem?_eq_some_iff.mp h2
      refine ⟨⟨i, by omega, mem_between.mpr (.inr (.inr (.inr ⟨a, b, l.drop (i + 2), ?_, e⟩)))⟩, hd⟩
      rw [List.drop_eq_getElem_cons g1, g2, List.drop_eq_getElem_cons g3, g4]
    · refine ⟨⟨i, by omega, mem_between.mpr (.inr (.inr (.inl ⟨l[i], l.drop (i + 1), c, List.drop_eq_getElem_cons hi, hz c ?_, e⟩)))⟩, hd⟩
      rw [e]
      simp
end Bw
set_option Elab.async false
set_option linter.all false
set_option maxRecDepth 100000
namespace Bw
open Kct5
def allPlaces : List Bytes := (List.range 512).flatMap fun n => (List.range 16).map fun j => [n, j]
theorem places_len : ∀ l : List Nat, (l.flatMap fun n => (List.range 16).map fun j => [n, j]).length = 16 * l.length
  | [] => rfl
  | n :: l => by
    rw [List.flatMap_cons, List.length_append, places_len l, List.length_map, List.length_range, List.length_cons]
    omega
theorem allPlaces_len : allPlaces.length = 8192 := by
  unfold allPlaces
  rw [places_len, List.length_range]
theorem mem_allPlaces {k : Bytes} : k ∈ allPlaces ↔ ∃ n j, k = [n, j] ∧ n < 512 ∧ j < 16 := by
  unfold allPlaces
  simp only [List.mem_flatMap, List.mem_map, List.mem_range]
  constructor
  · rintro ⟨n, hn, j, hj, rfl⟩
    exact ⟨n, j, rfl, hn, hj⟩
  · rintro ⟨n, j, rfl, hn, hj⟩
    exact ⟨n, hn, j, hj, rfl⟩
abbrev Phi := Bytes → Option Bytes
def fset (φ : Phi) (k : Bytes) (o : Option Bytes) : Phi := fun j => if j = k then o else φ j
theorem fset_same (φ : Phi) (k : Bytes) (o : Option Bytes) : fset φ k o k = o := if_pos rfl
theorem fset_ne {φ : Phi} {k j : Bytes} (o : Option Bytes) (h : ¬ j = k) : fset φ k o j = φ j := if_neg h
def tabOf (g : Nat → Nat → Option Bytes) : Phi
  | [n, j] => g n j
  | _ => none
theorem tabOf_ext {g h : Nat → Nat → Option Bytes} (e : ∀ n j, g n j = h n j) : tabOf g = tabOf h := by
  have : g = h := by funext n j; exact e n j
  rw [this]
theorem tabOf_fset {g : Nat → Nat → Option Bytes} {n j : Nat} {o : Option Bytes} : fset (tabOf g) [n, j] o = tabOf fun a b => if a = n ∧ b = j then o else g a b := by
  funext k
  match k with
  | [] =>
    show (if [] = [n, j] then o else none) = none
    rw [if_neg (fun z => nomatch z)]
  | [a] =>
    show (if [a] = [n, j] then o else none) = none
    rw [if_neg (fun z => nomatch z)]
  | a :: b :: c :: r =>
    show (if a :: b :: c :: r = [n, j] then o else none) = none
    rw [if_neg (fun z => nomatch z)]
  | [a, b] =>
    show (if [a, b] = [n, j] then o else g a b) = if a = n ∧ b = j then o else g a b
    by_cases h : a = n ∧ b = j
    · rw [if_pos h, if_pos (by rw [h.1, h.2])]
    · rw [if_neg h, if_neg (fun z => h (by injection z with z1 z2; injection z2 with z2 _; exact ⟨z1, z2⟩))]
def phi (s : Abs) : Phi := tabOf (form s)
theorem tabOf_some {g : Nat → Nat → Option Bytes} {k x : Bytes} (h : tabOf g k = some x) : ∃ n j, k = [n, j] ∧ g n j = some x := by
  match k, h with
  | [n, j], h => exact ⟨n, j, rfl, h⟩
theorem form_in {s : Abs} {n j : Nat} {x : Bytes} (h : form s n j = some x) : n < s.words.length ∧ j < 16 := by
  unfold form at h
  cases e : s.words[n]? with
  | none => rw [e] at h; cases h
  | some w =>
    rw [e] at h
    have h1 := (List.getElem?_eq_some_iff.mp e).1
    refine ⟨h1, ?_⟩
    refine Nat.lt_of_not_le fun z => ?_
    have h2 : (if SLOTS ≤ j then none else _) = some x := h
    rw [if_pos (show SLOTS ≤ j from z)] at h2
    cases h2
def saidAt (s : Abs) (n j : Nat) : Bool := s.odd.any fun o => o.word == n && o.slot == j
theorem find_said (s : Abs) (n j : Nat) : (s.odd.find? fun o => o.word == n && o.slot == j).isSome = saidAt s n j := by
  unfold saidAt
  rw [Bool.eq_iff_iff, List.find?_isSome, List.any_eq_true]
def partsR (r : Rule) : Part × Part := (r.front, r.back)
theorem regular_first (s : Abs) (w : Word) (j : Nat) : regular s w j = firstOf ((rulesOf s w.class_ j).map partsR) w.lemma_ := by
  rw [regular_eq]
  unfold firstOf
  rw [List.findSome?_map]
  rfl
def tried (φ : Phi) (sd : Bool) (k : Bytes) (o : Option Bytes) : Phi := if sd = true ∨ φ k ≠ none then φ else fset φ k o
def moreRule (s : Abs) (r : Rule) : Abs := { s with rules := s.rules ++ [r] }
theorem regular_more (s : Abs) (r : Rule) (w : Word) (j : Nat) : regular (moreRule s r) w j = (regular s w j).or (if r.class_ = w.class_ ∧ r.slot = j then applied r w.lemma_ else none) := by
  unfold regular moreRule
  rw [List.findSome?_append]
  congr 1
  rw [List.findSome?_singleton]
theorem rulesOf_more (s : Abs) (r : Rule) (c j : Nat) : rulesOf (moreRule s r) c j = rulesOf s c j ++ (if r.class_ = c ∧ r.slot = j then [r] else []) := by
  unfold rulesOf moreRule
  rw [List.filter_append]
  congr 1
  rw [List.filter_cons]
  by_cases h : r.class_ = c ∧ r.slot = j
  · rw [if_pos h, if_pos (by simp [h])]
    rfl
  · rw [if_neg h, if_neg (by simpa using h)]
    rfl
def midRule (s : Abs) (r : Rule) (i : Nat) : Phi := tabOf fun n j => if n < i then form (moreRule s r) n j else form s n j
theorem midRule_zero (s : Abs) (r : Rule) : midRule s r 0 = phi s := tabOf_ext fun n j => if_neg (Nat.not_lt_zero n)
theorem form_out {s : Abs} {n j : Nat} (h : s.words.length ≤ n) : form s n j = none := by
  unfold form
  rw [List.getElem?_eq_none h]
theorem midRule_all (s : Abs) (r : Rule) : midRule s r s.words.length = phi (moreRule s r) := tabOf_ext fun n j => by
  by_cases h : n < s.words.length
  · rw [if_pos h]
  · rw [if_neg h, form_out (by omega), form_out (by show s.words.length ≤ n; omega)]
theorem form_at {s : Abs} {n j : Nat} {w : Word} (h : s.words[n]? = some w) (hj : j < 16) : form s n j = match s.odd.find? fun o => o.word == n && o.slot == j with | some o => o.form | none => regular s w j := by
  unfold form
  rw [h]
  show (if SLOTS ≤ j then none else _) = _
  rw [if_neg (show ¬ SLOTS ≤ j from Nat.not_le.mpr hj)]
  rfl
theorem form_more_other {s : Abs} {r : Rule} {n j : Nat} {w : Word} (h : s.words[n]? = some w) (hne : ¬ (r.class_ = w.class_ ∧ r.slot = j)) : form (moreRule s r) n j = form s n j := by
  by_cases hj : j < 16
  · rw [form_at h hj, form_at (s := moreRule s r) h hj]
    show (match s.odd.find? _ with | some o => o.form | none => regular (moreRule s r) w j) = _
    cases s.odd.find? fun o => o.word == n && o.slot == j with
    | some o => rfl
    | none =>
      show regular (moreRule s r) w j = regular s w j
      rw [regular_more, if_neg hne, Option.or_none]
  · cases e : form s n j with
    | some x => exact (hj (form_in e).2).elim
    | none =>
      cases e2 : form (moreRule s r) n j with
      | none => rfl
      | some x => exact (hj (form_in e2).2).elim
theorem midRule_skip {s : Abs} {r : Rule} {i : Nat} {w : Word} (h : s.words[i]? = some w) (hc : ¬ r.class_ = w.class_) : midRule s r (i + 1) = midRule s r i := tabOf_ext fun n j => by
  by_cases h1 : n < i
  · rw [if_pos h1, if_pos (by omega)]
  · by_cases h2 : n = i
    · subst h2
      rw [if_pos (by omega), if_neg h1]
      exact form_more_other h fun z => hc z.1
    · rw [if_neg h1, if_neg (by omega)]
theorem midRule_try {s : Abs} {r : Rule} {i : Nat} {w : Word} (h : s.words[i]? = some w) (hc : r.class_ = w.class_) (hj : r.slot < 16) :
    midRule s r (i + 1) = tried (midRule s r i) (saidAt s i r.slot) [i, r.slot] (appl (partsR r) w.lemma_) := by
  have e1 : midRule s r i [i, r.slot] = form s i r.slot := by
    show (if i < i then _ else form s i r.slot) = _
    rw [if_neg (Nat.lt_irrefl i)]
  have e2 : form (moreRule s r) i r.slot = if saidAt s i r.slot = true then form s i r.slot else (form s i r.slot).or (appl (partsR r) w.lemma_) := by
    rw [form_at h hj, form_at (s := moreRule s r) h hj]
    show (match s.odd.find? _ with | some o => o.form | none => regular (moreRule s r) w r.slot) = _
    have hs := find_said s i r.slot
    cases e : s.odd.find? fun o => o.word == i && o.slot == r.slot with
    | some o =>
      rw [e] at hs
      rw [← hs]
      rfl
    | none =>
      rw [e] at hs
      rw [← hs]
      show regular (moreRule s r) w r.slot = (regular s w r.slot).or _
      rw [regular_more, if_pos ⟨hc, rfl⟩]
      rfl
  unfold tried
  rw [e1]
  by_cases ht : saidAt s i r.slot = true ∨ form s i r.slot ≠ none
  · rw [if_pos ht]
    refine tabOf_ext fun n j => ?_
    by_cases h1 : n < i
    · rw [if_pos h1, if_pos (by omega)]
    · by_cases h2 : n = i
      · subst h2
        rw [if_pos (by omega), if_neg h1]
        by_cases hj2 : r.slot = j
        · subst hj2
          rw [e2]
          rcases ht with ht | ht
          · rw [if_pos ht]
          · split
            · rfl
            · cases e : form s n r.slot with
              | none => exact (ht e).elim
              | some x => rfl
        · exact form_more_other h fun z => hj2 z.2
      · rw [if_neg h1, if_neg (by omega)]
  · rw [if_neg ht]
    unfold midRule
    rw [tabOf_fset]
    refine tabOf_ext fun n j => ?_
    by_cases h1 : n < i
    · rw [if_pos (show n < i + 1 by omega), if_neg (fun z => by have := z.1; omega), if_pos h1]
    · by_cases h2 : n = i
      · subst h2
        rw [if_pos (show n < n + 1 by omega)]
        by_cases hj2 : j = r.slot
        · subst hj2
          rw [if_pos ⟨rfl, rfl⟩, e2, if_neg (fun z => ht (.inl z))]
          have : form s n r.slot = none := by
            cases e : form s n r.slot with
            | none => rfl
            | some x => exact (ht (.inr (by rw [e]; exact fun z => nomatch z))).elim
          rw [this, Option.none_or]
        · rw [if_neg (fun z => hj2 z.2), if_neg h1]
          exact form_more_other h fun z => hj2 z.2.symm
      · rw [if_neg (show ¬ n < i + 1 by omega), if_neg (fun z => h2 z.1), if_neg h1]
def moreWord (s : Abs) (w : Word) : Abs := { s with words := s.words ++ [w] }
theorem form_more_old {s : Abs} {w : Word} {n j : Nat} (h : n < s.words.length) : form (moreWord s w) n j = form s n j := by
  unfold form moreWord
  rw [List.getElem?_append_left h]
  rfl
theorem said_new {s : Abs} (ok : Ok s) (j : Nat) : saidAt s s.words.length j = false := by
  unfold saidAt
  rw [List.any_eq_false]
  intro o ho
  have := (ok.od o ho).wd
  intro z
  rw [Bool.and_eq_true, beq_iff_eq] at z
  omega
def midWord (s : Abs) (w : Word) (i : Nat) : Phi := tabOf fun n j => if n = s.words.length then (if j < i then form (moreWord s w) n j else none) else form s n j
theorem midWord_zero (s : Abs) (w : Word) : midWord s w 0 = phi s := tabOf_ext fun n j => by
  by_cases h : n = s.words.length
  · rw [if_pos h, if_neg (Nat.not_lt_zero j), form_out (by omega)]
  · rw [if_neg h]
theorem midWord_all (s : Abs) (w : Word) : midWord s w 16 = phi (moreWord s w) := tabOf_ext fun n j => by
  by_cases h : n = s.words.length
  · rw [if_pos h]
    by_cases hj : j < 16
    · rw [if_pos hj]
    · rw [if_neg hj]
      cases e : form (moreWord s w) n j with
      | none => rfl
      | some x => exact (hj (form_in e).2).elim
  · rw [if_neg h]
    by_cases h2 : n < s.words.length
    · exact (form_more_old h2).symm
    · rw [form_out (by omega), form_out (by show (s.words ++ [w]).length ≤ n; rw [List.length_append]; show s.words.length + 1 ≤ n; omega)]
theorem midWord_try {s : Abs} {w : Word} (ok : Ok s) {i : Nat} (hi : i < 16) :
    midWord s w (i + 1) = tried (midWord s w i) (saidAt s s.words.length i) [s.words.length, i] (firstOf ((rulesOf s w.class_ i).map partsR) w.lemma_) := by
  have e1 : midWord s w i [s.words.length, i] = none := by
    show (if s.words.length = s.words.length then (if i < i then _ else none) else _) = none
    rw [if_pos rfl, if_neg (Nat.lt_irrefl i)]
  have hs := said_new ok i
  have e2 : form (moreWord s w) s.words.length i = firstOf ((rulesOf s w.class_ i).map partsR) w.lemma_ := by
    have hw : (moreWord s w).words[s.words.length]? = some w := by
      show (s.words ++ [w])[s.words.length]? = some w
      rw [List.getElem?_append_right (Nat.le_refl _), Nat.sub_self]
      rfl
    rw [form_at hw hi]
    have hf := find_said s s.words.length i
    rw [hs] at hf
    show (match s.odd.find? _ with | some o => o.form | none => regular (moreWord s w) w i) = _
    cases e : s.odd.find? fun o => o.word == s.words.length && o.slot == i with
    | some o => rw [e] at hf; cases hf
    | none => exact regular_first s w i
  unfold tried
  rw [if_neg (by rw [hs, e1]; simp)]
  unfold midWord
  rw [tabOf_fset]
  refine tabOf_ext fun n j => ?_
  by_cases h : n = s.words.length
  · rw [if_pos h]
    by_cases h2 : j = i
    · rw [if_pos (show j < i + 1 by omega), if_pos ⟨h, h2⟩, h, h2, e2]
    · rw [if_neg (show ¬ (n = s.words.length ∧ j = i) from fun z => h2 z.2), if_pos h]
      by_cases h3 : j < i
      · rw [if_pos h3, if_pos (by omega)]
      · rw [if_neg h3, if_neg (by omega)]
  · rw [if_neg h, if_neg (show ¬ (n = s.words.length ∧ j = i) from fun z => h z.1), if_neg h]
def moreOdd (s : Abs) (n j : Nat) (x : Bytes) : Abs := { s with odd := s.odd ++ [⟨n, j, if x = [] then none else some x⟩] }
theorem phi_odd {s : Abs} {n j : Nat} {x : Bytes} (hn : n < s.words.length) (hj : j < 16) (hs : saidAt s n j = false) : phi (moreOdd s n j x) = fset (phi s) [n, j] (if x = [] then none else some x) := by
  unfold phi
  rw [tabOf_fset]
  refine tabOf_ext fun a b => ?_
  have hf := find_said s n j
  rw [hs] at hf
  by_cases h : a = n ∧ b = j
  · rw [if_pos h]
    obtain ⟨rfl, rfl⟩ := h
    obtain ⟨w, hw⟩ : ∃ w, s.words[a]? = some w := ⟨_, List.getElem?_eq_getElem hn⟩
    rw [form_at (s := moreOdd s a b x) hw hj]
    show (match (s.odd ++ [(⟨a, b, if x = [] then none else some x⟩ : Odd)]).find? _ with | some o => o.form | none => _) = _
    rw [List.find?_append]
    cases e : s.odd.find? fun o => o.word == a && o.slot == b with
    | some o => rw [e] at hf; cases hf
    | none =>
      rw [Option.none_or, List.find?_cons]
      simp
  · rw [if_neg h]
    unfold form
    show (match s.words[a]? with | none => none | some w => if SLOTS ≤ b then none else match (s.odd ++ [(⟨n, j, if x = [] then none else some x⟩ : Odd)]).find? _ with | some o => o.form | none => regular s w b) = _
    cases s.words[a]? with
    | none => rfl
    | some w =>
      show (if SLOTS ≤ b then none else _) = (if SLOTS ≤ b then none else _)
      have e : (s.odd ++ [(⟨n, j, if x = [] then none else some x⟩ : Odd)]).find? (fun o => o.word == a && o.slot == b) = s.odd.find? fun o => o.word == a && o.slot == b := by
        rw [List.find?_append]
        have : ([⟨n, j, if x = [] then none else some x⟩] : List Odd).find? (fun o => o.word == a && o.slot == b) = none := by
          rw [List.find?_cons]
          have : (n == a && j == b) = false := by
            cases e : (n == a && j == b) with
            | false => rfl
            | true =>
              rw [Bool.and_eq_true, beq_iff_eq, beq_iff_eq] at e
              exact (h ⟨e.1.symm, e.2.symm⟩).elim
          show (match (n == a && j == b) with | true => _ | false => _) = none
          rw [this]
          rfl
        rw [this, Option.or_none]
      rw [e]
      rfl
end Bw
set_option Elab.async false
set_option linter.all false
set_option maxRecDepth 100000
namespace L2
open PySem PySem.Spec PyProof.Rows
abbrev Key := Sum Int Str
def keyIs : Key → Value → Bool
  | .inl k, v => Value.isInt k v
  | .inr x, v => Value.isStrOf x v
def keyH (w : World) : Key → Int
  | .inl k => hashInt k
  | .inr x => hashStr w x
theorem keyIs_shape : ∀ {k : Key} {v : Value}, keyIs k v = true → (∃ i t, k = Sum.inl i ∧ v = Value.int i t) ∨ (∃ x t, k = Sum.inr x ∧ v = Value.str x t)
  | .inl i, v, h => by
    obtain ⟨t, e⟩ := Value.isInt_shape (k := i) (v := v) h
    exact .inl ⟨i, t, rfl, e⟩
  | .inr x, v, h => by
    obtain ⟨t, e⟩ := Value.isStrOf_shape (x := x) (v := v) h
    exact .inr ⟨x, t, rfl, e⟩
theorem keyIs_int (i : Int) (t : Tok) : keyIs (.inl i) (.int i t) = true := by simp [keyIs, Value.isInt]
theorem keyIs_str (x : Str) (t : Tok) : keyIs (.inr x) (.str x t) = true := by simp [keyIs, Value.isStrOf]
theorem key_ll (a b : Int) : decide ((Sum.inl a : Key) = Sum.inl b) = (a == b) := by
  by_cases e : a = b
  · subst e; simp
  · have h : ¬ (Sum.inl a : Key) = Sum.inl b := fun q => e (Sum.inl.inj q)
    rw [decide_eq_false h]
    exact (beq_eq_false_iff_ne.mpr e).symm
theorem key_rr (a b : Str) : decide ((Sum.inr a : Key) = Sum.inr b) = decide (a = b) := by
  by_cases e : a = b
  · subst e; simp
  · have h : ¬ (Sum.inr a : Key) = Sum.inr b := fun q => e (Sum.inr.inj q)
    rw [decide_eq_false h, decide_eq_false e]
theorem key_lr (a : Int) (b : Str) : decide ((Sum.inl a : Key) = Sum.inr b) = false := decide_eq_false (fun q => nomatch q)
theorem key_rl (a : Str) (b : Int) : decide ((Sum.inr a : Key) = Sum.inl b) = false := decide_eq_false (fun q => nomatch q)
def mixKind (prog : Program) (w : World) : PySem.KeyKind prog w Key where
  is := keyIs
  hash := keyH w
  inj := fun v a b ha hb => by
    rcases keyIs_shape ha with ⟨i, t, rfl, rfl⟩ | ⟨x, t, rfl, rfl⟩
    · rcases keyIs_shape hb with ⟨j, u, rfl, e⟩ | ⟨y, u, rfl, e⟩
      · injection e with e1 _; rw [e1]
      · exact nomatch e
    · rcases keyIs_shape hb with ⟨j, u, rfl, e⟩ | ⟨y, u, rfl, e⟩
      · exact nomatch e
      · injection e with e1 _; rw [e1]
  byValue := fun k v h => by
    rcases keyIs_shape h with ⟨i, t, rfl, rfl⟩ | ⟨x, t, rfl, rfl⟩ <;> rfl
  pyHash := fun hv h => by
    rcases keyIs_shape hv with ⟨i, t, rfl, rfl⟩ | ⟨x, t, rfl, rfl⟩
    · exact wpAny_pyHash_int h
    · exact wpAny_pyHash_str h
  eqBool := fun hu hv h => by
    rcases keyIs_shape hu with ⟨i, t, rfl, rfl⟩ | ⟨x, t, rfl, rfl⟩
    · rcases keyIs_shape hv with ⟨j, u, rfl, rfl⟩ | ⟨y, u, rfl, rfl⟩
      · rw [key_ll] at h; exact wpAny_eqBool_int h
      · rw [key_lr] at h; exact SeqAt.EqAt.int_str i t y u _ _ _ _ h
    · rcases keyIs_shape hv with ⟨j, u, rfl, rfl⟩ | ⟨y, u, rfl, rfl⟩
      · rw [key_rl] at h; exact SeqAt.EqAt.str_int x t j u _ _ _ _ h
      · rw [key_rr] at h; exact wpAny_eqBool_str h
  «strs» := fun k x t v h => by
    rcases keyIs_shape h with ⟨i, u, rfl, e⟩ | ⟨y, u, rfl, e⟩
    · exact nomatch e
    · injection e with e1 _
      subst e1
      cases v <;> rfl
theorem mixKind_int (prog : Program) (w : World) (i : Int) (t : Tok) : (mixKind prog w).is (.inl i) (.int i t) = true := keyIs_int i t
theorem mixKind_str (prog : Program) (w : World) (x : Str) (t : Tok) : (mixKind prog w).is (.inr x) (.str x t) = true := keyIs_str x t
end L2
namespace L2
open PySem PySem.Spec PyProof.Rows
inductive V where
  | non | bl (b : Bool) | int (i : Int) | str (x : Str) | byt (b : Array UInt8) | flt (b : UInt64) | ref (a : Addr) | ty (n : String)
  deriving DecidableEq
def RelV : V → Value → Prop
  | .non, u => u = Value.none
  | .bl b, u => u = Value.bool b
  | .int i, u => ∃ t, u = Value.int i t
  | .str x, u => ∃ t, u = Value.str x t
  | .byt b, u => ∃ t, u = Value.bytes b t
  | .flt b, u => ∃ t, u = Value.float b t
  | .ref a, u => u = Value.ref a
  | .ty n, u => u = Value.type n
abbrev Vals : List V → List Value → Prop := Paired RelV
theorem Vals.length {xs : List V} {us : List Value} (r : Vals xs us) : xs.length = us.length := Paired.length r
theorem Vals.get : ∀ {xs : List V} {us : List Value} {i : Nat} {x : V}, Vals xs us → xs[i]? = some x → ∃ u, us[i]? = some u ∧ RelV x u
  | _, _, _, _, .nil, e => by simp at e
  | _, _, 0, _, .cons r _, e => by simp at e; subst e; exact ⟨_, rfl, r⟩
  | _, _, i + 1, x, .cons _ t, e => by
    obtain ⟨u, h1, h2⟩ := Vals.get (i := i) (x := x) t (by simpa using e)
    exact ⟨u, by simpa using h1, h2⟩
theorem Vals.set {x : V} {u : Value} (r : RelV x u) : ∀ {xs : List V} {us : List Value} (i : Nat), Vals xs us → Vals (xs.set i x) (us.set i u)
  | _, _, _, .nil => .nil
  | _, _, 0, .cons _ t => .cons r t
  | _, _, i + 1, .cons q t => .cons q (Vals.set r i t)
theorem Vals.append : ∀ {xs ys : List V} {us ws : List Value}, Vals xs us → Vals ys ws → Vals (xs ++ ys) (us ++ ws)
  | _, _, _, _, .nil, s => s
  | _, _, _, _, .cons r t, s => .cons r (Vals.append t s)
theorem Vals.take : ∀ {xs : List V} {us : List Value} (n : Nat), Vals xs us → Vals (xs.take n) (us.take n)
  | _, _, 0, _ => .nil
  | _, _, _ + 1, .nil => .nil
  | _, _, n + 1, .cons r t => .cons r (Vals.take n t)
theorem Vals.drop : ∀ {xs : List V} {us : List Value} (n : Nat), Vals xs us → Vals (xs.drop n) (us.drop n)
  | _, _, 0, r => r
  | _, _, _ + 1, .nil => .nil
  | _, _, n + 1, .cons _ t => Vals.drop n t
theorem Vals.none_of : ∀ {xs : List V} {us : List Value} {i : Nat}, Vals xs us → xs[i]? = none → us[i]? = none := fun {xs us i} r e => by
  have h1 := r.length
  have h2 : xs.length ≤ i := List.getElem?_eq_none_iff.mp e
  exact List.getElem?_eq_none_iff.mpr (by omega)
def RelO : Option V → Option Value → Prop
  | some v, some u => RelV v u
  | none, none => True
  | _, _ => False
def KV {κ : Type} : List (κ × V) → List (κ × Value) → Prop := Paired fun (p : κ × V) (q : κ × Value) => p.1 = q.1 ∧ RelV p.2 q.2
def kV : Key → V
  | .inl i => .int i
  | .inr x => .str x
inductive HO where
  /-- a list -/
  | lst (xs : List V)
  /-- a tuple (never changes) -/
  | tup (xs : List V)
  /-- a dict whose keys are ints and texts; one whose keys are tuples of ints and texts (the empty one is both) -/
  | dK (kvs : List (Key × V)) | dT (kvs : List (List Key × V))
  /-- a set of ints: its members, its size -/
  | set (S : Int → Bool) (n : Nat)
  /-- an instance of the class at C, its dict at dx, its attributes -/
  | ins (C dx : Addr) (fs : List (Str × V))
  /-- the dict of the instance at x -/
  | own (x : Addr)
  /-- the dict of an exception -/
  | xd (fs : List (Str × V))
  /-- a bound method, f of x -/
  | met (f x : Addr)
  /-- a range object lo, lo + 1, .. below hi -/
  | rng (lo hi : Int)
  /-- a thing that is known to the object (the script; a dict while a loop walks it): read, never written while it is so -/
  | frz (o : Obj) (u : HO)
  /-- a code object's table -/
  | tbl (ps : Array Value)
  /-- any other thing, by what is true of its one object (a def of one's own: SetO a S n := HO.ext fun h => ..) -/
  | ext (φ : Heap → Prop)
abbrev Hp := Addr → Option HO
def upd (H : Hp) (a : Addr) (o : HO) : Hp := fun b => if b = a then some o else H b
theorem upd_same {H : Hp} {a : Addr} {o : HO} : upd H a o a = some o := by unfold upd; rw [if_pos rfl]
theorem upd_ne {H : Hp} {a b : Addr} {o : HO} (h : b ≠ a) : upd H a o b = H b := by unfold upd; rw [if_neg h]
theorem upd_upd {H : Hp} {a : Addr} {o u : HO} : upd (upd H a o) a u = upd H a u := by
  funext b; unfold upd; split <;> rfl
theorem ne_of {H : Hp} {a b : Addr} {o u : HO} (h : H a = some o) (h' : H b = some u) (d : o ≠ u) : a ≠ b := by
  intro e; subst e; rw [h] at h'; exact d (Option.some.inj h')
theorem ne_of_none {H : Hp} {a b : Addr} {o : HO} (h : H a = some o) (h' : H b = none) : a ≠ b := by
  intro e; subst e; rw [h] at h'; cases h'
section
variable (P : Program) (w : World)
def ObjOk (H : Hp) (h : Heap) (a : Addr) : HO → Prop
  | .lst xs => xs.length ≤ sizeLine ∧ ∃ (its : List Value) (n : Nat), Vals xs its ∧ h.get? a = some { cls := .type "list", data := .seq its.toArray n }
  | .tup xs => xs.length ≤ sizeLine ∧ ∃ its : List Value, Vals xs its ∧ IsTup h a its.toArray
  | .dK kvs => kvs.length ≤ sizeLine ∧ (a == sysModules) = false ∧ ∃ vs, KV kvs vs ∧ h.DictOf (mixKind P w) a vs
  | .dT kvs => kvs.length ≤ sizeLine ∧ (a == sysModules) = false ∧ ∃ xs : List (List Key × Addr × Value),
      Paired (fun (p : List Key × V) (q : List Key × Addr × Value) => p.1 = q.1 ∧ H q.2.1 = some (.tup (p.1.map kV)) ∧ RelV p.2 q.2.2) kvs xs ∧
      ∃ o es ep, h.get? a = some o ∧ o.ExactDict ∧ o.data = .dict es ep ∧ es.toList = xs.map (entryOfKey (tupleKind (mixKind P w))) ∧ (xs.map (·.1)).Nodup
  | .set S n => h.SetOf (intKind P w) a S n
  | .ins C dx fs => H dx = some (.own a) ∧ fs.length ≤ 1000 ∧ dx ≠ a ∧ h.get? a = some (PySem.W.instObj C dx) ∧
      ∃ mA, h.Ns1 dx mA ∧ (∀ f, RelO (fs.lookup f) (mA f)) ∧ PySem.Within mA (fs.map (·.1))
  | .own _ => ∃ o, h.get? a = some o
  | .xd fs => ∃ mA, h.Ns1 a mA ∧ ∀ f, RelO (fs.lookup f) (mA f)
  | .rng lo hi => ∃ t u v, h.get? a = some { cls := .type "range", data := .fields #[.int lo t, .int hi u, .int 1 v] }
  | .frz o u => h.get? a = some o ∧ ObjOk H h a u
  | .tbl ps => h.get? a = some { cls := .none, data := .fields ps }
  | .met f x => h.get? a = some (PySem.W.methodObj (.ref f) (.ref x))
  | .ext φ => φ h ∧ (∃ o, h.get? a = some o) ∧ ∀ h1 h2 : Heap, φ h1 → (∀ o, h1.get? a = some o → h2.get? a = some o) → φ h2
def HOk (H : Hp) (h : Heap) : Prop := ∀ a o, H a = some o → ObjOk P w H h a o
end
section
variable {P : Program} {w : World} {H H' : Hp} {h h' : Heap} {a : Addr} {o : HO}
theorem ObjOk.lt (x : ObjOk P w H h a o) : a < h.objs.size := by
  cases o with
  | lst xs => obtain ⟨_, _, _, _, e⟩ := x; exact Heap.lt_size e
  | tup xs => obtain ⟨_, _, _, p⟩ := x; exact p.lt
  | dK kvs => obtain ⟨_, _, _, _, o, _, _, e, _⟩ := x; exact Heap.lt_size e
  | dT kvs => obtain ⟨_, _, _, _, o, _, _, e, _⟩ := x; exact Heap.lt_size e
  | set S n => obtain ⟨o, _, _, _, e, _⟩ := x; exact Heap.lt_size e
  | ins C dx fs => obtain ⟨_, _, _, e, _⟩ := x; exact Heap.lt_size e
  | own y => obtain ⟨_, e⟩ := x; exact Heap.lt_size e
  | xd fs => obtain ⟨_, ⟨_, _, _, e, _⟩, _⟩ := x; exact Heap.lt_size e
  | rng lo hi => obtain ⟨_, _, _, e⟩ := x; exact Heap.lt_size e
  | frz ob u => obtain ⟨e, _⟩ := x; exact Heap.lt_size e
  | tbl ps => exact Heap.lt_size (show h.get? a = some _ from x)
  | met f y => exact Heap.lt_size (show h.get? a = some _ from x)
  | ext φ => obtain ⟨_, ⟨_, e⟩, _⟩ := x; exact Heap.lt_size e
theorem Paired.mapP {α β : Type} {F G : α → β → Prop} : ∀ {l₁ : List α} {l₂ : List β}, Paired F l₁ l₂ → (∀ a b, F a b → G a b) → Paired G l₁ l₂
  | _, _, .nil, _ => .nil
  | _, _, .cons r t, f => .cons (f _ _ r) (Paired.mapP t f)
theorem ObjOk.stay (x : ObjOk P w H h a o) (k : ∀ b u, (b = a ∨ H b = some (.own a)) → h.get? b = some u → h'.get? b = some u)
    (ho : ∀ b, H b = some (.own a) → H' b = some (.own a)) (ht : ∀ b xs, H b = some (.tup xs) → H' b = some (.tup xs)) : ObjOk P w H' h' a o := by
  induction o with
  | lst xs => obtain ⟨z, its, n, r, e⟩ := x; exact ⟨z, its, n, r, k _ _ (.inl rfl) e⟩
  | tup xs => obtain ⟨z, its, r, ob, e, c⟩ := x; exact ⟨z, its, r, ob, k _ _ (.inl rfl) e, c⟩
  | dK kvs => obtain ⟨z, y, vs, r, ob, es, ep, e, c⟩ := x; exact ⟨z, y, vs, r, ob, es, ep, k _ _ (.inl rfl) e, c⟩
  | dT kvs =>
    obtain ⟨z, y, xs, r, ob, es, ep, e, c⟩ := x
    exact ⟨z, y, xs, Paired.mapP r fun p q z => ⟨z.1, ht _ _ z.2.1, z.2.2⟩, ob, es, ep, k _ _ (.inl rfl) e, c⟩
  | set S n => obtain ⟨ob, es, ep, t, e, c⟩ := x; exact ⟨ob, es, ep, t, k _ _ (.inl rfl) e, c⟩
  | ins C dx fs =>
    obtain ⟨d, z, ne, e, mA, ⟨od, es, ep, e2, c⟩, r⟩ := x
    exact ⟨ho _ d, z, ne, k _ _ (.inl rfl) e, mA, ⟨od, es, ep, k _ _ (.inr d) e2, c⟩, r⟩
  | own y => obtain ⟨ob, e⟩ := x; exact ⟨ob, k _ _ (.inl rfl) e⟩
  | xd fs => obtain ⟨mA, ⟨od, es, ep, e, c⟩, r⟩ := x; exact ⟨mA, ⟨od, es, ep, k _ _ (.inl rfl) e, c⟩, r⟩
  | rng lo hi => obtain ⟨t, u, v, e⟩ := x; exact ⟨t, u, v, k _ _ (.inl rfl) e⟩
  | frz ob u ih => obtain ⟨e, q⟩ := x; exact ⟨k _ _ (.inl rfl) e, ih q⟩
  | tbl ps =>
    have e : h.get? a = some { cls := .none, data := .fields ps } := x
    show h'.get? a = some { cls := .none, data := .fields ps }
    exact k a _ (.inl rfl) e
  | met f y =>
    have e : h.get? a = some (PySem.W.methodObj (.ref f) (.ref y)) := x
    show h'.get? a = some (PySem.W.methodObj (.ref f) (.ref y))
    exact k a _ (.inl rfl) e
  | ext φ => obtain ⟨p, ⟨o, e⟩, st⟩ := x; exact ⟨st _ _ p fun o q => k _ _ (.inl rfl) q, ⟨o, k _ _ (.inl rfl) e⟩, st⟩
theorem HOk.lt (x : HOk P w H h) (e : H a = some o) : a < h.objs.size := (x a o e).lt
theorem HOk.fresh (x : HOk P w H h) (e : h.objs.size ≤ a) : H a = none := by
  cases q : H a with
  | none => rfl
  | some u => exact absurd (Nat.lt_of_lt_of_le (x.lt q) e) (Nat.lt_irrefl _)
theorem HOk.kept (x : HOk P w H h) (k : ∀ b u, h.get? b = some u → h'.get? b = some u) : HOk P w H h' := fun a o e =>
  (x a o e).stay (fun b u _ q => k b u q) (fun _ q => q) fun _ _ q => q
theorem HOk.laid (x : HOk P w H h) (k : ∀ b u, h.get? b = some u → h'.get? b = some u) (hp : h.objs.size ≤ a) (new : ObjOk P w (upd H a o) h' a o) : HOk P w (upd H a o) h' := fun b u e => by
  have hn := x.fresh hp
  by_cases hb : b = a
  · subst hb; rw [upd_same] at e; cases e; exact new
  · rw [upd_ne hb] at e
    exact (x b u e).stay (fun c v _ q => k c v q) (fun c q => by rw [upd_ne (ne_of_none q hn)]; exact q) fun c xs q => by rw [upd_ne (ne_of_none q hn)]; exact q
end
def Rd (H : Hp) (a : Addr) (u : HO) : Prop := H a = some u ∨ ∃ o, H a = some (.frz o u)
theorem Rd.of {H : Hp} {a : Addr} {u : HO} (h : H a = some u) : Rd H a u := .inl h
theorem Rd.ok {P : Program} {w : World} {H : Hp} {h : Heap} {a : Addr} {u : HO} (r : Rd H a u) (x : HOk P w H h) : ObjOk P w H h a u := by
  rcases r with r | ⟨o, r⟩
  · exact x a u r
  · obtain ⟨_, q⟩ := x a _ r
    exact q
def Mut : Option HO → Prop
  | some (.lst _) => True
  | some (.dK _) => True
  | some (.dT _) => True
  | some (.set _ _) => True
  | some (.ins _ _ _) => True
  | some (.ext _) => True
  | _ => False
section
variable {P : Program} {w : World} {H : Hp} {h h' : Heap} {x e : Addr} {o' : HO}
theorem HOk.write (ok : HOk P w H h) (mu : Mut (H x)) (he : e = x ∨ H e = some (.own x)) (k : ∀ b u, b ≠ e → h.get? b = some u → h'.get? b = some u) (heo : ∃ u, h'.get? e = some u)
    (new : ObjOk P w (upd H x o') h' x o') : HOk P w (upd H x o') h' := fun b u q => by
  have nown : ∀ c y, H c = some (.own y) → c ≠ x := fun c y r z => by subst z; rw [r] at mu; exact mu
  have ntup : ∀ c xs, H c = some (.tup xs) → c ≠ x := fun c xs r z => by subst z; rw [r] at mu; exact mu
  by_cases hb : b = x
  · subst hb; rw [upd_same] at q; cases q; exact new
  · rw [upd_ne hb] at q
    by_cases hbe : b = e
    · have q' : H b = some (.own x) := by
        rcases he with z | z
        · exact absurd (hbe.trans z) hb
        · rw [hbe]; exact z
      rw [q] at q'; cases q'
      obtain ⟨v, hv⟩ := heo
      exact ⟨v, by rw [hbe]; exact hv⟩
    · refine (ok b u q).stay (fun c v hc r => k c v ?_ r) (fun c r => by rw [upd_ne (nown c b r)]; exact r) fun c xs r => by rw [upd_ne (ntup c xs r)]; exact r
      rcases hc with rfl | hc
      · exact hbe
      · rintro rfl
        rcases he with z | z
        · exact nown c b hc z
        · rw [hc] at z; cases z; exact hb rfl
end
structure Un (fs ex : List Addr) (H H' : Hp) (h h' : Heap) : Prop where
  keep : ∀ b o, h.get? b = some o → H b = none → b ∉ fs → b ∉ ex → h'.get? b = some o
  slot : ∀ b o, h.get? b = some o → H b = none → b ∈ fs → b ∉ ex → ∃ sl, h'.get? b = some { o with slots := sl }
  free : ∀ b o, h.get? b = some o → H b = none → b ∉ ex → H' b = none
  there : ∀ b o, h.get? b = some o → b ∉ ex → ∃ o', h'.get? b = some o'
  tups : ∀ b xs, H b = some (.tup xs) → H' b = some (.tup xs)
  frzs : ∀ b o u, H b = some (.frz o u) → H' b = some (.frz o u)
  tbls : ∀ b ps, H b = some (.tbl ps) → ∃ more, H' b = some (.tbl (ps ++ more))
section
variable {fs fs' ex ex' : List Addr} {H H1 H2 : Hp} {h h1 h2 h' : Heap} {a x e : Addr} {o : HO}
theorem Un.any (u : Un fs ex H H1 h h1) {b : Addr} {ob : Obj} (q : h.get? b = some ob) (n : H b = none) (hx : b ∉ ex) : ∃ sl, h1.get? b = some { ob with slots := sl } := by
  by_cases hb : b ∈ fs
  · exact u.slot b ob q n hb hx
  · exact ⟨ob.slots, u.keep b ob q n hb hx⟩
theorem Un.trans (a : Un fs ex H H1 h h1) (b : Un fs ex H1 H2 h1 h2) : Un fs ex H H2 h h2 where
  keep := fun c ob q n hc hx => b.keep c ob (a.keep c ob q n hc hx) (a.free c ob q n hx) hc hx
  slot := fun c ob q n hc hx => by
    obtain ⟨sl, e1⟩ := a.slot c ob q n hc hx
    obtain ⟨sl', e2⟩ := b.slot c _ e1 (a.free c ob q n hx) hc hx
    exact ⟨sl', e2⟩
  free := fun c ob q n hx => by
    obtain ⟨o', e1⟩ := a.there c ob q hx
    exact b.free c o' e1 (a.free c ob q n hx) hx
  there := fun c ob q hx => by
    obtain ⟨o', e1⟩ := a.there c ob q hx
    exact b.there c o' e1 hx
  tups := fun c xs q => b.tups c xs (a.tups c xs q)
  frzs := fun c ob xs q => b.frzs c ob xs (a.frzs c ob xs q)
  tbls := fun c ps q => by
    obtain ⟨m1, e1⟩ := a.tbls c ps q
    obtain ⟨m2, e2⟩ := b.tbls c _ e1
    exact ⟨m1 ++ m2, by rw [e2, Array.append_assoc]⟩
theorem Un.kept (k : ∀ b u, h.get? b = some u → h'.get? b = some u) : Un fs ex H H h h' :=
  ⟨fun b ob q _ _ _ => k b ob q, fun b ob q _ _ _ => ⟨ob.slots, k b ob q⟩, fun _ _ _ n _ => n, fun b ob q _ => ⟨ob, k b ob q⟩, fun _ _ q => q, fun _ _ _ q => q, fun _ ps q => ⟨#[], by rw [q]; simp⟩⟩
theorem Un.refl : Un fs ex H H h h := Un.kept fun _ _ q => q
theorem Un.laid (k : ∀ b u, h.get? b = some u → h'.get? b = some u) (hp : h.objs.size ≤ a) (hn : H a = none) : Un fs ex H (upd H a o) h h' where
  keep := fun b u q _ _ _ => k b u q
  slot := fun b u q _ _ _ => ⟨u.slots, k b u q⟩
  free := fun b u q n _ => by rw [upd_ne (Nat.ne_of_lt (Nat.lt_of_lt_of_le (Heap.lt_size q) hp))]; exact n
  there := fun b u q _ => ⟨u, k b u q⟩
  tups := fun b xs q => by rw [upd_ne (ne_of_none q hn)]; exact q
  frzs := fun b u xs q => by rw [upd_ne (ne_of_none q hn)]; exact q
  tbls := fun b ps q => ⟨#[], by rw [upd_ne (ne_of_none q hn), q]; simp⟩
theorem Un.write (mu : Mut (H x)) (he : e = x ∨ H e = some (.own x)) (k : ∀ b u, b ≠ e → h.get? b = some u → h'.get? b = some u) (heo : ∃ u, h'.get? e = some u) : Un fs ex H (upd H x o) h h' := by
  have hx : ∀ b, H b = none → b ≠ x := fun b n z => by subst z; rw [n] at mu; exact mu
  have hb : ∀ b, H b = none → b ≠ e := fun b n z => by
    subst z
    rcases he with r | r
    · exact hx b n r
    · rw [n] at r; cases r
  have hm : ∀ b u, H b = some u → ¬ Mut (some u) → b ≠ x := fun b u q nm z => by subst z; rw [q] at mu; exact nm mu
  refine ⟨fun b u q n _ _ => k b u (hb b n) q, fun b u q n _ _ => ⟨u.slots, k b u (hb b n) q⟩, fun b u q n _ => by rw [upd_ne (hx b n)]; exact n, fun b u q _ => ?_,
    fun b xs q => by rw [upd_ne (hm b _ q fun z => z)]; exact q, fun b u xs q => by rw [upd_ne (hm b _ q fun z => z)]; exact q, fun b ps q => ⟨#[], by rw [upd_ne (hm b _ q fun z => z), q]; simp⟩⟩
  by_cases hbe : b = e
  · subst hbe; exact heo
  · exact ⟨u, k b u hbe q⟩
theorem Un.mono (u : Un fs ex H H1 h h1) (hs : ∀ b ∈ fs, b ∈ fs') (hx : ∀ b ∈ ex, b ∈ ex') : Un fs' ex' H H1 h h1 :=
  ⟨fun b ob q n hb he => u.keep b ob q n (fun z => hb (hs b z)) fun z => he (hx b z), fun _ _ q n _ he => u.any q n fun z => he (hx _ z), fun b ob q n he => u.free b ob q n fun z => he (hx b z), fun b ob q he => u.there b ob q fun z => he (hx b z), u.tups, u.frzs, u.tbls⟩
end
def trk (h : Heap) (H : Hp) : List Addr := (List.range h.objs.size).filter fun a => (H a).isSome
def hidT (h : Heap) (H : Hp) : Heap := PySem.W.hideAll h (trk h H)
theorem hidT_size (h : Heap) (H : Hp) : (hidT h H).objs.size = h.objs.size := PySem.W.hideAll_size _ _
theorem hidT_get {h : Heap} {H : Hp} {b : Addr} {o : Obj} (e : h.get? b = some o) (n : H b = none) : (hidT h H).get? b = some o :=
  PySem.W.hideAll_get _ e fun hm => by
    have q : (H b).isSome = true := (List.mem_filter.mp hm).2
    rw [n] at q; simp at q
theorem of_hidT {h : Heap} {H : Hp} {b : Addr} {o : Obj} (e : (hidT h H).get? b = some o) : h.get? b = some o ∧ H b = none := by
  have e' : h.get? b = some o := PySem.W.of_hideAll (trk h H) e
  refine ⟨e', ?_⟩
  cases q : H b with
  | none => rfl
  | some x =>
    have hm : b ∈ trk h H := List.mem_filter.mpr ⟨List.mem_range.mpr (Heap.lt_size e'), by simp [q]⟩
    have z : (hidT h H).get? b = none := PySem.W.hideAll_none (trk h H) hm
    rw [z] at e; cases e
def allNews (g h : Heap) (L : Addr) : List (Addr × Obj) := (List.range h.objs.size).filterMap fun a => if a = L ∨ (g.get? a).isSome = true then none else (h.get? a).map fun o => (a, o)
def rest (g h : Heap) (L d : Addr) : List (Addr × Obj) := (allNews g h L).filter fun p => decide (p.1 ≠ d)
end L2
namespace L2
open PySem PySem.Spec PyProof.Rows
structure Mod (K : PySem.W.Frag) (mg : Str → Option Value) (base : Heap) : Prop where
  kin : K.In base
  glob : base.Ns mainGlobals mg
  blt : ∃ mb, base.Ns builtinsNs mb ∧ ∀ x : Str, x ≠ "__name__" → mb x = bootBuiltins x
  nolimit : base.NoLimit
structure Cx where
  prog : Program
  w : World
  K : PySem.W.Frag
  mg : Str → Option Value
  base : Heap
  A : Around
  N : List Str
  s_0 : Shared
  H_0 : Hp
  env : Env
  outer : List Env
  stack : List Env
  ex : List Addr
  fn : Str → Bool
  calm : Bool
  pn : List (Addr × Obj)
  xe : Value → Shared → Prop
def frs (l : List Env) : List Addr := l.filterMap (·.frame)
abbrev Cx.fs (X : Cx) : List Addr := frs X.outer
def Vis (sc : Scope) (x : Str) : Prop := sc.names.lookup x = some .local ∨ sc.names.lookup x = some .cell ∨ sc.names.lookup x = some .free
def Loc (sc : Scope) (x : Str) : Prop := sc.names.lookup x = some .local ∨ sc.names.lookup x = some .cell
def Look (env : Env) (h : Heap) (m : Str → Option Value) (x : Str) (u : Value) : Prop :=
  (env.kindOf x = some .local ∧ m x = some u) ∨ ((env.kindOf x = some .cell ∨ env.kindOf x = some .free) ∧ ∃ c, env.cells.lookup x = some c ∧ h.IsCell c (some u))
structure Cx.Ok (X : Cx) : Prop where
  mod : Mod X.K X.mg X.base
  kind : X.env.scope.kind = .function
  glob : X.env.globals = mainGlobals
  blt : X.env.builtins = builtinsNs
  above : X.s_0.heap.objs.size ≤ X.env.locals
  inj : ∀ x y c, X.env.cells.lookup x = some c → X.env.cells.lookup y = some c → x = y
  has : ∀ x, (X.env.kindOf x = some .cell ∨ X.env.kindOf x = some .free) → ∃ c, X.env.cells.lookup x = some c
  cab : ∀ x c, X.fn x = true → X.env.cells.lookup x = some c → X.s_0.heap.objs.size ≤ c
  hd : X.calm = true → X.A.handled = none
  frames : X.A.frames = some X.stack
  stk : X.stack = X.outer ∨ (X.stack = X.env :: X.outer ∧ X.env.frame = some X.env.locals)
  exf : ∀ b ∈ X.ex, b ≠ X.env.locals ∧ ∀ x c, X.env.cells.lookup x = some c → c ≠ b
  bs : ∀ b o, X.base.get? b = some o → X.s_0.heap.get? b = some o ∧ X.H_0 b = none
  bsz : X.base.objs.size ≤ X.s_0.heap.objs.size
  noex : ∀ b o, X.base.get? b = some o → b ∉ X.ex
  exfs : ∀ b ∈ X.ex, b ∉ X.fs
  funs : X.s_0.heap.FunFrames X.base X.outer
  frf : ∀ b ∈ X.fs, X.H_0 b = none
structure Inv (X : Cx) (pins : List (Addr × Obj)) (σ : List (Option V)) (H : Hp) (s : Shared) : Prop where
  ok : X.Ok
  os : s.os = X.s_0.os
  bare : AllBare s.gens
  base : Un X.fs X.ex X.H_0 H X.s_0.heap s.heap
  loc : ∃ m, s.heap.Ns X.env.locals m ∧ ∀ (i : Nat) (x : Str) (v : V), X.N[i]? = some x → σ[i]? = some (some v) → Vis X.env.scope x → ∃ u, RelV v u ∧ Look X.env s.heap m x u
  cell : ∀ x c, X.env.cells.lookup x = some c → ∃ v, s.heap.IsCell c v
  free : H X.env.locals = none
  freeC : ∀ x c, X.env.cells.lookup x = some c → H c = none
  pin : ∀ p ∈ X.pn ++ pins, s.heap.get? p.1 = some p.2 ∧ H p.1 = none ∧ p.1 ≠ X.env.locals ∧ p.1 ∉ X.fs ∧ ∀ v, p.2.data ≠ .cell v
  hok : HOk X.prog X.w H s.heap
  len : σ.length = X.N.length
section
variable {X : Cx} {pins : List (Addr × Obj)} {σ : List (Option V)} {H H' : Hp} {s : Shared} {h' : Heap}
theorem Cx.Ok.nofr (ok : X.Ok) {b : Addr} {o : Obj} (e : X.base.get? b = some o) : b ∉ X.fs := fun hb => by
  have := (ok.funs.mem hb).1
  rw [e] at this; cases this
theorem Inv.bs (I : Inv X pins σ H s) : ∀ b o, X.base.get? b = some o → s.heap.get? b = some o ∧ H b = none := fun b o e =>
  ⟨I.base.keep b o (I.ok.bs b o e).1 (I.ok.bs b o e).2 (I.ok.nofr e) (I.ok.noex b o e), I.base.free b o (I.ok.bs b o e).1 (I.ok.bs b o e).2 (I.ok.noex b o e)⟩
theorem Inv.bk (I : Inv X pins σ H s) : ∀ b o, X.base.get? b = some o → s.heap.get? b = some o := fun b o e => (I.bs b o e).1
theorem Inv.mod (I : Inv X pins σ H s) : Mod X.K X.mg X.base := I.ok.mod
theorem Inv.kIn (I : Inv X pins σ H s) : X.K.In s.heap := I.ok.mod.kin.keeps I.bk
theorem Inv.nolimit (I : Inv X pins σ H s) : s.heap.NoLimit := I.ok.mod.nolimit.keeps I.bk
theorem Inv.lt (I : Inv X pins σ H s) : X.env.locals < s.heap.objs.size := let ⟨_, hn, _⟩ := I.loc; hn.lt
theorem Inv.sz (I : Inv X pins σ H s) : X.s_0.heap.objs.size ≤ s.heap.objs.size := Nat.le_trans I.ok.above (Nat.le_of_lt I.lt)
theorem Inv.nofs (I : Inv X pins σ H s) {a : Addr} (h : s.heap.objs.size ≤ a) : a ∉ X.fs := fun hb => by
  obtain ⟨_, o, ho, _⟩ := I.ok.funs.mem hb
  exact absurd (Nat.lt_of_lt_of_le (Heap.lt_size ho) (Nat.le_trans I.sz h)) (Nat.lt_irrefl _)
theorem Inv.cne (I : Inv X pins σ H s) : ∀ x c, X.env.cells.lookup x = some c → c ≠ X.env.locals := fun x c e z => by
  obtain ⟨v, o, ho, hd⟩ := I.cell x c e
  obtain ⟨m, ⟨o', es, ep, ho', hd', _⟩, _⟩ := I.loc
  rw [z, ho'] at ho; cases ho; rw [hd'] at hd; cases hd
theorem Inv.funs (I : Inv X pins σ H s) : s.heap.FunFrames X.base X.outer := by
  have all : ∀ (l : List Env), (∀ b ∈ frs l, b ∈ X.fs) → X.s_0.heap.FunFrames X.base l → s.heap.FunFrames X.base l := by
    intro l
    induction l with
    | nil => intro _ _; trivial
    | cons env r ih =>
      intro hs hl
      obtain ⟨hk, ⟨L, o, hf, hn, ho, hd⟩, hr⟩ := hl
      have hL : L ∈ X.fs := hs L (by unfold frs; rw [List.filterMap_cons, hf]; exact List.mem_cons_self)
      obtain ⟨sl, e⟩ := I.base.slot L o ho (I.ok.frf L hL) hL fun z => I.ok.exfs L z hL
      exact ⟨hk, ⟨L, _, hf, hn, e, hd⟩, ih (fun b hb => hs b (by unfold frs; rw [List.filterMap_cons, hf]; exact List.mem_cons_of_mem _ hb)) hr⟩
  exact all X.outer (fun _ hb => hb) I.ok.funs
theorem Inv.stack (I : Inv X pins σ H s) : s.heap.FunFrames X.base X.stack := by
  rcases I.ok.stk with e | ⟨e, hf⟩
  · rw [e]; exact I.funs
  · rw [e]
    obtain ⟨m, hn, _⟩ := I.loc
    refine .cons (by rw [I.ok.kind]; decide) hf hn ?_ I.funs
    exact Heap.get?_none_of_le (Nat.le_trans I.ok.bsz I.ok.above)
theorem Inv.stkSub (I : Inv X pins σ H s) : ∀ b ∈ frs X.stack, b ∈ X.env.locals :: X.fs := fun b hb => by
  rcases I.ok.stk with e | ⟨e, hf⟩
  · rw [e] at hb; exact List.mem_cons_of_mem _ hb
  · rw [e] at hb
    unfold frs at hb
    rw [List.filterMap_cons, hf] at hb
    exact hb
theorem Inv.stkFree (I : Inv X pins σ H s) : ∀ b ∈ frs X.stack, H b = none := fun b hb => by
  rcases List.mem_cons.mp (I.stkSub b hb) with e | hb
  · rw [e]; exact I.free
  · obtain ⟨_, o, ho, _⟩ := I.ok.funs.mem hb
    exact I.base.free b o ho (I.ok.frf b hb) fun z => I.ok.exfs b z hb
theorem Inv.step {g' : Array GenState} {t' : Nat} {d' : Drawn} {ch : List Addr} (I : Inv X pins σ H s)
    (hch : ∀ b ∈ ch, (b ∈ X.ex ∨ X.s_0.heap.objs.size ≤ b) ∧ b ≠ X.env.locals ∧ (∀ x c, X.env.cells.lookup x = some c → c ≠ b) ∧ ∀ p ∈ X.pn ++ pins, p.1 ≠ b)
    (keep : ∀ b o, b ≠ X.env.locals → b ∉ X.fs → b ∉ ch → s.heap.get? b = some o → H b = none → h'.get? b = some o)
    (slot : ∀ b o, b ≠ X.env.locals → b ∈ X.fs → b ∉ ch → s.heap.get? b = some o → H b = none → ∃ sl, h'.get? b = some { o with slots := sl }) (free : ∀ b o, b ∉ ch → s.heap.get? b = some o → H b = none → H' b = none)
    (there : ∀ b o, b ∉ ch → s.heap.get? b = some o → ∃ o', h'.get? b = some o')
    (tups : ∀ b xs, H b = some (.tup xs) → H' b = some (.tup xs)) (frzs : ∀ b o u, H b = some (.frz o u) → H' b = some (.frz o u)) (tbls : ∀ b ps, H b = some (.tbl ps) → ∃ more, H' b = some (.tbl (ps ++ more)))
    (ns : ∀ m, s.heap.Ns X.env.locals m → h'.Ns X.env.locals m) (hok : HOk X.prog X.w H' h') (hg : AllBare g') :
    Inv X pins σ H' { s with heap := h', gens := g', drawn := d', toks := t' } := by
  have neL : ∀ b o, X.s_0.heap.get? b = some o → b ≠ X.env.locals := fun b o e => Nat.ne_of_lt (Nat.lt_of_lt_of_le (Heap.lt_size e) I.ok.above)
  have neC : ∀ b o, X.s_0.heap.get? b = some o → b ∉ X.ex → b ∉ ch := fun b o e hx hb => by
    rcases (hch b hb).1 with z | z
    · exact hx z
    · exact absurd (Nat.lt_of_lt_of_le (Heap.lt_size e) z) (Nat.lt_irrefl _)
  have cellK : ∀ x c, X.env.cells.lookup x = some c → ∀ v, s.heap.IsCell c v → h'.IsCell c v := fun x c e v ⟨o, ho, hd⟩ => by
    have nch : c ∉ ch := fun z => (hch c z).2.2.1 x c e rfl
    by_cases hc : c ∈ X.fs
    · obtain ⟨sl, q⟩ := slot c o (I.cne x c e) hc nch ho (I.freeC x c e)
      exact ⟨_, q, hd⟩
    · exact ⟨o, keep c o (I.cne x c e) hc nch ho (I.freeC x c e), hd⟩
  refine ⟨I.ok, I.os, hg, ⟨fun b o e n hb hx => ?_, fun b o e n hb hx => ?_, fun b o e n hx => ?_, fun b o e hx => ?_, fun b xs e => tups b xs (I.base.tups b xs e), fun b o xs e => frzs b o xs (I.base.frzs b o xs e), fun b ps e => ?_⟩, ?_, fun x c e => ?_, ?_, fun x c e => ?_, fun p hp => ?_, hok, I.len⟩
  · exact keep b o (neL b o e) hb (neC b o e hx) (I.base.keep b o e n hb hx) (I.base.free b o e n hx)
  · obtain ⟨sl, e1⟩ := I.base.slot b o e n hb hx
    obtain ⟨sl', e2⟩ := slot b _ (neL b o e) hb (neC b o e hx) e1 (I.base.free b o e n hx)
    exact ⟨sl', e2⟩
  · obtain ⟨o', e1⟩ := I.base.there b o e hx
    exact free b o' (neC b o e hx) e1 (I.base.free b o e n hx)
  · obtain ⟨o', e1⟩ := I.base.there b o e hx
    exact there b o' (neC b o e hx) e1
  · obtain ⟨m1, e1⟩ := I.base.tbls b ps e
    obtain ⟨m2, e2⟩ := tbls b _ e1
    exact ⟨m1 ++ m2, by rw [e2, Array.append_assoc]⟩
  · obtain ⟨m, hn, hl⟩ := I.loc
    refine ⟨m, ns m hn, fun i x v e1 e2 e3 => ?_⟩
    obtain ⟨u, r, l⟩ := hl i x v e1 e2 e3
    refine ⟨u, r, ?_⟩
    rcases l with l | ⟨k, c, e, z⟩
    · exact .inl l
    · exact .inr ⟨k, c, e, cellK x c e _ z⟩
  · obtain ⟨v, z⟩ := I.cell x c e
    exact ⟨v, cellK x c e v z⟩
  · obtain ⟨m, ⟨o, _, _, ho, _⟩, _⟩ := I.loc
    exact free _ o (fun z => (hch _ z).2.1 rfl) ho I.free
  · obtain ⟨v, o, ho, hd⟩ := I.cell x c e
    exact free c o (fun z => (hch c z).2.2.1 x c e rfl) ho (I.freeC x c e)
  · obtain ⟨e, n, ne, nf, d⟩ := I.pin p hp
    have nch : p.1 ∉ ch := fun z => (hch p.1 z).2.2.2 p hp rfl
    exact ⟨keep p.1 p.2 ne nf nch e n, free p.1 p.2 nch e n, ne, nf, d⟩
theorem Inv.un {t' : Nat} (I : Inv X pins σ H s) (u : Un X.fs [] H H' s.heap h') (hok : HOk X.prog X.w H' h') : Inv X pins σ H' { s with heap := h', toks := t' } := by
  obtain ⟨m, ⟨o, es, ep, ho, r⟩, _⟩ := id I.loc
  obtain ⟨sl, hL⟩ := u.any ho I.free (by simp)
  exact I.step (g' := s.gens) (d' := s.drawn) (ch := []) (fun _ z => nomatch z) (fun b o _ hb _ e n => u.keep b o e n hb (by simp)) (fun b o _ hb _ e n => u.slot b o e n hb (by simp)) (fun b o _ e n => u.free b o e n (by simp)) (fun b o _ e => u.there b o e (by simp)) u.tups u.frzs u.tbls (fun m' hm => by
    obtain ⟨o', es', ep', ho', r'⟩ := hm
    rw [ho] at ho'; cases ho'
    exact ⟨_, es', ep', hL, r'⟩) hok I.bare
theorem Inv.call {g' : Array GenState} {t' : Nat} {d' : Drawn} {ch : List Addr} (I : Inv X pins σ H s) (u : Un (frs X.stack) ch H H' s.heap h') (hok : HOk X.prog X.w H' h') (hg : AllBare g')
    (hch : ∀ b ∈ ch, (b ∈ X.ex ∨ X.s_0.heap.objs.size ≤ b) ∧ b ≠ X.env.locals ∧ (∀ x c, X.env.cells.lookup x = some c → c ≠ b) ∧ ∀ p ∈ X.pn ++ pins, p.1 ≠ b) :
    Inv X pins σ H' { s with heap := h', gens := g', drawn := d', toks := t' } := by
  obtain ⟨m, ⟨o, es, ep, ho, r⟩, _⟩ := id I.loc
  obtain ⟨sl, hL⟩ := u.any ho I.free fun z => (hch _ z).2.1 rfl
  exact I.step (ch := ch) hch (fun b o hL hb hc e n => u.keep b o e n (fun z => (List.mem_cons.mp (I.stkSub b z)).elim hL hb) hc) (fun b o _ _ hc e n => u.any e n hc) (fun b o hc e n => u.free b o e n hc) (fun b o hc e => u.there b o e hc) u.tups u.frzs u.tbls (fun m' hm => by
    obtain ⟨o', es', ep', ho', r'⟩ := hm
    rw [ho] at ho'; cases ho'
    exact ⟨_, es', ep', hL, r'⟩) hok hg
theorem Inv.turned {t' : Nat} {it : Addr} (I : Inv X pins σ H s) (k : ∀ b o, b ≠ it → s.heap.get? b = some o → h'.get? b = some o) (hn : H it = none) (hL : it ≠ X.env.locals)
    (h1 : it ∈ X.ex ∨ X.s_0.heap.objs.size ≤ it) (h2 : ∀ x c, X.env.cells.lookup x = some c → c ≠ it) (h3 : ∀ p ∈ X.pn ++ pins, p.1 ≠ it) : Inv X pins σ H { s with heap := h', toks := t' } := by
  have nit : ∀ b u, H b = some u → b ≠ it := fun b u e z => by rw [z, hn] at e; cases e
  refine I.step (g' := s.gens) (d' := s.drawn) (ch := [it]) (fun b hb => ?_) (fun b o _ _ hc e _ => k b o (fun z => hc (by simp [z])) e) (fun b o _ _ hc e _ => ⟨o.slots, k b o (fun z => hc (by simp [z])) e⟩) (fun _ _ _ _ n => n)
    (fun b o hc e => ⟨o, k b o (fun z => hc (by simp [z])) e⟩) (fun _ _ e => e) (fun _ _ _ e => e) (fun b ps e => ⟨#[], by rw [e]; simp⟩) (fun m hm => ?_) (fun b u e => ?_) I.bare
  · have e : b = it := by simpa using hb
    subst e
    exact ⟨h1, hL, h2, h3⟩
  · obtain ⟨o, es, ep, ho, r⟩ := hm
    exact ⟨o, es, ep, k _ o (Ne.symm hL) ho, r⟩
  · refine (I.hok b u e).stay (fun c v hc q => k c v ?_ q) (fun _ q => q) fun _ _ q => q
    rcases hc with z | z
    · rw [z]; exact nit b u e
    · exact nit c _ z
theorem Inv.tok (I : Inv X pins σ H s) (t : Nat) : Inv X pins σ H { s with toks := t } := I.un (h' := s.heap) (t' := t) Un.refl I.hok
theorem Inv.kept {t' : Nat} (I : Inv X pins σ H s) (k : ∀ b u, s.heap.get? b = some u → h'.get? b = some u) : Inv X pins σ H { s with heap := h', toks := t' } := I.un (Un.kept k) (I.hok.kept k)
theorem Inv.laid {a : Addr} {o : HO} {t' : Nat} (I : Inv X pins σ H s) (k : ∀ b u, s.heap.get? b = some u → h'.get? b = some u) (hp : s.heap.objs.size ≤ a) (new : ObjOk X.prog X.w (upd H a o) h' a o) :
    Inv X pins σ (upd H a o) { s with heap := h', toks := t' } := I.un (Un.laid k hp (I.hok.fresh hp)) (I.hok.laid k hp new)
theorem Inv.write {x e : Addr} {o : HO} {t' : Nat} (I : Inv X pins σ H s) (mu : Mut (H x)) (he : e = x ∨ H e = some (.own x)) (k : ∀ b u, b ≠ e → s.heap.get? b = some u → h'.get? b = some u) (heo : ∃ u, h'.get? e = some u)
    (new : ObjOk X.prog X.w (upd H x o) h' x o) : Inv X pins σ (upd H x o) { s with heap := h', toks := t' } := I.un (Un.write mu he k heo) (I.hok.write mu he k heo new)
theorem Inv.weak {σ' : List (Option V)} (I : Inv X pins σ H s) (hl : σ'.length = σ.length) (w : ∀ (i : Nat) v, σ'[i]? = some (some v) → σ[i]? = some (some v)) : Inv X pins σ' H s :=
  ⟨I.ok, I.os, I.bare, I.base, let ⟨m, hn, hl'⟩ := I.loc; ⟨m, hn, fun i x v e1 e2 e3 => hl' i x v e1 (w i v e2) e3⟩, I.cell, I.free, I.freeC, I.pin, I.hok, hl.trans I.len⟩
theorem Inv.pins_of {pins' : List (Addr × Obj)} (I : Inv X pins σ H s) (h : ∀ p ∈ pins', s.heap.get? p.1 = some p.2 ∧ H p.1 = none ∧ p.1 ≠ X.env.locals ∧ p.1 ∉ X.fs ∧ ∀ v, p.2.data ≠ .cell v) : Inv X pins' σ H s :=
  ⟨I.ok, I.os, I.bare, I.base, I.loc, I.cell, I.free, I.freeC, fun p hp => (List.mem_append.mp hp).elim (fun z => I.pin p (List.mem_append_left _ z)) (h p), I.hok, I.len⟩
theorem nodup_ix {N : List Str} (hN : N.Nodup) {i j : Nat} {x : Str} (a : N[i]? = some x) (b : N[j]? = some x) : i = j := by
  obtain ⟨h1, e1⟩ := List.getElem?_eq_some_iff.mp a
  obtain ⟨h2, e2⟩ := List.getElem?_eq_some_iff.mp b
  exact (List.getElem_inj hN).mp (e1.trans e2.symm)
theorem store_ok2 {M : Model} {A : Around} {E : Value → Shared → Prop} {i : Nat} {x : Str} {v : V} {u : Value} {Q : Unit → Shared → Prop} (I : Inv X pins σ H s) (hN : X.N.Nodup) (hi : X.N[i]? = some x) (hx : Loc X.env.scope x) (r : RelV v u)
    (h : ∀ s', Inv X pins (σ.set i (some v)) H s' → (∃ a, Heap.SameBut a s.heap s'.heap ∧ (a = X.env.locals ∨ X.env.cells.lookup x = some a)) → Q () s') (hf : X.fn x = true ∨ X.env.scope.names.lookup x = some .local := by first | exact .inl rfl | exact .inr rfl | assumption) : wpAny M A (storeName X.env x u) Q E s := by
  obtain ⟨m, hn, hl⟩ := id I.loc
  have hcls : (X.env.scope.kind == .class || (X.env.scope.kind == .module && X.env.locals != X.env.globals)) = false := by rw [I.ok.kind]; rfl
  have hiσ : i < σ.length := by rw [I.len]; exact (List.getElem?_eq_some_iff.mp hi).1
  have cne := I.cne
  have tracked : ∀ {a : Addr} {h' : Heap}, (∃ o, s.heap.get? a = some o ∧ H a = none) → Heap.SameBut a s.heap h' → HOk X.prog X.w H h' := fun {a h'} ha hs b ob e => by
    obtain ⟨_, _, hfree⟩ := ha
    refine (I.hok b ob e).stay (fun c w' hc q => (hs.2 c ?_).trans q) (fun _ q => q) fun _ _ q => q
    rintro rfl
    rcases hc with rfl | hc
    · rw [hfree] at e; cases e
    · rw [hfree] at hc; cases hc
  rcases hx with hk | hk
  · refine wpAny_storeName_local hk hn (fun h' hn' hs => ?_) hcls
    obtain ⟨oL, _, _, hoL, _⟩ := id hn
    refine h _ ⟨I.ok, I.os, I.bare, ⟨fun b o e n hb hx => ?_, fun b o e n hb hx => ?_, I.base.free, fun b o e hx => ?_, I.base.tups, I.base.frzs, I.base.tbls⟩, ⟨_, hn', fun j y v' e1 e2 e3 => ?_⟩, fun y c e => ?_, I.free, I.freeC, fun p hp => ?_, tracked ⟨oL, hoL, I.free⟩ hs, by simpa using I.len⟩ ⟨_, hs, .inl rfl⟩
    · exact (hs.2 b (Nat.ne_of_lt (Nat.lt_of_lt_of_le (Heap.lt_size e) I.ok.above))).trans (I.base.keep b o e n hb hx)
    · obtain ⟨sl, e1⟩ := I.base.slot b o e n hb hx
      exact ⟨sl, (hs.2 b (Nat.ne_of_lt (Nat.lt_of_lt_of_le (Heap.lt_size e) I.ok.above))).trans e1⟩
    · obtain ⟨o', e1⟩ := I.base.there b o e hx
      exact ⟨o', (hs.2 b (Nat.ne_of_lt (Nat.lt_of_lt_of_le (Heap.lt_size e) I.ok.above))).trans e1⟩
    · by_cases hj : j = i
      · subst hj
        rw [hi] at e1; cases e1
        rw [List.getElem?_set_self hiσ] at e2
        cases e2
        exact ⟨u, r, .inl ⟨hk, by simp⟩⟩
      · rw [List.getElem?_set_ne (Ne.symm hj)] at e2
        obtain ⟨u', r', q⟩ := hl j y v' e1 e2 e3
        refine ⟨u', r', ?_⟩
        rcases q with ⟨k, e⟩ | ⟨k, c, e, z⟩
        · refine .inl ⟨k, ?_⟩
          have : y ≠ x := fun e => hj (nodup_ix hN e1 (e ▸ hi))
          simp [this, e]
        · exact .inr ⟨k, c, e, z.sameBut hs (cne y c e)⟩
    · obtain ⟨w', z⟩ := I.cell y c e
      exact ⟨w', z.sameBut hs (cne y c e)⟩
    · obtain ⟨e, n, ne, nf, d⟩ := I.pin p hp
      exact ⟨(hs.2 p.1 ne).trans e, n, ne, nf, d⟩
  · have hfn : X.fn x = true := by
      rcases hf with z | z
      · exact z
      · rw [z] at hk; cases hk
    obtain ⟨c, hc⟩ := I.ok.has x (.inl hk)
    obtain ⟨w', z⟩ := I.cell x c hc
    refine wpAny_storeName_cell I.ok.kind hk hc z (fun h' hc' hs => ?_)
    obtain ⟨oc, hoc, hocd⟩ := id z
    refine h { s with heap := h' } ⟨I.ok, I.os, I.bare, ⟨fun b o e n hb hx => ?_, fun b o e n hb hx => ?_, I.base.free, fun b o e hx => ?_, I.base.tups, I.base.frzs, I.base.tbls⟩, ⟨m, hn.sameBut hs (Ne.symm (cne x c hc)), fun j y v' e1 e2 e3 => ?_⟩, fun y c' e => ?_, I.free, I.freeC, fun p hp => ?_, tracked ⟨oc, hoc, I.freeC x c hc⟩ hs, by simpa using I.len⟩ ⟨c, hs, .inr hc⟩
    · exact (hs.2 b (Nat.ne_of_lt (Nat.lt_of_lt_of_le (Heap.lt_size e) (I.ok.cab x c hfn hc)))).trans (I.base.keep b o e n hb hx)
    · obtain ⟨sl, e1⟩ := I.base.slot b o e n hb hx
      exact ⟨sl, (hs.2 b (Nat.ne_of_lt (Nat.lt_of_lt_of_le (Heap.lt_size e) (I.ok.cab x c hfn hc)))).trans e1⟩
    · obtain ⟨o', e1⟩ := I.base.there b o e hx
      exact ⟨o', (hs.2 b (Nat.ne_of_lt (Nat.lt_of_lt_of_le (Heap.lt_size e) (I.ok.cab x c hfn hc)))).trans e1⟩
    · by_cases hj : j = i
      · subst hj
        rw [hi] at e1; cases e1
        rw [List.getElem?_set_self hiσ] at e2
        cases e2
        exact ⟨u, r, .inr ⟨.inl hk, c, hc, hc'⟩⟩
      · rw [List.getElem?_set_ne (Ne.symm hj)] at e2
        obtain ⟨u', r', q⟩ := hl j y v' e1 e2 e3
        refine ⟨u', r', ?_⟩
        rcases q with q | ⟨k, c', e, z'⟩
        · exact .inl q
        · refine .inr ⟨k, c', e, z'.sameBut hs ?_⟩
          rintro rfl
          exact hj (nodup_ix hN e1 (I.ok.inj _ _ _ e hc ▸ hi))
    · by_cases hcc : c' = c
      · subst hcc; exact ⟨_, hc'⟩
      · obtain ⟨w2, z2⟩ := I.cell y c' e
        exact ⟨w2, z2.sameBut hs hcc⟩
    · obtain ⟨e, n, ne, nf, d⟩ := I.pin p hp
      refine ⟨(hs.2 p.1 ?_).trans e, n, ne, nf, d⟩
      intro q
      rw [q, hoc] at e
      have q' : oc = p.2 := Option.some.inj e
      exact d w' (by rw [← q']; exact hocd)
theorem store_ok {M : Model} {A : Around} {E : Value → Shared → Prop} {i : Nat} {x : Str} {v : V} {u : Value} {Q : Unit → Shared → Prop} (I : Inv X pins σ H s) (hN : X.N.Nodup) (hi : X.N[i]? = some x) (hx : Loc X.env.scope x) (r : RelV v u)
    (h : ∀ s', Inv X pins (σ.set i (some v)) H s' → Q () s') (hf : X.fn x = true ∨ X.env.scope.names.lookup x = some .local := by first | exact .inl rfl | exact .inr rfl | assumption) : wpAny M A (storeName X.env x u) Q E s :=
  store_ok2 I hN hi hx r (fun s' I' _ => h s' I') hf
theorem Inv.call' {s' : Shared} {ch : List Addr} (I : Inv X pins σ H s) (ho : s'.os = s.os) (u : Un (frs X.stack) ch H H' s.heap s'.heap) (hok : HOk X.prog X.w H' s'.heap) (hg : AllBare s'.gens)
    (hch : ∀ b ∈ ch, (b ∈ X.ex ∨ X.s_0.heap.objs.size ≤ b) ∧ b ≠ X.env.locals ∧ (∀ x c, X.env.cells.lookup x = some c → c ≠ b) ∧ ∀ p ∈ X.pn ++ pins, p.1 ≠ b) : Inv X pins σ H' s' := by
  obtain ⟨h', g', d', t', o'⟩ := s'
  have e : o' = s.os := ho
  subst e
  exact I.call (g' := g') (t' := t') (d' := d') u hok hg hch
end
abbrev XK := Value → Option Addr → Hp → Prop
abbrev St := List (Option V)
abbrev VK := V → Hp → Prop
abbrev TE := St → Hp → VK → Prop
abbrev TT := St → Hp → (Bool → Hp → Prop) → Prop
abbrev TA := St → Hp → (List V → Hp → Prop) → Prop
structure Ends where
  nx : St → Hp → Prop
  rt : VK
  bk : St → Hp → Prop := fun _ _ => False
  ct : St → Hp → Prop := fun _ _ => False
abbrev TS := Ends → St → Hp → Prop
def EP (X : Cx) (pins : List (Addr × Obj)) (σ : St) (Q : VK) (u : Value) (s' : Shared) : Prop := ∃ v H', Inv X pins σ H' s' ∧ RelV v u ∧ Q v H'
def TP (X : Cx) (pins : List (Addr × Obj)) (σ : St) (Q : Bool → Hp → Prop) (b : Bool) (s' : Shared) : Prop := ∃ H', Inv X pins σ H' s' ∧ Q b H'
def AP (X : Cx) (pins : List (Addr × Obj)) (σ : St) (Q : List V → Hp → Prop) (us : List Value) (s' : Shared) : Prop := ∃ vs H', Inv X pins σ H' s' ∧ Vals vs us ∧ Q vs H'
def SP (X : Cx) (pins : List (Addr × Obj)) (D : Ends) (f : Flow) (s' : Shared) : Prop :=
  match f with
  | .next => ∃ σ' H', Inv X pins σ' H' s' ∧ D.nx σ' H'
  | .brk => ∃ σ' H', Inv X pins σ' H' s' ∧ D.bk σ' H'
  | .cont => ∃ σ' H', Inv X pins σ' H' s' ∧ D.ct σ' H'
  | .ret u => ∃ v σ' H', Inv X pins σ' H' s' ∧ RelV v u ∧ D.rt v H'
def PE (X : Cx) (e : Expr) (t : TE) : Prop :=
  ∀ (pins : List (Addr × Obj)) (s : Shared) (σ : St) (H : Hp) (Q : VK), Inv X pins σ H s → t σ H Q → wpAny (model X.prog X.w) X.A (eval e X.env) (EP X pins σ Q) X.xe s
def PT (X : Cx) (e : Expr) (t : TT) : Prop :=
  ∀ (pins : List (Addr × Obj)) (s : Shared) (σ : St) (H : Hp) (Q : Bool → Hp → Prop), Inv X pins σ H s → t σ H Q → wpAny (model X.prog X.w) X.A (isTrue e X.env (eval e X.env)) (TP X pins σ Q) X.xe s
def PW (X : Cx) (e : Expr) (t : TT) : Prop :=
  ∀ (whole : Sem Value) (pins : List (Addr × Obj)) (s : Shared) (σ : St) (H : Hp) (Q : Bool → Hp → Prop), Inv X pins σ H s → t σ H Q → wpAny (model X.prog X.w) X.A (isTrue e X.env whole) (TP X pins σ Q) X.xe s
theorem PW.pt {X : Cx} {e : Expr} {t : TT} (h : PW X e t) : PT X e t := h _
def PA (X : Cx) (es : List Expr) (t : TA) : Prop :=
  ∀ (pos : Pos) (pins : List (Addr × Obj)) (s : Shared) (σ : St) (H : Hp) (Q : List V → Hp → Prop), Inv X pins σ H s → t σ H Q → wpAny (model X.prog X.w) X.A (spliced (backTo pos (starEach es X.env))) (AP X pins σ Q) X.xe s
def PS (X : Cx) (st : Stmt) (t : TS) : Prop :=
  ∀ (pins : List (Addr × Obj)) (s : Shared) (σ : St) (H : Hp) (D : Ends), Inv X pins σ H s → t D σ H → wpAny (model X.prog X.w) X.A (exec st X.env) (SP X pins D) X.xe s
def PSs (X : Cx) (st : List Stmt) (t : TS) : Prop :=
  ∀ (pins : List (Addr × Obj)) (s : Shared) (σ : St) (H : Hp) (D : Ends), Inv X pins σ H s → t D σ H → wpAny (model X.prog X.w) X.A (execs st X.env) (SP X pins D) X.xe s
theorem thn {α : Type} {t : Sem α} {Q Q' : α → Shared → Prop} {M : Model} {A : Around} {E : Value → Shared → Prop} {s : Shared} (h : wpAny M A t Q E s) (hQ : ∀ a s, Q a s → Q' a s) : wpAny M A t Q' E s := wpAny_mono h hQ fun _ _ x => x
end L2
namespace L2
open PySem PySem.Spec PyProof.Rows
section
variable {X : Cx}
def tVar (i : Nat) : TE := fun σ H Q => ∃ v, σ[i]? = some (some v) ∧ Q v H
def tC (v : V) : TE := fun _ H Q => Q v H
theorem pe_var {i : Nat} {x : Str} {pos : Pos} (hN : X.N[i]? = some x) (hv : Vis X.env.scope x) (hd : (x == ("__debug__" : Str)) = false := by decide) (hcd : (x == ("__classdict__" : Str)) = false := by decide) : PE X (.Name x pos) (tVar i) := by
  intro pins s σ H Q I h
  obtain ⟨v, e, h⟩ := h
  obtain ⟨m, hn, hl⟩ := I.loc
  obtain ⟨u, r, l⟩ := hl i x v hN e hv
  have fin : EP X pins σ Q u s := ⟨v, H, I, r, h⟩
  rcases l with ⟨hk, hm⟩ | ⟨hk, c, hc, hcell⟩
  · exact wpAny_Name (wpAny_loadName_local I.ok.kind hk hn hm fin) hd
  · rcases hk with hk | hk
    · exact wpAny_Name (wpAny_loadName_cell I.ok.kind hk hc hcell fin) hd
    · exact wpAny_Name (wpAny_loadName_free I.ok.kind hk hc hcell fin hcd) hd
theorem pe_int {i j pos} : PE X (.Constant (.int i) j pos) (tC (.int i)) := fun _ _ _ H _ I h => wpAny_Constant_int ⟨.int i, H, I.tok _, ⟨_, rfl⟩, h⟩
theorem pe_bl {b j pos} : PE X (.Constant (.bool b) j pos) (tC (.bl b)) := fun _ _ _ H _ I h => Constant_bool ⟨.bl b, H, I, rfl, h⟩
theorem pe_non {j pos} : PE X (.Constant .none j pos) (tC .non) := fun _ _ _ H _ I h => Constant_none ⟨.non, H, I, rfl, h⟩
def Gl (X : Cx) (x : Str) : Prop := X.env.kindOf x = some .globalImplicit
theorem ld_glob {E : Value → Shared → Prop} {pins : List (Addr × Obj)} {s : Shared} {σ : St} {H : Hp} {x : Str} {u : Value} {pos : Pos} {Q : Value → Shared → Prop} (I : Inv X pins σ H s) (hg : Gl X x) (hm : X.mg x = some u) (h : Q u s)
    (hd : (x == ("__debug__" : Str)) = false := by decide) : wpAny (model X.prog X.w) X.A (eval (.Name x pos) X.env) Q E s :=
  Calls.Name_function_global I.ok.kind hg (Calls.loadGlobal_global (by rw [I.ok.glob]; exact I.mod.glob.keeps I.bk) hm h) hd
theorem ld_blt {E : Value → Shared → Prop} {pins : List (Addr × Obj)} {s : Shared} {σ : St} {H : Hp} {x : Str} {u : Value} {pos : Pos} {Q : Value → Shared → Prop} (I : Inv X pins σ H s) (hg : Gl X x) (hm : X.mg x = none) (hv : bootBuiltins x = some u) (h : Q u s)
    (hn : x ≠ "__name__" := by decide) (hd : (x == ("__debug__" : Str)) = false := by decide) : wpAny (model X.prog X.w) X.A (eval (.Name x pos) X.env) Q E s := by
  obtain ⟨mb, h1, h2⟩ := I.mod.blt
  exact Calls.Name_function_global I.ok.kind hg (Calls.loadGlobal_builtin (by rw [I.ok.glob]; exact I.mod.glob.keeps I.bk) hm (by rw [I.ok.blt]; exact h1.keeps I.bk) ((h2 x hn).trans hv) h) hd
theorem pe_glob {x : Str} {v : V} {u : Value} {pos : Pos} (hg : Gl X x) (hm : X.mg x = some u) (r : RelV v u) (hd : (x == ("__debug__" : Str)) = false := by decide) : PE X (.Name x pos) (tC v) :=
  fun _ _ _ H _ I h => ld_glob I hg hm ⟨v, H, I, r, h⟩ hd
variable {a b : Expr} {ta tb : TE} {pos : Pos}
def PC (X : Cx) (op : CmpOp) (a b : Expr) (t : TE) : Prop :=
  ∀ (pins : List (Addr × Obj)) (s : Shared) (σ : St) (H : Hp) (Q : VK), Inv X pins σ H s → t σ H Q →
    wpAny (model X.prog X.w) X.A (eval a X.env) (fun v s₁ => wpAny (model X.prog X.w) X.A (eval b X.env) (fun u s₂ => wpAny (model X.prog X.w) X.A (compareOp op v u) (EP X pins σ Q) X.xe s₂) X.xe s₁) X.xe s
theorem nobehind (b : Expr) {op : CmpOp} (h : op ≠ .In) (h2 : op ≠ .NotIn) : behindInMarks op b = false := by
  have e1 : (op == CmpOp.In) = false := by cases op <;> first | rfl | exact absurd rfl h
  have e2 : (op == CmpOp.NotIn) = false := by cases op <;> first | rfl | exact absurd rfl h2
  cases b <;> simp [behindInMarks, e1, e2]
def tIsN (ta : TE) : TE := fun σ H Q => ta σ H fun x H1 => Q (.bl (decide (x = .non))) H1
theorem RelV.none_iff {x : V} {v : Value} (r : RelV x v) : (v == Value.none) = decide (x = .non) := by
  cases x with
  | non => cases r; rfl
  | bl _ => cases r; rfl
  | int _ => obtain ⟨t, rfl⟩ := r; rfl
  | str _ => obtain ⟨t, rfl⟩ := r; rfl
  | byt _ => obtain ⟨t, rfl⟩ := r; rfl
  | flt _ => obtain ⟨t, rfl⟩ := r; rfl
  | ref _ => cases r; rfl
  | ty _ => cases r; rfl
theorem pc_isN {j pos'} (ha : PE X a ta) : PC X .Is a (.Constant .none j pos') (tIsN ta) := by
  intro pins s σ H Q I h
  refine thn (ha pins s σ H _ I h) fun v s1 ⟨x, H1, I1, r1, q1⟩ => ?_
  exact Constant_none (is_none_gen ⟨.bl _, H1, I1, by rw [r1.none_iff]; rfl, q1⟩)
def tB (t : TE) : TT := fun σ H Q => t σ H fun x H1 => ∃ c, x = .bl c ∧ Q c H1
theorem pe_cmp {op : CmpOp} {t : TE} (h : PC X op a b t) (h1 : behindInMarks op b = false := by first | exact nobehind _ (by decide) (by decide) | rfl) : PE X (.Compare a [op] [b] pos) t := fun pins s σ H Q I hw => wpAny_Compare1 (h pins s σ H Q I hw) h1
theorem pt_cmp {op : CmpOp} {t : TE} (h : PC X op a b t) (h1 : behindInMarks op b = false := by first | exact nobehind _ (by decide) (by decide) | rfl) : PT X (.Compare a [op] [b] pos) (tB t) := by
  intro pins s σ H Q I hw
  refine wpAny_isTrue_Compare1 (thn (h pins s σ H _ I hw) fun v s1 h1 => thn h1 fun u s2 h2 => thn h2 fun c s3 ⟨x, H1, I1, r1, q1⟩ => ?_) h1
  obtain ⟨d, rfl, q⟩ := q1
  cases r1
  exact wpAny_truthy_bool ⟨H1, I1, q⟩
theorem pt_val {e : Expr} {t : TE} (h : PE X e t) (he : ∀ whole, isTrue e X.env whole = (do let v ← whole; standAt e.pos; holding [v] (truthy v)) := by intro _; rfl) : PT X e (tB t) := by
  intro pins s σ H Q I hw
  refine isTrue_plain (thn (h pins s σ H _ I hw) fun v s1 ⟨x, H1, I1, r1, q1⟩ => ?_) (he _)
  obtain ⟨d, rfl, q⟩ := q1
  cases r1
  exact wpAny_truthy_bool ⟨H1, I1, q⟩
variable {tA tB' : TT} {rest : List Expr}
def tAnd (t u : TT) : TT := fun σ H Q => t σ H fun c H1 => if c = true then u σ H1 Q else Q false H1
def tOr (t u : TT) : TT := fun σ H Q => t σ H fun c H1 => if c = true then Q true H1 else u σ H1 Q
def tNot (t : TT) : TT := fun σ H Q => t σ H fun c H1 => Q (!c) H1
theorem pw_and1 (ha : PT X a tA) : PW X (.BoolOp .And [a] pos) tA := by
  intro wh pins s σ H Q I h
  refine isTrue_and (thn (ha pins s σ H Q I h) fun c s1 e => ?_)
  cases c with
  | true => exact isTrue_and_nil e
  | false => exact e
theorem pw_or1 (ha : PT X a tA) : PW X (.BoolOp .Or [a] pos) tA := by
  intro wh pins s σ H Q I h
  refine isTrue_or (thn (ha pins s σ H Q I h) fun c s1 e => ?_)
  cases c with
  | false => exact isTrue_or_nil e
  | true => exact e
theorem pw_and (ha : PT X a tA) (hb : PW X (.BoolOp .And (b :: rest) pos) tB') : PW X (.BoolOp .And (a :: b :: rest) pos) (tAnd tA tB') := by
  intro wh pins s σ H Q I h
  refine isTrue_and (thn (ha pins s σ H _ I h) fun c s1 ⟨H1, I1, q1⟩ => ?_)
  cases c with
  | true => exact hb wh pins s1 σ H1 Q I1 q1
  | false => exact ⟨H1, I1, q1⟩
theorem pw_or (ha : PT X a tA) (hb : PW X (.BoolOp .Or (b :: rest) pos) tB') : PW X (.BoolOp .Or (a :: b :: rest) pos) (tOr tA tB') := by
  intro wh pins s σ H Q I h
  refine isTrue_or (thn (ha pins s σ H _ I h) fun c s1 ⟨H1, I1, q1⟩ => ?_)
  cases c with
  | true => exact ⟨H1, I1, q1⟩
  | false => exact hb wh pins s1 σ H1 Q I1 q1
theorem pt_not (ha : PT X a tA) : PT X (.UnaryOp .Not a pos) (tNot tA) := by
  intro pins s σ H Q I h
  exact isTrue_not (ha pins s σ H (fun c H1 => Q (!c) H1) I h)
def tAndV (ta tb : TE) : TE := fun σ H Q => ta σ H fun x H1 => ∃ c, x = .bl c ∧ if c = true then tb σ H1 Q else Q (.bl false) H1
theorem pe_one {op} {t : TE} (h : PE X a t) : PE X (.BoolOp op [a] pos) t := fun pins s σ H Q I hw => BoolOp_one (h pins s σ H Q I hw)
theorem pe_and (ha : PE X a ta) (hb : PE X (.BoolOp .And (b :: rest) pos) tb) : PE X (.BoolOp .And (a :: b :: rest) pos) (tAndV ta tb) := by
  intro pins s σ H Q I h
  refine BoolOp_and (thn (ha pins s σ H _ I h) fun v s1 ⟨x, H1, I1, r1, q1⟩ => ?_)
  obtain ⟨c, rfl, q1⟩ := q1
  cases r1
  refine wpAny_truthy_bool ?_
  cases c with
  | true => exact hb pins s1 σ H1 Q I1 q1
  | false => exact ⟨.bl false, H1, I1, rfl, q1⟩
def tIf (t : TT) (ta tb : TE) : TE := fun σ H Q => t σ H fun c H1 => if c = true then ta σ H1 Q else tb σ H1 Q
theorem pe_ifExp {c : Expr} (hc : PT X c tA) (ha : PE X a ta) (hb : PE X b tb) : PE X (.IfExp c a b pos) (tIf tA ta tb) := by
  intro pins s σ H Q I h
  refine wpAny_IfExp (thn (hc pins s σ H _ I h) fun d s1 ⟨H1, I1, q1⟩ => ?_)
  cases d with
  | true => exact ha pins s1 σ H1 Q I1 q1
  | false => exact hb pins s1 σ H1 Q I1 q1
end
end L2
namespace L2
open PySem PySem.Spec PyProof.Rows
def SqL (K : PySem.W.Frag) (H : Hp) (a : Addr) (xs : List V) : Prop :=
  Rd H a (.lst xs) ∨
    ∃ (o : Obj) (its : Array Value) (n : Nat), K.lookup a = some o ∧ o.cls = .type "list" ∧ o.dict = none ∧ o.data = .seq its n ∧ its.size ≤ sizeLine ∧ Vals xs its.toList
def SqT (K : PySem.W.Frag) (H : Hp) (a : Addr) (xs : List V) : Prop :=
  Rd H a (.tup xs) ∨
    ∃ (o : Obj) (its : Array Value) (n : Nat), K.lookup a = some o ∧ o.cls = .type "tuple" ∧ o.data = .seq its n ∧ its.size ≤ sizeLine ∧ Vals xs its.toList
def absV : Value → Option V
  | .none => some .non
  | .bool b => some (.bl b)
  | .int i _ => some (.int i)
  | .str x _ => some (.str x)
  | .bytes b _ => some (.byt b)
  | .float b _ => some (.flt b)
  | .ref a => some (.ref a)
  | .type n => some (.ty n)
  | _ => none
theorem RelV.abs {x : V} {u : Value} (r : RelV x u) : absV u = some x := by
  cases x with
  | non => cases r; rfl
  | bl _ => cases r; rfl
  | int _ => obtain ⟨t, rfl⟩ := r; rfl
  | str _ => obtain ⟨t, rfl⟩ := r; rfl
  | byt _ => obtain ⟨t, rfl⟩ := r; rfl
  | flt _ => obtain ⟨t, rfl⟩ := r; rfl
  | ref _ => cases r; rfl
  | ty _ => cases r; rfl
theorem RelV.inj {x y : V} {u : Value} (r : RelV x u) (q : RelV y u) : x = y := Option.some.inj (r.abs.symm.trans q.abs)
theorem Vals.inj : ∀ {xs ys : List V} {us : List Value}, Vals xs us → Vals ys us → xs = ys
  | _, _, _, .nil, .nil => rfl
  | _, _, _, .cons r t, .cons r' t' => by rw [r.inj r', Vals.inj t t']
section
variable {X : Cx} {pins : List (Addr × Obj)} {σ : St} {H : Hp} {s : Shared} {a : Addr} {xs ys : List V}
theorem SqL.of {K : PySem.W.Frag} (h : H a = some (.lst xs)) : SqL K H a xs := .inl (.inl h)
theorem SqT.of {K : PySem.W.Frag} (h : H a = some (.tup xs)) : SqT K H a xs := .inl (.inl h)
theorem Inv.list (I : Inv X pins σ H s) (h : SqL X.K H a xs) : ∃ its : List Value, Vals xs its ∧ PlainL s.heap a its.toArray ∧ xs.length ≤ sizeLine := by
  rcases h with h | ⟨o, its, n, hk, hc, hd, hs, hz, r⟩
  · obtain ⟨z, its, n, r, e⟩ := h.ok I.hok
    exact ⟨its, r, ⟨_, n, e, rfl, rfl, rfl⟩, z⟩
  · refine ⟨its.toList, r, ⟨o, n, I.kIn a o hk, hc, hd, by simpa using hs⟩, ?_⟩
    have e := r.length
    simp only [Array.length_toList] at e
    omega
theorem Inv.tuple (I : Inv X pins σ H s) (h : SqT X.K H a xs) : ∃ its : List Value, Vals xs its ∧ IsTup s.heap a its.toArray ∧ xs.length ≤ sizeLine := by
  rcases h with h | ⟨o, its, n, hk, hc, hs, hz, r⟩
  · obtain ⟨z, its, r, p⟩ := h.ok I.hok
    exact ⟨its, r, p, z⟩
  · refine ⟨its.toList, r, ⟨o, I.kIn a o hk, hc, n, by simpa using hs⟩, ?_⟩
    have e := r.length
    simp only [Array.length_toList] at e
    omega
theorem Inv.list_inj (I : Inv X pins σ H s) (h : SqL X.K H a xs) (h' : SqL X.K H a ys) : xs = ys := by
  obtain ⟨its, r, ⟨o, n, e, _, _, d⟩, _⟩ := I.list h
  obtain ⟨its', r', ⟨o', n', e', _, _, d'⟩, _⟩ := I.list h'
  rw [e] at e'; cases e'
  rw [d] at d'
  injection d' with d1 _
  have : its = its' := by simpa using congrArg Array.toList d1
  subst this
  exact r.inj r'
theorem Inv.tuple_inj (I : Inv X pins σ H s) (h : SqT X.K H a xs) (h' : SqT X.K H a ys) : xs = ys := by
  obtain ⟨its, r, ⟨o, e, _, n, d⟩, _⟩ := I.tuple h
  obtain ⟨its', r', ⟨o', e', _, n', d'⟩, _⟩ := I.tuple h'
  rw [e] at e'; cases e'
  rw [d] at d'
  injection d' with d1 _
  have : its = its' := by simpa using congrArg Array.toList d1
  subst this
  exact r.inj r'
end
abbrev Cx.wish (X : Cx) (E : Value → Shared → Prop) : Cx := { X with xe := E }
abbrev Cx.nox (X : Cx) : Cx := X.wish fun _ _ => False
theorem Cx.Ok.wish {X : Cx} (ok : X.Ok) (E : Value → Shared → Prop) : (X.wish E).Ok :=
  ⟨ok.mod, ok.kind, ok.glob, ok.blt, ok.above, ok.inj, ok.has, ok.cab, ok.hd, ok.frames, ok.stk, ok.exf, ok.bs, ok.bsz, ok.noex, ok.exfs, ok.funs, ok.frf⟩
theorem Cx.Ok.unwish {X : Cx} {E : Value → Shared → Prop} (ok : (X.wish E).Ok) : X.Ok :=
  ⟨ok.mod, ok.kind, ok.glob, ok.blt, ok.above, ok.inj, ok.has, ok.cab, ok.hd, ok.frames, ok.stk, ok.exf, ok.bs, ok.bsz, ok.noex, ok.exfs, ok.funs, ok.frf⟩
section
variable {X : Cx} {pins : List (Addr × Obj)} {σ : St} {H : Hp} {s : Shared} {E : Value → Shared → Prop}
theorem Inv.wish (I : Inv X pins σ H s) (E : Value → Shared → Prop) : Inv (X.wish E) pins σ H s := ⟨I.ok.wish E, I.os, I.bare, I.base, I.loc, I.cell, I.free, I.freeC, I.pin, I.hok, I.len⟩
theorem Inv.unwish (I : Inv (X.wish E) pins σ H s) : Inv X pins σ H s := ⟨I.ok.unwish, I.os, I.bare, I.base, I.loc, I.cell, I.free, I.freeC, I.pin, I.hok, I.len⟩
theorem SP.unwish {D : Ends} {f : Flow} {s' : Shared} (h : SP (X.wish E) pins D f s') : SP X pins D f s' := by
  cases f with
  | next => obtain ⟨σ', H', I, q⟩ := h; exact ⟨σ', H', I.unwish, q⟩
  | brk => obtain ⟨σ', H', I, q⟩ := h; exact ⟨σ', H', I.unwish, q⟩
  | cont => obtain ⟨σ', H', I, q⟩ := h; exact ⟨σ', H', I.unwish, q⟩
  | ret u => obtain ⟨v, σ', H', I, r, q⟩ := h; exact ⟨v, σ', H', I.unwish, r, q⟩
theorem PE.nox {e : Expr} {t : TE} (h : PE X.nox e t) : PE X e t := fun pins s σ H Q I hw =>
  wpAny_mono (h pins s σ H Q (I.wish _) hw) (fun _ _ ⟨v, H', I', r, q⟩ => ⟨v, H', I'.unwish, r, q⟩) fun _ _ z => False.elim z
theorem PT.nox {e : Expr} {t : TT} (h : PT X.nox e t) : PT X e t := fun pins s σ H Q I hw =>
  wpAny_mono (h pins s σ H Q (I.wish _) hw) (fun _ _ ⟨H', I', q⟩ => ⟨H', I'.unwish, q⟩) fun _ _ z => False.elim z
theorem PSs.nox {st : List Stmt} {t : TS} (h : PSs X.nox st t) : PSs X st t := fun pins s σ H D I hw =>
  wpAny_mono (h pins s σ H D (I.wish _) hw) (fun _ _ q => q.unwish) fun _ _ z => False.elim z
end
section
variable {X : Cx} {st : Stmt} {rest : List Stmt} {t u : TS} {e : Expr} {te : TE} {pos : Pos}
def tNext : TS := fun D σ H => D.nx σ H
def tSeq (t u : TS) : TS := fun D σ H => t { D with nx := u D } σ H
theorem pss_nil : PSs X [] tNext := fun _ _ σ H _ I h => wpAny_execs_nil ⟨σ, H, I, h⟩
theorem pss_cons (h1 : PS X st t) (h2 : PSs X rest u) : PSs X (st :: rest) (tSeq t u) := by
  intro pins s σ H D I h
  refine wpAny_execs_cons (thn (h1 pins s σ H { D with nx := u D } I h) fun f s1 q => ?_)
  cases f with
  | next =>
    obtain ⟨σ', H', I', q⟩ := q
    exact h2 pins s1 σ' H' D I' q
  | ret v => exact q
  | brk => exact q
  | cont => exact q
theorem pss_one (h1 : PS X st t) : PSs X [st] t := by
  intro pins s σ H D I h
  refine wpAny_execs_cons (thn (h1 pins s σ H D I h) fun f s1 q => ?_)
  cases f with
  | next => exact wpAny_execs_nil q
  | ret v => exact q
  | brk => exact q
  | cont => exact q
theorem Inv.quiet {pins : List (Addr × Obj)} {σ : St} {H : Hp} {s : Shared} (I : Inv X pins σ H s) : interactive X.env = false := by simp [interactive, I.ok.kind]
def tDrop (te : TE) : TS := fun D σ H => te σ H fun _ H1 => D.nx σ H1
theorem ps_expr (he : PE X e te) (hs : swapsWith e none pos.line X.env = pure false := by rfl) : PS X (.Expr e pos) (tDrop te) := by
  intro pins s σ H D I h
  exact wpAny_Expr_any (thn (he pins s σ H _ I h) fun v s1 ⟨x, H1, I1, r1, q1⟩ => ⟨σ, H1, I1, q1⟩) I.quiet hs
def tRet (te : TE) : TS := fun D σ H => te σ H D.rt
theorem ps_ret (he : PE X e te) : PS X (.Return (some e) pos) (tRet te) := by
  intro pins s σ H D I h
  exact wpAny_Return_some (thn (he pins s σ H _ I h) fun v s1 ⟨x, H1, I1, r1, q1⟩ => ⟨x, σ, H1, I1, r1, q1⟩)
def tRetN : TS := fun D _ H => D.rt .non H
theorem ps_retN : PS X (.Return none pos) tRetN := fun _ _ σ H _ I h => wpAny_Return_none ⟨.non, σ, H, I, rfl, h⟩
def tIfS (c : TT) (t u : TS) : TS := fun D σ H => c σ H fun b H1 => if b = true then t D σ H1 else u D σ H1
theorem ps_if {c : Expr} {a b : List Stmt} {tc : TT} (hc : PT X c tc) (ha : PSs X a t) (hb : PSs X b u) : PS X (.If c a b pos) (tIfS tc t u) := by
  intro pins s σ H D I h
  refine wpAny_If (thn (hc pins s σ H _ I h) fun d s1 ⟨H1, I1, q1⟩ => ?_)
  cases d with
  | true => exact ha pins s1 σ H1 D I1 q1
  | false => exact hb pins s1 σ H1 D I1 q1
end
abbrev TG := V → St → Hp → (St → Hp → Prop) → Prop
abbrev TGs := List V → St → Hp → (St → Hp → Prop) → Prop
def PG (X : Cx) (target : Expr) (t : TG) : Prop :=
  ∀ (pins : List (Addr × Obj)) (s : Shared) (σ : St) (H : Hp) (v : V) (u : Value) (Q : St → Hp → Prop), Inv X pins σ H s → RelV v u → t v σ H Q →
    wpAny (model X.prog X.w) X.A (assign target X.env u) (fun _ s' => ∃ σ' H', Inv X pins σ' H' s' ∧ Q σ' H') X.xe s
def PGs (X : Cx) (ts : List Expr) (t : TGs) : Prop :=
  ∀ (pins : List (Addr × Obj)) (s : Shared) (σ : St) (H : Hp) (vs : List V) (us : List Value) (Q : St → Hp → Prop), Inv X pins σ H s → Vals vs us → t vs σ H Q →
    wpAny (model X.prog X.w) X.A (assignInOrder ((assignEach ts X.env).map (·.2)) us) (fun _ s' => ∃ σ' H', Inv X pins σ' H' s' ∧ Q σ' H') X.xe s
abbrev TIp := V → V → Hp → VK → Prop
def PIp (X : Cx) (op : Operator) (t : TIp) : Prop :=
  ∀ (pins : List (Addr × Obj)) (s : Shared) (σ : St) (H : Hp) (x y : V) (v u : Value) (Q : VK), Inv X pins σ H s → RelV x v → RelV y u → t x y H Q →
    wpAny (model X.prog X.w) X.A (inplaceOp op v u) (EP X pins σ Q) X.xe s
section
variable {X : Cx} {pos : Pos}
def gName (i : Nat) : TG := fun v σ H Q => Q (σ.set i (some v)) H
theorem pg_name {i : Nat} {x : Str} (hN : X.N.Nodup) (hi : X.N[i]? = some x) (hx : Loc X.env.scope x) (hf : X.fn x = true ∨ X.env.scope.names.lookup x = some .local := by first | exact .inl rfl | exact .inr rfl | assumption) : PG X (.Name x pos) (gName i) := by
  intro pins s σ H v u Q I r h
  exact wpAny_assign_Name (store_ok I hN hi hx r (fun s' I' => ⟨_, H, I', h⟩) hf)
def gNil : TGs := fun vs σ H Q => vs = [] ∧ Q σ H
def gCons (t : TG) (u : TGs) : TGs := fun vs σ H Q => ∃ v r, vs = v :: r ∧ t v σ H fun σ' H' => u r σ' H' Q
theorem pgs_nil : PGs X [] gNil := by
  intro pins s σ H vs us Q I r h
  obtain ⟨e, h⟩ := h
  subst e
  cases r
  exact assignInOrder_nil ⟨σ, H, I, h⟩
theorem pgs_cons {e : Expr} {es : List Expr} {t : TG} {u : TGs} (h1 : PG X e t) (h2 : PGs X es u)
    (hs : (assignEach (e :: es) X.env).map (·.2) = assign e X.env :: (assignEach es X.env).map (·.2) := by rfl) : PGs X (e :: es) (gCons t u) := by
  intro pins s σ H vs us Q I r h
  obtain ⟨v, vr, e1, h⟩ := h
  subst e1
  cases r with
  | cons r rr =>
    rw [hs]
    refine assignInOrder_cons (thn (h1 pins s σ H _ _ _ I r h) fun _ s1 ⟨σ1, H1, I1, q1⟩ => ?_)
    exact h2 pins s1 σ1 H1 _ _ Q I1 rr q1
def gTup (K : PySem.W.Frag) (n : Nat) (t : TGs) : TG := fun v σ H Q => ∃ a xs, v = .ref a ∧ SqT K H a xs ∧ xs.length = n ∧ t xs σ H Q
theorem pg_tup {es : List Expr} {k : Nat} {t : TGs} {n : Nat} (hc : X.calm = true) (h : PGs X es t)
    (hn : (assignEach es X.env).length = n := by rfl) (hst : (assignEach es X.env).findIdx? (·.1) = none := by rfl) : PG X (.Tuple es k pos) (gTup X.K n t) := by
  intro pins s σ H v u Q I r hw
  obtain ⟨a, xs, e1, hq, hl, hw⟩ := hw
  subst e1
  cases r
  obtain ⟨its, rv, ht, hz⟩ := I.tuple hq
  refine assign_Tuple_tuple (I.ok.hd hc) ht (by simp [hn, ← hl, rv.length]) hst fun h' hx => ?_
  have I1 : Inv X pins σ H { s with heap := h' } := I.kept (t' := s.toks) fun b o e => hx b o (Nat.ne_of_lt (Heap.lt_size e)) e
  exact h pins _ σ H xs _ Q I1 (by simpa using rv) hw
def tAsg (te : TE) (g : TG) : TS := fun D σ H => te σ H fun x H1 => g x σ H1 D.nx
theorem ps_set {i : Nat} {x : Str} {e : Expr} {te : TE} {pos' : Pos} (hN : X.N.Nodup) (hi : X.N[i]? = some x) (hx : Loc X.env.scope x) (he : PE X e te) (hs : swapsWith e (some (.Name x pos')) pos.line X.env = pure false := by rfl) (hf : X.fn x = true ∨ X.env.scope.names.lookup x = some .local := by first | exact .inl rfl | exact .inr rfl | assumption) :
    PS X (.Assign [.Name x pos'] e pos) (tAsg te (gName i)) := by
  intro pins s σ H D I h
  refine wpAny_Assign_Name (thn (he pins s σ H _ I h) fun v s1 ⟨y, H1, I1, r1, q1⟩ => ?_) hs
  exact store_ok I1 hN hi hx r1 (fun s2 I2 => ⟨_, H1, I2, q1⟩) hf
def tAug (i : Nat) (te : TE) (ti : TIp) : TS := fun D σ H => ∃ x, σ[i]? = some (some x) ∧ te σ H fun y H1 => ti x y H1 fun z H2 => D.nx (σ.set i (some z)) H2
theorem ps_aug {i : Nat} {x : Str} {e : Expr} {te : TE} {op : Operator} {ti : TIp} {pos' : Pos} (hN : X.N.Nodup) (hi : X.N[i]? = some x) (hx : Loc X.env.scope x) (he : PE X e te) (ho : PIp X op ti) (hf : X.fn x = true ∨ X.env.scope.names.lookup x = some .local := by first | exact .inl rfl | exact .inr rfl | assumption) :
    PS X (.AugAssign (.Name x pos') op e pos) (tAug i te ti) := by
  intro pins s σ H D I h
  obtain ⟨v, e1, h⟩ := h
  obtain ⟨m, hn, hl⟩ := I.loc
  have vis : Vis X.env.scope x := by rcases hx with k | k; exact .inl k; exact .inr (.inl k)
  obtain ⟨u, r, l⟩ := hl i x v hi e1 vis
  refine wpAny_AugAssign_Name ?_
  have go : wpAny (model X.prog X.w) X.A (eval e X.env) (fun w s₂ => wpAny (model X.prog X.w) X.A (inplaceOp op u w) (fun r s₃ => wpAny (model X.prog X.w) X.A (storeName X.env x r) (fun _ => SP X pins D .next) X.xe s₃) X.xe s₂) X.xe s := by
    refine thn (he pins s σ H _ I h) fun w s1 ⟨y, H1, I1, r1, q1⟩ => ?_
    refine thn (ho pins s1 σ H1 v y u w _ I1 r r1 q1) fun z s2 ⟨zv, H2, I2, r2, q2⟩ => ?_
    exact store_ok I2 hN hi hx r2 (fun s3 I3 => ⟨_, H2, I3, q2⟩) hf
  rcases l with ⟨hk, hm⟩ | ⟨hk, c, hc, hcell⟩
  · exact wpAny_loadName_local I.ok.kind hk hn hm go
  · rcases hk with hk | hk
    · exact wpAny_loadName_cell I.ok.kind hk hc hcell go
    · rcases hx with k | k
      · have : X.env.scope.names.lookup x = some .free := hk
        rw [k] at this; cases this
      · have : X.env.scope.names.lookup x = some .free := hk
        rw [k] at this; cases this
def ipI (f : Int → Int → Int) : TIp := fun x y H Q => ∃ i j, x = .int i ∧ y = .int j ∧ Q (.int (f i j)) H
theorem ip_add : PIp X .Add (ipI fun i j => i + j) := by
  intro pins s σ H x y v u Q I r1 r2 h
  obtain ⟨i, j, e1, e2, q⟩ := h
  subst e1; subst e2
  obtain ⟨t, rfl⟩ := r1
  obtain ⟨t', rfl⟩ := r2
  exact iadd_int ⟨.int _, H, I.tok _, ⟨_, rfl⟩, q⟩
end
section
variable {X : Cx} {pos : Pos}
def tWhile (c : TT) (tb : TS) : TS := fun D σ H => ∃ W : Nat → St → Hp → Prop, (∃ m, W m σ H) ∧ ∀ m σ H, W m σ H →
  c σ H fun b H1 => if b = true then ∃ N : St → Hp → Prop, (∀ σ' H', N σ' H' → ∃ m', m' < m ∧ W m' σ' H') ∧ tb { D with nx := N, ct := N, bk := D.nx } σ H1 else D.nx σ H1
theorem ps_while {c : Expr} {body : List Stmt} {tc : TT} {tb : TS} (hp : PassesOwn (model X.prog X.w) X.A X.env X.xe) (hc : PT X c tc) (hb : PSs X body tb) : PS X (.While c body [] pos) (tWhile tc tb) := by
  intro pins s σ H D I h
  obtain ⟨W, ⟨m0, w0⟩, turn⟩ := h
  refine wpAny_While (codeAny_whileLoop (fun n s' => ∃ σ' H', Inv X pins σ' H' s' ∧ W n σ' H') ?_ m0 ⟨σ, H, I, w0⟩)
  rintro n s1 ⟨σ1, H1, I1, w1⟩
  refine wpAny_passesOwn hp (thn (hc pins s1 σ1 H1 _ I1 (turn n σ1 H1 w1)) fun b s2 ⟨H2, I2, q2⟩ => ?_)
  cases b with
  | true =>
    obtain ⟨N, hN, q2⟩ := q2
    rw [if_pos rfl]
    refine wpAny_passesOwn hp (thn (hb pins s2 σ1 H2 _ I2 q2) fun f s3 q3 => ?_)
    cases f with
    | next =>
      obtain ⟨σ3, H3, I3, n3⟩ := q3
      obtain ⟨m', hm, w3⟩ := hN σ3 H3 n3
      exact ⟨m', hm, σ3, H3, I3, w3⟩
    | cont =>
      obtain ⟨σ3, H3, I3, n3⟩ := q3
      obtain ⟨m', hm, w3⟩ := hN σ3 H3 n3
      exact ⟨m', hm, σ3, H3, I3, w3⟩
    | brk => exact q3
    | ret v => exact q3
  | false =>
    rw [if_neg Bool.false_ne_true]
    exact wpAny_execs_nil ⟨σ1, H2, I2, q2⟩
end
structure It where
  go : Nat → Hp → Prop
  yld : Nat → Hp → V → Hp → Prop
  stop : Nat → Hp → Prop
def FpOk (X : Cx) (pins : List (Addr × Obj)) (H : Hp) (b : Addr) : Prop :=
  H b = none ∧ b ≠ X.env.locals ∧ b ∉ X.fs ∧ (b ∈ X.ex ∨ X.s_0.heap.objs.size ≤ b) ∧ (∀ x c, X.env.cells.lookup x = some c → c ≠ b) ∧ ∀ p ∈ X.pn ++ pins, p.1 ≠ b
theorem Inv.fpOk {X : Cx} {pins : List (Addr × Obj)} {σ : St} {H H' : Hp} {s : Shared} {b : Addr} (I : Inv X pins σ H s) (hb : s.heap.objs.size ≤ b) (hn : H' b = none) : FpOk X pins H' b := by
  refine ⟨hn, Nat.ne_of_gt (Nat.lt_of_lt_of_le I.lt hb), I.nofs hb, .inr (Nat.le_trans I.sz hb), fun x c e z => ?_, fun p hp z => ?_⟩
  · obtain ⟨v, q⟩ := I.cell x c e
    exact absurd (Nat.lt_of_lt_of_le q.lt (by rw [z]; exact hb)) (Nat.lt_irrefl _)
  · exact absurd (Nat.lt_of_lt_of_le (Heap.lt_size (I.pin p hp).1) (by rw [z]; exact hb)) (Nat.lt_irrefl _)
structure Turn (P : Program) (w : World) (K : PySem.W.Frag) (tg : Expr) (J : It) (fp : List Addr) (it : Addr) (tn : Nat → Heap → Prop) : Prop where
  mem : it ∈ fp
  obj : ∀ i h, tn i h → ∀ b ∈ fp, ∃ o, h.get? b = some o ∧ ∀ v, o.data ≠ .cell v
  keep : ∀ i h h', tn i h → (∀ b ∈ fp, ∀ o, h.get? b = some o → h'.get? b = some o) → tn i h'
  item : ∀ (X : Cx), X.prog = P → X.w = w → X.K = K → X.calm = true → ∀ (i : Nat) (pins : List (Addr × Obj)) (s : Shared) (σ : St) (H : Hp) (E : Value → Shared → Prop), Inv X pins σ H s → (∀ b ∈ fp, FpOk X pins H b) → tn i s.heap → J.go i H →
    wpAny (model P w) X.A (pyNext (.ref it)) (fun r s1 => ∃ u, r = some u ∧
      wpAny (model P w) X.A (letOwnedTupleGo tg (.ref it) u) (fun _ s2 => ∃ x H', Inv X pins σ H' s2 ∧ RelV x u ∧ J.yld i H x H' ∧ tn (i + 1) s2.heap ∧ ∀ b ∈ fp, H' b = none) E s1) E s
  done : ∀ (X : Cx), X.prog = P → X.w = w → X.K = K → X.calm = true → ∀ (i : Nat) (pins : List (Addr × Obj)) (s : Shared) (σ : St) (H : Hp) (E : Value → Shared → Prop), Inv X pins σ H s → (∀ b ∈ fp, FpOk X pins H b) → tn i s.heap → J.stop i H →
    wpAny (model P w) X.A (pyNext (.ref it)) (fun r s1 => r = none ∧ Inv X pins σ H s1) E s
  self : ∀ (A : Around) (i : Nat) (s : Shared) (Q : Value → Shared → Prop) (E : Value → Shared → Prop), tn i s.heap → Q (.ref it) s → wpAny (model P w) A (pyIter (.ref it)) Q E s
abbrev TI := St → Hp → (It → Hp → Prop) → Prop
def PIE (X : Cx) (pins : List (Addr × Obj)) (σ : St) (tg : Expr) (R : It → Hp → Prop) (itv : Value) (s2 : Shared) : Prop :=
  ∃ (it : Addr) (fp : List Addr) (tn : Nat → Heap → Prop) (J : It) (H' : Hp), itv = .ref it ∧ Inv X pins σ H' s2 ∧ Turn X.prog X.w X.K tg J fp it tn ∧ tn 0 s2.heap ∧ (∀ b ∈ fp, FpOk X pins H' b) ∧ R J H'
def PI (X : Cx) (tg iter : Expr) (wi : TI) : Prop :=
  ∀ (pins : List (Addr × Obj)) (s : Shared) (σ : St) (H : Hp) (R : It → Hp → Prop), Inv X pins σ H s → wi σ H R →
    wpAny (model X.prog X.w) X.A (eval iter X.env) (fun v s1 => wpAny (model X.prog X.w) X.A (pyIter v) (PIE X pins σ tg R) X.xe s1) X.xe s
theorem go_of {M : Model} {A : Around} {E : Value → Shared → Prop} {s : Shared} {tg : Expr} {it : Addr} {u : Value} {o : Obj} {n : String} {vs : Array Value} {Q : Unit → Shared → Prop} (ho : s.heap.get? it = some o) (hc : o.cls = .type n) (hd : o.data = .fields vs)
    (hn : ["enumerate", "zip", "dict_itemiterator", "dict_reverseitemiterator", "odict_iterator", "itertools.zip_longest", "itertools.pairwise"].contains n = false) (hQ : Q () s) : wpAny M A (letOwnedTupleGo tg (.ref it) u) Q E s := by
  unfold letOwnedTupleGo
  cases tg <;> first
    | exact wpAny_pure hQ
    | (cases u <;> first
        | exact wpAny_pure hQ
        | (refine wpAny_bind (wpAny_load ho ?_)
           rw [hc, hd]
           show wpAny M A (if (["enumerate", "zip", "dict_itemiterator", "dict_reverseitemiterator", "odict_iterator", "itertools.zip_longest", "itertools.pairwise"].contains n && vs[0]? == some (rawInt _)) = true then _ else _) Q E s
           rw [if_neg (by intro h; rw [hn, Bool.false_and] at h; cases h)]
           exact wpAny_pure hQ))
def Itl (K : PySem.W.Frag) (a : Addr) : It :=
  ⟨fun i H => ∃ xs x, SqL K H a xs ∧ xs[i]? = some x, fun i H x H' => H' = H ∧ ∀ xs, SqL K H a xs → xs[i]? = some x, fun i H => ∃ xs, SqL K H a xs ∧ xs.length ≤ i⟩
def Itt (K : PySem.W.Frag) (a : Addr) : It :=
  ⟨fun i H => ∃ xs x, SqT K H a xs ∧ xs[i]? = some x, fun i H x H' => H' = H ∧ ∀ xs, SqT K H a xs → xs[i]? = some x, fun i H => ∃ xs, SqT K H a xs ∧ xs.length ≤ i⟩
def Itr (lo : Int) (n : Nat) : It := ⟨fun i _ => i < n, fun i H x H' => H' = H ∧ x = .int (lo + i), fun i _ => n ≤ i⟩
theorem turn_list {P : Program} {w : World} {K : PySem.W.Frag} {tg : Expr} (a it : Addr) : Turn P w K tg (Itl K a) [it] it (fun i h => h.IsListIter it a i) where
  mem := by simp
  obj := fun i h st b hb => by
    have e : b = it := by simpa using hb
    subst e
    obtain ⟨o, e, c, d⟩ := st
    exact ⟨o, e, fun v z => by rw [d] at z; cases z⟩
  keep := fun i h h' st k => st.at fun o e => k it (by simp) o e
  item := by
    intro X hP hw hK hc i pins s σ H E I hf st hg
    subst hP hw hK
    obtain ⟨xs, x, hq, hx⟩ := hg
    obtain ⟨its, rv, p, hz⟩ := I.list hq
    obtain ⟨u, hu, ru⟩ := rv.get hx
    obtain ⟨f0, f1, f2, f3, f4, f5⟩ := hf it (by simp)
    refine wpAny_pyNext_list_item st p.isList (x := u) (by simpa using hu) fun h' st' sb => ?_
    have I1 : Inv X pins σ H { s with heap := h' } := I.turned (t' := s.toks) (fun b o hb e => (sb.2 b hb).trans e) f0 f1 f3 f4 f5
    obtain ⟨o, e, c, d⟩ := id st'
    exact ⟨u, rfl, go_of (s := { s with heap := h' }) e c d (by decide) ⟨x, H, I1, ru, ⟨rfl, fun ys hy => by rw [I.list_inj hy hq]; exact hx⟩, st', fun b hb => (hf b hb).1⟩⟩
  done := by
    intro X hP hw hK hc i pins s σ H E I hf st hg
    subst hP hw hK
    obtain ⟨xs, hq, hx⟩ := hg
    obtain ⟨its, rv, p, hz⟩ := I.list hq
    obtain ⟨f0, f1, f2, f3, f4, f5⟩ := hf it (by simp)
    have hl := rv.length
    exact wpAny_pyNext_list_end (I.ok.hd hc) st p.isList (by simp; omega) fun h' eb => ⟨rfl, I.turned (t' := s.toks) (fun b o hb e => eb b o hb e) f0 f1 f3 f4 f5⟩
  self := fun _ _ _ _ _ st h => wpAny_pyIter_listiter st h
theorem turn_tuple {P : Program} {w : World} {K : PySem.W.Frag} {tg : Expr} (a it : Addr) : Turn P w K tg (Itt K a) [it] it (fun i h => h.IsTupleIter it a i) where
  mem := by simp
  obj := fun i h st b hb => by
    have e : b = it := by simpa using hb
    subst e
    obtain ⟨o, e, c, d⟩ := st
    exact ⟨o, e, fun v z => by rw [d] at z; cases z⟩
  keep := fun i h h' st k => st.at fun o e => k it (by simp) o e
  item := by
    intro X hP hw hK hc i pins s σ H E I hf st hg
    subst hP hw hK
    obtain ⟨xs, x, hq, hx⟩ := hg
    obtain ⟨its, rv, p, hz⟩ := I.tuple hq
    obtain ⟨u, hu, ru⟩ := rv.get hx
    obtain ⟨f0, f1, f2, f3, f4, f5⟩ := hf it (by simp)
    refine wpAny_pyNext_tuple_item st (show s.heap.IsTuple a its.toArray from p) (x := u) (by simpa using hu) fun h' st' sb => ?_
    have I1 : Inv X pins σ H { s with heap := h' } := I.turned (t' := s.toks) (fun b o hb e => (sb.2 b hb).trans e) f0 f1 f3 f4 f5
    obtain ⟨o, e, c, d⟩ := id st'
    exact ⟨u, rfl, go_of (s := { s with heap := h' }) e c d (by decide) ⟨x, H, I1, ru, ⟨rfl, fun ys hy => by rw [I.tuple_inj hy hq]; exact hx⟩, st', fun b hb => (hf b hb).1⟩⟩
  done := by
    intro X hP hw hK hc i pins s σ H E I hf st hg
    subst hP hw hK
    obtain ⟨xs, hq, hx⟩ := hg
    obtain ⟨its, rv, p, hz⟩ := I.tuple hq
    obtain ⟨f0, f1, f2, f3, f4, f5⟩ := hf it (by simp)
    have hl := rv.length
    exact wpAny_pyNext_tuple_end (I.ok.hd hc) st (show s.heap.IsTuple a its.toArray from p) (by simp; omega) fun h' eb => ⟨rfl, I.turned (t' := s.toks) (fun b o hb e => eb b o hb e) f0 f1 f3 f4 f5⟩
  self := fun _ _ _ _ _ st h => wpAny_pyIter_tupleiter st h
theorem turn_range {P : Program} {w : World} {K : PySem.W.Frag} {tg : Expr} (it : Addr) (lo : Int) (n : Nat) : Turn P w K tg (Itr lo n) [it] it (fun i h => IsRangeIter h it (lo + (i : Nat) * 1) ((n : Int) - (i : Nat)) 1) where
  mem := by simp
  obj := fun i h st b hb => by
    have e : b = it := by simpa using hb
    subst e
    exact ⟨_, st, fun v z => by
      have z' : Data.fields _ = Data.cell v := z
      cases z'⟩
  keep := fun i h h' st k => k it (by simp) _ st
  item := by
    intro X hP hw hK hc i pins s σ H E I hf st hg
    subst hP hw hK
    obtain ⟨f0, f1, f2, f3, f4, f5⟩ := hf it (by simp)
    have W := Walks.range (prog := X.prog) (w := X.w) (I.ok.hd hc) it lo 1 n
    refine W.item i s _ _ hg st fun v h' tk hv st' kk => ?_
    obtain ⟨t, rfl⟩ := hv
    have I1 : Inv X pins σ H { s with heap := h', toks := tk } := I.turned (fun b o hb e => kk b o (by simpa using hb) e) f0 f1 f3 f4 f5
    refine ⟨_, rfl, go_of (s := { s with heap := h', toks := tk }) (n := "range_iterator") st' rfl rfl (by decide) ⟨.int (lo + i), H, I1, ⟨t, ?_⟩, ⟨rfl, rfl⟩, st', fun b hb => (hf b hb).1⟩⟩
    rw [Int.mul_one]
  done := by
    intro X hP hw hK hc i pins s σ H E I hf st hg
    subst hP hw hK
    obtain ⟨f0, f1, f2, f3, f4, f5⟩ := hf it (by simp)
    exact wpAny_pyNext_range_end (I.ok.hd hc) st (by have : n ≤ i := hg; omega) fun h' eb => ⟨rfl, I.turned (t' := s.toks) (fun b o hb e => eb b o hb e) f0 f1 f3 f4 f5⟩
  self := fun _ _ _ _ _ st h => wpAny_pyIter_rangeiter st h
end L2
namespace L2
open PySem PySem.Spec PyProof.Rows
section
variable {X : Cx} {tg : Expr}
def iList (K : PySem.W.Frag) (tl : TE) : TI := fun σ H R => tl σ H fun x H1 => ∃ a, x = .ref a ∧ (∃ xs, SqL K H1 a xs) ∧ R (Itl K a) H1
def iTup (K : PySem.W.Frag) (tl : TE) : TI := fun σ H R => tl σ H fun x H1 => ∃ a, x = .ref a ∧ (∃ xs, SqT K H1 a xs) ∧ R (Itt K a) H1
theorem pi_list {l : Expr} {tl : TE} (hl : PE X l tl) : PI X tg l (iList X.K tl) := by
  intro pins s σ H R I h
  refine thn (hl pins s σ H _ I h) fun v s1 ⟨x, H1, I1, r1, q1⟩ => ?_
  obtain ⟨a, e, ⟨xs, hq⟩, q⟩ := q1
  subst e
  cases r1
  obtain ⟨its, rv, p, hz⟩ := I1.list hq
  refine wpAny_pyIter_list p.isList ?_
  refine ⟨s1.heap.objs.size, [s1.heap.objs.size], _, _, H1, rfl, I1.kept (t' := s1.toks) fun b o e => Heap.get?_push_of_some _ e, turn_list a _, ⟨_, Heap.get?_push_size _ rfl, rfl, rfl⟩, fun b hb => ?_, q⟩
  have e : b = s1.heap.objs.size := by simpa using hb
  subst e
  exact I1.fpOk (Nat.le_refl _) (I1.hok.fresh (Nat.le_refl _))
theorem pi_tup {l : Expr} {tl : TE} (hl : PE X l tl) : PI X tg l (iTup X.K tl) := by
  intro pins s σ H R I h
  refine thn (hl pins s σ H _ I h) fun v s1 ⟨x, H1, I1, r1, q1⟩ => ?_
  obtain ⟨a, e, ⟨xs, hq⟩, q⟩ := q1
  subst e
  cases r1
  obtain ⟨its, rv, p, hz⟩ := I1.tuple hq
  refine wpAny_pyIter_tuple (show s1.heap.IsTuple a its.toArray from p) ?_
  refine ⟨s1.heap.objs.size, [s1.heap.objs.size], _, _, H1, rfl, I1.kept (t' := s1.toks) fun b o e => Heap.get?_push_of_some _ e, turn_tuple a _, ⟨_, Heap.get?_push_size _ rfl, rfl, rfl⟩, fun b hb => ?_, q⟩
  have e : b = s1.heap.objs.size := by simpa using hb
  subst e
  exact I1.fpOk (Nat.le_refl _) (I1.hok.fresh (Nat.le_refl _))
theorem range_it {pins : List (Addr × Obj)} {σ : St} {H : Hp} {s : Shared} {R : It → Hp → Prop} {E : Value → Shared → Prop} {lo hi : Int} {t u v : Tok} {tk : Nat} (I : Inv X pins σ H s) (h1 : -(2 ^ 62) ≤ lo) (h2 : lo < 2 ^ 62) (h3 : -(2 ^ 62) ≤ hi) (h4 : hi < 2 ^ 62)
    (q : R (Itr lo (hi - lo).toNat) H) : wpAny (model X.prog X.w) X.A (pyIter (.ref s.heap.objs.size)) (PIE X pins σ tg R) E { s with heap := s.heap.push { cls := .type "range", data := .fields #[.int lo t, .int hi u, .int 1 v] }, toks := tk } := by
  refine wpAny_pyIter_range (IsRange.new ..) (small_one h1 h2 h3 h4) ?_
  have I1 : Inv X pins σ H { s with heap := s.heap.push { cls := .type "range", data := .fields #[.int lo t, .int hi u, .int 1 v] }, toks := tk } := I.kept fun b o e => Heap.get?_push_of_some _ e
  refine ⟨(s.heap.push { cls := .type "range", data := .fields #[.int lo t, .int hi u, .int 1 v] }).objs.size, [(s.heap.push { cls := .type "range", data := .fields #[.int lo t, .int hi u, .int 1 v] }).objs.size], _, _, H, rfl,
    I1.kept (t' := tk) fun b o e => Heap.get?_push_of_some _ e, turn_range _ lo (hi - lo).toNat, ?_, fun b hb => ?_, q⟩
  · have e1 : lo + ((0 : Nat) : Int) * 1 = lo := by simp
    have e2 : (((hi - lo).toNat : Nat) : Int) - ((0 : Nat) : Int) = Builtin.Range.rangeSize lo hi 1 := by rw [rangeSize_one]; split <;> omega
    show IsRangeIter _ _ (lo + ((0 : Nat) : Int) * 1) ((((hi - lo).toNat : Nat) : Int) - ((0 : Nat) : Int)) 1
    rw [e1, e2]
    exact Heap.get?_push_size _ rfl
  · have e : b = (s.heap.push { cls := .type "range", data := .fields #[.int lo t, .int hi u, .int 1 v] }).objs.size := by simpa using hb
    subst e
    exact I1.fpOk (Nat.le_refl _) (I1.hok.fresh (Nat.le_refl _))
def iRng1 (ta : TA) : TI := fun σ H R => ta σ H fun vs H1 => ∃ j : Int, vs = [.int j] ∧ -(2 ^ 62) ≤ j ∧ j < 2 ^ 62 ∧ R (Itr 0 j.toNat) H1
def iRng2 (ta : TA) : TI := fun σ H R => ta σ H fun vs H1 => ∃ i j : Int, vs = [.int i, .int j] ∧ (-(2 ^ 62) ≤ i ∧ i < 2 ^ 62 ∧ -(2 ^ 62) ≤ j ∧ j < 2 ^ 62) ∧ R (Itr i (j - i).toNat) H1
theorem pi_range1 {a : Expr} {ta : TA} {p pos : Pos} (hg : Gl X "range") (hm : X.mg "range" = none) (ha : PA X [a] ta) (hs : starEach [a] X.env = [(false, eval a X.env)] := by rfl) : PI X tg (.Call (.Name "range" p) [a] [] pos) (iRng1 ta) := by
  intro pins s σ H R I h
  refine Call_ (ld_blt I hg hm boot_range (PyProof.Rows.callWith_type1 (thn (ha pos pins s σ H _ I h) fun us s1 ⟨vs, H1, I1, r1, q1⟩ => ?_) hs rfl))
  obtain ⟨j, e, q1, q2, q⟩ := q1
  subst e
  cases r1 with
  | cons r rr =>
    cases rr
    obtain ⟨t, rfl⟩ := r
    exact call_range_1 (range_it I1 (by omega) (by omega) q1 q2 (by simpa using q))
theorem pi_range2 {a b : Expr} {ta : TA} {p pos : Pos} (hg : Gl X "range") (hm : X.mg "range" = none) (ha : PA X [a, b] ta) (hs : starEach [a, b] X.env = [(false, eval a X.env), (false, eval b X.env)] := by rfl) (hs2 : starEach [b] X.env = [(false, eval b X.env)] := by rfl) :
    PI X tg (.Call (.Name "range" p) [a, b] [] pos) (iRng2 ta) := by
  intro pins s σ H R I h
  refine Call_ (ld_blt I hg hm boot_range (PyProof.Rows.callWith_type1 (thn (ha pos pins s σ H _ I h) fun us s1 ⟨vs, H1, I1, r1, q1⟩ => ?_) (by rw [hs, hs2]) (by rw [hs2]; rfl)))
  obtain ⟨i, j, e, ⟨q1, q2, q3, q4⟩, q⟩ := q1
  subst e
  cases r1 with
  | cons r rr =>
    cases rr with
    | cons r' rr =>
      cases rr
      obtain ⟨t, rfl⟩ := r
      obtain ⟨t', rfl⟩ := r'
      exact call_range_2 (range_it I1 q1 q2 q3 q4 q)
def tFor (wi : TI) (g : TG) (tb : TS) : TS := fun D σ H => wi σ H fun J H1 => ∃ W : Nat → Nat → St → Hp → Prop, (∃ m, W 0 m σ H1) ∧ ∀ i m σ H, W i m σ H →
  (J.stop i H ∧ D.nx σ H) ∨ (J.go i H ∧ ∃ N : St → Hp → Prop, (∀ σ' H', N σ' H' → ∃ m', m' < m ∧ W (i + 1) m' σ' H') ∧ ∀ x H', J.yld i H x H' → g x σ H' fun σ2 H2 => tb { D with nx := N, ct := N, bk := D.nx } σ2 H2)
def pinsAt (fp : List Addr) (h : Heap) : List (Addr × Obj) := fp.filterMap fun b => (h.get? b).map fun o => (b, o)
theorem mem_pinsAt {fp : List Addr} {h : Heap} {b : Addr} {o : Obj} (hb : b ∈ fp) (e : h.get? b = some o) : (b, o) ∈ pinsAt fp h := List.mem_filterMap.mpr ⟨b, hb, by rw [e]; rfl⟩
theorem of_pinsAt {fp : List Addr} {h : Heap} {p : Addr × Obj} (hp : p ∈ pinsAt fp h) : p.1 ∈ fp ∧ h.get? p.1 = some p.2 := by
  obtain ⟨b, hb, e⟩ := List.mem_filterMap.mp hp
  cases q : h.get? b with
  | none => rw [q] at e; cases e
  | some o =>
    rw [q] at e
    have e' : (b, o) = p := Option.some.inj e
    subst e'
    exact ⟨hb, q⟩
theorem Inv.pinned {pins : List (Addr × Obj)} {σ : St} {H : Hp} {s : Shared} {fp : List Addr} (I : Inv X pins σ H s) (hf : ∀ b ∈ fp, FpOk X pins H b) (ho : ∀ b ∈ fp, ∃ o, s.heap.get? b = some o ∧ ∀ v, o.data ≠ .cell v) : Inv X (pins ++ pinsAt fp s.heap) σ H s :=
  I.pins_of fun p hp => (List.mem_append.mp hp).elim (fun z => I.pin p (List.mem_append_right _ z)) fun z => by
    obtain ⟨hb, e⟩ := of_pinsAt z
    obtain ⟨f0, f1, f2, _⟩ := hf p.1 hb
    obtain ⟨o, e', d⟩ := ho p.1 hb
    rw [e] at e'; cases e'
    exact ⟨e, f0, f1, f2, d⟩
theorem Inv.unpinned {pins pl : List (Addr × Obj)} {σ : St} {H : Hp} {s : Shared} (I : Inv X (pins ++ pl) σ H s) : Inv X pins σ H s := I.pins_of fun p hp => I.pin p (List.mem_append_right _ (List.mem_append_left _ hp))
theorem ps_for {iter : Expr} {body : List Stmt} {wi : TI} {g : TG} {tb : TS} {pos : Pos} (hp : PassesOwn (model X.prog X.w) X.A X.env X.xe) (hc : X.calm = true) (hi : PI X tg iter wi) (hg : PG X tg g) (hb : PSs X body tb)
    (hs : ∀ x, foldedSetIterable iter X.env x = pure x := by intro _; rfl) : PS X (.For tg iter body [] pos) (tFor wi g tb) := by
  intro pins s σ H D I h
  refine wpAny_For (thn (hi pins s σ H _ I h) fun v s1 h1 => thn h1 fun itv s2 h2 => ?_) hs
  obtain ⟨it, fp, tn, J, H2, e, I2, T, st2, f2, W, ⟨m0, w0⟩, turn⟩ := h2
  subst e
  -- what stays true of the iterator's objects through the loop
  have stat : ∀ {H' : Hp}, (∀ b ∈ fp, H' b = none) → ∀ b ∈ fp, FpOk X pins H' b := fun hn b hb => ⟨hn b hb, (f2 b hb).2⟩
  refine codeAny_forLoop_any (fun n s' => ∃ i σ' H', Inv X pins σ' H' s' ∧ tn i s'.heap ∧ (∀ b ∈ fp, H' b = none) ∧ W i n σ' H') ?_ m0 ⟨0, σ, H2, I2, st2, fun b hb => (f2 b hb).1, w0⟩
  rintro n s3 ⟨i, σ3, H3, I3, st3, fr3, w3⟩
  rcases turn i n σ3 H3 w3 with ⟨stop, qn⟩ | ⟨go, N, hN, step⟩
  · refine wpAny_passesOwn hp (thn (T.done X rfl rfl rfl hc i pins s3 σ3 H3 X.xe I3 (stat fr3) st3 stop) fun r s4 ⟨hr, I4⟩ => ?_)
    subst hr
    exact wpAny_execs_nil ⟨σ3, H3, I4, qn⟩
  · refine wpAny_passesOwn hp (thn (T.item X rfl rfl rfl hc i pins s3 σ3 H3 X.xe I3 (stat fr3) st3 go) fun r s4 ⟨u, hr, h4⟩ => ?_)
    subst hr
    refine wpAny_passesOwn hp (thn h4 fun _ s5 ⟨x, H5, I5, r5, y5, st5, fr5⟩ => ?_)
    have I5' := I5.pinned (stat fr5) (T.obj _ _ st5)
    refine wpAny_passesOwn hp (thn (hg _ s5 σ3 H5 x u _ I5' r5 (step x H5 y5)) fun _ s6 ⟨σ6, H6, I6, q6⟩ => ?_)
    refine wpAny_passesOwn hp (thn (hb _ s6 σ6 H6 _ I6 q6) fun f s7 q7 => ?_)
    have again : ∀ {σ7 : St} {H7 : Hp}, Inv X (pins ++ pinsAt fp s5.heap) σ7 H7 s7 → N σ7 H7 → ∃ m, m < n ∧ ∃ i σ' H', Inv X pins σ' H' s7 ∧ tn i s7.heap ∧ (∀ b ∈ fp, H' b = none) ∧ W i m σ' H' := fun {σ7 H7} I7 n7 => by
      obtain ⟨m', hm, w7⟩ := hN σ7 H7 n7
      refine ⟨m', hm, i + 1, σ7, H7, I7.unpinned, T.keep _ _ _ st5 fun b hb o e => (I7.pin (b, o) (List.mem_append_right _ (List.mem_append_right _ (mem_pinsAt hb e)))).1, fun b hb => ?_, w7⟩
      obtain ⟨o, e, d⟩ := T.obj _ _ st5 b hb
      exact (I7.pin (b, o) (List.mem_append_right _ (List.mem_append_right _ (mem_pinsAt hb e)))).2.1
    cases f with
    | next => obtain ⟨σ7, H7, I7, n7⟩ := q7; exact again I7 n7
    | cont => obtain ⟨σ7, H7, I7, n7⟩ := q7; exact again I7 n7
    | brk => obtain ⟨σ7, H7, I7, q7⟩ := q7; exact ⟨σ7, H7, I7.unpinned, q7⟩
    | ret v => obtain ⟨x7, σ7, H7, I7, r7, q7⟩ := q7; exact ⟨x7, σ7, H7, I7.unpinned, r7, q7⟩
end
theorem for_list {K : PySem.W.Frag} {a : Addr} {xs : List V} {g : TG} {tb : TS} {D : Ends} {σ : St} {H : Hp} (Pv : Nat → St → Hp → Prop) (h0 : Pv 0 σ H) (hl : ∀ i σ H, i ≤ xs.length → Pv i σ H → SqL K H a xs)
    (hs : ∀ i x σ H, xs[i]? = some x → Pv i σ H → g x σ H fun σ2 H2 => tb { D with nx := Pv (i + 1), ct := Pv (i + 1), bk := D.nx } σ2 H2) (hd : ∀ σ H, Pv xs.length σ H → D.nx σ H) :
    ∃ W : Nat → Nat → St → Hp → Prop, (∃ m, W 0 m σ H) ∧ ∀ i m σ H, W i m σ H →
      ((Itl K a).stop i H ∧ D.nx σ H) ∨ ((Itl K a).go i H ∧ ∃ N : St → Hp → Prop, (∀ σ' H', N σ' H' → ∃ m', m' < m ∧ W (i + 1) m' σ' H') ∧ ∀ x H', (Itl K a).yld i H x H' → g x σ H' fun σ2 H2 => tb { D with nx := N, ct := N, bk := D.nx } σ2 H2) := by
  refine ⟨fun i m σ H => m = xs.length - i ∧ i ≤ xs.length ∧ Pv i σ H, ⟨xs.length, by simp, Nat.zero_le _, h0⟩, ?_⟩
  rintro i m σ H ⟨rfl, hi, p⟩
  have q := hl i σ H hi p
  by_cases hlt : i < xs.length
  · refine .inr ⟨⟨xs, xs[i], q, by simp [hlt]⟩, Pv (i + 1), fun σ' H' p' => ⟨xs.length - (i + 1), by omega, rfl, hlt, p'⟩, fun x H' y => ?_⟩
    obtain ⟨e, y⟩ := y
    subst e
    exact hs i x σ _ (y xs q) p
  · have e : i = xs.length := by omega
    subst e
    exact .inl ⟨⟨xs, q, Nat.le_refl _⟩, hd σ H p⟩
theorem for_range {lo : Int} {n : Nat} {g : TG} {tb : TS} {D : Ends} {σ : St} {H : Hp} (Pv : Nat → St → Hp → Prop) (h0 : Pv 0 σ H)
    (hs : ∀ i σ H, i < n → Pv i σ H → g (.int (lo + i)) σ H fun σ2 H2 => tb { D with nx := Pv (i + 1), ct := Pv (i + 1), bk := D.nx } σ2 H2) (hd : ∀ σ H, Pv n σ H → D.nx σ H) :
    ∃ W : Nat → Nat → St → Hp → Prop, (∃ m, W 0 m σ H) ∧ ∀ i m σ H, W i m σ H →
      ((Itr lo n).stop i H ∧ D.nx σ H) ∨ ((Itr lo n).go i H ∧ ∃ N : St → Hp → Prop, (∀ σ' H', N σ' H' → ∃ m', m' < m ∧ W (i + 1) m' σ' H') ∧ ∀ x H', (Itr lo n).yld i H x H' → g x σ H' fun σ2 H2 => tb { D with nx := N, ct := N, bk := D.nx } σ2 H2) := by
  refine ⟨fun i m σ H => m = n - i ∧ i ≤ n ∧ Pv i σ H, ⟨n, by simp, Nat.zero_le _, h0⟩, ?_⟩
  rintro i m σ H ⟨rfl, hi, p⟩
  by_cases hlt : i < n
  · refine .inr ⟨hlt, Pv (i + 1), fun σ' H' p' => ⟨n - (i + 1), by omega, rfl, hlt, p'⟩, fun x H' y => ?_⟩
    obtain ⟨e, y⟩ := y
    subst e y
    exact hs i σ _ hlt p
  · have e : i = n := by omega
    subst e
    exact .inl ⟨Nat.le_refl _, hd σ H p⟩
end L2
namespace L2
open PySem PySem.Spec PyProof.Rows
abbrev R2 := V → V → Hp → VK → Prop
def OpR (X : Cx) (f : Value → Value → Sem Value) (r : R2) : Prop :=
  ∀ (pins : List (Addr × Obj)) (s : Shared) (σ : St) (H : Hp) (x y : V) (v u : Value) (Q : VK), Inv X pins σ H s → RelV x v → RelV y u → r x y H Q →
    wpAny (model X.prog X.w) X.A (f v u) (EP X pins σ Q) X.xe s
def UnR (X : Cx) (f : Value → Sem Value) (r : V → Hp → VK → Prop) : Prop :=
  ∀ (pins : List (Addr × Obj)) (s : Shared) (σ : St) (H : Hp) (x : V) (v : Value) (Q : VK), Inv X pins σ H s → RelV x v → r x H Q →
    wpAny (model X.prog X.w) X.A (f v) (EP X pins σ Q) X.xe s
def CallR (X : Cx) (f : Value) (r : List V → Hp → VK → Prop) : Prop :=
  ∀ (pins : List (Addr × Obj)) (s : Shared) (σ : St) (H : Hp) (xs : List V) (us : List Value) (Q : VK), Inv X pins σ H s → Vals xs us → r xs H Q →
    wpAny (model X.prog X.w) X.A (call f us) (EP X pins σ Q) X.xe s
def tOp (r : R2) (ta tb : TE) : TE := fun σ H Q => ta σ H fun x H1 => tb σ H1 fun y H2 => r x y H2 Q
def tUn (r : V → Hp → VK → Prop) (ta : TE) : TE := fun σ H Q => ta σ H fun x H1 => r x H1 Q
def rI0 (g : Int → Int → V) : R2 := fun x y H Q => ∃ i j, x = .int i ∧ y = .int j ∧ Q (g i j) H
def rU (g : Int → V) : V → Hp → VK → Prop := fun x H Q => ∃ i, x = .int i ∧ Q (g i) H
section
variable {X : Cx} {a b c : Expr} {ta tb tc : TE} {pos : Pos}
theorem binT (ha : PE X a ta) (hb : PE X b tb) {pins : List (Addr × Obj)} {s : Shared} {σ : St} {H : Hp} {R : V → V → Hp → Prop} (I : Inv X pins σ H s)
    (h : ta σ H fun x H1 => tb σ H1 fun y H2 => R x y H2) {Q : Value → Shared → Prop} {f : Value → Value → Sem Value}
    (hf : ∀ v u s2 x y H2, Inv X pins σ H2 s2 → RelV x v → RelV y u → R x y H2 → wpAny (model X.prog X.w) X.A (f v u) Q X.xe s2) :
    wpAny (model X.prog X.w) X.A (eval a X.env) (fun v s₁ => wpAny (model X.prog X.w) X.A (eval b X.env) (fun u s₂ => wpAny (model X.prog X.w) X.A (f v u) Q X.xe s₂) X.xe s₁) X.xe s := by
  refine thn (ha pins s σ H _ I h) fun v s1 ⟨x, H1, I1, r1, q1⟩ => ?_
  refine thn (hb pins s1 σ H1 _ I1 q1) fun u s2 ⟨y, H2, I2, r2, q2⟩ => ?_
  exact hf v u s2 x y H2 I2 r1 r2 q2
theorem pe_op {op : Operator} {r : R2} (ho : OpR X (binaryOp op) r) (ha : PE X a ta) (hb : PE X b tb) : PE X (.BinOp a op b pos) (tOp r ta tb) := by
  intro pins s σ H Q I h
  exact wpAny_BinOp (binT ha hb I h fun v u s2 x y H2 I2 rx ry q => ho pins s2 σ H2 x y v u Q I2 rx ry q)
theorem pe_un {op : UnaryOp} {r : V → Hp → VK → Prop} (ho : UnR X (unaryOp op) r) (ha : PE X a ta) : PE X (.UnaryOp op a pos) (tUn r ta) := by
  intro pins s σ H Q I h
  exact UnaryOp_ (thn (ha pins s σ H _ I h) fun v s1 ⟨x, H1, I1, r1, q1⟩ => ho pins s1 σ H1 x v Q I1 r1 q1)
theorem opI0 {f : Value → Value → Sem Value} {g : Int → Int → Int}
    (rule : ∀ (i j : Int) (t u : Tok) (s : Shared) (Q : Value → Shared → Prop) (E : Value → Shared → Prop), Q (.int (g i j) s.toks) { s with toks := s.toks + 1 } → wpAny (model X.prog X.w) X.A (f (.int i t) (.int j u)) Q E s) :
    OpR X f (rI0 fun i j => .int (g i j)) := by
  intro pins s σ H x y v u Q I rx ry h
  obtain ⟨i, j, rfl, rfl, q⟩ := h
  obtain ⟨t, rfl⟩ := rx
  obtain ⟨t', rfl⟩ := ry
  exact rule i j t t' s _ _ ⟨.int (g i j), H, I.tok _, ⟨_, rfl⟩, q⟩
theorem opB0 {f : Value → Value → Sem Value} {g : Int → Int → Bool}
    (rule : ∀ (i j : Int) (t u : Tok) (s : Shared) (Q : Value → Shared → Prop) (E : Value → Shared → Prop), Q (.bool (g i j)) s → wpAny (model X.prog X.w) X.A (f (.int i t) (.int j u)) Q E s) :
    OpR X f (rI0 fun i j => .bl (g i j)) := by
  intro pins s σ H x y v u Q I rx ry h
  obtain ⟨i, j, rfl, rfl, q⟩ := h
  obtain ⟨t, rfl⟩ := rx
  obtain ⟨t', rfl⟩ := ry
  exact rule i j t t' s _ _ ⟨.bl (g i j), H, I, rfl, q⟩
def CMul (i j : Int) : Prop := (-(2 ^ 64) < i ∧ i < 2 ^ 64) ∨ (-(2 ^ 64) < j ∧ j < 2 ^ 64)
theorem CMul.ok {i j : Int} (h : CMul i j) : IntMulOk i j := by
  rcases h with ⟨h1, h2⟩ | ⟨h1, h2⟩
  · exact .of_left (intBits_le_64 h1 h2)
  · exact .of_right (intBits_le_64 h1 h2)
theorem op_add : OpR X (binaryOp .Add) (rI0 fun i j => .int (i + j)) := opI0 fun _ _ _ _ _ _ _ q => add_int q
theorem op_sub : OpR X (binaryOp .Sub) (rI0 fun i j => .int (i - j)) := opI0 fun _ _ _ _ _ _ _ q => sub_int q
theorem unI {f : Value → Sem Value} {g : Int → Int}
    (rule : ∀ (i : Int) (t : Tok) (s : Shared) (Q : Value → Shared → Prop) (E : Value → Shared → Prop), Q (.int (g i) s.toks) { s with toks := s.toks + 1 } → wpAny (model X.prog X.w) X.A (f (.int i t)) Q E s) :
    UnR X f (rU fun i => .int (g i)) := by
  intro pins s σ H x v Q I rx h
  obtain ⟨i, rfl, q⟩ := h
  obtain ⟨t, rfl⟩ := rx
  exact rule i t s _ _ ⟨.int (g i), H, I.tok _, ⟨_, rfl⟩, q⟩
theorem un_neg : UnR X (unaryOp .USub) (rU fun i => .int (-i)) := unI fun _ _ _ _ _ q => neg_int q
end
def scal : V → V → Bool
  | .non, .non => true | .non, .int _ => true | .int _, .non => true | .non, .bl _ => true | .bl _, .non => true | .non, .str _ => true | .str _, .non => true
  | .int _, .int _ => true | .bl _, .bl _ => true | .str _, .str _ => true | .byt _, .byt _ => true
  | .int _, .str _ => true | .str _, .int _ => true | .bl _, .str _ => true | .str _, .bl _ => true
  | _, _ => false
def rEq : R2 := fun x y H Q => scal x y = true ∧ Q (.bl (decide (x = y))) H
def rNe : R2 := fun x y H Q => scal x y = true ∧ Q (.bl (!decide (x = y))) H
theorem dec_int {i j : Int} : decide (V.int i = V.int j) = (i == j) := by
  rw [Bool.eq_iff_iff]
  simp
theorem dec_bl {i j : Bool} : decide (V.bl i = V.bl j) = (i == j) := by
  rw [Bool.eq_iff_iff]
  simp
theorem dec_str {i j : Str} : decide (V.str i = V.str j) = (i == j) := by
  rw [Bool.eq_iff_iff]
  simp
theorem dec_byt {i j : Array UInt8} : decide (V.byt i = V.byt j) = (i.toList == j.toList) := by
  rw [Bool.eq_iff_iff]
  cases i
  cases j
  simp
section
variable {X : Cx} {a b c : Expr} {ta tb tc : TE} {pos : Pos}
theorem fin_bl {pins : List (Addr × Obj)} {σ : St} {H : Hp} {s : Shared} {Q : VK} {k k' : Bool} (I : Inv X pins σ H s) (q : Q (.bl k) H) (e : k = k') : EP X pins σ Q (.bool k') s := by
  subst e
  exact ⟨.bl k, H, I, rfl, q⟩
theorem op_eq : OpR X (compareOp .Eq) rEq := by
  intro pins s σ H x y v u Q I rx ry h
  obtain ⟨hs, q⟩ := h
  cases x with
  | non =>
    cases rx
    cases y with
    | non => cases ry; exact PySem.EqNone.eq_none_none (fin_bl I q (by simp))
    | bl j => cases ry; exact PySem.EqNone.eq_none_bool (fin_bl I q (by simp))
    | int j => obtain ⟨t', rfl⟩ := ry; exact PySem.EqNone.eq_none_int (fin_bl I q (by simp))
    | str j => obtain ⟨t', rfl⟩ := ry; exact PySem.EqNone.eq_none_str (fin_bl I q (by simp))
    | _ => exact absurd (show false = true from hs) Bool.false_ne_true
  | bl i =>
    cases rx
    cases y with
    | non => cases ry; exact PySem.EqNone.eq_bool_none (fin_bl I q (by simp))
    | bl j => cases ry; exact eq_bool (fin_bl I q dec_bl)
    | str j => obtain ⟨t', rfl⟩ := ry; exact PySem.EqMixed.eq_bool_str (fin_bl I q (by simp))
    | _ => exact absurd (show false = true from hs) Bool.false_ne_true
  | int i =>
    obtain ⟨t, rfl⟩ := rx
    cases y with
    | non => cases ry; exact PySem.EqNone.eq_int_none (fin_bl I q (by simp))
    | int j => obtain ⟨t', rfl⟩ := ry; exact eq_int (fin_bl I q dec_int)
    | str j => obtain ⟨t', rfl⟩ := ry; exact PySem.EqMixed.eq_int_str (fin_bl I q (by simp))
    | _ => exact absurd (show false = true from hs) Bool.false_ne_true
  | str i =>
    obtain ⟨t, rfl⟩ := rx
    cases y with
    | non => cases ry; exact PySem.EqNone.eq_str_none (fin_bl I q (by simp))
    | bl j => cases ry; exact PySem.EqMixed.eq_str_bool (fin_bl I q (by simp))
    | int j => obtain ⟨t', rfl⟩ := ry; exact PySem.EqMixed.eq_str_int (fin_bl I q (by simp))
    | str j => obtain ⟨t', rfl⟩ := ry; exact eq_str (fin_bl I q dec_str)
    | _ => exact absurd (show false = true from hs) Bool.false_ne_true
  | byt i =>
    obtain ⟨t, rfl⟩ := rx
    cases y with
    | byt j => obtain ⟨t', rfl⟩ := ry; exact PySem.W.eq_bytes (fin_bl I q dec_byt)
    | _ => exact absurd (show false = true from hs) Bool.false_ne_true
  | _ => cases y <;> exact absurd (show false = true from hs) Bool.false_ne_true
theorem op_ne : OpR X (compareOp .NotEq) rNe := by
  intro pins s σ H x y v u Q I rx ry h
  obtain ⟨hs, q⟩ := h
  cases x with
  | non =>
    cases rx
    cases y with
    | non => cases ry; exact PySem.EqNone.ne_none_none (fin_bl I q (by simp))
    | bl j => cases ry; exact PySem.EqNone.ne_none_bool (fin_bl I q (by simp))
    | int j => obtain ⟨t', rfl⟩ := ry; exact PySem.EqNone.ne_none_int (fin_bl I q (by simp))
    | str j => obtain ⟨t', rfl⟩ := ry; exact PySem.EqNone.ne_none_str (fin_bl I q (by simp))
    | _ => exact absurd (show false = true from hs) Bool.false_ne_true
  | bl i =>
    cases rx
    cases y with
    | non => cases ry; exact PySem.EqNone.ne_bool_none (fin_bl I q (by simp))
    | bl j => cases ry; exact ne_bool (fin_bl I q (congrArg not dec_bl))
    | str j => obtain ⟨t', rfl⟩ := ry; exact PySem.EqMixed.ne_bool_str (fin_bl I q (by simp))
    | _ => exact absurd (show false = true from hs) Bool.false_ne_true
  | int i =>
    obtain ⟨t, rfl⟩ := rx
    cases y with
    | non => cases ry; exact PySem.EqNone.ne_int_none (fin_bl I q (by simp))
    | int j => obtain ⟨t', rfl⟩ := ry; exact ne_int (fin_bl I q (congrArg not dec_int))
    | str j => obtain ⟨t', rfl⟩ := ry; exact PySem.EqMixed.ne_int_str (fin_bl I q (by simp))
    | _ => exact absurd (show false = true from hs) Bool.false_ne_true
  | str i =>
    obtain ⟨t, rfl⟩ := rx
    cases y with
    | non => cases ry; exact PySem.EqNone.ne_str_none (fin_bl I q (by simp))
    | bl j => cases ry; exact PySem.EqMixed.ne_str_bool (fin_bl I q (by simp))
    | int j => obtain ⟨t', rfl⟩ := ry; exact PySem.EqMixed.ne_str_int (fin_bl I q (by simp))
    | str j => obtain ⟨t', rfl⟩ := ry; exact ne_str (fin_bl I q (congrArg not dec_str))
    | _ => exact absurd (show false = true from hs) Bool.false_ne_true
  | byt i =>
    obtain ⟨t, rfl⟩ := rx
    cases y with
    | byt j => obtain ⟨t', rfl⟩ := ry; exact PySem.W.ne_bytes (fin_bl I q (congrArg not dec_byt))
    | _ => exact absurd (show false = true from hs) Bool.false_ne_true
  | _ => cases y <;> exact absurd (show false = true from hs) Bool.false_ne_true
theorem op_lt : OpR X (compareOp .Lt) (rI0 fun i j => .bl (decide (i < j))) := opB0 fun _ _ _ _ _ _ _ q => lt_int q
theorem op_le : OpR X (compareOp .LtE) (rI0 fun i j => .bl (decide (i ≤ j))) := opB0 fun _ _ _ _ _ _ _ q => le_int q
theorem op_gt : OpR X (compareOp .Gt) (rI0 fun i j => .bl (decide (j < i))) := opB0 fun _ _ _ _ _ _ _ q => gt_int q
theorem op_ge : OpR X (compareOp .GtE) (rI0 fun i j => .bl (decide (j ≤ i))) := opB0 fun _ _ _ _ _ _ _ q => ge_int q
theorem OpR.or {f : Value → Value → Sem Value} {r r' : R2} (h : OpR X f r) (h' : OpR X f r') : OpR X f (fun x y H Q => r x y H Q ∨ r' x y H Q) := by
  intro pins s σ H x y v u Q I rx ry q
  rcases q with q | q
  · exact h pins s σ H x y v u Q I rx ry q
  · exact h' pins s σ H x y v u Q I rx ry q
theorem nomark (b : Expr) {op : CmpOp} (h : op ≠ .In := by decide) (h2 : op ≠ .NotIn := by decide) : behindInMarks op b = false := by
  have e1 : (op == CmpOp.In) = false := by cases op <;> first | rfl | exact absurd rfl h
  have e2 : (op == CmpOp.NotIn) = false := by cases op <;> first | rfl | exact absurd rfl h2
  cases b <;> simp [behindInMarks, e1, e2]
theorem pe_cmpR {op : CmpOp} {r : R2} (ho : OpR X (compareOp op) r) (ha : PE X a ta) (hb : PE X b tb) (hm : behindInMarks op b = false) : PE X (.Compare a [op] [b] pos) (tOp r ta tb) := by
  intro pins s σ H Q I h
  exact wpAny_Compare1 (binT ha hb I h fun v u s2 x y H2 I2 rx ry q => ho pins s2 σ H2 x y v u Q I2 rx ry q) hm
def tTest (t : TE) : TT := fun σ H Q => t σ H fun x H' => ∃ k, x = .bl k ∧ Q k H'
theorem pt_cmpR {op : CmpOp} {r : R2} (ho : OpR X (compareOp op) r) (ha : PE X a ta) (hb : PE X b tb) (hm : behindInMarks op b = false) : PT X (.Compare a [op] [b] pos) (tTest (tOp r ta tb)) := by
  intro pins s σ H Q I h
  refine wpAny_isTrue_Compare1 (thn (ha pins s σ H _ I h) fun v s1 ⟨x, H1, I1, r1, q1⟩ => thn (hb pins s1 σ H1 _ I1 q1) fun u s2 ⟨y, H2, I2, r2, q2⟩ =>
    thn (ho pins s2 σ H2 x y v u _ I2 r1 r2 q2) fun c s3 ⟨z, H3, I3, r3, k, e, q3⟩ => ?_) hm
  subst e
  cases r3
  exact wpAny_truthy_bool ⟨H3, I3, q3⟩
def tChain (r r' : R2) (ta tb tc : TE) : TE := fun σ H Q => ta σ H fun x H1 => tb σ H1 fun y H2 => r x y H2 fun z H3 => ∃ k, z = .bl k ∧
  (if k = true then tc σ H3 fun w' H4 => r' y w' H4 Q else Q (.bl false) H3)
theorem pe_chain {op op' : CmpOp} {r r' : R2} (ho : OpR X (compareOp op) r) (ho' : OpR X (compareOp op') r') (ha : PE X a ta) (hb : PE X b tb) (hc : PE X c tc)
    (hm : lastMarks [op, op'] [b, c] = false := by with_unfolding_all rfl) : PE X (.Compare a [op, op'] [b, c] pos) (tChain r r' ta tb tc) := by
  intro pins s σ H Q I h
  refine Compare_chain (thn (ha pins s σ H _ I h) fun v s1 ⟨x, H1, I1, r1, q1⟩ => chain_link (thn (hb pins s1 σ H1 _ I1 q1) fun u s2 ⟨y, H2, I2, r2, q2⟩ =>
    thn (ho pins s2 σ H2 x y v u _ I2 r1 r2 q2) fun d s3 ⟨z, H3, I3, r3, k, e, q3⟩ => ?_)) hm
  subst e
  cases r3
  refine wpAny_truthy_bool ?_
  cases k with
  | false => exact ite_ff ⟨.bl false, H3, I3, rfl, q3⟩
  | true => exact ite_tt (chain_last (thn (hc pins s3 σ H3 _ I3 q3) fun w' s4 ⟨z', H4, I4, r4, q4⟩ => ho' pins s4 σ H4 y z' u w' Q I4 r2 r4 q4))
theorem pt_chain {op op' : CmpOp} {r r' : R2} (ho : OpR X (compareOp op) r) (ho' : OpR X (compareOp op') r') (ha : PE X a ta) (hb : PE X b tb) (hc : PE X c tc)
    (hm : lastMarks [op, op'] [b, c] = false := by with_unfolding_all rfl) : PT X (.Compare a [op, op'] [b, c] pos) (tTest (tChain r r' ta tb tc)) := by
  intro pins s σ H Q I h
  refine isTrue_chain (thn (ha pins s σ H _ I h) fun v s1 ⟨x, H1, I1, r1, q1⟩ => test_link (thn (hb pins s1 σ H1 _ I1 q1) fun u s2 ⟨y, H2, I2, r2, q2⟩ =>
    thn (ho pins s2 σ H2 x y v u _ I2 r1 r2 q2) fun d s3 ⟨z, H3, I3, r3, k, e, q3⟩ => ?_)) hm
  subst e
  cases r3
  refine wpAny_truthy_bool ?_
  cases k with
  | false =>
    obtain ⟨k', e', q'⟩ := q3
    cases e'
    exact ite_ff ⟨H3, I3, q'⟩
  | true =>
    refine ite_tt (test_last (thn (hc pins s3 σ H3 _ I3 q3) fun w' s4 ⟨z', H4, I4, r4, q4⟩ => thn (ho' pins s4 σ H4 y z' u w' _ I4 r2 r4 q4) fun d' s5 ⟨z2, H5, I5, r5, k2, e2, q5⟩ => ?_))
    subst e2
    cases r5
    exact wpAny_truthy_bool ⟨H5, I5, q5⟩
theorem line63 : (sizeLine : Nat) < 2 ^ 63 := by rw [sizeLine_eq]; decide
theorem vals1 {x : V} {us : List Value} (r : Vals [x] us) : ∃ u, us = [u] ∧ RelV x u := by
  cases r with
  | cons r1 r2 => cases r2; exact ⟨_, rfl, r1⟩
end
end L2
namespace L2
open PySem PySem.Spec PyProof.Rows
structure ObjM (h : Heap) (x dx C : Addr) (mA : Str → Option Value) : Prop where
  obj : h.get? x = some (PySem.W.instObj C dx)
  ns : h.Ns1 dx mA
  ne : dx ≠ x
theorem lookIn_ns {h : Heap} {dx : Addr} {mA : Str → Option Value} (n : h.Ns1 dx mA) : ∃ od, h.get? dx = some od ∧ ∀ name, PySem.W.lookIn name od = some (mA name) := by
  obtain ⟨o, es, ep, ho, hd, hk, _, hm⟩ := n
  refine ⟨o, ho, fun name => ?_⟩
  have e := hm name
  unfold nsFind findBy at e
  rw [← Array.find?_toList] at e
  unfold PySem.W.lookIn
  rw [hd]
  dsimp only
  split
  · rename_i y q
    rw [q] at e
    exact congrArg some e
  · rename_i q
    rw [q] at e
    have a : es.toList.any (·.refKey) = false := by
      rw [List.any_eq_false]
      intro y hy
      obtain ⟨z, t, hkey⟩ := hk y (Array.mem_toList_iff.mp hy)
      simp [DictEntry.refKey, hkey]
    have a' : ¬ es.toList.any (·.refKey) = true := by rw [a]; exact Bool.false_ne_true
    rw [if_neg a']
    exact congrArg some e
theorem ObjM.look {h : Heap} {x dx C : Addr} {mA : Str → Option Value} (I : ObjM h x dx C mA) : ∃ od, PySem.W.InstAt h x (PySem.W.instObj C dx) C (some od) ∧ ∀ name, PySem.W.lookIn name od = some (mA name) :=
  let ⟨od, ho, hl⟩ := lookIn_ns I.ns
  ⟨od, ⟨I.obj, rfl, rfl, ho⟩, hl⟩
section
variable {prog : Program} {w : World} {A : Around} {E : Value → Shared → Prop} {s : Shared} {K : PySem.W.Frag} {x dx C f : Addr} {mA : Str → Option Value} {name : Str} {v : Value}
theorem get_map {expr : Bool} {Q : Value → Shared → Prop} (X : K.In s.heap) (I : ObjM s.heap x dx C mA) (hg : PySem.W.plainGet K C name = true) (hh : PySem.W.hasDictIn K C = true)
    (ha : PySem.W.findIn K (.ref C) name = some none) (hv : mA name = some v) (hv' : PySem.W.handedIn v = true) (h : Q v { s with toks := s.toks + 1 }) :
    wpAny (model prog w) A (getAttr (.ref x) name expr) Q E s := by
  obtain ⟨od, J, hl⟩ := I.look
  exact PySem.W.get_value X J (PySem.W.plainGet_of hg).1 (PySem.W.findObj_own hh ha rfl (by rw [hl, hv])) hv' h
theorem get_meth {pl : Sem Bool} {Q : Value × List Value → Shared → Prop} (X : K.In s.heap) (I : ObjM s.heap x dx C mA) (hg : PySem.W.plainGet K C name = true)
    (hf : PySem.W.findIn K (.ref C) name = some (some (.ref f))) (ht : PySem.W.isFn K (.ref f) = true) (hv : mA name = none) (h : Q (.ref f, [.ref x]) s) :
    wpAny (model prog w) A (getMethod (.ref x) name pl) Q E s := by
  obtain ⟨od, J, hl⟩ := I.look
  exact PySem.W.method_fn X J (PySem.W.plainGet_of hg).1 (PySem.W.plainGet_of hg).2 hf (beq_iff_eq.mp ht) (by show (PySem.W.lookIn name od).map (·.isSome) = some false; rw [hl, hv]; rfl) h
theorem set_map {ns : List Str} {Q : Unit → Shared → Prop} (X : K.In s.heap) (I : ObjM s.heap x dx C mA)
    (hs : PySem.W.findIn K (.ref C) "__setattr__" = some (some (.builtin "object.__setattr__"))) (hp : PySem.W.plainOver K C = true) (ht : PySem.W.takerIn K C name = some none) (hh : PySem.W.hasDictIn K C = true)
    (hw : PySem.Within mA ns) (hsz : ns.length ≤ sizeLine)
    (h : ∀ h', ObjM h' x dx C (fun y => if y = name then some v else mA y) → Heap.SameBut dx s.heap h' → Q () { s with heap := h', toks := s.toks + 2 }) :
    wpAny (model prog w) A (setAttr (.ref x) name v) Q E s := by
  obtain ⟨od, J, hl⟩ := I.look
  refine PySem.W.set_plain X J hs (PySem.W.osa_open (s := { s with toks := s.toks + 1 }) (r := none) X J hp ht fun b => ?_)
  obtain ⟨cd, hc, hd'⟩ := PySem.W.any_some hh
  have hx : s.heap.get? x = some ⟨.ref C, some dx, .plain, #[]⟩ := I.obj
  refine wpAny_bind (wpAny_pure (wpAny_bind (wpAny_bind (wpAny_loadPart hx (wpAny_bind (PySem.W.Looks.here (s := { s with toks := s.toks + 1 }) (PySem.W.looks_clsIn X hc) ?_))))))
  rw [hd']
  refine wpAny_pure (a := some dx) (wpAny_bind (wpAny_pure (wpAny_bind ?_)))
  refine wpAny_nsSet1 (s := { s with toks := s.toks + 1 }) I.ns fun h' hn2 hs2 => ?_
  obtain ⟨oD, esD, epD, hoD, hdD, hcD⟩ := hn2.count (PySem.Within.cons name v hw)
  refine wpAny_bind (wpAny_lookBehind hoD (by rw [hdD]; exact pastItsLine_dict (Nat.le_trans hcD (by rw [List.length_cons]; omega))) ?_)
  exact wpAny_pure (h _ ⟨(hs2.2 _ (Ne.symm I.ne)).trans I.obj, hn2, I.ne⟩ hs2)
theorem make_map {R : Result → Shared → Prop} {vs : List Value} {kw : List (Str × Value)} (X : K.In s.heap) (hm : PySem.W.makesIn K C = true)
    (hi : PySem.W.findIn K (.ref C) "__init__" = some (some (.ref f))) (hf : PySem.W.typeIn K (.ref f) = some (.type "function"))
    (h : codeAny (model prog w) (A.under (.builtin "type.__call__" ⟨.ref C :: vs, kw⟩)) (.call (.ref f) ⟨.ref (s.heap.objs.size + 1) :: vs, kw⟩) (PySem.W.InitBack (s.heap.objs.size + 1) R)
      { s with heap := (s.heap.push PySem.W.emptyDict).push (PySem.W.instObj C s.heap.objs.size) }) :
    codeAny (model prog w) A (.call (.ref C) ⟨vs, kw⟩) R s := by
  obtain ⟨hh, g, d, t, os⟩ := s
  exact PySem.W.make_core (PySem.W.makes_of X hm) (PySem.W.looks_findIn X hi) (fun self => PySem.W.bind_fn X self hf) (.inl rfl) h
end
def putF (f : Str) (v : V) : List (Str × V) → List (Str × V)
  | [] => [(f, v)]
  | (g, x) :: r => if g = f then (g, v) :: r else (g, x) :: putF f v r
theorem lookup_putF (f g : Str) (v : V) : ∀ fs : List (Str × V), (putF f v fs).lookup g = if g = f then some v else fs.lookup g
  | [] => by
    show List.lookup g [(f, v)] = _
    by_cases h : g = f
    · have hb : (g == f) = true := beq_iff_eq.mpr h
      simp only [List.lookup, hb, if_pos h]
    · have hb : (g == f) = false := beq_eq_false_iff_ne.mpr h
      simp only [List.lookup, hb, if_neg h]
  | (k, x) :: r => by
    have ih := lookup_putF f g v r
    rw [show putF f v ((k, x) :: r) = (if k = f then (k, v) :: r else (k, x) :: putF f v r) from rfl]
    by_cases hk : k = f
    · rw [if_pos hk]
      by_cases h : g = k
      · have hb : (g == k) = true := beq_iff_eq.mpr h
        simp only [List.lookup, hb, if_pos (h.trans hk)]
      · have hb : (g == k) = false := beq_eq_false_iff_ne.mpr h
        simp only [List.lookup, hb, if_neg (fun e : g = f => h (e.trans hk.symm))]
    · rw [if_neg hk]
      by_cases h : g = k
      · have hb : (g == k) = true := beq_iff_eq.mpr h
        simp only [List.lookup, hb, if_neg (fun e : g = f => hk (h.symm.trans e))]
      · have hb : (g == k) = false := beq_eq_false_iff_ne.mpr h
        simp only [List.lookup, hb]
        exact ih
theorem keys_putF (f : Str) (v : V) : ∀ fs : List (Str × V), f ∈ (putF f v fs).map (·.1) ∧ ∀ g, g ∈ fs.map (·.1) → g ∈ (putF f v fs).map (·.1)
  | [] => ⟨by simp [putF], fun g h => by simp at h⟩
  | (k, x) :: r => by
    obtain ⟨i1, i2⟩ := keys_putF f v r
    rw [show putF f v ((k, x) :: r) = (if k = f then (k, v) :: r else (k, x) :: putF f v r) from rfl]
    by_cases hk : k = f
    · rw [if_pos hk]
      subst hk
      exact ⟨by simp, fun g h => by simpa using h⟩
    · rw [if_neg hk]
      refine ⟨?_, fun g h => ?_⟩
      · rw [List.map_cons]
        exact List.mem_cons_of_mem _ i1
      · rw [List.map_cons] at h ⊢
        rcases List.mem_cons.mp h with e | e
        · exact List.mem_cons.mpr (.inl e)
        · exact List.mem_cons_of_mem _ (i2 g e)
theorem length_putF (f : Str) (v : V) : ∀ fs : List (Str × V), (putF f v fs).length ≤ fs.length + 1
  | [] => by simp [putF]
  | (k, x) :: r => by
    have ih := length_putF f v r
    rw [show putF f v ((k, x) :: r) = (if k = f then (k, v) :: r else (k, x) :: putF f v r) from rfl]
    by_cases hk : k = f
    · rw [if_pos hk, List.length_cons, List.length_cons]; omega
    · rw [if_neg hk, List.length_cons, List.length_cons]; omega
theorem RelO.some_of {v : V} {o : Option Value} (r : RelO (some v) o) : ∃ u, o = some u ∧ RelV v u := by
  cases o with
  | none => exact (show False from r).elim
  | some u => exact ⟨u, rfl, r⟩
theorem RelO.none_of {o : Option Value} (r : RelO none o) : o = none := by
  cases o with
  | none => rfl
  | some u => exact (show False from r).elim
theorem handed_of {v : V} {u : Value} (r : RelV v u) : PySem.W.handedIn u = true := by
  cases v with
  | non => cases (show u = Value.none from r); rfl
  | bl b => cases (show u = Value.bool b from r); rfl
  | int i => obtain ⟨t, e⟩ := (show ∃ t, u = Value.int i t from r); cases e; rfl
  | str x => obtain ⟨t, e⟩ := (show ∃ t, u = Value.str x t from r); cases e; rfl
  | byt b => obtain ⟨t, e⟩ := (show ∃ t, u = Value.bytes b t from r); cases e; rfl
  | flt b => obtain ⟨t, e⟩ := (show ∃ t, u = Value.float b t from r); cases e; rfl
  | ref a => cases (show u = Value.ref a from r); rfl
  | ty n => cases (show u = Value.type n from r); rfl
section
variable {P : Program} {w : World} {H H' : Hp} {h h' : Heap} {a C dx : Addr} {fs fs' : List (Str × V)}
theorem ins_get (hok : HOk P w H h) (e : H a = some (.ins C dx fs)) : ∃ mA, ObjM h a dx C mA ∧ (∀ f, RelO (fs.lookup f) (mA f)) ∧ PySem.Within mA (fs.map (·.1)) ∧ fs.length ≤ 1000 ∧ H dx = some (.own a) := by
  obtain ⟨d, z, ne, ob, mA, n, r, q⟩ := (show ObjOk P w H h a (.ins C dx fs) from hok a _ e)
  exact ⟨mA, ⟨ob, n, ne⟩, r, q, z, d⟩
end
structure Cls (K : PySem.W.Frag) (C : Addr) : Prop where
  pg : PySem.W.plainGet K C Str.empty = true
  hd : PySem.W.hasDictIn K C = true
  po : PySem.W.plainOver K C = true
  sa : PySem.W.findIn K (.ref C) "__setattr__" = some (some (.builtin "object.__setattr__"))
theorem Cls.get {K : PySem.W.Frag} {C : Addr} (c : Cls K C) (f : Str) : PySem.W.plainGet K C f = true := c.pg
def NoAttr (K : PySem.W.Frag) (C : Addr) (f : Str) : Prop := PySem.W.findIn K (.ref C) f = some none
theorem NoAttr.taker {K : PySem.W.Frag} {C : Addr} {f : Str} (n : NoAttr K C f) : PySem.W.takerIn K C f = some none := by
  unfold PySem.W.takerIn
  rw [show PySem.W.findIn K (.ref C) f = some none from n]
  rfl
structure Meth (K : PySem.W.Frag) (C : Addr) (m : Str) (f : Addr) : Prop where
  at_ : PySem.W.findIn K (.ref C) m = some (some (.ref f))
  fn : PySem.W.isFn K (.ref f) = true
  kp : PySem.W.keepIn K (.ref f) = true
section
variable {X : Cx} {pins : List (Addr × Obj)} {σ : St} {H : Hp} {s : Shared} {a C dx : Addr} {fs : List (Str × V)} {f : Str} {v : V} {A : Around} {E : Value → Shared → Prop}
theorem getattr_ok {b : Bool} {Q : Value → Shared → Prop} (I : Inv X pins σ H s) (e : H a = some (.ins C dx fs)) (c : Cls X.K C) (n : NoAttr X.K C f) (l : fs.lookup f = some v)
    (h : ∀ u s', Inv X pins σ H s' → RelV v u → Q u s') : wpAny (model X.prog X.w) A (getAttr (.ref a) f b) Q E s := by
  obtain ⟨mA, O, r, _, _, _⟩ := ins_get I.hok e
  obtain ⟨u, hu, ru⟩ := RelO.some_of (v := v) (o := mA f) (by rw [← l]; exact r f)
  exact get_map I.kIn O (c.get f) c.hd n hu (handed_of ru) (h u _ (I.tok _) ru)
theorem getmeth_ok {m : Str} {g : Addr} {pl : Sem Bool} {Q : Value × List Value → Shared → Prop} (I : Inv X pins σ H s) (e : H a = some (.ins C dx fs)) (c : Cls X.K C) (k : Meth X.K C m g) (l : fs.lookup m = none)
    (h : Q (.ref g, [.ref a]) s) : wpAny (model X.prog X.w) A (getMethod (.ref a) m pl) Q E s := by
  obtain ⟨mA, O, r, _, _, _⟩ := ins_get I.hok e
  have hn : mA m = none := RelO.none_of (by rw [← l]; exact r m)
  exact get_meth I.kIn O (c.get m) k.at_ k.fn hn h
theorem setattr_ok {y : V} {u : Value} {Q : Unit → Shared → Prop} (I : Inv X pins σ H s) (e : H a = some (.ins C dx fs)) (c : Cls X.K C) (n : NoAttr X.K C f) (hl : fs.length < 1000) (ry : RelV y u)
    (h : ∀ s', Inv X pins σ (upd H a (.ins C dx (putF f y fs))) s' → Q () s') : wpAny (model X.prog X.w) A (setAttr (.ref a) f u) Q E s := by
  obtain ⟨mA, O, r, wi, _, ho⟩ := ins_get I.hok e
  have hz : (fs.map (·.1)).length ≤ sizeLine := by rw [List.length_map, sizeLine_eq]; omega
  refine set_map I.kIn O c.sa c.po n.taker c.hd wi hz fun h' O' sb => h _ ?_
  have hd : ∃ o, h'.get? dx = some o := let ⟨o, _, _, e', _⟩ := O'.ns; ⟨o, e'⟩
  refine I.write (x := a) (e := dx) (by rw [e]; exact True.intro) (.inr ho) (fun b q hb z => (sb.2 b hb).trans z) hd ?_
  refine ⟨by rw [upd_ne O.ne]; exact ho, ?_, O.ne, O'.obj, _, O'.ns, fun g => ?_, fun g hg => ?_⟩
  · have := length_putF f y fs; omega
  · show RelO ((putF f y fs).lookup g) (if g = f then some u else mA g)
    rw [lookup_putF]
    by_cases q : g = f
    · rw [if_pos q, if_pos q]; exact ry
    · rw [if_neg q, if_neg q]; exact r g
  · by_cases q : g = f
    · rw [q]; exact (keys_putF f y fs).1
    · refine (keys_putF f y fs).2 g (wi g fun z => hg ?_)
      show (if g = f then some u else mA g) = none
      rw [if_neg q]; exact z
theorem Inv.made (I : Inv X pins σ H s) : Inv X pins σ (upd (upd H s.heap.objs.size (.own (s.heap.objs.size + 1))) (s.heap.objs.size + 1) (.ins C s.heap.objs.size []))
    { s with heap := (s.heap.push PySem.W.emptyDict).push (PySem.W.instObj C s.heap.objs.size) } := by
  have e1 : (s.heap.push PySem.W.emptyDict).get? s.heap.objs.size = some PySem.W.emptyDict := Heap.get?_push_size s.heap rfl
  have e2 : ((s.heap.push PySem.W.emptyDict).push (PySem.W.instObj C s.heap.objs.size)).get? (s.heap.objs.size + 1) = some (PySem.W.instObj C s.heap.objs.size) := by
    have := Heap.get?_push_size (s.heap.push PySem.W.emptyDict) (o := PySem.W.instObj C s.heap.objs.size) rfl
    rwa [Heap.size_push] at this
  have e3 : (s.heap.push PySem.W.emptyDict).Ns s.heap.objs.size (fun _ => none) := ⟨PySem.W.emptyDict, #[], _, e1, rfl, (fun e he => absurd he (by simp)), fun _ => rfl⟩
  have I1 := I.laid (a := s.heap.objs.size) (o := .own (s.heap.objs.size + 1)) (h' := s.heap.push PySem.W.emptyDict) (t' := s.toks) (fun b u q => Heap.get?_push_of_some _ q) (Nat.le_refl _) ⟨_, e1⟩
  refine I1.laid (a := s.heap.objs.size + 1) (o := .ins C s.heap.objs.size []) (t' := s.toks) (fun b u q => Heap.get?_push_of_some _ q) (Nat.le_of_eq (Heap.size_push _ _)) ?_
  have ne : s.heap.objs.size ≠ s.heap.objs.size + 1 := Nat.ne_of_lt (Nat.lt_succ_self _)
  refine ⟨by rw [upd_ne ne, upd_same], Nat.zero_le _, ne, e2, fun _ => none, (Heap.Ns1.of_empty e3).at fun o q => Heap.get?_push_of_some _ q, fun _ => True.intro, fun y hy => absurd rfl hy⟩
theorem attr_of {prog : Program} {w : World} {env : Env} {e : Expr} {f : Str} {pos : Pos} {s : Shared} {Q : Value → Shared → Prop} (hb : attributeBase e f env (eval e env) = eval e env)
    (h : wpAny (model prog w) A (eval e env) (fun o s₁ => wpAny (model prog w) A (getAttr o f true) Q E s₁) E s) : wpAny (model prog w) A (eval (.Attribute e f pos) env) Q E s :=
  Attribute_any_ h (by rw [arm_eval_Attribute, hb])
end
def tFld (K : PySem.W.Frag) (ta : TE) (f : Str) : TE := fun σ H Q => ta σ H fun x H1 => ∃ a C dx fs v, x = .ref a ∧ H1 a = some (.ins C dx fs) ∧ Cls K C ∧ NoAttr K C f ∧ fs.lookup f = some v ∧ Q v H1
def sFld (K : PySem.W.Frag) (ta tv : TE) (f : Str) : TS := fun D σ H => tv σ H fun y H1 => ta σ H1 fun x H2 => ∃ a C dx fs, x = .ref a ∧ H2 a = some (.ins C dx fs) ∧ Cls K C ∧ NoAttr K C f ∧ fs.length < 1000 ∧
  D.nx σ (upd H2 a (.ins C dx (putF f y fs)))
def InOp (X : Cx) (op : Operator) (rd : V → V → Hp → VK → Prop) : Prop :=
  ∀ (pins : List (Addr × Obj)) (s : Shared) (σ : St) (H : Hp) (x y : V) (u v : Value) (Q : VK), Inv X pins σ H s → RelV x u → RelV y v → rd x y H Q → wpAny (model X.prog X.w) X.A (inplaceOp op u v) (EP X pins σ Q) X.xe s
def sFldAug (K : PySem.W.Frag) (ta tv : TE) (rd : V → V → Hp → VK → Prop) (f : Str) : TS := fun D σ H => ta σ H fun x H1 => ∃ a C dx fs v, x = .ref a ∧ H1 a = some (.ins C dx fs) ∧ Cls K C ∧ NoAttr K C f ∧ fs.lookup f = some v ∧
  tv σ H1 fun y H2 => rd v y H2 fun z H3 => ∃ dx' fs', H3 a = some (.ins C dx' fs') ∧ fs'.length < 1000 ∧ D.nx σ (upd H3 a (.ins C dx' (putF f z fs')))
section
variable {X : Cx} {o e value : Expr} {f : Str} {pos pos' tpos : Pos} {ta tv : TE}
theorem pe_fld (he : PE X e ta) (hb : attributeBase e f X.env (eval e X.env) = eval e X.env) : PE X (.Attribute e f pos) (tFld X.K ta f) := by
  intro pins s σ H Q I h
  refine attr_of hb (thn (he pins s σ H _ I h) fun u s1 ⟨x, H1, I1, rx, a, C, dx, fs, v, ex, ea, c, n, l, q⟩ => ?_)
  subst ex
  obtain rfl : u = Value.ref a := rx
  exact getattr_ok I1 ea c n l fun u' s2 I2 ru => ⟨v, H1, I2, ru, q⟩
theorem ps_fld (ha : PE X o ta) (hv : PE X value tv) (hs : swapsWith value (some (.Attribute o f pos')) pos.line X.env = pure false) : PS X (.Assign [.Attribute o f pos'] value pos) (sFld X.K ta tv f) := by
  intro pins s σ H D I h
  refine plainObj_wpAny_Assign_Attribute (thn (hv pins s σ H _ I h) fun u s1 ⟨y, H1, I1, ry, q⟩ => thn (ha pins s1 σ H1 _ I1 q) fun ov s2 ⟨x, H2, I2, rx, a, C, dx, fs, ex, ea, c, n, l, q2⟩ => ?_) hs
  subst ex
  obtain rfl : ov = Value.ref a := rx
  exact setattr_ok I2 ea c n l ry fun s3 I3 => ⟨σ, _, I3, q2⟩
theorem ps_fldaug {op : Operator} {rd : V → V → Hp → VK → Prop} (ha : PE X o ta) (hv : PE X value tv) (hop : InOp X op rd) : PS X (.AugAssign (.Attribute o f tpos) op value pos) (sFldAug X.K ta tv rd f) := by
  intro pins s σ H D I h
  refine wpAny_AugAssign_AttributeAny (thn (ha pins s σ H _ I h) fun ov s1 ⟨x, H1, I1, rx, a, C, dx, fs, v, ex, ea, c, n, l, q⟩ => ?_)
  subst ex
  obtain rfl : ov = Value.ref a := rx
  refine getattr_ok I1 ea c n l fun u s2 I2 ru => thn (hv pins s2 σ H1 _ I2 q) fun w3 s3 ⟨y, H2, I3, ry, q3⟩ => thn (hop pins s3 σ H2 v y u w3 _ I3 ru ry q3) fun w4 s4 ⟨z, H3, I4, rz, dx', fs', ea', l', q4⟩ => ?_
  exact setattr_ok I4 ea' c n l' rz fun s5 I5 => ⟨σ, _, I5, q4⟩
def rAdd : V → V → Hp → VK → Prop := fun x y H Q => ∃ i j, x = .int i ∧ y = .int j ∧ Q (.int (i + j)) H
theorem in_add : InOp X .Add rAdd := by
  rintro pins s σ H x y u v Q I rx ry ⟨i, j, rfl, rfl, q⟩
  obtain ⟨t, rfl⟩ := (show ∃ t, u = Value.int i t from rx)
  obtain ⟨t', rfl⟩ := (show ∃ t', v = Value.int j t' from ry)
  exact PyProof.Rows.iadd_int ⟨.int (i + j), H, I.tok _, ⟨_, rfl⟩, q⟩
end
section
variable {X : Cx} {pins : List (Addr × Obj)} {σ : St} {H : Hp} {s : Shared} {A : Around} {E : Value → Shared → Prop} {Q : Value → Shared → Prop} {c : Value} {b : Bool}
end
end L2
namespace L2
open PySem PySem.Spec PyProof.Rows
structure Room (k : Nat) (A : Around) : Prop where
  hd : A.handled = none
  dp : A.depth + 3 * k + 5 < recursionLimit
  un : A.units + 16 * k + 200 < cLine
theorem Room.mono {j k : Nat} {A : Around} (r : Room k A) (h : j ≤ k) : Room j A := ⟨r.hd, by have := r.dp; omega, by have := r.un; omega⟩
theorem Room.deeper {k : Nat} {A : Around} (r : Room (k + 1) A) (env : Env) : Room k (A.deeper env) :=
  ⟨r.hd, by have := r.dp; show A.depth + 1 + 3 * k + 5 < _; omega, by have := r.un; show A.units + 3 + 16 * k + 200 < _; omega⟩
theorem Room.in1 {k : Nat} {A : Around} (r : Room (k + 1) A) : Room k A.in1 :=
  ⟨r.hd, by have := r.dp; show A.depth + 3 * k + 5 < _; omega, by have := r.un; show A.units + 1 + 16 * k + 200 < _; omega⟩
theorem make_depth {A : Around} {C : Addr} {us : List Value} {kw : List (Str × Value)} : (A.under (.builtin "type.__call__" ⟨.ref C :: us, kw⟩)).depth = A.depth + 1 := by
  first | rfl | simp [Around.under, Code.weight, Code.isCreation, Code.isGuard, Code.isCaller, Code.frames, Code.isFrame, guardIds]
theorem make_units {A : Around} {C : Addr} {us : List Value} {kw : List (Str × Value)} : (A.under (.builtin "type.__call__" ⟨.ref C :: us, kw⟩)).units = A.units + 1 := by
  first | rfl | simp [Around.under, Code.cUnits, Code.frames, Code.isFrame]
theorem Room.make {k : Nat} {A : Around} (r : Room (k + 1) A) (C : Addr) (us : List Value) (kw : List (Str × Value)) : Room k (A.under (.builtin "type.__call__" ⟨.ref C :: us, kw⟩)) :=
  ⟨r.hd, by have := r.dp; rw [make_depth]; omega, by have := r.un; rw [make_units]; omega⟩
theorem Room.depth {k : Nat} {A : Around} (r : Room k A) : A.depth < recursionLimit := by have := r.dp; omega
theorem Room.units {k : Nat} {A : Around} (r : Room k A) : A.units + 64 < cLine := by have := r.un; omega
def tNil : TA := fun _ H Q => Q [] H
def tCons (ta : TE) (tr : TA) : TA := fun σ H Q => ta σ H fun x H1 => tr σ H1 fun xs H2 => Q (x :: xs) H2
section
variable {X : Cx} {e : Expr} {es : List Expr} {te : TE} {t : TA} {pos : Pos}
theorem pa_nil : PA X [] tNil := fun _ _ _ _ H Q I h => Calls.spliced_nil ⟨[], H, I, .nil, h⟩
theorem pa_cons (ha : PE X e te) (hr : PA X es t) (hs : starEach (e :: es) X.env = (false, eval e X.env) :: starEach es X.env := by rfl) : PA X (e :: es) (tCons te t) := by
  intro pos pins s σ H Q I h
  rw [hs]
  show wpAny _ _ (spliced ((false, eval e X.env) :: backTo pos (starEach es X.env))) _ _ s
  refine Calls.spliced_cons (thn (ha pins s σ H _ I h) fun u s1 ⟨x, H1, I1, r1, q1⟩ => ?_)
  exact thn (hr pos pins s1 σ H1 _ I1 q1) fun us s2 ⟨xs, H2, I2, r2, q2⟩ => ⟨x :: xs, H2, I2, .cons r1 r2, q2⟩
def tTup (t : TA) : TE := fun σ H Q => t σ H fun xs H1 => xs.length ≤ sizeLine ∧ ∀ p, H1 p = none → Q (.ref p) (upd H1 p (.tup xs))
def tLst (t : TA) : TE := fun σ H Q => t σ H fun xs H1 => xs.length ≤ sizeLine ∧ ∀ p, H1 p = none → Q (.ref p) (upd H1 p (.lst xs))
theorem pe_tup {x1} (h : PA X es t) : PE X (.Tuple es x1 pos) (tTup t) := by
  intro pins s σ H Q I hq
  refine wpAny_Tuple_spliced (thn (h pos pins s σ H _ I hq) fun us s1 ⟨xs, H1, I1, r, z, q⟩ => ⟨by rw [← r.length]; exact z, ?_⟩)
  have hf : H1 s1.heap.objs.size = none := I1.hok.fresh (Nat.le_refl _)
  refine ⟨.ref s1.heap.objs.size, upd H1 s1.heap.objs.size (.tup xs), I1.laid (t' := s1.toks) (fun b u e => Heap.get?_push_of_some _ e) (Nat.le_refl _) ?_, rfl, q _ hf⟩
  exact ⟨z, us, r, ⟨_, Heap.get?_push_size _ rfl, rfl, _, rfl⟩⟩
theorem pe_lst (h : PA X es t) : PE X (.List es pos) (tLst t) := by
  intro pins s σ H Q I hq
  refine wpAny_List_spliced (thn (h pos pins s σ H _ I hq) fun us s1 ⟨xs, H1, I1, r, z, q⟩ => ⟨by rw [← r.length]; exact z, ?_⟩)
  have hf : H1 s1.heap.objs.size = none := I1.hok.fresh (Nat.le_refl _)
  refine ⟨.ref s1.heap.objs.size, upd H1 s1.heap.objs.size (.lst xs), I1.laid (t' := s1.toks) (fun b u e => Heap.get?_push_of_some _ e) (Nat.le_refl _) ?_, rfl, q _ hf⟩
  exact ⟨z, us, 0, r, Heap.get?_push_size _ rfl⟩
end
abbrev Sp := List V → Hp → VK → XK → Prop
abbrev CXT := List Env → Hp → Shared → XK → Value → Shared → Prop
structure Env0 (P : Program) (w : World) (K : PySem.W.Frag) (mg : Str → Option Value) (base : Heap) (A : Around) (outer : List Env) (s : Shared) (H : Hp) : Prop where
  frames : A.frames = some outer
  mod : Mod K mg base
  bs : ∀ b o, base.get? b = some o → s.heap.get? b = some o ∧ H b = none
  bsz : base.objs.size ≤ s.heap.objs.size
  funs : s.heap.FunFrames base outer
  frf : ∀ b ∈ frs outer, H b = none
  hok : HOk P w H s.heap
  bare : AllBare s.gens
def CE (outer : List Env) (P : Program) (w : World) (H : Hp) (s : Shared) (Q : VK) (u : Value) (s' : Shared) : Prop :=
  ∃ v H', s'.os = s.os ∧ AllBare s'.gens ∧ Un (frs outer) [] H H' s.heap s'.heap ∧ HOk P w H' s'.heap ∧ RelV v u ∧ Q v H'
def CR (CX : CXT) (outer : List Env) (P : Program) (w : World) (H : Hp) (s : Shared) (Q : VK) (E : XK) (r : Result) (s' : Shared) : Prop :=
  match r with
  | .ok (.ret u) => CE outer P w H s Q u s'
  | .ok _ => False
  | .error e => CX outer H s E e s'
structure FnOk (P : Program) (w : World) (K : PySem.W.Frag) (mg : Str → Option Value) (base : Heap) (CX : CXT) (k : Nat) (f : Addr) (fd : FuncData) (ps : List Str) (sp : Sp) : Prop where
  len : ∀ vs H Q E, sp vs H Q E → vs.length = ps.length
  run : ∀ (A : Around) (outer : List Env) (s : Shared) (H : Hp) (args : Args) (us : List Value) (vs : List V) (Q : VK) (E : XK), Room k A → Env0 P w K mg base A outer s H → BindsTo s fd args (ps.zip us) → Vals vs us → sp vs H Q E →
    codeAny (model P w) A (.call (.ref f) args) (CR CX outer P w H s Q E) s
theorem FnOk.mono {P : Program} {w : World} {K : PySem.W.Frag} {mg : Str → Option Value} {base : Heap} {CX : CXT} {j k : Nat} {f : Addr} {fd : FuncData} {ps : List Str} {sp : Sp} (F : FnOk P w K mg base CX j f fd ps sp) (h : j ≤ k) :
    FnOk P w K mg base CX k f fd ps sp := ⟨F.len, fun A outer s H args us vs Q E hr => F.run A outer s H args us vs Q E (hr.mono h)⟩
theorem FnOk.imp {P : Program} {w : World} {K : PySem.W.Frag} {mg : Str → Option Value} {base : Heap} {CX : CXT} {k : Nat} {f : Addr} {fd : FuncData} {ps : List Str} {sp sp' : Sp} (F : FnOk P w K mg base CX k f fd ps sp)
    (h : ∀ vs H Q E, sp' vs H Q E → sp vs H Q E) : FnOk P w K mg base CX k f fd ps sp' :=
  ⟨fun vs H Q E q => F.len vs H Q E (h _ _ _ _ q), fun A outer s H args us vs Q E hr he hb hv hs => F.run A outer s H args us vs Q E hr he hb hv (h _ _ _ _ hs)⟩
theorem Env0.make {P : Program} {w : World} {K : PySem.W.Frag} {mg : Str → Option Value} {base : Heap} {A : Around} {outer : List Env} {s : Shared} {H : Hp} (e : Env0 P w K mg base A outer s H) (C : Addr) (us : List Value) (kw : List (Str × Value)) :
    Env0 P w K mg base (A.under (.builtin "type.__call__" ⟨.ref C :: us, kw⟩)) outer s H := ⟨by first | exact e.frames | (simpa [Around.under, Code.envs, Code.isFrame, pushEnvs] using e.frames), e.mod, e.bs, e.bsz, e.funs, e.frf, e.hok, e.bare⟩
theorem Env0.in1 {P : Program} {w : World} {K : PySem.W.Frag} {mg : Str → Option Value} {base : Heap} {A : Around} {outer : List Env} {s : Shared} {H : Hp} (e : Env0 P w K mg base A outer s H) :
    Env0 P w K mg base A.in1 outer s H := ⟨e.frames, e.mod, e.bs, e.bsz, e.funs, e.frf, e.hok, e.bare⟩
section
variable {X : Cx} {pins : List (Addr × Obj)} {σ : St} {H : Hp} {s s' : Shared}
theorem Inv.env0 (I : Inv X pins σ H s) : Env0 X.prog X.w X.K X.mg X.base X.A X.stack s H :=
  ⟨I.ok.frames, I.ok.mod, I.bs, Nat.le_trans I.ok.bsz I.sz, I.stack, I.stkFree, I.hok, I.bare⟩
theorem Inv.after {Q : VK} {u : Value} (I : Inv X pins σ H s) (h : CE X.stack X.prog X.w H s Q u s') : EP X pins σ Q u s' := by
  obtain ⟨v, H', os, bare, un, hok, r, q⟩ := h
  obtain ⟨hh, g, d, t, os'⟩ := s'
  obtain rfl : os' = s.os := os
  exact ⟨v, H', I.call (h' := hh) (g' := g) (d' := d) (t' := t) (ch := []) un hok bare (fun b z => absurd z (by simp)), r, q⟩
end
def tCall (sp : Sp) (dvs : List V) (E : XK) (t : TA) : TE := fun σ H Q => t σ H fun vs H1 => sp (vs ++ dvs) H1 Q E
def tMeth (C : Addr) (m : Str) (sp : Sp) (dvs : List V) (E : XK) (ta : TE) (t : TA) : TE := fun σ H Q => ta σ H fun x H1 => ∃ a dx fs, x = .ref a ∧ H1 a = some (.ins C dx fs) ∧ fs.lookup m = none ∧
  t σ H1 fun vs H2 => sp (x :: (vs ++ dvs)) H2 Q E
def tMake (C : Addr) (sp : Sp) (dvs : List V) (E : XK) (t : TA) : TE := fun σ H Q => t σ H fun vs H1 => ∀ x dx, H1 x = none → H1 dx = none → dx ≠ x →
  sp (.ref x :: (vs ++ dvs)) (upd (upd H1 dx (.own x)) x (.ins C dx [])) (fun v H2 => v = .non ∧ Q (.ref x) H2) E
def Binds (K : PySem.W.Frag) (fd : FuncData) (ps : List Str) (ds : List Value) : Prop :=
  ∀ (s : Shared) (us : List Value), K.In s.heap → (us ++ ds).length = ps.length → BindsTo s fd ⟨us, []⟩ (ps.zip (us ++ ds))
theorem Binds.all {K : PySem.W.Frag} {fd : FuncData} {ps : List Str} (h : ∀ us : List Value, us.length = ps.length → bindArgs fd ⟨us, []⟩ = pure (ps.zip us)) : Binds K fd ps [] := fun s us _ hl => by
  rw [List.append_nil] at hl ⊢
  exact .of_eq (h us hl)
def Passes (CX : CXT) (X : Cx) (E : XK) : Prop := ∀ (pins : List (Addr × Obj)) (σ : St) (H : Hp) (s : Shared) (e : Value) (s' : Shared), Inv X pins σ H s → CX X.stack H s E e s' → X.xe e s'
section
variable {X : Cx} {CX : CXT} {k : Nat} {f C : Addr} {fd : FuncData} {ps : List Str} {sp : Sp} {dvs : List V} {ds : List Value} {E : XK} {x m : Str} {p pos apos : Pos} {e o : Expr} {es : List Expr} {ta : TE} {t : TA}
theorem run_fn {pins : List (Addr × Obj)} {σ : St} {H : Hp} {s : Shared} {Q : VK} {us : List Value} {vs : List V} (F : FnOk X.prog X.w X.K X.mg X.base CX k f fd ps sp) (hr : Room k X.A) (hb : Binds X.K fd ps ds) (hd : Vals dvs ds) (hx : Passes CX X E)
    (I : Inv X pins σ H s) (r : Vals vs us) (h : sp (vs ++ dvs) H Q E) : wpAny (model X.prog X.w) X.A (call (.ref f) us) (EP X pins σ Q) X.xe s := by
  have r2 : Vals (vs ++ dvs) (us ++ ds) := r.append hd
  have hl : (us ++ ds).length = ps.length := by rw [← r2.length]; exact F.len _ _ _ _ h
  refine wpAny_call (codeAny_mono (F.run X.A X.stack s H ⟨us, []⟩ (us ++ ds) (vs ++ dvs) Q E hr I.env0 (hb s us I.kIn hl) r2 h) fun r s' hq => ?_)
  cases r with
  | error e => exact hx pins σ H s e s' I hq
  | ok fl =>
    cases fl with
    | ret u => exact I.after hq
    | next => exact False.elim hq
    | brk => exact False.elim hq
    | cont => exact False.elim hq
theorem pe_call (F : FnOk X.prog X.w X.K X.mg X.base CX k f fd ps sp) (hr : Room k X.A) (hg : Gl X x) (hm : X.mg x = some (.ref f)) (hk : PySem.W.keepIn X.K (.ref f) = true) (hb : Binds X.K fd ps ds) (hd : Vals dvs ds) (hx : Passes CX X E)
    (ha : PA X (e :: es) t) (hdb : (x == ("__debug__" : Str)) = false := by decide) (he : starEach (e :: es) X.env = (false, eval e X.env) :: starEach es X.env := by rfl) (hpl : (backTo pos (starEach es X.env)).any (·.1) = false := by rfl) :
    PE X (.Call (.Name x p) (e :: es) [] pos) (tCall sp dvs E t) := by
  intro pins s σ H Q I h
  refine wpAny_Call_Name_kw (ld_glob I hg hm ?_ hdb)
  refine PySem.W.callWith_K (h₀ := X.base) I.ok.mod.kin hk (thn (ha pos pins s σ H _ I h) fun us s1 ⟨vs, H1, I1, r, q⟩ => ⟨I1.kIn, ?_⟩) he hpl
  exact run_fn F hr hb hd hx I1 r q
theorem pe_meth {pl : Sem Bool} (he : PE X o ta) (c : Cls X.K C) (hm : Meth X.K C m f) (F : FnOk X.prog X.w X.K X.mg X.base CX k f fd ps sp) (hr : Room k X.A) (hb : Binds X.K fd ps ds) (hd : Vals dvs ds) (hx : Passes CX X E) (ha : PA X (e :: es) t)
    (hst : starEach (e :: es) X.env = (false, eval e X.env) :: starEach es X.env := by rfl) (hpl : (backTo pos (starEach es X.env)).any (·.1) = false := by rfl)
    (ht : eval (.Call (.Attribute o m apos) (e :: es) [] pos) X.env = (do
      let ov ← eval o X.env
      standAt apos.atName
      let (f, first) ← holding [ov] (getMethod ov m pl)
      callWith pos f first (backTo pos (starEach (e :: es) X.env)) (backToKw pos (keywordEach [] X.env))) := by rfl) :
    PE X (.Call (.Attribute o m apos) (e :: es) [] pos) (tMeth C m sp dvs E ta t) := by
  intro pins s σ H Q I h
  refine PySem.W.methodCall_KW (pl := pl) (thn (he pins s σ H _ I h) fun u s1 ⟨x, H1, I1, rx, a, dx, fs, ex, ea, l, q⟩ => ?_) ht
  subst ex
  obtain rfl : u = Value.ref a := rx
  refine getmeth_ok I1 ea c hm l ?_
  refine PySem.W.callWith_K (first := [.ref a]) (h₀ := X.base) I.ok.mod.kin hm.kp (thn (ha pos pins s1 σ H1 _ I1 q) fun us s2 ⟨vs, H2, I2, r, q2⟩ => ⟨I2.kIn, ?_⟩) hst hpl
  exact run_fn (us := .ref a :: us) (vs := .ref a :: vs) F hr hb hd hx I2 (.cons rfl r) q2
theorem pe_meth0 {pl : Sem Bool} (he : PE X o ta) (c : Cls X.K C) (hm : Meth X.K C m f) (F : FnOk X.prog X.w X.K X.mg X.base CX k f fd ps sp) (hr : Room k X.A) (hb : Binds X.K fd ps ds) (hd : Vals dvs ds) (hx : Passes CX X E)
    (ht : eval (.Call (.Attribute o m apos) [] [] pos) X.env = (do
      let ov ← eval o X.env
      standAt apos.atName
      let (f, first) ← holding [ov] (getMethod ov m pl)
      callWith pos f first (backTo pos (starEach [] X.env)) (backToKw pos (keywordEach [] X.env))) := by rfl) :
    PE X (.Call (.Attribute o m apos) [] [] pos) (tMeth C m sp dvs E ta tNil) := by
  intro pins s σ H Q I h
  refine PySem.W.methodCall_KW (pl := pl) (thn (he pins s σ H _ I h) fun u s1 ⟨x, H1, I1, rx, a, dx, fs, ex, ea, l, q⟩ => ?_) ht
  subst ex
  obtain rfl : u = Value.ref a := rx
  refine getmeth_ok I1 ea c hm l ?_
  exact PySem.W.callWith_K0 (first := [.ref a]) I1.kIn hm.kp (run_fn (us := [.ref a]) (vs := [.ref a]) F hr hb hd hx I1 (.cons rfl .nil) q)
structure Mk (K : PySem.W.Frag) (C f : Addr) : Prop where
  makes : PySem.W.makesIn K C = true
  init : PySem.W.findIn K (.ref C) "__init__" = some (some (.ref f))
  fn : PySem.W.isFn K (.ref f) = true
  kp : PySem.W.keepIn K (.ref C) = true
theorem run_make {pins : List (Addr × Obj)} {σ : St} {H : Hp} {s : Shared} {Q : VK} {us : List Value} {vs : List V} (M : Mk X.K C f) (F : FnOk X.prog X.w X.K X.mg X.base CX k f fd ps sp) (hr : Room (k + 1) X.A) (hb : Binds X.K fd ps ds) (hd : Vals dvs ds)
    (hx : Passes CX X E) (I : Inv X pins σ H s) (r : Vals vs us)
    (h : ∀ x dx, H x = none → H dx = none → dx ≠ x → sp (.ref x :: (vs ++ dvs)) (upd (upd H dx (.own x)) x (.ins C dx [])) (fun v H2 => v = .non ∧ Q (.ref x) H2) E) :
    wpAny (model X.prog X.w) X.A (call (.ref C) us) (EP X pins σ Q) X.xe s := by
  have hq := h (s.heap.objs.size + 1) s.heap.objs.size (I.hok.fresh (Nat.le_succ _)) (I.hok.fresh (Nat.le_refl _)) (Nat.ne_of_lt (Nat.lt_succ_self _))
  have I2 := Inv.made (C := C) I
  have r2 : Vals (V.ref (s.heap.objs.size + 1) :: (vs ++ dvs)) (Value.ref (s.heap.objs.size + 1) :: (us ++ ds)) := .cons rfl (r.append hd)
  have hl : (Value.ref (s.heap.objs.size + 1) :: us ++ ds).length = ps.length := by
    have e := r2.length
    rw [F.len _ _ _ _ hq] at e
    exact e.symm
  refine wpAny_call (make_map (f := f) I.kIn M.makes M.init (beq_iff_eq.mp M.fn) (codeAny_mono (F.run _ X.stack _ _ ⟨Value.ref (s.heap.objs.size + 1) :: us, []⟩ (Value.ref (s.heap.objs.size + 1) :: (us ++ ds)) _ _ E (hr.make C us [])
    (I2.env0.make C us []) (hb _ (Value.ref (s.heap.objs.size + 1) :: us) I2.kIn hl) r2 hq) fun r s' hq' => ?_))
  cases r with
  | error e => exact hx pins σ _ _ e s' I2 hq'
  | ok fl =>
    cases fl with
    | ret u =>
      obtain ⟨v, H', I3, rv, ev, q3⟩ := I2.after hq'
      subst ev
      exact ⟨rv, ⟨V.ref (s.heap.objs.size + 1), H', I3, rfl, q3⟩⟩
    | next => exact False.elim hq'
    | brk => exact False.elim hq'
    | cont => exact False.elim hq'
theorem pe_make (M : Mk X.K C f) (F : FnOk X.prog X.w X.K X.mg X.base CX k f fd ps sp) (hr : Room (k + 1) X.A) (hg : Gl X x) (hm : X.mg x = some (.ref C)) (hb : Binds X.K fd ps ds) (hd : Vals dvs ds) (hx : Passes CX X E)
    (ha : PA X (e :: es) t) (hdb : (x == ("__debug__" : Str)) = false := by decide) (he : starEach (e :: es) X.env = (false, eval e X.env) :: starEach es X.env := by rfl) (hpl : (backTo pos (starEach es X.env)).any (·.1) = false := by rfl) :
    PE X (.Call (.Name x p) (e :: es) [] pos) (tMake C sp dvs E t) := by
  intro pins s σ H Q I h
  refine wpAny_Call_Name_kw (ld_glob I hg hm ?_ hdb)
  refine PySem.W.callWith_K (h₀ := X.base) I.ok.mod.kin M.kp (thn (ha pos pins s σ H _ I h) fun us s1 ⟨vs, H1, I1, r, q⟩ => ⟨I1.kIn, ?_⟩) he hpl
  exact run_make M F hr hb hd hx I1 r q
theorem pe_make0 (M : Mk X.K C f) (F : FnOk X.prog X.w X.K X.mg X.base CX k f fd ps sp) (hr : Room (k + 1) X.A) (hg : Gl X x) (hm : X.mg x = some (.ref C)) (hb : Binds X.K fd ps ds) (hd : Vals dvs ds) (hx : Passes CX X E)
    (hdb : (x == ("__debug__" : Str)) = false := by decide) : PE X (.Call (.Name x p) [] [] pos) (tMake C sp dvs E tNil) := by
  intro pins s σ H Q I h
  refine wpAny_Call_Name_kw (ld_glob I hg hm ?_ hdb)
  exact PySem.W.callWith_K0 I.kIn M.kp (run_make (us := []) M F hr hb hd hx I .nil h)
end
section
variable {X : Cx} {CX : CXT} {k : Nat} {f C : Addr} {fd : FuncData} {ps ks : List Str} {sp : Sp} {E : XK} {x m : Str} {p pos apos kpos : Pos} {e o : Expr} {es : List Expr} {kws : List Keyword} {te ta : TE} {t tk : TA} {nm : Option Str}
variable {g : List Value → List Value → List Value} {gV : List V → List V → List V}
end
structure FnScope (N P : List Str) (sc : Scope) : Prop where
  kind : sc.kind = .function
  co : sc.isCoroutine = false
  gen : sc.isGenerator = false
  nd : N.Nodup
  pre : N.take P.length = P
  par : ∀ x ∈ P, sc.names.lookup x = some .local ∨ sc.names.lookup x = some .cell
  nofree : ∀ y ∈ sc.names, y.2 ≠ .free
theorem bindL_out {kindOf : Str → Option NameKind} {x : Str} : ∀ {binds : List (Str × Value)} {m : Str → Option Value}, (∀ v, (x, v) ∉ binds) → bindL kindOf binds m x = m x
  | [], _, _ => rfl
  | (n, v) :: r, m, h => by
    unfold bindL
    rw [bindL_out fun w hw => h w (List.mem_cons_of_mem _ hw)]
    split
    · have : x ≠ n := by rintro rfl; exact h v List.mem_cons_self
      simp [this]
    · rfl
theorem bindC_out {kindOf : Str → Option NameKind} {x : Str} : ∀ {binds : List (Str × Value)} {m : Str → Option Value}, (∀ v, (x, v) ∉ binds) → bindC kindOf binds m x = m x
  | [], _, _ => rfl
  | (n, v) :: r, m, h => by
    unfold bindC
    rw [bindC_out fun w hw => h w (List.mem_cons_of_mem _ hw)]
    split
    · rfl
    · have : x ≠ n := by rintro rfl; exact h v List.mem_cons_self
      simp [this]
theorem bindL_get {kindOf : Str → Option NameKind} {x : Str} {v : Value} : ∀ {P : List Str} {vs : List Value} {i : Nat} {m : Str → Option Value}, P.Nodup → P[i]? = some x → vs[i]? = some v → kindOf x = some .local →
    bindL kindOf (P.zip vs) m x = some v
  | [], _, _, _, _, h, _, _ => by simp at h
  | _ :: _, [], _, _, _, _, h, _ => by simp at h
  | p :: P, w :: vs, 0, m, nd, h1, h2, hk => by
    simp at h1 h2; subst h1; subst h2
    show bindL kindOf ((p, w) :: P.zip vs) m p = _
    unfold bindL
    rw [bindL_out fun v hv => (List.nodup_cons.mp nd).1 (List.of_mem_zip hv).1, if_pos hk]
    simp
  | p :: P, w :: vs, i + 1, m, nd, h1, h2, hk => by
    show bindL kindOf ((p, w) :: P.zip vs) m x = _
    unfold bindL
    exact bindL_get (i := i) (List.nodup_cons.mp nd).2 (by simpa using h1) (by simpa using h2) hk
theorem bindC_get {kindOf : Str → Option NameKind} {x : Str} {v : Value} : ∀ {P : List Str} {vs : List Value} {i : Nat} {m : Str → Option Value}, P.Nodup → P[i]? = some x → vs[i]? = some v → kindOf x ≠ some .local →
    bindC kindOf (P.zip vs) m x = some v
  | [], _, _, _, _, h, _, _ => by simp at h
  | _ :: _, [], _, _, _, _, h, _ => by simp at h
  | p :: P, w :: vs, 0, m, nd, h1, h2, hk => by
    simp at h1 h2; subst h1; subst h2
    show bindC kindOf ((p, w) :: P.zip vs) m p = _
    unfold bindC
    rw [bindC_out fun v hv => (List.nodup_cons.mp nd).1 (List.of_mem_zip hv).1, if_neg hk]
    simp
  | p :: P, w :: vs, i + 1, m, nd, h1, h2, hk => by
    show bindC kindOf ((p, w) :: P.zip vs) m x = _
    unfold bindC
    exact bindC_get (i := i) (List.nodup_cons.mp nd).2 (by simpa using h1) (by simpa using h2) hk
def start (N : List Str) (vs : List V) : St := vs.map some ++ List.replicate (N.length - vs.length) none
def cxOf (CX : CXT) (P : Program) (w : World) (K : PySem.W.Frag) (mg : Str → Option Value) (base : Heap) (N : List Str) (qual : Str) (scope : Scope) (f : Addr) (cd : Value) (A : Around) (outer : List Env) (s : Shared) (H : Hp) (E : XK) : Cx where
  prog := P
  w := w
  K := K
  mg := mg
  base := base
  A := A.deeper (envOfC qual scope s.heap.objs.size f cd)
  N := N
  s_0 := s
  H_0 := H
  env := envOfC qual scope s.heap.objs.size f cd
  outer := outer
  stack := envOfC qual scope s.heap.objs.size f cd :: outer
  ex := []
  calm := true
  fn := fun _ => true
  pn := []
  xe := fun e s' => wpAny (model P w) (A.deeper (envOfC qual scope s.heap.objs.size f cd)) (leaving (envOfC qual scope s.heap.objs.size f cd) e) (fun _ s'' => CX outer H s E e s'') (fun e' s'' => CX outer H s E e' s'') s'
theorem cell_has {sc : Scope} {n : Nat} {x : Str} (h : sc.names.lookup x = some .cell) : ∃ c, (cellsFrom n sc.names []).lookup x = some c := by
  have q := PySem.W.cellsFrom_some sc.names n [] (.inl h)
  exact Option.isSome_iff_exists.mp q
theorem inv_start {CX : CXT} {P : Program} {w : World} {K : PySem.W.Frag} {mg : Str → Option Value} {base : Heap} {N ps : List Str} {qual : Str} {scope : Scope} {f : Addr} {cd : Value} {A : Around} {outer : List Env} {s s1 : Shared} {H : Hp} {E : XK} {us : List Value} {vs : List V}
    (S : FnScope N ps scope) (hd : A.handled = none) (e0 : Env0 P w K mg base A outer s H) (hl : vs.length = ps.length) (r : Vals vs us)
    (x : InCallC s s.heap.objs.size (bindL (envOfC qual scope s.heap.objs.size f cd).kindOf (ps.zip us) fun _ => none) (cellsFrom (s.heap.objs.size + 1) scope.names []) (bindC (envOfC qual scope s.heap.objs.size f cd).kindOf (ps.zip us) fun _ => none) s1) :
    Inv (cxOf CX P w K mg base N qual scope f cd A outer s H E) [] (start N vs) H s1 := by
  have hpl : ps.length ≤ N.length := by have := congrArg List.length S.pre; rw [List.length_take] at this; omega
  obtain ⟨h1, tk, rfl, hk⟩ := x.done
  have noA : ∀ b : Addr, b ∉ (cxOf CX P w K mg base N qual scope f cd A outer s H E).ex := fun b z => absurd (show b ∈ ([] : List Addr) from z) (by simp)
  refine ⟨⟨e0.mod, S.kind, rfl, rfl, Nat.le_refl _, fun y z c h1 h2 => ?_, fun y hy => ?_, fun y c _ h => ?_, fun _ => hd, Around.frames_deeper e0.frames, .inr ⟨rfl, rfl⟩, fun b z => absurd z (noA b), e0.bs, e0.bsz, fun b _ _ => noA b, fun b z => absurd z (noA b), e0.funs, e0.frf⟩,
    rfl, e0.bare, Un.kept hk, ⟨_, x.toInCall.ns, fun i y v h1 h2 h3 => ?_⟩, fun y c h => ⟨_, x.cell y c h⟩, e0.hok.fresh (Nat.le_refl _), fun y c h => ?_, fun p hp => absurd (show p ∈ ([] : List (Addr × Obj)) from hp) (by simp), e0.hok.kept hk, ?_⟩
  · exact name_of_addr x.apart (PySem.mem_of_lookup h1) (PySem.mem_of_lookup h2)
  · have hy : scope.names.lookup y = some .cell ∨ scope.names.lookup y = some .free := hy
    rcases hy with hy | hy
    · exact cell_has hy
    · exact absurd rfl (S.nofree _ (PySem.mem_of_lookup hy))
  · exact Nat.le_of_lt (x.above y c (PySem.mem_of_lookup h))
  · have hi : i < vs.length := by
      unfold start at h2
      by_cases hi : i < vs.length
      · exact hi
      · rw [List.getElem?_append_right (by simpa using hi)] at h2
        rw [List.getElem?_replicate] at h2
        split at h2 <;> cases h2
    have ha : vs[i]? = some v := by
      unfold start at h2
      rw [List.getElem?_append_left (by simpa using hi), List.getElem?_map] at h2
      cases e : vs[i]? with
      | none => rw [e] at h2; cases h2
      | some a => rw [e] at h2; cases h2; rfl
    obtain ⟨u, hu, rv⟩ := r.get ha
    have hp : ps[i]? = some y := by
      rw [← S.pre, List.getElem?_take_of_lt (by omega)]; exact h1
    have ndP : ps.Nodup := by rw [← S.pre]; exact S.nd.sublist (List.take_sublist _ _)
    refine ⟨u, rv, ?_⟩
    rcases S.par y (List.mem_of_getElem? hp) with k | k
    · exact .inl ⟨k, bindL_get ndP hp hu k⟩
    · obtain ⟨c, e⟩ := cell_has (n := s.heap.objs.size + 1) k
      refine .inr ⟨.inl k, c, e, ?_⟩
      have q := x.cell y c e
      rw [bindC_get ndP hp hu (by show scope.names.lookup y ≠ _; rw [k]; decide)] at q
      exact q
  · exact e0.hok.fresh (Nat.le_of_lt (x.above y c (PySem.mem_of_lookup h)))
  · unfold start
    show _ = N.length
    rw [List.length_append, List.length_map, List.length_replicate]
    omega
theorem fn_of {CX : CXT} {P : Program} {w : World} {K : PySem.W.Frag} {mg : Str → Option Value} {base : Heap} {k : Nat} {f : Addr} {name qual : Str} {params : Arguments} {body : List Stmt} {scope : Scope} {dV kV doc pm cdv ct oc : Value} {an od : Option Addr}
    {osl : Array (Option Value)} {N ps : List Str} {sp : Sp} (lk : K.lookup f = some ⟨oc, od, .func (PySem.W.fnOf name qual params body scope dV kV doc pm an cdv ct), osl⟩) (hcd : PySem.W.codeIn K cdv qual = true) (S : FnScope N ps scope)
    (len : ∀ vs H Q E, sp vs H Q E → vs.length = ps.length)
    (hbody : ∀ (A : Around) (outer : List Env) (s : Shared) (H : Hp) (vs : List V) (Q : VK) (E : XK), Room k (A.deeper (envOfC qual scope s.heap.objs.size f cdv)) → sp vs H Q E →
      ∃ t, PSs (cxOf CX P w K mg base N qual scope f cdv A outer s H E) body t ∧ t { nx := fun _ H' => Q .non H', rt := Q } (start N vs) H) :
    FnOk P w K mg base CX (k + 1) f (PySem.W.fnOf name qual params body scope dV kV doc pm an cdv ct) ps sp := by
  refine ⟨len, fun A outer s H args us vs Q E hr e0 hb r hsp => ?_⟩
  have hl := len _ _ _ _ hsp
  have KX : K.In s.heap := e0.mod.kin.keeps fun b o e => (e0.bs b o e).1
  have lim : s.heap.NoLimit := e0.mod.nolimit.keeps fun b o e => (e0.bs b o e).1
  have hkind : ∀ y ∈ ps.zip us, scope.names.lookup y.1 = some .local ∨ (scope.names.lookup y.1 = some .cell ∧ ((cellsFrom (s.heap.objs.size + 1) scope.names []).lookup y.1).isSome = true) := fun ⟨n, v⟩ hy => by
    rcases S.par n (List.of_mem_zip hy).1 with q | q
    · exact .inl q
    · exact .inr ⟨q, PySem.W.cellsFrom_some _ _ _ (.inl q)⟩
  refine codeAny_call_function hr.depth (KX _ _ lk) rfl S.co S.gen rfl (PySem.W.codeRec_of KX hcd) (hb _ _ _ _ ?_)
  refine wpAny_newFunctionEnv_cells S.kind hkind fun env he s1 x => ?_
  subst he
  refine ⟨lim.keeps x.toInCall.keep, codeAny_func ?_⟩
  obtain ⟨t, ht, hq⟩ := hbody A outer s H vs Q E (hr.deeper _) hsp
  have I : Inv (cxOf CX P w K mg base N qual scope f cdv A outer s H E) [] (start N vs) H s1 := inv_start S hr.hd e0 hl r x
  refine wpAny_mono (ht [] s1 (start N vs) H _ I hq) (fun fl s' hs => ?_) fun e s' hs => hs
  have fin : ∀ {σ' : St} {H' : Hp} {v : V} {u : Value}, Inv (cxOf CX P w K mg base N qual scope f cdv A outer s H E) [] σ' H' s' → RelV v u → Q v H' → CE outer P w H s Q u s' :=
    fun {σ' H' v u} J rv q => ⟨v, H', J.os, J.bare, J.base, J.hok, rv, q⟩
  cases fl with
  | ret u =>
    obtain ⟨v, σ', H', J, rv, q⟩ := hs
    exact fin J rv q
  | next =>
    obtain ⟨σ', H', J, q⟩ := hs
    exact fin (v := V.non) (u := Value.none) J rfl q
  | brk =>
    obtain ⟨_, _, _, q⟩ := hs
    exact False.elim q
  | cont =>
    obtain ⟨_, _, _, q⟩ := hs
    exact False.elim q
end L2
namespace L2
open PySem PySem.Spec PyProof.Rows
section
variable {X : Cx} {x : Str} {p pos : Pos} {e : Expr} {es : List Expr} {t : TA} {id T : String} {r : List V → Hp → VK → Prop}
def tCB (r : List V → Hp → VK → Prop) (t : TA) : TE := fun σ H Q => t σ H fun vs H1 => r vs H1 Q
theorem pe_callB (hc : CallR X (.builtin id) r) (hg : Gl X x) (hm : X.mg x = none) (hv : bootBuiltins x = some (.builtin id)) (ha : PA X (e :: es) t) (hn : x ≠ "__name__" := by decide) (hdb : (x == ("__debug__" : Str)) = false := by decide)
    (he : starEach (e :: es) X.env = (false, eval e X.env) :: starEach es X.env := by rfl) (hpl : (backTo pos (starEach es X.env)).any (·.1) = false := by rfl) : PE X (.Call (.Name x p) (e :: es) [] pos) (tCB r t) := by
  intro pins s σ H Q I h
  refine wpAny_Call_Name_kw (ld_blt I hg hm hv ?_ hn hdb)
  exact PyProof.Rows.callWith_builtin1 (thn (ha pos pins s σ H _ I h) fun us s1 ⟨vs, H1, I1, r1, q1⟩ => hc pins s1 σ H1 vs us Q I1 r1 q1) he hpl
theorem pe_callTy (hc : CallR X (.type T) r) (hg : Gl X x) (hm : X.mg x = none) (hv : bootBuiltins x = some (.type T)) (ha : PA X (e :: es) t) (hn : x ≠ "__name__" := by decide) (hdb : (x == ("__debug__" : Str)) = false := by decide)
    (he : starEach (e :: es) X.env = (false, eval e X.env) :: starEach es X.env := by rfl) (hpl : (backTo pos (starEach es X.env)).any (·.1) = false := by rfl) : PE X (.Call (.Name x p) (e :: es) [] pos) (tCB r t) := by
  intro pins s σ H Q I h
  refine wpAny_Call_Name_kw (ld_blt I hg hm hv ?_ hn hdb)
  exact PyProof.Rows.callWith_type1 (thn (ha pos pins s σ H _ I h) fun us s1 ⟨vs, H1, I1, r1, q1⟩ => hc pins s1 σ H1 vs us Q I1 r1 q1) he hpl
end
end L2
namespace HT
open PySem PyProof.Rows
def lexLt : List Int → List Int → Bool
  | [], [] => false
  | [], _ :: _ => true
  | _ :: _, [] => false
  | x :: xs, y :: ys => if x = y then lexLt xs ys else decide (x < y)
section
open PySem.SeqAt
open PySem.AutoSeq1 (wpAny_loadPart')
open PySem.MeetsSeq PySem.MeetsSeq2 PySem.MeetsSeq3
end
section
variable {prog : Program} {w : World} {A : Around} {E : Value → Shared → Prop} {s : Shared}
theorem cat_tup {t b : Addr} {vs ws : List Value} {Q : Value → Shared → Prop} (ht : IsTup s.heap t vs.toArray) (hb : IsTup s.heap b ws.toArray) (hv : vs ≠ [])
    (h1 : ws = [] → Q (.ref t) s) (h2 : ws ≠ [] → Q (.ref s.heap.objs.size) { s with heap := s.heap.push { cls := .type "tuple", data := .seq (vs ++ ws).toArray } })
    (hsz : vs.length + ws.length ≤ sizeLine) : wpAny (model prog w) A (binaryOp .Add (.ref t) (.ref b)) Q E s := by
  obtain ⟨⟨cls, dd, data, sl⟩, ho, hc, n, hd⟩ := id ht
  obtain ⟨⟨cls2, dd2, data2, sl2⟩, ho2, hc2, n2, hd2⟩ := id hb
  simp only at hc hd hc2 hd2
  subst hc hd hc2 hd2
  have e : vs.toArray ++ ws.toArray = (vs ++ ws).toArray := by simp
  by_cases hw : ws = []
  · exact concat_meets ⟨_, ho, rfl⟩ ⟨_, ho2, rfl⟩ noFill_tuple_add seq_tuple_add PySem.F.slot_tuple_add PySem.F.entry_tuple_add (PySem.F.args_tuple_add_2 _ _)
      (tuple_addW1 t b vs.toArray ws.toArray n n2 dd dd2 sl sl2 (by simpa using hv) (by simp [hw])) ⟨ho, ho2, h1 hw⟩
  · refine concat_meets ⟨_, ho, rfl⟩ ⟨_, ho2, rfl⟩ noFill_tuple_add seq_tuple_add PySem.F.slot_tuple_add PySem.F.entry_tuple_add (PySem.F.args_tuple_add_2 _ _)
      (tuple_addW2 t b vs.toArray ws.toArray n n2 dd dd2 sl sl2 (by simpa using hv) (by simpa using hw) (by rw [List.size_toArray, List.size_toArray]; exact hsz)) ⟨ho, ho2, ?_⟩
    rw [e]
    exact h2 hw
def sIx (n d : Nat) : Option Int → Nat
  | none => d
  | some v => if v < 0 then (v + (n : Int)).toNat else min v.toNat n
theorem sIx_none (n d : Nat) : sIx n d none = d := rfl
theorem sIx_nat (n d k : Nat) : sIx n d (some (k : Int)) = min k n := by
  show (if (k : Int) < 0 then ((k : Int) + (n : Int)).toNat else min (k : Int).toNat n) = min k n
  rw [if_neg (by omega), Int.toNat_natCast]
theorem sIx_le (n d : Nat) (hd : d ≤ n) (o : Option Int) : sIx n d o ≤ n := by
  cases o with
  | none => exact hd
  | some v =>
    show (if v < 0 then (v + (n : Int)).toNat else min v.toNat n) ≤ n
    by_cases hv : v < 0
    · rw [if_pos hv]; omega
    · rw [if_neg hv]; exact Nat.min_le_right _ _
theorem clip_eq (v : Int) (n d : Nat) : (if v < 0 then max (v + (n : Int)) 0 else min v (n : Int)) = ((sIx n d (some v) : Nat) : Int) := by
  show (if v < 0 then max (v + (n : Int)) 0 else min v (n : Int)) = (((if v < 0 then (v + (n : Int)).toNat else min v.toNat n) : Nat) : Int)
  by_cases hv : v < 0
  · simp only [if_pos hv]; omega
  · simp only [if_neg hv]; omega
theorem adjust_gen (lo hi : Option Int) (n : Nat) : Builtin.Slice.sliceAdjust lo hi 1 (n : Int) = (((sIx n 0 lo : Nat) : Int), ((sIx n n hi : Nat) : Int)) := by
  have h1 : ¬ ((1 : Int) < 0) := by omega
  unfold Builtin.Slice.sliceAdjust
  simp only [h1, if_false]
  refine Prod.ext ?_ ?_
  · cases lo with
    | none => rfl
    | some v => exact clip_eq v n 0
  · cases hi with
    | none => rfl
    | some v => exact clip_eq v n n
theorem places_gen (i j : Nat) : Builtin.Slice.slicePlaces (i : Int) (j : Int) 1 = j - i := by
  unfold Builtin.Slice.slicePlaces
  have h1 : (1 : Int) > 0 := by omega
  simp only [h1, if_true, Int.ediv_one]
  split <;> omega
theorem slicePart_ {v : Value} {o : Option Int} {Q : Option Int → Shared → Prop} (p : IsPart v o) (h : Q o s) : wpAny (model prog w) A (Builtin.Slice.slicePartIndex v) Q E s := by
  cases p with
  | none => exact slicePart_none h
  | int i t => exact slicePart_int h
theorem sliceApplied_gen {sl : Addr} {vl vu : Value} {lo hi : Option Int} {n : Nat} {Q : Int × Int × Nat → Shared → Prop} (hs : s.heap.IsSliceOf sl vl vu .none) (pl : IsPart vl lo) (pu : IsPart vu hi)
    (h : Q (((sIx n 0 lo : Nat) : Int), 1, sIx n n hi - sIx n 0 lo) s) : wpAny (model prog w) A (Builtin.Slice.sliceApplied (.ref sl) (pure (n : Int))) Q E s := by
  obtain ⟨os, hos, hcs, hds⟩ := id hs
  unfold Builtin.Slice.sliceApplied Builtin.Slice.sliceFields
  refine wpAny_bind (wpAny_bind (wpAny_field hos hds (x := vl) rfl (wpAny_bind (wpAny_field hos hds (x := vu) rfl (wpAny_bind (wpAny_field hos hds (x := .none) rfl (wpAny_pure ?_)))))))
  refine wpAny_bind (slicePart_none ?_)
  show wpAny _ _ (if ((1 : Int) == 0) = true then _ else _) _ _ s
  rw [if_neg (by decide)]
  refine wpAny_bind (slicePart_ pl (wpAny_bind (slicePart_ pu (wpAny_bind (wpAny_pure ?_)))))
  show wpAny _ _ (match Builtin.Slice.sliceAdjust lo hi 1 (n : Int) with | (lo, hi) => pure (lo, (1 : Int), Builtin.Slice.slicePlaces lo hi 1)) _ _ s
  rw [adjust_gen lo hi n]
  show wpAny _ _ (pure (((sIx n 0 lo : Nat) : Int), (1 : Int), Builtin.Slice.slicePlaces ((sIx n 0 lo : Nat) : Int) ((sIx n n hi : Nat) : Int) 1)) _ _ s
  rw [places_gen]
  exact wpAny_pure h
theorem pick_gen (xs : Array Value) (i k : Nat) : ((List.range k).filterMap fun (m : Nat) => xs[((i : Int) + (m : Int) * 1).toNat]?).toArray = ((xs.toList.drop i).take k).toArray := by
  have e : (fun (m : Nat) => xs[((i : Int) + (m : Int) * 1).toNat]?) = fun m => xs[i + m]? := by
    funext m
    have : ((i : Int) + (m : Int) * 1).toNat = i + m := by omega
    rw [this]
  rw [e]
  have := pick_run xs i k
  rw [List.filterMap_map] at this
  have e2 : ((fun x => xs[x]?) ∘ fun x => i + x) = fun m => xs[i + m]? := rfl
  rw [e2] at this
  rw [this]
theorem getItem_tuple_cut {t sl : Addr} {items : Array Value} {vl vu : Value} {lo hi : Option Int} {Q : Value → Shared → Prop} (ht : IsTup s.heap t items) (hs : s.heap.IsSliceOf sl vl vu .none) (pl : IsPart vl lo) (pu : IsPart vu hi)
    (hw : ¬ (sIx items.size 0 lo = 0 ∧ sIx items.size items.size hi = items.size))
    (h : Q (.ref s.heap.objs.size) { s with heap := s.heap.push { cls := .type "tuple", data := .seq ((items.toList.drop (sIx items.size 0 lo)).take (sIx items.size items.size hi - sIx items.size 0 lo)).toArray } })
    (hsz : items.size ≤ sizeLine) : wpAny (model prog w) A (getItem (.ref t) (.ref sl)) Q E s := by
  have htake : sizeOk (.seq ((items.toList.drop (sIx items.size 0 lo)).take (sIx items.size items.size hi - sIx items.size 0 lo)).toArray) := by
    show ((items.toList.drop (sIx items.size 0 lo)).take (sIx items.size items.size hi - sIx items.size 0 lo)).toArray.size ≤ sizeLine
    rw [List.size_toArray, List.length_take, List.length_drop, Array.length_toList]
    omega
  have hj : sIx items.size items.size hi ≤ items.size := sIx_le _ _ (Nat.le_refl _) hi
  obtain ⟨os, hos, hcs, hds⟩ := id hs
  have hTs : s.TypeIs (.ref sl) "slice" := ⟨os, hos, hcs⟩
  unfold getItem
  try with_reducible refine wpAny_holding ?_
  first | refine wpAny_bind (wpAny_pure ?_) | skip
  refine wpAny_bind (wpAny_sequenceKey ht.typeIs (by decide) ?_)
  refine wpAny_bind (wpAny_callSpecial?_slot (name := Str.ofString "__getitem__") ht.typeIs PyProof.Rows.slot_tuple_getitem
    (wpAny_call_entry PyProof.Rows.slot_tuple_getitem ht.typeIs entry_tuple_getitem ?_ (args_tuple_getitem _ _)))
  show wpAny _ _ (Builtin.Tuple.tupleItemsOf (.ref t) >>= _) _ _ s
  refine wpAny_bind (tupleItemsOf_ ht ?_)
  refine wpAny_bind (wpAny_typeOf hTs ?_)
  rw [if_pos (by decide)]
  refine wpAny_bind (sliceApplied_gen hs pl pu ?_)
  have hno : ¬ ((((sIx items.size 0 lo : Nat) : Int) == 0 && (1 : Int) == 1 && (sIx items.size items.size hi - sIx items.size 0 lo) == items.size) = true) := by
    intro q
    rw [Bool.and_eq_true, Bool.and_eq_true] at q
    have q1 : ((sIx items.size 0 lo : Nat) : Int) = 0 := eq_of_beq q.1.1
    have q2 : sIx items.size items.size hi - sIx items.size 0 lo = items.size := eq_of_beq q.2
    exact hw ⟨by omega, by omega⟩
  show wpAny _ _ (if (((sIx items.size 0 lo : Nat) : Int) == 0 && (1 : Int) == 1 && (sIx items.size items.size hi - sIx items.size 0 lo) == items.size) = true then _ else _) _ _ s
  rw [if_neg hno, pick_gen]
  first
    | exact wpAny_bind (m := Builtin.Tuple.tupleExact _) (wpAny_newObj_type (wpAny_pure ⟨_, rfl, wpAny_pure h⟩) htake)
    | exact wpAny_bind (m := Builtin.Tuple.tupleExact _) (wpAny_newObj_type (wpAny_bind (wpAny_pure (wpAny_pure ⟨_, rfl, wpAny_pure h⟩))) htake)
    | exact wpAny_bind (wpAny_bind (m := Builtin.Tuple.tupleExact _) (wpAny_newObj_type (wpAny_pure (wpAny_pure ⟨_, rfl, wpAny_pure h⟩)) htake))
    | exact wpAny_bind (wpAny_bind (m := Builtin.Tuple.tupleExact _) (wpAny_newObj_type (wpAny_pure ⟨_, rfl, wpAny_pure h⟩) htake))
end
end HT
namespace L2
open PySem PySem.Spec PyProof.Rows
abbrev TO := St → Hp → (Option Int → Hp → Prop) → Prop
def PO (X : Cx) (e : Option Expr) (t : TO) : Prop :=
  ∀ (pins : List (Addr × Obj)) (s : Shared) (σ : St) (H : Hp) (Q : Option Int → Hp → Prop), Inv X pins σ H s → t σ H Q →
    wpAny (model X.prog X.w) X.A (evalPart e X.env) (fun u s' => ∃ o H', Inv X pins σ H' s' ∧ IsPart u o ∧ Q o H') X.xe s
def tNoPart : TO := fun _ H Q => Q none H
def tPart (t : TE) : TO := fun σ H Q => t σ H fun x H1 => ∃ i, x = .int i ∧ Q (some i) H1
section
variable {X : Cx} {e : Expr} {te : TE} {lo hi : Option Expr} {tl th : TO} {pos p2 : Pos}
theorem po_none : PO X none tNoPart := by
  intro pins s σ H Q I h
  rw [evalPart_none]
  exact wpAny_pure ⟨none, H, I, .none, h⟩
theorem po_some (h : PE X e te) : PO X (some e) (tPart te) := by
  intro pins s σ H Q I hw
  rw [evalPart_some]
  refine thn (h pins s σ H _ I hw) fun u s1 ⟨x, H1, I1, r1, q1⟩ => ?_
  obtain ⟨i, rfl, q⟩ := q1
  obtain ⟨t, rfl⟩ := r1
  exact ⟨some i, H1, I1, .int i t, q⟩
def SlR (X : Cx) (r : V → Option Int → Option Int → Hp → VK → Prop) : Prop :=
  ∀ (pins : List (Addr × Obj)) (s : Shared) (σ : St) (H : Hp) (x : V) (v vl vu : Value) (lo hi : Option Int) (sl : Addr) (Q : VK), Inv X pins σ H s → RelV x v → s.heap.IsSliceOf sl vl vu .none → IsPart vl lo → IsPart vu hi → r x lo hi H Q →
    ∃ T id, typeLookup (.type T) "__getitem__" = pure (some (.builtin id)) ∧ s.TypeIs v T ∧ wpAny (model X.prog X.w) X.A (getItem v (.ref sl)) (EP X pins σ Q) X.xe s
theorem SlR.or {r r' : V → Option Int → Option Int → Hp → VK → Prop} (h : SlR X r) (h' : SlR X r') : SlR X (fun x lo hi H Q => r x lo hi H Q ∨ r' x lo hi H Q) := by
  intro pins s σ H x v vl vu lo hi sl Q I rx hs pl pu q
  rcases q with q | q
  · exact h pins s σ H x v vl vu lo hi sl Q I rx hs pl pu q
  · exact h' pins s σ H x v vl vu lo hi sl Q I rx hs pl pu q
def tSl (r : V → Option Int → Option Int → Hp → VK → Prop) (te : TE) (tl th : TO) : TE := fun σ H Q => te σ H fun x H1 => tl σ H1 fun l H2 => th σ H2 fun u H3 => r x l u H3 Q
theorem pe_slice {r : V → Option Int → Option Int → Hp → VK → Prop} (hr : SlR X r) (he : PE X e te) (hl : PO X lo tl) (hu : PO X hi th) : PE X (.Subscript e (.Slice lo hi none p2) pos) (tSl r te tl th) := by
  intro pins s σ H Q I h
  refine Subscript_ (thn (he pins s σ H _ I h) fun v s1 ⟨x, H1, I1, r1, q1⟩ => ?_)
  refine wpAny_Slice (thn (hl pins s1 σ H1 _ I1 q1) fun vl s2 ⟨l, H2, I2, pl, q2⟩ => thn (hu pins s2 σ H2 _ I2 q2) fun vu s3 ⟨u, H3, I3, pu, q3⟩ => ?_)
  rw [evalPart_none]
  refine wpAny_pure ?_
  have I4 : Inv X pins σ H3 { s3 with heap := s3.heap.push { cls := .type "slice", data := .fields #[vl, vu, .none] } } := I3.kept (t' := s3.toks) fun b ob q => Heap.get?_push_of_some _ q
  obtain ⟨T, id, hT, ht, hg⟩ := hr pins { s3 with heap := s3.heap.push { cls := .type "slice", data := .fields #[vl, vu, .none] } } σ H3 x v vl vu l u s3.heap.objs.size Q I4 r1 (Heap.IsSliceOf.new ..) pl pu q3
  show wpAny (model X.prog X.w) X.A (subscriptTail e (.Slice lo hi none p2) v (.ref s3.heap.objs.size)) (EP X pins σ Q) X.xe { s3 with heap := s3.heap.push { cls := .type "slice", data := .fields #[vl, vu, .none] } }
  exact tail_any (ops := [.ref s3.heap.objs.size, v]) ht hT hg (by with_unfolding_all rfl)
def cutV (xs : List V) (lo hi : Option Int) : List V := (xs.drop (HT.sIx xs.length 0 lo)).take (HT.sIx xs.length xs.length hi - HT.sIx xs.length 0 lo)
theorem cutV_length (xs : List V) (lo hi : Option Int) : (cutV xs lo hi).length ≤ xs.length := by
  unfold cutV
  rw [List.length_take, List.length_drop]
  omega
def rSlT (K : PySem.W.Frag) : V → Option Int → Option Int → Hp → VK → Prop := fun x lo hi H Q => ∃ a xs, x = .ref a ∧ SqT K H a xs ∧
  ¬ (HT.sIx xs.length 0 lo = 0 ∧ HT.sIx xs.length xs.length hi = xs.length) ∧ ∀ p, H p = none → Q (.ref p) (upd H p (.tup (cutV xs lo hi)))
theorem sl_tup : SlR X (rSlT X.K) := by
  intro pins s σ H x v vl vu lo hi sl Q I rx hs pl pu h
  obtain ⟨a, xs, rfl, hx, hw, q⟩ := h
  cases rx
  obtain ⟨its, r, ht, hz⟩ := I.tuple hx
  have hlen : its.toArray.size = xs.length := by rw [List.size_toArray]; exact r.length.symm
  refine ⟨"tuple", _, PyProof.Rows.slot_tuple_getitem.lookup, ht.typeIs, ?_⟩
  refine HT.getItem_tuple_cut ht hs pl pu (by rw [hlen]; exact hw) ?_ (by rw [hlen]; exact hz)
  rw [hlen]
  refine ⟨.ref s.heap.objs.size, _, I.laid (t' := s.toks) (o := .tup (cutV xs lo hi)) (fun b ob q => Heap.get?_push_of_some _ q) (Nat.le_refl _) ?_, rfl, q _ (I.hok.fresh (Nat.le_refl _))⟩
  exact ⟨Nat.le_trans (cutV_length xs lo hi) hz, _, (r.drop (HT.sIx xs.length 0 lo)).take (HT.sIx xs.length xs.length hi - HT.sIx xs.length 0 lo), IsTup.new _ _⟩
def rCatT (K : PySem.W.Frag) : R2 := fun x y H Q => ∃ a b xs ys, x = .ref a ∧ y = .ref b ∧ SqT K H a xs ∧ SqT K H b ys ∧ xs ≠ [] ∧ xs.length + ys.length ≤ sizeLine ∧
  (ys = [] → Q (.ref a) H) ∧ (ys ≠ [] → ∀ p, H p = none → Q (.ref p) (upd H p (.tup (xs ++ ys))))
theorem Vals.nil_iff {xs : List V} {us : List Value} (r : Vals xs us) : us = [] ↔ xs = [] := by
  cases r with
  | nil => simp
  | cons _ _ => simp
theorem op_catT : OpR X (binaryOp .Add) (rCatT X.K) := by
  intro pins s σ H x y v u Q I rx ry h
  obtain ⟨a, b, xs, ys, rfl, rfl, ha, hb, hx, hz, q1, q2⟩ := h
  cases rx
  cases ry
  obtain ⟨its, r1, p1, _⟩ := I.tuple ha
  obtain ⟨its2, r2, p2, _⟩ := I.tuple hb
  refine HT.cat_tup p1 p2 (fun z => hx (r1.nil_iff.mp z)) (fun z => ⟨.ref a, H, I, rfl, q1 (r2.nil_iff.mp z)⟩) (fun z => ?_) (by rw [← r1.length, ← r2.length]; exact hz)
  refine ⟨.ref s.heap.objs.size, _, I.laid (t' := s.toks) (o := .tup (xs ++ ys)) (fun b ob q => Heap.get?_push_of_some _ q) (Nat.le_refl _) ?_, rfl, q2 (fun w => z (r2.nil_iff.mpr w)) _ (I.hok.fresh (Nat.le_refl _))⟩
  exact ⟨by rw [List.length_append]; exact hz, _, r1.append r2, IsTup.new _ _⟩
end
end L2
namespace L2
open PySem PySem.Spec PyProof.Rows
def ixN (n : Nat) (i : Int) : Option Nat := if 0 ≤ i then (if i < n then some i.toNat else none) else if -(n : Int) ≤ i then some (i + n).toNat else none
def atI {α : Type} (xs : List α) (i : Int) : Option α := (ixN xs.length i).bind fun j => xs[j]?
theorem ixN_seq {n : Nat} {i : Int} {j : Nat} (h : ixN n i = some j) : seqIndex? i n = some j ∧ j < n ∧ -(n : Int) ≤ i ∧ i < n := by
  unfold ixN at h
  by_cases h0 : 0 ≤ i
  · rw [if_pos h0] at h
    by_cases h1 : i < n
    · rw [if_pos h1] at h
      have e : i.toNat = j := Option.some.inj h
      exact ⟨by rw [seqIndex_of h0 h1, e], by omega, by omega, h1⟩
    · rw [if_neg h1] at h; cases h
  · rw [if_neg h0] at h
    by_cases h1 : -(n : Int) ≤ i
    · rw [if_pos h1] at h
      have e : (i + n).toNat = j := Option.some.inj h
      exact ⟨by rw [seqIndex_neg (by omega) h1, e], by omega, h1, by omega⟩
    · rw [if_neg h1] at h; cases h
theorem atI_get {α : Type} {xs : List α} {i : Int} {v : α} (h : atI xs i = some v) : ∃ j, seqIndex? i xs.length = some j ∧ xs[j]? = some v ∧ j < xs.length ∧ -(xs.length : Int) ≤ i ∧ i < xs.length := by
  unfold atI at h
  cases e : ixN xs.length i with
  | none => rw [e] at h; cases h
  | some j =>
    rw [e] at h
    obtain ⟨h1, h2, h3, h4⟩ := ixN_seq e
    exact ⟨j, h1, h, h2, h3, h4⟩
theorem atI_nat {α : Type} {xs : List α} {j : Nat} {v : α} (h : xs[j]? = some v) : atI xs (j : Int) = some v := by
  have hj : j < xs.length := (List.getElem?_eq_some_iff.mp h).1
  have e : ixN xs.length (j : Int) = some j := by
    unfold ixN
    rw [if_pos (by omega), if_pos (by omega)]; simp
  unfold atI; rw [e]; exact h
theorem atI_last {α : Type} (xs : List α) (v : α) : atI (xs ++ [v]) (-1) = some v := by
  have hl : (xs ++ [v]).length = xs.length + 1 := by simp
  have e : ixN (xs ++ [v]).length (-1) = some xs.length := by
    unfold ixN
    rw [hl, if_neg (by decide), if_pos (by omega)]
    congr 1
    omega
  unfold atI
  rw [e]
  show (xs ++ [v])[xs.length]? = some v
  simp
def PlainIx (b : Expr) : Prop := ∀ o i, subscripted b false o i = operate [o, i] (getItem o i)
def IxR (X : Cx) (r : R2) : Prop :=
  ∀ (value slice : Expr) (pins : List (Addr × Obj)) (s : Shared) (σ : St) (H : Hp) (x y : V) (v u : Value) (Q : VK), Inv X pins σ H s → RelV x v → RelV y u → r x y H Q →
    subscripted slice false v u = operate [v, u] (getItem v u) → wpAny (model X.prog X.w) X.A (subscriptTail value slice v u) (EP X pins σ Q) X.xe s
def MtR (X : Cx) (id : String) (r : V → List V → Hp → VK → Prop) : Prop :=
  ∀ (pins : List (Addr × Obj)) (s : Shared) (σ : St) (H : Hp) (x : V) (xs : List V) (v : Value) (us : List Value) (Q : VK), Inv X pins σ H s → RelV x v → Vals xs us → r x xs H Q →
    wpAny (model X.prog X.w) X.A (call (.builtin id) (v :: us)) (EP X pins σ Q) X.xe s
section
variable {X : Cx} {a b : Expr} {ta tb : TE} {pos : Pos}
theorem IxR.or {r r' : R2} (h : IxR X r) (h' : IxR X r') : IxR X (fun x y H Q => r x y H Q ∨ r' x y H Q) := by
  intro value slice pins s σ H x y v u Q I rx ry q hs
  rcases q with q | q
  · exact h value slice pins s σ H x y v u Q I rx ry q hs
  · exact h' value slice pins s σ H x y v u Q I rx ry q hs
theorem MtR.or {id : String} {r r' : V → List V → Hp → VK → Prop} (h : MtR X id r) (h' : MtR X id r') : MtR X id (fun x xs H Q => r x xs H Q ∨ r' x xs H Q) := by
  intro pins s σ H x xs v us Q I rx rs q
  rcases q with q | q
  · exact h pins s σ H x xs v us Q I rx rs q
  · exact h' pins s σ H x xs v us Q I rx rs q
theorem pe_ix {r : R2} (hr : IxR X r) (ha : PE X a ta) (hb : PE X b tb) (hs : PlainIx b) : PE X (.Subscript a b pos) (tOp r ta tb) := by
  intro pins s σ H Q I h
  exact Subscript_ (binT ha hb I h fun v u s2 x y H2 I2 rx ry q => hr a b pins s2 σ H2 x y v u Q I2 rx ry q (hs _ _))
def rIxL (K : PySem.W.Frag) : R2 := fun x y H Q => ∃ p xs i v, x = .ref p ∧ y = .int i ∧ SqL K H p xs ∧ atI xs i = some v ∧ Q v H
def rIxT (K : PySem.W.Frag) : R2 := fun x y H Q => ∃ p xs i v, x = .ref p ∧ y = .int i ∧ SqT K H p xs ∧ atI xs i = some v ∧ Q v H
theorem ix_list : IxR X (rIxL X.K) := by
  intro value slice pins s σ H x y v u Q I rx ry h hs
  obtain ⟨p, xs, i, z, rfl, rfl, hq, he, q⟩ := h
  cases rx
  obtain ⟨t, rfl⟩ := ry
  obtain ⟨its, r, pl, hz⟩ := I.list hq
  obtain ⟨j, h1, h2, h3, h4, h5⟩ := atI_get he
  obtain ⟨w, ew, rw'⟩ := r.get h2
  have hl := r.length
  have hn := line63
  have fin : EP X pins σ Q w s := ⟨z, H, I, rw', q⟩
  by_cases h0 : 0 ≤ i
  · have hj : i.toNat = j := by
      rw [seqIndex_of h0 h5] at h1
      exact Option.some.inj h1
    exact item_listR pl.isList h0 (by omega) (by rw [hj]; simpa using ew) fin hs
  · have hj : (i + (its.toArray.size : Int)).toNat = j := by
      rw [seqIndex_neg (by omega) h4] at h1
      rw [List.size_toArray, ← hl]
      exact Option.some.inj h1
    exact subscriptTail_builtinR (x := w) pl.isList.typeIs slot_list_getitem.lookup
      (wpAny_getItem_list_neg (Q := fun r s' => r = w ∧ EP X pins σ Q r s') pl.isList (by omega) (by rw [List.size_toArray] <;> omega) (by omega) (by rw [hj]; simpa using ew) ⟨rfl, fin⟩) hs
theorem ix_tup : IxR X (rIxT X.K) := by
  intro value slice pins s σ H x y v u Q I rx ry h hs
  obtain ⟨p, xs, i, z, rfl, rfl, hq, he, q⟩ := h
  cases rx
  obtain ⟨t, rfl⟩ := ry
  obtain ⟨its, r, pl, hz⟩ := I.tuple hq
  obtain ⟨j, h1, h2, h3, h4, h5⟩ := atI_get he
  obtain ⟨w, ew, rw'⟩ := r.get h2
  have hl := r.length
  have hn := line63
  have fin : EP X pins σ Q w s := ⟨z, H, I, rw', q⟩
  exact subscriptTail_builtinR (x := w) pl.typeIs slot_tuple_getitem.lookup
    (getItem_tuple (j := j) (Q := fun r s' => r = w ∧ EP X pins σ Q r s') pl (by omega) (by omega) (by rw [List.size_toArray, ← hl]; exact h1) (by simpa using ew) ⟨rfl, fin⟩) hs
theorem Inv.lst {pins : List (Addr × Obj)} {σ : St} {H : Hp} {s : Shared} {p : Addr} {xs : List V} (I : Inv X pins σ H s) (h : H p = some (.lst xs)) :
    ∃ (its : List Value) (n : Nat), Vals xs its ∧ s.heap.get? p = some { cls := .type "list", data := .seq its.toArray n } ∧ xs.length ≤ sizeLine := by
  obtain ⟨z, its, n, r, e⟩ := I.hok p _ h
  exact ⟨its, n, r, e, z⟩
theorem slice_bounds (lo hi : Option Int) (n : Nat) : (sliceBounds lo hi none n).1 = ((HT.sIx n 0 lo : Nat) : Int) ∧ (sliceBounds lo hi none n).2.1 = ((HT.sIx n n hi : Nat) : Int) ∧ (sliceBounds lo hi none n).2.2 = 1 := by
  refine ⟨?_, ?_, rfl⟩
  · cases lo with
    | none => simp [sliceBounds, HT.sIx]
    | some i =>
      simp only [sliceBounds, HT.sIx, Option.getD_none, show (1 : Int) > 0 by decide, if_true]
      by_cases h : i < 0
      · simp only [h, if_true] <;> omega
      · simp only [h, if_false] <;> omega
  · cases hi with
    | none => simp [sliceBounds, HT.sIx]
    | some i =>
      simp only [sliceBounds, HT.sIx, Option.getD_none, show (1 : Int) > 0 by decide, if_true]
      by_cases h : i < 0
      · simp only [h, if_true] <;> omega
      · simp only [h, if_false] <;> omega
theorem slicePick_cut (its : List Value) (lo hi : Option Int) : slicePick its.toArray lo hi none = ((its.drop (HT.sIx its.length 0 lo)).take (HT.sIx its.length its.length hi - HT.sIx its.length 0 lo)).toArray := by
  obtain ⟨h1, h2, h3⟩ := slice_bounds lo hi its.toArray.size
  unfold slicePick
  rw [h1, h2, h3]
  simp only [sliceRange_one, pick_run, List.size_toArray] <;> rfl
def rSlL (K : PySem.W.Frag) : V → Option Int → Option Int → Hp → VK → Prop := fun x lo hi H Q => ∃ a xs, x = .ref a ∧ SqL K H a xs ∧ ∀ p, H p = none → Q (.ref p) (upd H p (.lst (cutV xs lo hi)))
theorem sl_list : SlR X (rSlL X.K) := by
  intro pins s σ H x v vl vu lo hi sl Q I rx hs pl pu h
  obtain ⟨a, xs, rfl, hx, q⟩ := h
  cases rx
  obtain ⟨its, r, ht, hz⟩ := I.list hx
  have hlen := r.length
  refine ⟨"list", _, slot_list_getitem.lookup, ht.isList.typeIs, ?_⟩
  refine wpAny_getItem_list_slice ht.isList hs pl pu .none (by simp) ?_ (by rw [List.size_toArray] <;> omega)
  rw [slicePick_cut, ← hlen]
  refine ⟨.ref s.heap.objs.size, _, I.laid (t' := s.toks) (o := .lst (cutV xs lo hi)) (fun b ob q => Heap.get?_push_of_some _ q) (Nat.le_refl _) ?_, rfl, q _ (I.hok.fresh (Nat.le_refl _))⟩
  exact ⟨Nat.le_trans (cutV_length xs lo hi) hz, _, 0, (r.drop (HT.sIx xs.length 0 lo)).take (HT.sIx xs.length xs.length hi - HT.sIx xs.length 0 lo), Heap.get?_push_size _ rfl⟩
def flatV : V → Bool
  | .non => true
  | .bl _ => true
  | .int _ => true
  | .str _ => true
  | _ => false
def eqV : V → V → Bool
  | .non, .non => true
  | .bl a, .bl b => a == b
  | .bl a, .int b => (if a then 1 else 0) == b
  | .int a, .bl b => a == (if b then 1 else 0)
  | .int a, .int b => a == b
  | .str a, .str b => a == b
  | _, _ => false
theorem eqAt_V {A : Around} {s : Shared} {y x : V} {u v : Value} (ry : RelV y u) (rx : RelV x v) (fy : flatV y = true) (fx : flatV x = true) : SeqAt.EqAt A s u v (eqV y x) := by
  cases y with
  | non =>
    cases ry
    cases x with
    | non => cases rx; exact SeqAt.EqAt.same _
    | bl b => cases rx; exact SeqAt.EqAt.none_bool b
    | int b => obtain ⟨t, rfl⟩ := rx; exact SeqAt.EqAt.none_int b t
    | str b => obtain ⟨t, rfl⟩ := rx; exact SeqAt.EqAt.none_str b t
    | _ => exact absurd (show false = true from fx) Bool.false_ne_true
  | bl a =>
    cases ry
    cases x with
    | non => cases rx; exact SeqAt.EqAt.bool_none a
    | bl b => cases rx; exact SeqAt.EqAt.bool_bool a b
    | int b => obtain ⟨t, rfl⟩ := rx; exact SeqAt.EqAt.bool_int a b t
    | str b => obtain ⟨t, rfl⟩ := rx; exact SeqAt.EqAt.bool_str a b t
    | _ => exact absurd (show false = true from fx) Bool.false_ne_true
  | int a =>
    obtain ⟨t', rfl⟩ := ry
    cases x with
    | non => cases rx; exact SeqAt.EqAt.int_none a t'
    | bl b => cases rx; exact SeqAt.EqAt.int_bool a t' b
    | int b => obtain ⟨t, rfl⟩ := rx; exact SeqAt.EqAt.int_int a t' b t
    | str b => obtain ⟨t, rfl⟩ := rx; exact SeqAt.EqAt.int_str a t' b t
    | _ => exact absurd (show false = true from fx) Bool.false_ne_true
  | str a =>
    obtain ⟨t', rfl⟩ := ry
    cases x with
    | non => cases rx; exact SeqAt.EqAt.str_none a t'
    | bl b => cases rx; exact SeqAt.EqAt.str_bool a t' b
    | int b => obtain ⟨t, rfl⟩ := rx; exact SeqAt.EqAt.str_int a t' b t
    | str b => obtain ⟨t, rfl⟩ := rx; exact SeqAt.EqAt.str_str a t' b t
    | _ => exact absurd (show false = true from fx) Bool.false_ne_true
  | _ => exact absurd (show false = true from fy) Bool.false_ne_true
def eqU (x : V) (u : Value) : Bool := match u with
  | .none => eqV .non x
  | .bool b => eqV (.bl b) x
  | .int i _ => eqV (.int i) x
  | .str z _ => eqV (.str z) x
  | _ => false
theorem eqU_of {x y : V} {u : Value} (r : RelV y u) (f : flatV y = true) : eqU x u = eqV y x := by
  cases y with
  | non => cases r; rfl
  | bl b => cases r; rfl
  | int i => obtain ⟨t, rfl⟩ := r; rfl
  | str z => obtain ⟨t, rfl⟩ := r; rfl
  | _ => exact absurd (show false = true from f) Bool.false_ne_true
theorem any_eqU {x : V} : ∀ {xs : List V} {us : List Value}, Vals xs us → xs.all flatV = true → us.any (eqU x) = xs.any fun y => eqV y x
  | _, _, .nil, _ => rfl
  | y :: xs, u :: us, .cons r t, f => by
    rw [List.all_cons, Bool.and_eq_true] at f
    rw [List.any_cons, List.any_cons, eqU_of r f.1, any_eqU t f.2]
theorem mem_eqAt {A : Around} {s : Shared} {x : V} {v : Value} (rx : RelV x v) (fx : flatV x = true) : ∀ {xs : List V} {us : List Value}, Vals xs us → xs.all flatV = true → ∀ u ∈ us, SeqAt.EqAt A s u v (eqU x u)
  | _, _, .nil, _ => fun u hu => by cases hu
  | y :: xs, u :: us, .cons r t, f => fun u' hu => by
    rw [List.all_cons, Bool.and_eq_true] at f
    rcases List.mem_cons.mp hu with rfl | hu
    · rw [eqU_of r f.1]; exact eqAt_V r rx f.1 fx
    · exact mem_eqAt rx fx t f.2 u' hu
def inV (x : V) (xs : List V) : Bool := xs.any fun y => eqV y x
def rIn (K : PySem.W.Frag) (neg : Bool) : R2 := fun x y H Q => ∃ p xs, y = .ref p ∧ (SqL K H p xs ∨ SqT K H p xs) ∧ flatV x = true ∧ xs.all flatV = true ∧ Q (.bl (if neg then !inV x xs else inV x xs)) H
theorem op_notIn_seq : OpR X (compareOp .NotIn) (rIn X.K true) := by
  intro pins s σ H x y v u Q I rx ry h
  obtain ⟨p, xs, rfl, hq, fx, fs, q⟩ := h
  cases ry
  rcases hq with hq | hq
  · obtain ⟨its, r, pl, hz⟩ := I.list hq
    refine SeqAt.notIn_listAt (eqU x) pl.isList (fun w hw => mem_eqAt rx fx r fs w (by simpa using hw)) ⟨.bl _, H, I, rfl, ?_⟩
    rw [show its.toArray.any (eqU x) = its.any (eqU x) by simp, any_eqU r fs]
    exact q
  · obtain ⟨its, r, pl, hz⟩ := I.tuple hq
    refine SeqAt.notIn_tupleAt (eqU x) pl (fun w hw => mem_eqAt rx fx r fs w (by simpa using hw)) ⟨.bl _, H, I, rfl, ?_⟩
    rw [show its.toArray.any (eqU x) = its.any (eqU x) by simp, any_eqU r fs]
    exact q
theorem call_len_seq : CallR X (.builtin "len") (fun xs H Q => ∃ p ys, xs = [.ref p] ∧ (SqL X.K H p ys ∨ SqT X.K H p ys) ∧ Q (.int ys.length) H) := by
  intro pins s σ H xs us Q I r h
  obtain ⟨p, ys, rfl, hq, q⟩ := h
  obtain ⟨u, rfl, rx⟩ := vals1 r
  cases rx
  have hn := line63
  rcases hq with hq | hq
  · obtain ⟨its, r', pl, hz⟩ := I.list hq
    have hlen := r'.length
    exact Calls.call_len_list pl.isList (by simp only [List.size_toArray] <;> omega) ⟨.int ys.length, H, I.tok _, ⟨s.toks + 1, by rw [List.size_toArray, hlen]⟩, q⟩
  · obtain ⟨its, r', pl, hz⟩ := I.tuple hq
    have hlen := r'.length
    exact len_tuple pl (by simp only [List.size_toArray] <;> omega) ⟨.int ys.length, H, I.tok _, ⟨s.toks + 1, by rw [List.size_toArray, hlen]⟩, q⟩
theorem CallR.or {f : Value} {r r' : List V → Hp → VK → Prop} (h : CallR X f r) (h' : CallR X f r') : CallR X f (fun xs H Q => r xs H Q ∨ r' xs H Q) := by
  intro pins s σ H xs us Q I rs q
  rcases q with q | q
  · exact h pins s σ H xs us Q I rs q
  · exact h' pins s σ H xs us Q I rs q
theorem call_list_of : CallR X (.type "list") (fun xs H Q => ∃ p ys, xs = [.ref p] ∧ (SqL X.K H p ys ∨ SqT X.K H p ys) ∧ ∀ l, H l = none → Q (.ref l) (upd H l (.lst ys))) := by
  intro pins s σ H xs us Q I r h
  obtain ⟨p, ys, rfl, hq, q⟩ := h
  obtain ⟨u, rfl, rx⟩ := vals1 r
  cases rx
  have fin : ∀ (its : List Value), Vals ys its → ys.length ≤ sizeLine → ∀ (h' : Heap) (c' : Nat), (∀ b o', s.heap.get? b = some o' → h'.get? b = some o') →
      h'.get? s.heap.objs.size = some { cls := .type "list", dict := none, data := .seq its.toArray c', slots := #[] } → EP X pins σ Q (.ref s.heap.objs.size) { s with heap := h' } := fun its r' hz h' c' kp e =>
    ⟨.ref s.heap.objs.size, _, I.laid (t' := s.toks) kp (Nat.le_refl _) (show ObjOk X.prog X.w _ h' _ (.lst ys) from ⟨hz, its, c', r', e⟩), rfl, q _ (I.hok.fresh (Nat.le_refl _))⟩
  rcases hq with hq | hq
  · obtain ⟨its, r', pl, hz⟩ := I.list hq
    have hlen := r'.length
    obtain ⟨o, ho, hc, n, hd⟩ := pl.isList
    exact call_list_seq p (.inl rfl) ho hc hd (fun h' c' kp e => fin its r' hz h' c' kp e) (by simp only [List.size_toArray] <;> omega)
  · obtain ⟨its, r', pl, hz⟩ := I.tuple hq
    have hlen := r'.length
    obtain ⟨o, ho, hc, n, hd⟩ := pl
    exact call_list_seq p (.inr rfl) ho hc hd (fun h' c' kp e => fin its r' hz h' c' kp e) (by simp only [List.size_toArray] <;> omega)
theorem call_tuple_of : CallR X (.type "tuple") (fun xs H Q => ∃ p ys, xs = [.ref p] ∧ ((SqL X.K H p ys ∧ ∀ l, H l = none → Q (.ref l) (upd H l (.tup ys))) ∨ (SqT X.K H p ys ∧ Q (.ref p) H))) := by
  intro pins s σ H xs us Q I r h
  obtain ⟨p, ys, rfl, h⟩ := h
  obtain ⟨u, rfl, rx⟩ := vals1 r
  cases rx
  rcases h with ⟨hq, q⟩ | ⟨hq, q⟩
  · obtain ⟨its, r', pl, hz⟩ := I.list hq
    have hlen := r'.length
    refine call_tuple_list pl.isList (fun h' kp => ?_) (by simp only [List.size_toArray] <;> omega)
    have I1 : Inv X pins σ H { s with heap := h' } := I.kept (t' := s.toks) kp
    have I2 : Inv X pins σ (upd H h'.objs.size (.tup ys)) { s with heap := h'.push { cls := .type "tuple", data := .seq its.toArray } } :=
      I1.laid (t' := s.toks) (fun b o e => Heap.get?_push_of_some _ e) (Nat.le_refl _) (show ObjOk X.prog X.w _ _ _ (.tup ys) from ⟨hz, its, r', IsTup.new _ _⟩)
    exact ⟨.ref h'.objs.size, _, I2, rfl, q _ (I1.hok.fresh (Nat.le_refl _))⟩
  · obtain ⟨its, r', pl, hz⟩ := I.tuple hq
    exact call_tuple_same pl ⟨.ref p, H, I, rfl, q⟩
def tyV (K : PySem.W.Frag) (T : String) (x : V) (H : Hp) : Prop := match x with
  | .str _ => T = "str"
  | .int _ => T = "int"
  | .ref p => (T = "list" ∧ ∃ xs, SqL K H p xs) ∨ (T = "tuple" ∧ ∃ o, K.lookup p = some o ∧ o.cls = .type "tuple" ∧ o.dict = none) ∨
      (T = "dict" ∧ ((∃ kvs, H p = some (.dK kvs)) ∨ ∃ kvs, H p = some (.dT kvs))) ∨ (T = "set" ∧ ∃ S n, H p = some (.set S n))
  | _ => False
theorem tyV_is {pins : List (Addr × Obj)} {σ : St} {H : Hp} {s : Shared} {T : String} {x : V} {v : Value} (I : Inv X pins σ H s) (r : RelV x v) (ty : tyV X.K T x H) :
    s.TypeIs v T ∧ ∀ a, v = .ref a → ∃ ob, s.heap.get? a = some ob ∧ ob.dict = none := by
  cases x with
  | str z =>
    obtain ⟨t, rfl⟩ := r
    cases (show T = "str" from ty)
    exact ⟨typeIs_str s z t, fun _ e => nomatch e⟩
  | int i =>
    obtain ⟨t, rfl⟩ := r
    cases (show T = "int" from ty)
    exact ⟨typeIs_int s i t, fun _ e => nomatch e⟩
  | ref p =>
    cases r
    rcases ty with ⟨rfl, xs, hq⟩ | ⟨rfl, o, hk, hc, hd⟩ | ⟨rfl, hk⟩ | ⟨rfl, S, n, hk⟩
    · obtain ⟨its, _, pl, _⟩ := I.list hq
      refine ⟨pl.isList.typeIs, fun a e => ?_⟩
      cases e
      obtain ⟨o, n, e, c, hd, _⟩ := pl
      exact ⟨o, e, hd⟩
    · refine ⟨⟨o, I.kIn p o hk, hc⟩, fun a e => ?_⟩
      cases e
      exact ⟨o, I.kIn _ o hk, hd⟩
    · have z : ∃ o, s.heap.get? p = some o ∧ o.ExactDict := by
        rcases hk with ⟨kvs, hk⟩ | ⟨kvs, hk⟩
        · obtain ⟨_, _, _, _, o, _, _, e, ex, _⟩ := I.hok p _ hk
          exact ⟨o, e, ex⟩
        · obtain ⟨_, _, _, _, o, _, _, e, ex, _⟩ := I.hok p _ hk
          exact ⟨o, e, ex⟩
      obtain ⟨o, e, ex⟩ := z
      refine ⟨⟨o, e, ex.1⟩, fun a e2 => ?_⟩
      cases e2
      exact ⟨o, e, ex.2.1⟩
    · obtain ⟨o, _, _, _, e, ex, _⟩ := I.hok p _ hk
      refine ⟨⟨o, e, ex.1⟩, fun a e2 => ?_⟩
      cases e2
      exact ⟨o, e, ex.2.1⟩
  | _ => exact False.elim ty
def tBM (K : PySem.W.Frag) (T : String) (r : V → List V → Hp → VK → Prop) (to : TE) (t : TA) : TE := fun σ H Q => to σ H fun x H1 => tyV K T x H1 ∧ t σ H1 fun xs H2 => r x xs H2 Q
variable {o e : Expr} {es : List Expr} {to : TE} {t : TA} {name : Str} {apos cpos : Pos} {T id : String} {r : V → List V → Hp → VK → Prop}
theorem pe_bm (pa : PlainAttrs T) (slot : Slot T name id) (hty : typeOf (.builtin id) = pure (.type "method_descriptor")) (hm : MtR X id r) (ho : PE X o to) (ha : PA X (e :: es) t)
    (hbase : attributeBase o name X.env (eval o X.env) = eval o X.env := by rfl)
    (hfew : ((backTo cpos (starEach (e :: es) X.env)).all (fun x => !x.1) && (backToKw cpos (keywordEach [] X.env)).all (fun x => x.1.isSome)
      && decide ((e :: es).length + ([] : List Keyword).length + (if ([] : List Keyword).isEmpty then 0 else 1) < 30)) = true := by rfl)
    (hline : (apos.endLine == cpos.line) = true := by rfl) (hs : starEach (e :: es) X.env = (false, eval e X.env) :: starEach es X.env := by rfl) (hplain : (backTo cpos (starEach es X.env)).any (·.1) = false := by rfl) :
    PE X (.Call (.Attribute o name apos) (e :: es) [] cpos) (tBM X.K T r to t) := by
  intro pins s σ H Q I h
  refine wpAny_Call_method_late hbase hfew hline rfl (thn (ho pins s σ H _ I h) fun v s1 ⟨x, H1, I1, r1, ty, q1⟩ => ?_)
  obtain ⟨h1, h2⟩ := tyV_is I1 r1 ty
  refine ⟨T, id, pa, slot, hty, h1, h2, ?_⟩
  have hA := ha cpos pins s1 σ H1 _ I1 q1
  rw [hs] at hA ⊢
  refine Calls.callWith_builtin (by show (false || (backTo cpos (starEach es X.env)).any (·.1)) = false; rw [hplain] <;> rfl) (Calls.evalArgs_plain ?_)
  exact thn hA fun us s2 ⟨vs, H2, I2, r2, q2⟩ => hm pins s2 σ H2 x vs v us Q I2 r1 r2 q2
end
end L2
namespace L2
open PySem PySem.Spec PyProof.Rows
def MtM (X : Cx) (id : String) (r : V → List V → Hp → VK → Prop) : Prop :=
  ∀ (pins : List (Addr × Obj)) (s : Shared) (σ : St) (H : Hp) (x : V) (xs : List V) (v : Value) (us : List Value) (Q : VK), Inv X pins σ H s → RelV x v → Vals xs us → r x xs H Q →
    wpAny (model X.prog X.w) X.A (call (.builtin id) (v :: us)) (EP X pins σ Q) X.xe s
theorem Vals.one : ∀ {x : V} {us : List Value}, Vals [x] us → ∃ u, us = [u] ∧ RelV x u
  | _, _, .cons r .nil => ⟨_, rfl, r⟩
theorem Vals.dropLast {xs : List V} {us : List Value} (h : Vals xs us) : Vals xs.dropLast us.dropLast := by
  induction h with
  | nil => exact .nil
  | cons r t ih =>
    cases t with
    | nil => exact .nil
    | cons q t' => exact .cons r ih
theorem Vals.eraseIdx : ∀ {xs : List V} {us : List Value} (i : Nat), Vals xs us → Vals (xs.eraseIdx i) (us.eraseIdx i)
  | _, _, _, .nil => .nil
  | _, _, 0, .cons _ t => t
  | _, _, i + 1, .cons r t => .cons r (Vals.eraseIdx i t)
section
variable {X : Cx} {pins : List (Addr × Obj)} {σ : St} {H : Hp} {s : Shared} {l b : Addr} {xs ys zs : List V}
theorem Inv.lset {its its' : List Value} {n : Nat} {f : Array Value → Array Value} {t' : Nat} (I : Inv X pins σ H s) (hH : H l = some (.lst xs))
    (e : s.heap.get? l = some { cls := .type "list", data := .seq its.toArray n }) (hf : f its.toArray = its'.toArray) (hv : Vals ys its') (hz : ys.length ≤ sizeLine) :
    Inv X pins σ (upd H l (.lst ys)) { s with heap := s.heap.update l (Obj.mapSeq f), toks := t' } := by
  have q := PySem.IsL.update e f
  rw [hf] at q
  refine I.write (x := l) (e := l) (by rw [hH]; exact trivial) (.inl rfl) (fun b' u hb hu => (Heap.get?_update_other s.heap (Obj.mapSeq f) (Ne.symm hb)).trans hu) ⟨_, q⟩ ?_
  exact ⟨hz, its', _, hv, q⟩
theorem Inv.lnew {its : List Value} {t' : Nat} (I : Inv X pins σ H s) (hv : Vals ys its) (hz : ys.length ≤ sizeLine) :
    Inv X pins σ (upd H s.heap.objs.size (.lst ys)) { s with heap := s.heap.push { cls := .type "list", data := .seq its.toArray }, toks := t' } :=
  I.laid (fun _ _ q => Heap.get?_push_of_some _ q) (Nat.le_refl _) ⟨hz, its, 0, hv, Heap.get?_push_size _ rfl⟩
theorem Inv.fresh (I : Inv X pins σ H s) : H s.heap.objs.size = none := I.hok.fresh (Nat.le_refl _)
theorem Inv.lstM (I : Inv X pins σ H s) (hH : H l = some (.lst xs)) : xs.length ≤ sizeLine ∧ ∃ (its : List Value) (n : Nat), Vals xs its ∧ xs.length = its.length ∧ s.heap.get? l = some { cls := .type "list", data := .seq its.toArray n } := by
  obtain ⟨z, its, n, r, e⟩ := I.hok l _ hH
  exact ⟨z, its, n, r, r.length, e⟩
theorem notLongL {n : Nat} (h : n ≤ sizeLine) : Builtin.List.listTooLong n = false := by
  unfold Builtin.List.listTooLong
  exact decide_eq_false (by omega)
end
section
variable {X : Cx}
def rAppend : V → List V → Hp → VK → Prop := fun x vs H Q => ∃ l xs y, x = .ref l ∧ vs = [y] ∧ H l = some (.lst xs) ∧ xs.length < sizeLine ∧ Q .non (upd H l (.lst (xs ++ [y])))
theorem mt_append : MtM X "list.append" rAppend := by
  intro pins s σ H x vs v us Q I rx rv h
  obtain ⟨l, xs, y, rfl, rfl, hH, hz, q⟩ := h
  cases rx
  obtain ⟨u, rfl, ru⟩ := rv.one
  obtain ⟨z, its, n, r, hl, e⟩ := I.lstM hH
  refine call_meets F.slot_list_append ⟨_, e, rfl⟩ F.entry_list_append (F.args_list_append_2 _ _) (PySem.list_append l its.toArray n u (by rw [List.size_toArray]; omega)) ⟨e, ?_⟩
  refine ⟨.non, _, I.lset (its' := its ++ [u]) hH e (by simp) (r.append (.cons ru .nil)) ?_, rfl, q⟩
  rw [List.length_append, List.length_singleton]
  omega
def rExtend : V → List V → Hp → VK → Prop := fun x vs H Q => ∃ l b xs zs, x = .ref l ∧ vs = [.ref b] ∧ H l = some (.lst xs) ∧ H b = some (.lst zs) ∧ xs.length + zs.length ≤ sizeLine ∧ Q .non (upd H l (.lst (xs ++ zs)))
theorem mt_extend : MtM X "list.extend" rExtend := by
  intro pins s σ H x vs v us Q I rx rv h
  obtain ⟨l, b, xs, zs, rfl, rfl, hH, hB, hz, q⟩ := h
  cases rx
  obtain ⟨u, rfl, ru⟩ := rv.one
  cases ru
  obtain ⟨z, its, n, r, hl, e⟩ := I.lstM hH
  obtain ⟨z2, its2, n2, r2, hl2, e2⟩ := I.lstM hB
  have hsz : its.toArray.size + its2.toArray.size ≤ sizeLine := by rw [List.size_toArray, List.size_toArray]; omega
  have hlong : ¬ (!its.toArray.isEmpty && Builtin.List.listTooLong (its.toArray.size + its2.toArray.size)) = true := by
    rw [notLongL hsz, Bool.and_false]
    exact Bool.false_ne_true
  refine call_meets F.slot_list_extend ⟨_, e, rfl⟩ F.entry_list_extend (F.args_list_extend_2 _ _)
    (AutoSeq1.list_extend_list_list_0 l its.toArray n b its2.toArray n2 hlong (by rw [List.size_toArray]; omega) (by omega)) ⟨e, e2, ?_⟩
  refine ⟨.non, _, I.lset (its' := its ++ its2) hH e (by simp) (r.append r2) ?_, rfl, q⟩
  rw [List.length_append]
  omega
def rCat : R2 := fun x y H Q => ∃ l b xs zs, x = .ref l ∧ y = .ref b ∧ H l = some (.lst xs) ∧ H b = some (.lst zs) ∧ xs.length + zs.length ≤ sizeLine ∧ ∀ p, H p = none → Q (.ref p) (upd H p (.lst (xs ++ zs)))
theorem op_cat : OpR X (binaryOp .Add) rCat := by
  intro pins s σ H x y v u Q I rx ry h
  obtain ⟨l, b, xs, zs, rfl, rfl, hH, hB, hz, q⟩ := h
  cases rx
  cases ry
  obtain ⟨z, its, n, r, hl, e⟩ := I.lstM hH
  obtain ⟨z2, its2, n2, r2, hl2, e2⟩ := I.lstM hB
  refine PySem.P.add_list e e2 ?_ (by rw [List.size_toArray, List.size_toArray]; omega)
  have ea : its.toArray ++ its2.toArray = (its ++ its2).toArray := by simp
  rw [ea]
  exact ⟨.ref _, _, I.lnew (t' := s.toks) (r.append r2) (by rw [List.length_append]; omega), rfl, q _ I.fresh⟩
end
section
variable {prog : Program} {w : World} {A : Around} {E : Value → Shared → Prop} {s : Shared}
end
section
variable {X : Cx}
end
end L2
namespace L2
open PySem PySem.Spec PyProof.Rows
theorem Vals.ints : ∀ {ns : List Int} {us : List Value}, Vals (ns.map V.int) us → IntsAre us ns
  | [], us, h => by
    rw [List.map_nil] at h
    cases h
    exact IntsAre.nil
  | n :: ns, us, h => by
    rw [List.map_cons] at h
    cases h with
    | cons r t =>
      obtain ⟨k, rfl⟩ := r
      exact IntsAre.cons n k (Vals.ints t)
theorem Vals.bls : ∀ {bs : List Bool} {us : List Value}, Vals (bs.map V.bl) us → us = bs.map Value.bool
  | [], us, h => by
    rw [List.map_nil] at h
    cases h
    rfl
  | b :: bs, us, h => by
    rw [List.map_cons] at h
    cases h with
    | cons r t =>
      cases r
      rw [Vals.bls t, List.map_cons]
theorem Vals.ref1 {a : Addr} {us : List Value} (r : Vals [V.ref a] us) : us = [Value.ref a] := by
  cases r with
  | cons r t =>
    cases t
    cases r
    rfl
section
variable {prog : Program} {w : World} {A : Around} {E : Value → Shared → Prop} {s : Shared} {l : Addr} {its : List Value} {ns : List Int} {Q : Value → Shared → Prop}
end
section
variable {X : Cx}
end
section
variable {X : Cx}
end
section
variable {X : Cx}
end
theorem iter_any {prog : Program} {w : World} {A : Around} {E : Value → Shared → Prop} {s : Shared} {l : Addr} {items : Array Value} {Q : Value → Shared → Prop} (hl : s.heap.IsList l items)
    (h : ∀ s₂ : Shared, s₂ = { s with heap := s.heap.push { cls := .type "list_iterator", data := .fields #[.ref l, .int 0 0] } } →
      (s₂.heap.IsListIter s.heap.objs.size l 0 ∧ s₂.heap.IsList l items) → l ≠ s.heap.objs.size → Q (.ref s.heap.objs.size) s₂) : wpAny (model prog w) A (pyIter (.ref l)) Q E s := by
  have hlt : l < s.heap.objs.size := by obtain ⟨_, e, _⟩ := hl; exact Heap.lt_size e
  exact wpAny_pyIter_list hl (h _ rfl ⟨⟨_, Heap.get?_push_size _ rfl, rfl, rfl⟩, hl.push _⟩ (Nat.ne_of_lt hlt))
theorem truth_bools {prog : Program} {w : World} {A : Around} {bs : List Bool} {its : List Value} (e : its = bs.map Value.bool) :
    TruthOf prog w A (fun i v => its.toArray[i]? = some v) (fun i => bs.getD i false) := fun i v s Q E hv hq => by
  have hv' : its[i]? = some v := by simpa using hv
  rw [e, List.getElem?_map] at hv'
  obtain ⟨b, hb, rfl⟩ := Option.map_eq_some_iff.mp hv'
  have hg : bs.getD i false = b := by rw [List.getD_eq_getElem?_getD, hb] <;> rfl
  have hq' : Q (bs.getD i false) s := hq
  rw [hg] at hq'
  exact wpAny_truthy_bool hq'
theorem all_range : ∀ bs : List Bool, (List.range bs.length).all (fun i => bs.getD i false) = bs.all id
  | [] => rfl
  | b :: bs => by
    rw [List.length_cons, List.range_succ_eq_map, List.all_cons, List.all_map, List.all_cons, ← all_range bs]
    all_goals rfl
section
variable {X : Cx}
def rAll (K : PySem.W.Frag) : List V → Hp → VK → Prop := fun vs H Q => ∃ (a : Addr) (bs : List Bool), vs = [V.ref a] ∧ SqL K H a (bs.map V.bl) ∧ Q (.bl (bs.all id)) H
theorem cr_all (hc : X.calm = true) : CallR X (.builtin "all") (rAll X.K) := by
  intro pins s σ H vs us Q I r h
  obtain ⟨a, bs, rfl, hs, q⟩ := h
  obtain ⟨its, rv, hl, _⟩ := I.list hs
  rw [Vals.ref1 r]
  have hb := rv.bls
  refine call_all_walk (iter_any hl.isList fun s₂ e2 st hne => ?_)
  subst e2
  refine ⟨_, _, _, _, _, _, _, rfl, Walks.list (A := X.A.in1) (I.ok.hd hc) _ a hne its.toArray, st, truth_bools hb, fun h' tk hk => ?_⟩
  refine ⟨.bl _, H, I.kept fun b o eo => hk b o (fun hmem => ?_) (Heap.get?_push_of_some _ eo), ?_, q⟩
  · rcases List.mem_cons.mp hmem with e1 | hmem
    · exact absurd (e1 ▸ Heap.lt_size eo) (Nat.lt_irrefl _)
    · cases hmem
  · show Value.bool _ = Value.bool _
    rw [← all_range, hb, List.size_toArray, List.length_map]
end
mutual
inductive Dp (K : PySem.W.Frag) (H : Hp) : V → PyData → Prop
  | non : Dp K H .non .none
  | bl (b : Bool) : Dp K H (.bl b) (.bool b)
  | int (i : Int) : Dp K H (.int i) (.int i)
  | str (x : Str) : Dp K H (.str x) (.str x)
  | lst {a : Addr} {xs : List V} {ds : List PyData} : SqL K H a xs → DpAll K H xs ds → Dp K H (.ref a) (.list ds)
  | tup {a : Addr} {xs : List V} {ds : List PyData} : SqT K H a xs → DpAll K H xs ds → Dp K H (.ref a) (.tuple ds)
inductive DpAll (K : PySem.W.Frag) (H : Hp) : List V → List PyData → Prop
  | nil : DpAll K H [] []
  | cons {v : V} {vs : List V} {d : PyData} {ds : List PyData} : Dp K H v d → DpAll K H vs ds → DpAll K H (v :: vs) (d :: ds)
end
section
variable {X : Cx} {pins : List (Addr × Obj)} {σ : St} {H : Hp} {s : Shared}
mutual
theorem Dp.reads (I : Inv X pins σ H s) : ∀ (d : PyData) (v : V) (u : Value), Dp X.K H v d → RelV v u → ∃ as, Reads s.heap u d as
  | .none, _, _, h, r => by
    cases h
    cases r
    exact ⟨_, Reads.none⟩
  | .bool b, _, _, h, r => by
    cases h
    cases r
    exact ⟨_, Reads.bool b⟩
  | .int i, _, _, h, r => by
    cases h
    obtain ⟨t, rfl⟩ := r
    exact ⟨_, Reads.int i t⟩
  | .str x, _, _, h, r => by
    cases h
    obtain ⟨t, rfl⟩ := r
    exact ⟨_, Reads.str x t⟩
  | .list ds, _, _, h, r => by
    cases h with
    | lst hs ha =>
      cases r
      obtain ⟨its, rv, ⟨o, n, ho, hc, _, hd⟩, _⟩ := I.list hs
      obtain ⟨as, hr⟩ := Dp.readsAll I ds _ its ha rv
      exact ⟨_, Reads.list ho hc hd hr⟩
  | .tuple ds, _, _, h, r => by
    cases h with
    | tup hs ha =>
      cases r
      obtain ⟨its, rv, ⟨o, ho, hc, n, hd⟩, _⟩ := I.tuple hs
      obtain ⟨as, hr⟩ := Dp.readsAll I ds _ its ha rv
      exact ⟨_, Reads.tuple ho hc hd hr⟩
  | .dict _, _, _, h, _ => by cases h
theorem Dp.readsAll (I : Inv X pins σ H s) : ∀ (ds : List PyData) (vs : List V) (us : List Value), DpAll X.K H vs ds → Vals vs us → ∃ as, ReadsAll s.heap us ds as
  | [], _, _, h, r => by
    cases h
    cases r
    exact ⟨_, ReadsAll.nil⟩
  | d :: ds, _, _, h, r => by
    cases h with
    | cons h1 h2 =>
      cases r with
      | cons r1 r2 =>
        obtain ⟨as, q1⟩ := Dp.reads I d _ _ h1 r1
        obtain ⟨bs, q2⟩ := Dp.readsAll I ds _ _ h2 r2
        exact ⟨_, ReadsAll.cons q1 q2⟩
end
end
section
variable {X : Cx}
def rNeD (K : PySem.W.Frag) : R2 := fun x y H Q => ∃ d e, Dp K H x d ∧ Dp K H y e ∧ SeqAt.shaped d = true ∧ SeqAt.shaped e = true ∧ Q (.bl (!PyData.eqv d e)) H
theorem op_neD (hu : X.A.units + 64 < cLine) : OpR X (compareOp .NotEq) (rNeD X.K) := by
  intro pins s σ H x y v u Q I rx ry h
  obtain ⟨d, e, hd, he, sd, se, q⟩ := h
  obtain ⟨as, r1⟩ := Dp.reads I d x v hd rx
  obtain ⟨bs, r2⟩ := Dp.reads I e y u he ry
  exact SeqAt.compareNe_shaped r1 r2 sd se hu ⟨.bl _, H, I, rfl, q⟩
end
end L2
namespace L2
open PySem PySem.Spec PyProof.Rows
abbrev CellAt (h : Heap) (c : Addr) (v : Option Value) : Prop := h.IsCell c v
def relS (scope sc : Scope) : Scope :=
  { scope with names := scope.names.map fun (n, k) => if (k == .free && sc.kind == .function && sc.names.lookup n == some .cell) then (n, .cell) else (n, k) }
def cloFrom (cells : List (Str × Addr)) : List (Str × NameKind) → List (Str × Addr) → List (Str × Addr)
  | [], acc => acc
  | (n, k) :: r, acc => if k == .free then cloFrom cells r ((n, (cells.lookup n).getD 0) :: acc) else cloFrom cells r acc
theorem closure_loop (env : Env) (f : Str × NameKind → List (Str × Addr) → Sem (ForInStep (List (Str × Addr))))
    (hf : ∀ n k c, f (n, k) c = if k == .free then (do let a ← cellOf env n; pure (.yield ((n, a) :: c))) else pure (.yield c)) :
    ∀ (names : List (Str × NameKind)) (acc : List (Str × Addr)), (∀ y ∈ names, y.2 = .free → ∃ c, env.cells.lookup y.1 = some c) → forIn names acc f = pure (cloFrom env.cells names acc)
  | [], acc, _ => by rw [List.forIn_nil]; rfl
  | (n, k) :: r, acc, h => by
    rw [List.forIn_cons, hf]
    have ih := fun acc => closure_loop env f hf r acc fun y hy => h y (List.mem_cons_of_mem _ hy)
    unfold cloFrom
    by_cases hk : (k == NameKind.free) = true
    · rw [if_pos hk, if_pos hk]
      obtain ⟨c, hc⟩ := h (n, k) List.mem_cons_self (by simpa using hk)
      have e : cellOf env n = pure c := by unfold cellOf; rw [hc]
      rw [e]
      have e2 : (env.cells.lookup n).getD 0 = c := by rw [hc]; rfl
      rw [e2]
      exact ih _
    · rw [if_neg hk, if_neg hk]
      exact ih _
theorem closure_ok {scope : Scope} {env : Env} (h : ∀ y ∈ scope.names, y.2 = .free → ∃ c, env.cells.lookup y.1 = some c) : closureFor scope env = pure (cloFrom env.cells scope.names []) := by
  simp only [closureFor]
  rw [closure_loop env _ (fun n k c => rfl) scope.names [] h]
  rfl
theorem mem_lookup {α : Type} : ∀ {l : List (Str × α)} {n : Str} {c : α}, (n, c) ∈ l → ∃ c', l.lookup n = some c'
  | (k, v) :: r, n, c, h => by
    rw [List.lookup_cons]
    cases hb : n == k with
    | true => exact ⟨_, rfl⟩
    | false =>
      rcases List.mem_cons.mp h with e | h
      · cases e; simp at hb
      · exact mem_lookup h
theorem cloFrom_mem {cells : List (Str × Addr)} : ∀ {names : List (Str × NameKind)} {acc : List (Str × Addr)} {n : Str} {c : Addr}, (n, c) ∈ cloFrom cells names acc → (n, c) ∈ acc ∨ ((n, .free) ∈ names ∧ c = (cells.lookup n).getD 0)
  | [], _, _, _, h => .inl h
  | (m, k) :: r, acc, n, c, h => by
    unfold cloFrom at h
    split at h
    · rename_i hk
      have hk : k = .free := by simpa using hk
      rcases cloFrom_mem h with h | ⟨h1, h2⟩
      · rcases List.mem_cons.mp h with e | h
        · cases e; exact .inr ⟨hk ▸ List.mem_cons_self, rfl⟩
        · exact .inl h
      · exact .inr ⟨List.mem_cons_of_mem _ h1, h2⟩
    · rcases cloFrom_mem h with h | ⟨h1, h2⟩
      · exact .inl h
      · exact .inr ⟨List.mem_cons_of_mem _ h1, h2⟩
theorem cloFrom_acc {cells : List (Str × Addr)} : ∀ {names : List (Str × NameKind)} {acc : List (Str × Addr)} {p : Str × Addr}, p ∈ acc → p ∈ cloFrom cells names acc
  | [], _, _, h => h
  | (m, k) :: r, acc, p, h => by
    unfold cloFrom
    split
    · exact cloFrom_acc (List.mem_cons_of_mem _ h)
    · exact cloFrom_acc h
theorem cloFrom_has {cells : List (Str × Addr)} : ∀ {names : List (Str × NameKind)} {acc : List (Str × Addr)} {n : Str}, (n, .free) ∈ names → (n, (cells.lookup n).getD 0) ∈ cloFrom cells names acc
  | (m, k) :: r, acc, n, h => by
    unfold cloFrom
    rcases List.mem_cons.mp h with e | h
    · cases e
      exact cloFrom_acc List.mem_cons_self
    · split
      · exact cloFrom_has h
      · exact cloFrom_has h
theorem cells_mem : ∀ {names : List (Str × NameKind)} {h : Heap} {acc : List (Str × Addr)} {x : Str} {c : Addr}, (x, c) ∈ cellsFrom h.objs.size names acc →
    (x, c) ∈ acc ∨ ((x, .cell) ∈ names ∧ h.objs.size ≤ c ∧ CellAt (pushCells h names) c none)
  | [], _, _, _, _, h => .inl h
  | (n, k) :: r, h, acc, x, c, hm => by
    unfold cellsFrom at hm
    unfold pushCells
    split at hm
    · rename_i hk
      rw [if_pos hk]
      have hk : k = .cell := by simpa using hk
      rw [← Heap.size_push h { cls := .type "cell", data := .cell none }] at hm
      rcases cells_mem hm with hm | ⟨h1, h2, h3⟩
      · rcases List.mem_cons.mp hm with e | hm
        · cases e
          exact .inr ⟨hk ▸ List.mem_cons_self, Nat.le_refl _, _, pushCells_keeps r _ _ _ (Heap.get?_push_size _ rfl), rfl⟩
        · exact .inl hm
      · rw [Heap.size_push] at h2
        exact .inr ⟨List.mem_cons_of_mem _ h1, Nat.le_of_succ_le h2, h3⟩
    · rename_i hk
      rw [if_neg hk]
      rcases cells_mem hm with hm | ⟨h1, h2, h3⟩
      · exact .inl hm
      · exact .inr ⟨List.mem_cons_of_mem _ h1, h2, h3⟩
theorem cells_acc : ∀ {names : List (Str × NameKind)} {n : Nat} {acc : List (Str × Addr)} {p : Str × Addr}, p ∈ acc → p ∈ cellsFrom n names acc
  | [], _, _, _, h => h
  | (m, k) :: r, n, acc, p, h => by
    unfold cellsFrom
    split
    · exact cells_acc (List.mem_cons_of_mem _ h)
    · exact cells_acc h
theorem cells_has : ∀ {names : List (Str × NameKind)} {n : Nat} {acc : List (Str × Addr)} {x : Str}, (x, .cell) ∈ names → ∃ c, (x, c) ∈ cellsFrom n names acc
  | (m, k) :: r, n, acc, x, h => by
    unfold cellsFrom
    rcases List.mem_cons.mp h with e | h
    · cases e
      exact ⟨n, cells_acc List.mem_cons_self⟩
    · split
      · exact cells_has h
      · exact cells_has h
theorem cells_inj : ∀ {names : List (Str × NameKind)} {h : Heap} {acc : List (Str × Addr)} {x y : Str} {c : Addr}, (∀ p ∈ acc, p.2 < h.objs.size) → (∀ x y c, (x, c) ∈ acc → (y, c) ∈ acc → x = y) →
    (x, c) ∈ cellsFrom h.objs.size names acc → (y, c) ∈ cellsFrom h.objs.size names acc → x = y
  | [], _, _, _, _, _, _, hi, h1, h2 => hi _ _ _ h1 h2
  | (n, k) :: r, h, acc, x, y, c, hl, hi, h1, h2 => by
    unfold cellsFrom at h1 h2
    split at h1
    · rename_i hk
      rw [if_pos hk] at h2
      rw [← Heap.size_push h { cls := .type "cell", data := .cell none }] at h1 h2
      refine cells_inj (h := h.push _) (fun p hp => ?_) (fun x y c a b => ?_) h1 h2
      · rw [Heap.size_push]
        rcases List.mem_cons.mp hp with rfl | hp
        · exact Nat.lt_succ_self _
        · exact Nat.lt_succ_of_lt (hl p hp)
      · rcases List.mem_cons.mp a with e | a <;> rcases List.mem_cons.mp b with e' | b
        · cases e; cases e'; rfl
        · cases e; exact absurd (hl _ b) (Nat.lt_irrefl _)
        · cases e'; exact absurd (hl _ a) (Nat.lt_irrefl _)
        · exact hi _ _ _ a b
    · rename_i hk
      rw [if_neg hk] at h2
      exact cells_inj hl hi h1 h2
theorem newEnv_comp {M : Model} {A : Around} {E : Value → Shared → Prop} {s : Shared} {scope : Scope} {globals : Addr} {closure : List (Str × Addr)} {qual : Str} {func : Option Addr} {code : Value} {around : Env} {builtins : Addr} {Q : Env → Shared → Prop}
    (h : Q (newEnv scope s.heap.objs.size globals (cellsFrom (s.heap.objs.size + 1) scope.names closure) qual func code (some around) builtins)
      { s with heap := pushCells (s.heap.push { cls := .type "dict", data := .dict #[] }) scope.names }) :
    wpAny M A (newFunctionEnv scope globals closure [] qual func code (some around) builtins) Q E s := by
  simp only [newFunctionEnv, Option.isSome_some, if_true]
  refine wpAny_bind (wpAny_alloc ?_)
  refine wpAny_bind (wpAny_layCells _ (fun n k c => rfl) scope.names closure _ _ ?_)
  rw [show ({ s with heap := s.heap.push { cls := .type "dict", data := .dict #[] } } : Shared).heap.objs.size = s.heap.objs.size + 1 from Heap.size_push ..]
  rw [List.forIn_nil]
  exact wpAny_bind (wpAny_pure (wpAny_pure h))
theorem lookup_relS {sc : Scope} : ∀ {names : List (Str × NameKind)} {x : Str} {k : NameKind},
    (names.map fun (n, k) => if (k == NameKind.free && sc.kind == .function && sc.names.lookup n == some .cell) then (n, NameKind.cell) else (n, k)).lookup x = some k →
    ∃ k', names.lookup x = some k' ∧ (k = k' ∨ (k' = .free ∧ k = .cell))
  | [], _, _, h => by simp at h
  | (n, k₀) :: r, x, k, h => by
    have ih := @lookup_relS sc r x k
    have h' : List.lookup x ((if (k₀ == NameKind.free && sc.kind == .function && sc.names.lookup n == some .cell) = true then (n, NameKind.cell) else (n, k₀)) :: (r.map _)) = some k := h
    cases hx : x == n with
    | true =>
      simp only [List.lookup_cons, hx]
      by_cases hc : (k₀ == NameKind.free && sc.kind == .function && sc.names.lookup n == some .cell) = true
      · rw [if_pos hc] at h'
        simp only [List.lookup_cons, hx] at h'
        cases h'
        simp only [Bool.and_eq_true, beq_iff_eq] at hc
        exact ⟨k₀, rfl, .inr ⟨hc.1.1, rfl⟩⟩
      · rw [if_neg hc] at h'
        simp only [List.lookup_cons, hx] at h'
        cases h'
        exact ⟨_, rfl, .inl rfl⟩
    | false =>
      simp only [List.lookup_cons, hx]
      by_cases hc : (k₀ == NameKind.free && sc.kind == .function && sc.names.lookup n == some .cell) = true
      · rw [if_pos hc] at h'
        simp only [List.lookup_cons, hx] at h'
        exact ih h'
      · rw [if_neg hc] at h'
        simp only [List.lookup_cons, hx] at h'
        exact ih h'
structure BlkOk (N : List Str) (sc scope : Scope) (own : List (Str × Nat)) : Prop where
  kind : scope.kind = .function
  uniq : ∀ y ∈ scope.names, scope.names.lookup y.1 = some y.2
  ix : ∀ p ∈ own, N[p.2]? = some p.1
  free : ∀ y ∈ scope.names, y.2 = .free → sc.names.lookup y.1 = some .cell ∨ sc.names.lookup y.1 = some .free
  own : ∀ y ∈ scope.names, y.2 = .local ∨ y.2 = .cell → y.1 ∈ own.map (·.1) ∨ y.1 ∉ N
def wipe (σ : St) : List Nat → St
  | [] => σ
  | v :: vs => (wipe σ vs).set v none
theorem wipe_length (σ : St) : ∀ vs : List Nat, (wipe σ vs).length = σ.length
  | [] => rfl
  | v :: vs => by unfold wipe; rw [List.length_set, wipe_length σ vs]
theorem wipe_some {σ : St} {i : Nat} {x : V} : ∀ {vs : List Nat}, (wipe σ vs)[i]? = some (some x) → σ[i]? = some (some x) ∧ i ∉ vs
  | [], h => ⟨h, by simp⟩
  | v :: vs, h => by
    unfold wipe at h
    by_cases hi : v = i
    · subst hi
      by_cases hv : v < (wipe σ vs).length
      · rw [List.getElem?_set_self hv] at h; cases h
      · rw [List.getElem?_eq_none (by simpa using hv)] at h; cases h
    · rw [List.getElem?_set_ne hi] at h
      obtain ⟨h1, h2⟩ := wipe_some h
      exact ⟨h1, by simp only [List.mem_cons, not_or]; exact ⟨fun e => hi e.symm, h2⟩⟩
abbrev Cx.blk (X : Cx) (s : Shared) (H : Hp) (scope : Scope) (cenv : Env) (fp : List Addr) : Cx := { X with s_0 := s, H_0 := H, env := cenv, outer := X.stack, ex := fp, fn := fun x => scope.names.lookup x == some .cell, pn := [], xe := fun _ _ => False }
section
variable {X : Cx} {pins : List (Addr × Obj)} {σ : St} {H : Hp} {s : Shared}
theorem block_start {scope : Scope} {own : List (Str × Nat)} {fp : List Addr} (I : Inv X pins σ H s) (ok : BlkOk X.N X.env.scope scope own) (hN : X.N.Nodup) (hfp : ∀ b ∈ fp, FpOk X pins H b ∧ b < s.heap.objs.size) :
    Inv (X.blk s H scope (compEnvC scope (cellsFrom (s.heap.objs.size + 1) scope.names (cloFrom X.env.cells scope.names [])) s.heap.objs.size X.env) fp) [] (wipe σ (own.map (·.2))) H { s with heap := pushCells (s.heap.push { cls := .type "dict", data := .dict #[] }) scope.names } := by
  have hfree : ∀ y ∈ scope.names, y.2 = .free → ∃ c, X.env.cells.lookup y.1 = some c := fun y hy e => by
    rcases ok.free y hy e with k | k
    · exact I.ok.has _ (.inl k)
    · exact I.ok.has _ (.inr k)
  generalize hcenv : compEnvC scope (cellsFrom (s.heap.objs.size + 1) scope.names (cloFrom X.env.cells scope.names [])) s.heap.objs.size X.env = cenv
  have kp : ∀ b o, s.heap.get? b = some o → (pushCells (s.heap.push { cls := .type "dict", data := .dict #[] }) scope.names).get? b = some o := fun b o e => pushCells_keeps _ _ _ _ (Heap.get?_push_of_some _ e)
  have hL : cenv.locals = s.heap.objs.size := by rw [← hcenv]; rfl
  have hcl : cenv.cells = cellsFrom (s.heap.objs.size + 1) scope.names (cloFrom X.env.cells scope.names []) := by rw [← hcenv]; rfl
  have hsc : cenv.scope = relS scope X.env.scope := by rw [← hcenv]; rfl
  rw [← Heap.size_push s.heap { cls := .type "dict", data := .dict #[] }] at hcl
  have cm : ∀ {y c}, (y, c) ∈ cloFrom X.env.cells scope.names [] → X.env.cells.lookup y = some c ∧ c < s.heap.objs.size := fun {y c} hm => by
    rcases cloFrom_mem hm with hm | ⟨h1, rfl⟩
    · cases hm
    · obtain ⟨c, hc⟩ := hfree _ h1 rfl
      rw [hc]
      obtain ⟨w, z⟩ := I.cell _ _ hc
      exact ⟨rfl, z.lt⟩
  have mem : ∀ {y c}, cenv.cells.lookup y = some c → (X.env.cells.lookup y = some c ∧ c < s.heap.objs.size) ∨ (s.heap.objs.size + 1 ≤ c ∧ CellAt (pushCells (s.heap.push { cls := .type "dict", data := .dict #[] }) scope.names) c none) := fun {y c} e => by
    rw [hcl] at e
    rcases cells_mem (PySem.mem_of_lookup e) with hm | ⟨_, h2, h3⟩
    · exact .inl (cm hm)
    · rw [Heap.size_push] at h2; exact .inr ⟨h2, h3⟩
  have look : ∀ {y}, scope.names.lookup y = some .free → ∃ c, cenv.cells.lookup y = some c ∧ X.env.cells.lookup y = some c := fun {y} hl => by
    have hy : (y, NameKind.free) ∈ scope.names := PySem.mem_of_lookup hl
    obtain ⟨c', e'⟩ := mem_lookup (cells_acc (names := scope.names) (n := (s.heap.push { cls := .type "dict", data := .dict #[] }).objs.size) (cloFrom_has (cells := X.env.cells) (acc := []) hy))
    rw [← hcl] at e'
    refine ⟨c', e', ?_⟩
    rw [hcl] at e'
    rcases cells_mem (PySem.mem_of_lookup e') with hm | ⟨h1, _, _⟩
    · exact (cm hm).1
    · have := ok.uniq _ h1
      rw [hl] at this; cases this
  have okB : (X.blk s H scope cenv fp).Ok := by
    refine ⟨I.ok.mod, by show cenv.scope.kind = _; rw [hsc]; exact ok.kind, by show cenv.globals = _; rw [← hcenv]; exact I.ok.glob, by show cenv.builtins = _; rw [← hcenv]; exact I.ok.blt, by show s.heap.objs.size ≤ cenv.locals; rw [hL]; exact Nat.le_refl _,
      fun y z c e1 e2 => ?_, fun y hy => ?_, fun y c z e => ?_, I.ok.hd, I.ok.frames, .inl rfl, fun b hb => ⟨?_, fun y c e z => ?_⟩, I.bs, Nat.le_trans I.ok.bsz I.sz, fun b o e hb => ?_, fun b hb z => ?_, I.stack, I.stkFree⟩
    · have e1 : cenv.cells.lookup y = some c := e1
      have e2 : cenv.cells.lookup z = some c := e2
      rw [hcl] at e1 e2
      refine cells_inj (fun p hp => ?_) (fun y z c a b => I.ok.inj y z c (cm a).1 (cm b).1) (PySem.mem_of_lookup e1) (PySem.mem_of_lookup e2)
      rw [Heap.size_push]
      exact Nat.lt_succ_of_lt (cm (y := p.1) (c := p.2) hp).2
    · show ∃ c, cenv.cells.lookup y = some c
      have key : ∀ k, cenv.kindOf y = some k → (k = .cell ∨ k = .free) → ∃ c, cenv.cells.lookup y = some c := fun k hk hk' => by
        unfold Env.kindOf at hk
        rw [hsc] at hk
        obtain ⟨k', e, r⟩ := lookup_relS hk
        have : k' = .cell ∨ k' = .free := by
          rcases r with rfl | ⟨rfl, _⟩
          · exact hk'
          · exact .inr rfl
        rcases this with rfl | rfl
        · obtain ⟨c, hm⟩ := cells_has (n := (s.heap.push { cls := .type "dict", data := .dict #[] }).objs.size) (acc := cloFrom X.env.cells scope.names []) (PySem.mem_of_lookup e)
          obtain ⟨c', e'⟩ := mem_lookup hm
          exact ⟨c', by rw [hcl]; exact e'⟩
        · obtain ⟨c, h1, _⟩ := look e
          exact ⟨c, h1⟩
      rcases hy with hy | hy
      · exact key _ hy (.inl rfl)
      · exact key _ hy (.inr rfl)
    · have z : (scope.names.lookup y == some NameKind.cell) = true := z
      have z : scope.names.lookup y = some .cell := by simpa using z
      have e : cenv.cells.lookup y = some c := e
      rw [hcl] at e
      rcases cells_mem (PySem.mem_of_lookup e) with hm | ⟨_, h2, _⟩
      · rcases cloFrom_mem hm with hm | ⟨h1, _⟩
        · cases hm
        · have q := ok.uniq _ h1
          rw [z] at q; cases q
      · rw [Heap.size_push] at h2
        exact Nat.le_of_succ_le h2
    · show b ≠ cenv.locals
      rw [hL]; exact Nat.ne_of_lt (hfp b hb).2
    · have e : cenv.cells.lookup y = some c := e
      rcases mem e with ⟨h1, _⟩ | ⟨h1, _⟩
      · exact (hfp b hb).1.2.2.2.2.1 y c h1 z
      · have h2 : s.heap.objs.size + 1 ≤ b := by rw [← z]; exact h1
        exact absurd (Nat.lt_of_lt_of_le (hfp b hb).2 (Nat.le_of_succ_le h2)) (Nat.lt_irrefl _)
    · rcases (hfp b hb).1.2.2.2.1 with z | z
      · exact I.ok.noex b o e z
      · exact absurd (Nat.lt_of_lt_of_le (Heap.lt_size e) (Nat.le_trans I.ok.bsz z)) (Nat.lt_irrefl _)
    · rcases List.mem_cons.mp (I.stkSub b z) with z | z
      · exact (hfp b hb).1.2.1 z
      · exact (hfp b hb).1.2.2.1 z
  refine ⟨okB, rfl, I.bare, Un.kept kp, ⟨fun _ => none, ?_, fun i y av e1 e2 e3 => ?_⟩, fun y c e => ?_, ?_, fun y c e => ?_, fun p hp => ?_, I.hok.kept kp, by rw [wipe_length]; exact I.len⟩
  · show Heap.Ns _ cenv.locals _
    rw [hL]
    exact Heap.Ns.keeps (Heap.Ns.new ..) fun b o e => pushCells_keeps _ _ _ _ e
  · obtain ⟨e2, hne⟩ := wipe_some e2
    have hfr : scope.names.lookup y = some .free ∧ (cenv.kindOf y = some .cell ∨ cenv.kindOf y = some .free) := by
      have key : ∀ k, cenv.scope.names.lookup y = some k → k = .local ∨ k = .cell ∨ k = .free → scope.names.lookup y = some .free ∧ (cenv.kindOf y = some .cell ∨ cenv.kindOf y = some .free) := fun k hk hk' => by
        have hk0 := hk
        rw [hsc] at hk
        obtain ⟨k', e, r⟩ := lookup_relS hk
        have no : ¬ (k' = .local ∨ k' = .cell) := fun hh => by
          rcases ok.own _ (PySem.mem_of_lookup e) hh with e' | e'
          · obtain ⟨p, hp, hpy⟩ := List.mem_map.mp e'
            have e3 := ok.ix p hp
            have : p.1 = y := hpy
            rw [this] at e3
            exact hne (List.mem_map.mpr ⟨p, hp, nodup_ix hN e3 e1⟩)
          · exact e' (List.mem_of_getElem? e1)
        rcases r with rfl | ⟨rfl, rfl⟩
        · rcases hk' with rfl | rfl | rfl
          · exact absurd (.inl rfl) no
          · exact absurd (.inr rfl) no
          · exact ⟨e, .inr hk0⟩
        · exact ⟨e, .inl hk0⟩
      have e3 : Vis cenv.scope y := e3
      rcases e3 with e3 | e3 | e3
      · exact key _ e3 (.inl rfl)
      · exact key _ e3 (.inr (.inl rfl))
      · exact key _ e3 (.inr (.inr rfl))
    obtain ⟨m, hn, hl⟩ := I.loc
    have hvis : Vis X.env.scope y := (ok.free _ (PySem.mem_of_lookup hfr.1) rfl).elim (fun k => .inr (.inl k)) (fun k => .inr (.inr k))
    obtain ⟨w, r, q⟩ := hl i y av e1 e2 hvis
    refine ⟨w, r, .inr ⟨hfr.2, ?_⟩⟩
    obtain ⟨c, h1, h2⟩ := look hfr.1
    rcases q with ⟨k, _⟩ | ⟨_, c', e', z⟩
    · have k : X.env.scope.names.lookup y = some .local := k
      rcases ok.free _ (PySem.mem_of_lookup hfr.1) rfl with k' | k' <;> rw [show X.env.scope.names.lookup y = _ from k'] at k <;> cases k
    · rw [h2] at e'; cases e'
      exact ⟨c, h1, z.keeps kp⟩
  · have e : cenv.cells.lookup y = some c := e
    rcases mem e with ⟨h1, _⟩ | ⟨_, z⟩
    · obtain ⟨w, z⟩ := I.cell y c h1
      exact ⟨w, z.keeps kp⟩
    · exact ⟨_, z⟩
  · show H cenv.locals = none
    rw [hL]; exact I.hok.fresh (Nat.le_refl _)
  · have e : cenv.cells.lookup y = some c := e
    rcases mem e with ⟨h1, _⟩ | ⟨h1, _⟩
    · exact I.freeC y c h1
    · exact I.hok.fresh (Nat.le_of_succ_le h1)
  · exact absurd (show p ∈ ([] : List (Addr × Obj)) ++ [] from hp) (by simp)
theorem app_ok {E : Value → Shared → Prop} {D : Addr} {xs : List V} {y : V} {v : Value} {Q : Value → Shared → Prop} (I : Inv X pins σ H s) (hD : H D = some (.lst xs)) (hz : xs.length < sizeLine) (r : RelV y v)
    (h : ∀ s', Inv X pins σ (upd H D (.lst (xs ++ [y]))) s' → Q .none s') : wpAny (model X.prog X.w) X.A (call (.builtin "list.append") [.ref D, v]) Q E s := by
  obtain ⟨hz', its, n, ri, e⟩ := I.hok D _ hD
  have hl := ri.length
  refine append_at (hsz := by rw [List.size_toArray]; omega) e fun h' sb ho' => ?_
  refine h { s with heap := h' } (I.write (t' := s.toks) (by rw [hD]; trivial) (.inl rfl) (fun b u hb q => (sb.2 b hb).trans q) ⟨_, ho'⟩ ⟨by rw [List.length_append]; exact hz, its ++ [v], n + 1, ri.append (.cons r .nil), ?_⟩)
  rw [ho']
  simp
def PTs (X : Cx) (ifs : List Expr) (t : TT) : Prop :=
  ∀ (pins : List (Addr × Obj)) (s : Shared) (σ : St) (H : Hp) (Q : Bool → Hp → Prop), Inv X pins σ H s → t σ H Q →
    wpAny (model X.prog X.w) X.A (forIn ifs true fun c r => if r = true then do let ok ← isTrue c X.env (eval c X.env); pure (ForInStep.yield ok) else pure (ForInStep.yield r)) (TP X pins σ Q) X.xe s
def tYes : TT := fun _ H Q => Q true H
theorem pts_nil : PTs X [] tYes := fun _ _ _ H _ I h => wpAny_tests_nil ⟨H, I, h⟩
theorem pts_one {c : Expr} {t : TT} (h : PT X c t) : PTs X [c] t := fun pins s σ H Q I hw => wpAny_tests_one (h pins s σ H Q I hw)
end
theorem thnF {α : Type} {t : Sem α} {Q Q' : α → Shared → Prop} {M : Model} {A : Around} {E : Value → Shared → Prop} {s : Shared} (h : wpAny M A t Q (fun _ _ => False) s) (hQ : ∀ a s, Q a s → Q' a s) : wpAny M A t Q' E s := wpAny_mono h hQ fun _ _ z => False.elim z
theorem compLoop_any {prog : Program} {w : World} {A : Around} {R : Result → Shared → Prop} {s : Shared} {elt target iter : Expr} {ifs : List Expr} {scope : Scope} {pos : Pos} {it acc : Value} {env : Env} (I : Nat → Shared → Prop)
    (turn : ∀ n s, I n s → wpAny (model prog w) A (pyNext it) (fun r s₁ => match r with
      | none => R (.ok .next) s₁
      | some v => wpAny (model prog w) A (letOwnedTupleGo target it v) (fun _ s₁' => wpAny (model prog w) A (assign target env v) (fun _ s₂ =>
          wpAny (model prog w) A (forIn ifs true fun c r => if r = true then do let ok ← isTrue c env (eval c env); pure (ForInStep.yield ok) else pure (ForInStep.yield r)) (fun ok s₃ =>
            if ok = true then wpAny (model prog w) A (eval elt env) (fun x s₄ =>
              wpAny (model prog w) A (call (.builtin "list.append") [acc, x]) (fun _ s₅ => ∃ m, m < n ∧ I m s₅) (notedBy (model prog w) A env fun e s' => R (.error e) s') s₄) (notedBy (model prog w) A env fun e s' => R (.error e) s') s₃
            else ∃ m, m < n ∧ I m s₃) (notedBy (model prog w) A env fun e s' => R (.error e) s') s₂) (notedBy (model prog w) A env fun e s' => R (.error e) s') s₁') (notedBy (model prog w) A env fun e s' => R (.error e) s') s₁) (notedBy (model prog w) A env fun e s' => R (.error e) s') s)
    (n : Nat) (h : I n s) :
    codeAny (model prog w) A (.compLoop (.ListComp elt [⟨target, iter, ifs, 0⟩] scope pos) 0 it acc env) R s := by
  refine codeAny_loop rfl I (fun n s hI => ?_) n h
  show wpAny _ A ((compTurn (.ListComp elt [⟨target, iter, ifs, 0⟩] scope pos) 0 it acc env).onRaise (fun x => do noteFrame x env; theTreesLotGoes x)) _ _ s
  refine wpAny_noted ?_
  rw [compTurn_list]
  refine wpAny_bind (wpAny_standAt (wpAny_bind (wpAny_mono (turn n s hI) (fun r s₁ h₁ => ?_) fun _ _ h' => h')))
  cases r with
  | none => exact wpAny_pure h₁
  | some v =>
    refine wpAny_bind (wpAny_mono h₁ (fun _ s₁' h₁' => ?_) fun _ _ h' => h')
    refine wpAny_bind (wpAny_mono h₁' (fun _ s₂ h₂ => wpAny_bind (wpAny_mono h₂ (fun ok s₃ h₃ => ?_) fun _ _ h' => h')) fun _ _ h' => h')
    cases ok with
    | false => exact wpAny_pure ⟨rfl, h₃⟩
    | true =>
      exact wpAny_bind (wpAny_bind (wpAny_mono h₃ (fun x s₄ h₄ => wpAny_bind (wpAny_mono h₄ (fun _ s₅ h₅ => wpAny_pure (wpAny_pure ⟨rfl, h₅⟩)) fun _ _ h' => h')) fun _ _ h' => h'))
section
variable {X : Cx}
def tLc (wi : TI) (g : TG) (tt : TT) (te : TE) (vs : List Nat) : TE := fun σ H Q => wi σ H fun J H1 => ∀ D, H1 D = none → ∃ W : Nat → Nat → Hp → Prop, (∃ m, W 0 m (upd H1 D (.lst []))) ∧ ∀ i m H, W i m H →
  (J.stop i H ∧ Q (.ref D) H) ∨ (J.go i H ∧ ∃ Nx : Hp → Prop, (∀ H', Nx H' → ∃ m', m' < m ∧ W (i + 1) m' H') ∧ ∀ x H', J.yld i H x H' → g x (wipe σ vs) H' fun σ2 H2 => wipe σ2 vs = wipe σ vs ∧ tt σ2 H2 fun b H3 =>
    if b = true then te σ2 H3 fun y H4 => ∃ acc, H4 D = some (.lst acc) ∧ acc.length < sizeLine ∧ Nx (upd H4 D (.lst (acc ++ [y]))) else Nx H3)
theorem lc_core {pins : List (Addr × Obj)} {s : Shared} {σ : St} {H : Hp} {Q : VK} {elt tg iter : Expr} {ifs : List Expr} {scope : Scope} {own : List (Str × Nat)} {pos pos' : Pos} {wi : TI} {g : TG} {tt : TT} {te : TE} {use : Option (Value → Sem Unit)} {Qf : Value → Shared → Prop}
    (hc : X.calm = true) (hN : X.N.Nodup) (I : Inv X pins σ H s) (hi : PI X tg iter wi) (ok : BlkOk X.N X.env.scope scope own)
    (hg : ∀ (s : Shared) (H : Hp) (C : Addr) (cl : List (Str × Addr)) (fp : List Addr), PG (X.blk s H scope (compEnvC scope cl C X.env) fp) tg g) (ht : ∀ (s : Shared) (H : Hp) (C : Addr) (cl : List (Str × Addr)) (fp : List Addr), PTs (X.blk s H scope (compEnvC scope cl C X.env) fp) ifs tt)
    (he : ∀ (s : Shared) (H : Hp) (C : Addr) (cl : List (Str × Addr)) (fp : List Addr), PE (X.blk s H scope (compEnvC scope cl C X.env) fp) elt te) (hs : ∀ x, foldedSetIterable iter X.env x = pure x)
    (h : tLc wi g tt te (own.map (·.2)) σ H Q)
    (hRR : ∀ D C s' m H', Inv X pins σ H' s' → Q (.ref D) H' → s'.heap.Ns C m → FpOk X pins H' C → compPost (model X.prog X.w) X.A X.xe use Qf (.ref D) C (.ok .next) s') :
    wpAny (model X.prog X.w) X.A (comprehension (.ListComp elt [⟨tg, iter, ifs, 0⟩] scope pos) scope X.env pos' (newList []) false (eval iter X.env) use) Qf X.xe s := by
  have hfree : ∀ y ∈ scope.names, y.2 = .free → ∃ c, X.env.cells.lookup y.1 = some c := fun y hy e => by
    rcases ok.free y hy e with k | k
    · exact I.ok.has _ (.inl k)
    · exact I.ok.has _ (.inr k)
  refine wpAny_comprehension_free (use := use) rfl hs (closure_ok hfree) ok.kind (fun y hy e => by rw [ok.uniq y hy, e])
    (thn (hi pins s σ H _ I h) fun xv s1 hx => thn hx fun itv s2 h2 => ?_)
  obtain ⟨it, fp, tn, J, H2, e, I2, T, st2, f2, q⟩ := h2
  subst e
  refine wpAny_newObj_type (newEnv_comp ?_) (by show 0 ≤ sizeLine; decide)
  generalize hD : s2.heap.objs.size = D
  have hDn : H2 D = none := I2.hok.fresh (Nat.le_of_eq hD)
  obtain ⟨W, ⟨m0, w0⟩, turn⟩ := q D hDn
  -- the new list
  generalize hs3 : ({ s2 with heap := s2.heap.push { cls := .type "list", data := .seq ([] : List Value).toArray } } : Shared) = s3
  have I3 : Inv X pins σ (upd H2 D (.lst [])) s3 := by
    rw [← hs3]
    refine I2.laid (t' := s2.toks) (fun b o e => Heap.get?_push_of_some _ e) (Nat.le_of_eq hD) ⟨Nat.zero_le _, [], 0, .nil, ?_⟩
    rw [← hD]
    exact Heap.get?_push_size _ rfl
  have h3 : s3.heap = s2.heap.push { cls := .type "list", data := .seq ([] : List Value).toArray } := by rw [← hs3]
  have sz : ∀ b ∈ fp, b < s2.heap.objs.size := fun b hb => by
    obtain ⟨o, e, _⟩ := T.obj _ _ st2 b hb
    exact Heap.lt_size e
  have f3 : ∀ b ∈ fp, FpOk X pins (upd H2 D (.lst [])) b ∧ b < s3.heap.objs.size := fun b hb => by
    have hlt := sz b hb
    refine ⟨⟨?_, (f2 b hb).2⟩, by rw [h3, Heap.size_push]; exact Nat.lt_succ_of_lt hlt⟩
    rw [upd_ne (by rw [← hD]; exact Nat.ne_of_lt hlt)]
    exact (f2 b hb).1
  have st3 : tn 0 s3.heap := T.keep _ _ _ st2 fun b _ o e => by rw [h3]; exact Heap.get?_push_of_some _ e
  have I4 := block_start I3 ok hN f3
  have pg := hg s3 (upd H2 D (.lst [])) s3.heap.objs.size (cellsFrom (s3.heap.objs.size + 1) scope.names (cloFrom X.env.cells scope.names [])) fp
  have pt := ht s3 (upd H2 D (.lst [])) s3.heap.objs.size (cellsFrom (s3.heap.objs.size + 1) scope.names (cloFrom X.env.cells scope.names [])) fp
  have pe := he s3 (upd H2 D (.lst [])) s3.heap.objs.size (cellsFrom (s3.heap.objs.size + 1) scope.names (cloFrom X.env.cells scope.names [])) fp
  show codeAny _ _ (.compStart (.ListComp elt [⟨tg, iter, ifs, 0⟩] scope pos) 0 (.ref it) (.ref D) (compEnvC scope (cellsFrom (s3.heap.objs.size + 1) scope.names (cloFrom X.env.cells scope.names [])) s3.heap.objs.size X.env)) (compPost (model X.prog X.w) X.A X.xe use Qf (.ref D) s3.heap.objs.size) { s3 with heap := pushCells (s3.heap.push { cls := .type "dict", data := .dict #[] }) scope.names }
  have nfp : ∀ b ∈ fp, (upd H2 D (.lst [])) b = none := fun b hb => (f3 b hb).1.1
  generalize hce : compEnvC scope (cellsFrom (s3.heap.objs.size + 1) scope.names (cloFrom X.env.cells scope.names [])) s3.heap.objs.size X.env = ce at I4 pg pt pe ⊢
  have cL : ce.locals = s3.heap.objs.size := by subst hce; rfl
  generalize hH3 : upd H2 D (.lst []) = H3 at I3 I4 pg pt pe w0 nfp f3
  generalize hs4 : ({ s3 with heap := pushCells (s3.heap.push { cls := .type "dict", data := .dict #[] }) scope.names } : Shared) = s4 at I4 ⊢
  have st4 : tn 0 s4.heap := T.keep _ _ _ st3 fun b _ o e => by rw [← hs4]; exact pushCells_keeps _ _ _ _ (Heap.get?_push_of_some _ e)
  have stat : ∀ {σ' : St} {H' : Hp} {s' : Shared}, Inv (X.blk s3 H3 scope ce fp) [] σ' H' s' → (∀ b ∈ fp, H' b = none) → ∀ b ∈ fp, FpOk (X.blk s3 H3 scope ce fp) [] H' b := fun {σ' H' s'} I' hn b hb =>
    ⟨hn b hb, (I'.ok.exf b hb).1, I'.ok.exfs b hb, .inl hb, fun x c e => (I'.ok.exf b hb).2 x c e, fun p hp => absurd (show p ∈ ([] : List (Addr × Obj)) ++ [] from hp) (by simp)⟩
  have loop : codeAny (model X.prog X.w) X.A (.compLoop (.ListComp elt [⟨tg, iter, ifs, 0⟩] scope pos) 0 (.ref it) (.ref D) ce) (compPost (model X.prog X.w) X.A X.xe use Qf (.ref D) s3.heap.objs.size) s4 := by
    refine compLoop_any (fun n s' => ∃ i H', Inv (X.blk s3 H3 scope ce fp) [] (wipe σ (own.map (·.2))) H' s' ∧ tn i s'.heap ∧ (∀ b ∈ fp, H' b = none) ∧ W i n H') ?_ m0 ⟨0, H3, I4, st4, nfp, w0⟩
    rintro n s5 ⟨i, H5, I5, st5, n5, w5⟩
    rcases turn i n H5 w5 with ⟨stop, qq⟩ | ⟨go, Nx, hNx, step⟩
    · have td := T.done (X.blk s3 H3 scope ce fp) rfl rfl rfl hc i [] s5 _ H5 (fun _ _ => False) I5 (stat I5 n5) st5 stop
      refine thnF td fun r s6 ⟨hr, I6⟩ => ?_
      subst hr
      -- back in the def's context
      have I7 : Inv X pins σ H5 s6 := I3.call' (ch := fp) I6.os I6.base I6.hok I6.bare fun b hb => ⟨(f3 b hb).1.2.2.2.1, (f3 b hb).1.2.1, (f3 b hb).1.2.2.2.2.1, (f3 b hb).1.2.2.2.2.2⟩
      have nC : H5 s3.heap.objs.size = none := by
        have z : H5 ce.locals = none := I6.free
        rw [cL] at z
        exact z
      obtain ⟨m, hn, _⟩ := I6.loc
      have hn : s6.heap.Ns ce.locals m := hn
      rw [cL] at hn
      exact hRR D s3.heap.objs.size s6 m H5 I7 qq hn (I3.fpOk (Nat.le_refl _) nC)
    · have ti := T.item (X.blk s3 H3 scope ce fp) rfl rfl rfl hc i [] s5 _ H5 (fun _ _ => False) I5 (stat I5 n5) st5 go
      refine thnF ti fun r s6 ⟨u, hr, h6⟩ => ?_
      subst hr
      refine thnF h6 fun _ s7 ⟨x, H7, I7, r7, y7, st7, n7⟩ => ?_
      have I7' := I7.pinned (stat I7 n7) (T.obj _ _ st7)
      refine thnF (pg _ s7 _ H7 x u _ I7' r7 (step x H7 y7)) fun _ s8 ⟨σ8, H8, I8, hw8, q8⟩ => ?_
      refine thnF (pt _ s8 σ8 H8 _ I8 q8) fun b s9 ⟨H9, I9, q9⟩ => ?_
      -- the turn's end
      have fin : ∀ {s' : Shared} {H' : Hp}, Inv (X.blk s3 H3 scope ce fp) ([] ++ pinsAt fp s7.heap) σ8 H' s' → Nx H' → ∃ m, m < n ∧ ∃ i H', Inv (X.blk s3 H3 scope ce fp) [] (wipe σ (own.map (·.2))) H' s' ∧ tn i s'.heap ∧ (∀ b ∈ fp, H' b = none) ∧ W i m H' := fun {s' H'} I' nx => by
        obtain ⟨m', hm, w'⟩ := hNx H' nx
        have pin' : ∀ b ∈ fp, ∀ o, s7.heap.get? b = some o → s'.heap.get? b = some o ∧ H' b = none := fun b hb o e =>
          let z := I'.pin (b, o) (List.mem_append_right _ (List.mem_append_right _ (mem_pinsAt hb e)))
          ⟨z.1, z.2.1⟩
        have hl : (wipe σ (own.map (·.2))).length = σ8.length := by rw [← hw8, wipe_length]
        refine ⟨m', hm, i + 1, H', (I'.unpinned (pins := [])).weak hl (fun j v e => ?_), T.keep _ _ _ st7 fun b hb o e => (pin' b hb o e).1, fun b hb => ?_, w'⟩
        · rw [← hw8] at e
          exact (wipe_some e).1
        · obtain ⟨o, e, _⟩ := T.obj _ _ st7 b hb
          exact (pin' b hb o e).2
      cases b with
      | false =>
        simp only [Bool.false_eq_true, if_false] at q9 ⊢
        exact fin I9 q9
      | true =>
        simp only [if_true] at q9 ⊢
        refine thnF (pe _ s9 σ8 H9 _ I9 q9) fun z s10 ⟨yv, H10, I10, r10, acc, hD10, hz10, nx⟩ => ?_
        exact app_ok (X := X.blk s3 H3 scope ce fp) I10 hD10 hz10 r10 fun s11 I11 => fin I11 nx
  exact codeAny_compStart_list loop (T.self X.A 0 _ _ _ st4 loop)
theorem pe_lc {elt tg iter : Expr} {ifs : List Expr} {scope : Scope} {own : List (Str × Nat)} {pos : Pos} {wi : TI} {g : TG} {tt : TT} {te : TE} (hc : X.calm = true) (hN : X.N.Nodup) (hi : PI X tg iter wi) (ok : BlkOk X.N X.env.scope scope own)
    (hg : ∀ (s : Shared) (H : Hp) (C : Addr) (cl : List (Str × Addr)) (fp : List Addr), PG (X.blk s H scope (compEnvC scope cl C X.env) fp) tg g) (ht : ∀ (s : Shared) (H : Hp) (C : Addr) (cl : List (Str × Addr)) (fp : List Addr), PTs (X.blk s H scope (compEnvC scope cl C X.env) fp) ifs tt)
    (he : ∀ (s : Shared) (H : Hp) (C : Addr) (cl : List (Str × Addr)) (fp : List Addr), PE (X.blk s H scope (compEnvC scope cl C X.env) fp) elt te) (hs : ∀ x, foldedSetIterable iter X.env x = pure x := by intro _; rfl) :
    PE X (.ListComp elt [⟨tg, iter, ifs, 0⟩] scope pos) (tLc wi g tt te (own.map (·.2))) := by
  intro pins s σ H Q I h
  rw [eval_ListComp]
  refine lc_core hc hN I hi ok hg ht he hs h fun D C s' m H' I' q hn f => ⟨m, hn, fun h'' sb => ?_⟩
  obtain ⟨f0, f1, f2, f3, f4, f5⟩ := f
  exact ⟨.ref D, H', I'.turned (t' := s'.toks) (fun b o hb e => (sb.2 b hb).trans e) f0 f1 f3 f4 f5, rfl, q⟩
theorem ps_setLc {i : Nat} {y : Str} {py : Pos} {elt tg iter : Expr} {ifs : List Expr} {scope : Scope} {own : List (Str × Nat)} {pos spos : Pos} {wi : TI} {g : TG} {tt : TT} {te : TE} (hc : X.calm = true) (hN : X.N.Nodup) (hy : X.N[i]? = some y) (hyl : X.env.scope.names.lookup y = some .local)
    (hsw : swapsWith (.ListComp elt [⟨tg, iter, ifs, 0⟩] scope pos) (some (.Name y py)) spos.line X.env = pure true) (hi : PI X tg iter wi) (ok : BlkOk X.N X.env.scope scope own)
    (hg : ∀ (s : Shared) (H : Hp) (C : Addr) (cl : List (Str × Addr)) (fp : List Addr), PG (X.blk s H scope (compEnvC scope cl C X.env) fp) tg g) (ht : ∀ (s : Shared) (H : Hp) (C : Addr) (cl : List (Str × Addr)) (fp : List Addr), PTs (X.blk s H scope (compEnvC scope cl C X.env) fp) ifs tt)
    (he : ∀ (s : Shared) (H : Hp) (C : Addr) (cl : List (Str × Addr)) (fp : List Addr), PE (X.blk s H scope (compEnvC scope cl C X.env) fp) elt te) (hs : ∀ x, foldedSetIterable iter X.env x = pure x := by intro _; rfl) :
    PS X (.Assign [.Name y py] (.ListComp elt [⟨tg, iter, ifs, 0⟩] scope pos) spos) (tAsg (tLc wi g tt te (own.map (·.2))) (gName i)) := by
  intro pins s σ H D I h
  rw [exec_Assign_Name_used _ _ _ _ hsw]
  refine wpAny_bind (wpAny_standAt (wpAny_bind ?_))
  show wpAny _ X.A (do let _ ← comprehension (.ListComp elt [⟨tg, iter, ifs, 0⟩] scope pos) scope X.env (firstIterPos [⟨tg, iter, ifs, 0⟩] pos) (newList []) false (eval iter X.env) (some (assign (.Name y py) X.env))) _ _ s
  have h : tLc wi g tt te (own.map (·.2)) σ H (fun x H1 => gName i x σ H1 D.nx) := h
  refine wpAny_bind (thn (lc_core (Qf := fun _ s' => SP X pins D .next s') hc hN I hi ok hg ht he hs h fun L C s' m H' I' q hn f => ?_) fun _ s' hq => wpAny_pure (wpAny_pure hq))
  show wpAny _ _ (assign (.Name y py) X.env (.ref L)) _ _ _
  refine wpAny_assign_Name (store_ok2 (v := V.ref L) I' hN hy (.inl hyl) rfl (fun s2 I2 ⟨a, sb, ha⟩ => ?_) (.inr hyl))
  obtain ⟨f0, f1, f2, f3, f4, f5⟩ := f
  have haC : C ≠ a := by
    rcases ha with z | z
    · rw [z]; exact f1
    · exact fun e => f4 y a z e.symm
  refine ⟨m, hn.sameBut sb haC, fun h3 sb3 => ?_⟩
  exact ⟨_, H', I2.turned (t' := s2.toks) (fun b o hb e => (sb3.2 b hb).trans e) f0 f1 f3 f4 f5, q⟩
theorem sw_true {elt : Expr} {gs : List Comprehension} {scope : Scope} {pos py : Pos} {y : Str} {l : Nat} {env : Env} (hk : env.scope.kind = .function) (hy : env.scope.names.lookup y = some .local) (hl : (py.line == pos.line) = true)
    (ha : (scope.names.any fun (n, k) => n == y && (k == .local || k == .cell)) = false) : swapsWith (.ListComp elt gs scope pos) (some (.Name y py)) l env = pure true := by
  have ky : env.kindOf y = some .local := hy
  have hb : env.blockKind = .function := by unfold Env.blockKind; rw [hk]; rfl
  unfold swapsWith
  simp only [hb, ky, ha, Expr.pos, hl]
  rfl
end
theorem lc_range {lo : Int} {n : Nat} {g : TG} {tt : TT} {te : TE} {vs : List Nat} {σ : St} {H1 : Hp} {D : Addr} {Qd : Hp → Prop} (Pv : Nat → Hp → Prop) (h0 : Pv 0 (upd H1 D (.lst [])))
    (hs : ∀ i H, i < n → Pv i H → g (.int (lo + i)) (wipe σ vs) H fun σ2 H2 => wipe σ2 vs = wipe σ vs ∧ tt σ2 H2 fun b H3 =>
      if b = true then te σ2 H3 fun y H4 => ∃ acc, H4 D = some (.lst acc) ∧ acc.length < sizeLine ∧ Pv (i + 1) (upd H4 D (.lst (acc ++ [y]))) else Pv (i + 1) H3) (hd : ∀ H, Pv n H → Qd H) :
    ∃ W : Nat → Nat → Hp → Prop, (∃ m, W 0 m (upd H1 D (.lst []))) ∧ ∀ i m H, W i m H →
      ((Itr lo n).stop i H ∧ Qd H) ∨ ((Itr lo n).go i H ∧ ∃ Nx : Hp → Prop, (∀ H', Nx H' → ∃ m', m' < m ∧ W (i + 1) m' H') ∧ ∀ x H', (Itr lo n).yld i H x H' → g x (wipe σ vs) H' fun σ2 H2 => wipe σ2 vs = wipe σ vs ∧ tt σ2 H2 fun b H3 =>
        if b = true then te σ2 H3 fun y H4 => ∃ acc, H4 D = some (.lst acc) ∧ acc.length < sizeLine ∧ Nx (upd H4 D (.lst (acc ++ [y]))) else Nx H3) := by
  refine ⟨fun i m H => m = n - i ∧ i ≤ n ∧ Pv i H, ⟨n, by simp, Nat.zero_le _, h0⟩, ?_⟩
  rintro i m H ⟨rfl, hi, p⟩
  by_cases hlt : i < n
  · refine .inr ⟨hlt, Pv (i + 1), fun H' p' => ⟨n - (i + 1), by omega, rfl, hlt, p'⟩, fun x H' y => ?_⟩
    obtain ⟨e, y⟩ := y
    subst e y
    exact hs i _ hlt p
  · have e : i = n := by omega
    subst e
    exact .inl ⟨Nat.le_refl _, hd H p⟩
theorem lc_list {K : PySem.W.Frag} {a : Addr} {xs : List V} {g : TG} {tt : TT} {te : TE} {vs : List Nat} {σ : St} {H1 : Hp} {D : Addr} {Qd : Hp → Prop} (Pv : Nat → Hp → Prop) (h0 : Pv 0 (upd H1 D (.lst []))) (hl : ∀ i H, i ≤ xs.length → Pv i H → SqL K H a xs)
    (hs : ∀ i x H, xs[i]? = some x → Pv i H → g x (wipe σ vs) H fun σ2 H2 => wipe σ2 vs = wipe σ vs ∧ tt σ2 H2 fun b H3 =>
      if b = true then te σ2 H3 fun y H4 => ∃ acc, H4 D = some (.lst acc) ∧ acc.length < sizeLine ∧ Pv (i + 1) (upd H4 D (.lst (acc ++ [y]))) else Pv (i + 1) H3) (hd : ∀ H, Pv xs.length H → Qd H) :
    ∃ W : Nat → Nat → Hp → Prop, (∃ m, W 0 m (upd H1 D (.lst []))) ∧ ∀ i m H, W i m H →
      ((Itl K a).stop i H ∧ Qd H) ∨ ((Itl K a).go i H ∧ ∃ Nx : Hp → Prop, (∀ H', Nx H' → ∃ m', m' < m ∧ W (i + 1) m' H') ∧ ∀ x H', (Itl K a).yld i H x H' → g x (wipe σ vs) H' fun σ2 H2 => wipe σ2 vs = wipe σ vs ∧ tt σ2 H2 fun b H3 =>
        if b = true then te σ2 H3 fun y H4 => ∃ acc, H4 D = some (.lst acc) ∧ acc.length < sizeLine ∧ Nx (upd H4 D (.lst (acc ++ [y]))) else Nx H3) := by
  refine ⟨fun i m H => m = xs.length - i ∧ i ≤ xs.length ∧ Pv i H, ⟨xs.length, by simp, Nat.zero_le _, h0⟩, ?_⟩
  rintro i m H ⟨rfl, hi, p⟩
  have q := hl i H hi p
  by_cases hlt : i < xs.length
  · refine .inr ⟨⟨xs, xs[i], q, by simp [hlt]⟩, Pv (i + 1), fun H' p' => ⟨xs.length - (i + 1), by omega, rfl, hlt, p'⟩, fun x H' y => ?_⟩
    obtain ⟨e, y⟩ := y
    subst e
    exact hs i x _ (y xs q) p
  · have e : i = xs.length := by omega
    subst e
    exact .inl ⟨⟨xs, q, Nat.le_refl _⟩, hd H p⟩
theorem lc_tup {K : PySem.W.Frag} {a : Addr} {xs : List V} {g : TG} {tt : TT} {te : TE} {vs : List Nat} {σ : St} {H1 : Hp} {D : Addr} {Qd : Hp → Prop} (Pv : Nat → Hp → Prop) (h0 : Pv 0 (upd H1 D (.lst []))) (hl : ∀ i H, i ≤ xs.length → Pv i H → SqT K H a xs)
    (hs : ∀ i x H, xs[i]? = some x → Pv i H → g x (wipe σ vs) H fun σ2 H2 => wipe σ2 vs = wipe σ vs ∧ tt σ2 H2 fun b H3 =>
      if b = true then te σ2 H3 fun y H4 => ∃ acc, H4 D = some (.lst acc) ∧ acc.length < sizeLine ∧ Pv (i + 1) (upd H4 D (.lst (acc ++ [y]))) else Pv (i + 1) H3) (hd : ∀ H, Pv xs.length H → Qd H) :
    ∃ W : Nat → Nat → Hp → Prop, (∃ m, W 0 m (upd H1 D (.lst []))) ∧ ∀ i m H, W i m H →
      ((Itt K a).stop i H ∧ Qd H) ∨ ((Itt K a).go i H ∧ ∃ Nx : Hp → Prop, (∀ H', Nx H' → ∃ m', m' < m ∧ W (i + 1) m' H') ∧ ∀ x H', (Itt K a).yld i H x H' → g x (wipe σ vs) H' fun σ2 H2 => wipe σ2 vs = wipe σ vs ∧ tt σ2 H2 fun b H3 =>
        if b = true then te σ2 H3 fun y H4 => ∃ acc, H4 D = some (.lst acc) ∧ acc.length < sizeLine ∧ Nx (upd H4 D (.lst (acc ++ [y]))) else Nx H3) := by
  refine ⟨fun i m H => m = xs.length - i ∧ i ≤ xs.length ∧ Pv i H, ⟨xs.length, by simp, Nat.zero_le _, h0⟩, ?_⟩
  rintro i m H ⟨rfl, hi, p⟩
  have q := hl i H hi p
  by_cases hlt : i < xs.length
  · refine .inr ⟨⟨xs, xs[i], q, by simp [hlt]⟩, Pv (i + 1), fun H' p' => ⟨xs.length - (i + 1), by omega, rfl, hlt, p'⟩, fun x H' y => ?_⟩
    obtain ⟨e, y⟩ := y
    subst e
    exact hs i x _ (y xs q) p
  · have e : i = xs.length := by omega
    subst e
    exact .inl ⟨⟨xs, q, Nat.le_refl _⟩, hd H p⟩
def blkC (N : List Str) (sc scope : Scope) (own : List (Str × Nat)) : Bool :=
  (match scope.kind with | .function => true | _ => false) && (scope.names.all fun y => decide (scope.names.lookup y.1 = some y.2)) && (own.all fun p => decide (N[p.2]? = some p.1)) &&
    (scope.names.all fun y => match y.2 with
      | .free => (match sc.names.lookup y.1 with | some .cell => true | some .free => true | _ => false)
      | .local => decide (y.1 ∈ own.map (·.1)) || decide (y.1 ∉ N)
      | .cell => decide (y.1 ∈ own.map (·.1)) || decide (y.1 ∉ N)
      | _ => true)
theorem blkOk_by {N : List Str} {sc scope : Scope} {own : List (Str × Nat)} (h : blkC N sc scope own = true) : BlkOk N sc scope own := by
  unfold blkC at h
  simp only [Bool.and_eq_true, List.all_eq_true, decide_eq_true_eq] at h
  obtain ⟨⟨⟨h1, h2⟩, h3⟩, h4⟩ := h
  refine ⟨?_, h2, h3, fun y hy e => ?_, fun y hy e => ?_⟩
  · split at h1
    · assumption
    · cases h1
  · have q := h4 y hy
    simp only [e] at q
    split at q <;> first | exact .inl (by assumption) | exact .inr (by assumption) | cases q
  · have q := h4 y hy
    rcases e with e | e <;> (simp only [e, Bool.or_eq_true, decide_eq_true_eq] at q; exact q)
end L2
namespace L2
open PySem PySem.Spec PyProof.Rows
section
variable {prog : Program} {w : World} {A : Around} {R : Result → Shared → Prop} {s : Shared} {elt t0 i0 t1 i1 : Expr} {ifs0 ifs1 : List Expr} {scope : Scope} {pos : Pos} {it acc : Value} {env : Env}
end
section
variable {X : Cx}
end
end L2
namespace L2
open PySem PySem.Spec PyProof.Rows
section
variable {κ : Type} [DecidableEq κ]
def valV (kvs : List (κ × V)) (k : κ) : Option V := (kvs.find? fun kv => decide (kv.1 = k)).map (·.2)
def putK (kvs : List (κ × V)) (k : κ) (v : V) : List (κ × V) :=
  if (kvs.any fun kv => decide (kv.1 = k)) = true then kvs.map (fun kv => if kv.1 = k then (kv.1, v) else kv) else kvs ++ [(k, v)]
def dropK (kvs : List (κ × V)) (k : κ) : List (κ × V) := kvs.filter fun kv => decide (kv.1 ≠ k)
theorem valV_nil {k : κ} : valV ([] : List (κ × V)) k = none := rfl
theorem valV_pos {p : κ × V} {r : List (κ × V)} {k : κ} (e : p.1 = k) : valV (p :: r) k = some p.2 := by simp [valV, List.find?_cons, e]
theorem valV_neg {p : κ × V} {r : List (κ × V)} {k : κ} (e : ¬ p.1 = k) : valV (p :: r) k = valV r k := by simp [valV, List.find?_cons, e]
theorem valV_any (k : κ) : ∀ kvs : List (κ × V), (kvs.any fun kv => decide (kv.1 = k)) = (valV kvs k).isSome
  | [] => rfl
  | p :: r => by
    rw [List.any_cons]
    by_cases e : p.1 = k
    · simp only [valV_pos e, decide_eq_true e, Bool.true_or, Option.isSome_some]
    · rw [valV_neg e, decide_eq_false e, Bool.false_or]; exact valV_any k r
theorem valV_map (k j : κ) (y : V) : ∀ kvs : List (κ × V), valV (kvs.map fun kv => if kv.1 = k then (kv.1, y) else kv) j = (valV kvs j).map fun x => if j = k then y else x
  | [] => rfl
  | p :: r => by
    have ih := valV_map k j y r
    rw [List.map_cons]
    by_cases h : p.1 = k
    · rw [if_pos h]
      by_cases e : p.1 = j
      · rw [valV_pos (p := (p.1, y)) e, valV_pos e, Option.map_some, if_pos (e.symm.trans h)]
      · rw [valV_neg (p := (p.1, y)) e, valV_neg e, ih]
    · rw [if_neg h]
      by_cases e : p.1 = j
      · rw [valV_pos (p := p) e, valV_pos e, Option.map_some, if_neg (fun z => h (e.trans z))]
      · rw [valV_neg (p := p) e, valV_neg e, ih]
theorem valV_snoc (k j : κ) (y : V) : ∀ kvs : List (κ × V), valV kvs k = none → valV (kvs ++ [(k, y)]) j = if j = k then some y else valV kvs j
  | [], _ => by
    by_cases e : k = j
    · rw [if_pos e.symm]; exact valV_pos (p := (k, y)) e
    · rw [if_neg (fun z => e z.symm)]; exact valV_neg (p := (k, y)) e
  | p :: r, hn => by
    rw [List.cons_append]
    have hk : ¬ p.1 = k := fun z => by rw [valV_pos z] at hn; cases hn
    rw [valV_neg hk] at hn
    have ih := valV_snoc k j y r hn
    by_cases e : p.1 = j
    · rw [valV_pos e, valV_pos e, if_neg (fun z => hk (e.trans z))]
    · rw [valV_neg e, valV_neg e, ih]
theorem valV_put (kvs : List (κ × V)) (k j : κ) (y : V) : valV (putK kvs k y) j = if j = k then some y else valV kvs j := by
  unfold putK
  by_cases a : (kvs.any fun kv => decide (kv.1 = k)) = true
  · rw [if_pos a, valV_map]
    rw [valV_any] at a
    by_cases e : j = k
    · obtain ⟨x, hx⟩ := Option.isSome_iff_exists.mp a
      rw [if_pos e, e, hx, Option.map_some, if_pos rfl]
    · rw [if_neg e]
      cases valV kvs j with
      | none => rfl
      | some x => rw [Option.map_some, if_neg e]
  · rw [if_neg a]
    refine valV_snoc k j y kvs ?_
    rw [valV_any] at a
    cases q : valV kvs k with
    | none => rfl
    | some x => rw [q] at a; exact (a rfl).elim
theorem length_putK (kvs : List (κ × V)) (k : κ) (v : V) : (putK kvs k v).length ≤ kvs.length + 1 := by
  unfold putK
  split
  · rw [List.length_map]; omega
  · rw [List.length_append, List.length_cons, List.length_nil]; omega
theorem putK_new {kvs : List (κ × V)} {k : κ} (v : V) (h : valV kvs k = none) : putK kvs k v = kvs ++ [(k, v)] := by
  unfold putK
  rw [valV_any, h]
  exact if_neg (by decide)
theorem RelO.isSome_eq {o : Option V} {u : Option Value} (r : RelO o u) : o.isSome = u.isSome := by
  cases o with
  | none => cases u with
    | none => rfl
    | some _ => exact (show False from r).elim
  | some _ => cases u with
    | none => exact (show False from r).elim
    | some _ => rfl
theorem RelO.getD {o : Option V} {u : Option Value} {d : V} {d' : Value} (r : RelO o u) (rd : RelV d d') : RelV (o.getD d) (u.getD d') := by
  cases o with
  | none => cases u with
    | none => exact rd
    | some _ => exact (show False from r).elim
  | some _ => cases u with
    | none => exact (show False from r).elim
    | some _ => exact r
theorem KV.val {kvs : List (κ × V)} {vs : List (κ × Value)} (r : KV kvs vs) (k : κ) : RelO (valV kvs k) (valueAt vs k) := by
  unfold KV at r
  induction r with
  | nil => exact True.intro
  | @cons p q ps qs h t ih =>
    obtain ⟨h1, h2⟩ := h
    by_cases e : p.1 = k
    · have e' : q.1 = k := h1.symm.trans e
      have b : valueAt (q :: qs) k = some q.2 := by simp [valueAt, List.find?_cons, e']
      rw [valV_pos e, b]; exact h2
    · have e' : ¬ q.1 = k := fun z => e (h1.trans z)
      have b : valueAt (q :: qs) k = valueAt qs k := by simp [valueAt, List.find?_cons, e']
      rw [valV_neg e, b]; exact ih
theorem KV.any {kvs : List (κ × V)} {vs : List (κ × Value)} (r : KV kvs vs) (k : κ) : (kvs.any fun kv => decide (kv.1 = k)) = vs.any fun kv => decide (kv.1 = k) := by
  unfold KV at r
  induction r with
  | nil => rfl
  | cons h t ih => rw [List.any_cons, List.any_cons, ih, h.1]
theorem KV.repl {kvs : List (κ × V)} {vs : List (κ × Value)} (r : KV kvs vs) (k : κ) {y : V} {u : Value} (ry : RelV y u) :
    KV (kvs.map fun kv => if kv.1 = k then (kv.1, y) else kv) (vs.map fun kv => if kv.1 = k then (kv.1, u) else kv) := by
  unfold KV at r ⊢
  induction r with
  | nil => exact .nil
  | @cons p q ps qs h t ih =>
    rw [List.map_cons, List.map_cons]
    refine .cons ?_ ih
    obtain ⟨h1, h2⟩ := h
    by_cases e : p.1 = k
    · rw [if_pos e, if_pos (h1.symm.trans e)]; exact ⟨h1, ry⟩
    · rw [if_neg e, if_neg (fun z => e (h1.trans z))]; exact ⟨h1, h2⟩
theorem KV.put {kvs : List (κ × V)} {vs : List (κ × Value)} (r : KV kvs vs) (k : κ) {y : V} {u : Value} (ry : RelV y u) : KV (putK kvs k y) (stored vs k u) := by
  unfold putK stored
  rw [r.any k]
  by_cases e : (vs.any fun kv => decide (kv.1 = k)) = true
  · rw [if_pos e, if_pos e]; exact r.repl k ry
  · rw [if_neg e, if_neg e]; exact Paired.snoc r ⟨rfl, ry⟩
theorem KV.drop {kvs : List (κ × V)} {vs : List (κ × Value)} (r : KV kvs vs) (k : κ) : KV (dropK kvs k) (without vs k) := by
  unfold KV at r ⊢
  unfold dropK without
  induction r with
  | nil => exact .nil
  | @cons p q ps qs h t ih =>
    obtain ⟨h1, h2⟩ := h
    rw [List.filter_cons, List.filter_cons]
    by_cases e : p.1 = k
    · have a : ¬ decide (p.1 ≠ k) = true := by simp [e]
      have b : ¬ decide (q.1 ≠ k) = true := by simp [h1.symm.trans e]
      rw [if_neg a, if_neg b]; exact ih
    · have e' : ¬ q.1 = k := fun z => e (h1.trans z)
      have a : decide (p.1 ≠ k) = true := by simp [e]
      have b : decide (q.1 ≠ k) = true := by simp [e']
      rw [if_pos a, if_pos b]; exact .cons ⟨h1, h2⟩ ih
theorem KV.length {kvs : List (κ × V)} {vs : List (κ × Value)} (r : KV kvs vs) : kvs.length = vs.length := Paired.length r
theorem dropK_le (kvs : List (κ × V)) (k : κ) : (dropK kvs k).length ≤ kvs.length := List.length_filter_le _ _
end
theorem kV_is {P : Program} {w : World} {k : Key} {u : Value} (r : RelV (kV k) u) : (mixKind P w).is k u = true := by
  cases k with
  | inl i => obtain ⟨t, e⟩ := (show ∃ t, u = Value.int i t from r); subst e; exact mixKind_int P w i t
  | inr x => obtain ⟨t, e⟩ := (show ∃ t, u = Value.str x t from r); subst e; exact mixKind_str P w x t
theorem items_are {P : Program} {w : World} : ∀ {ks : List Key} {us : List Value}, Vals (ks.map kV) us → ItemsAre (mixKind P w) ks us
  | [], _, r => by rw [List.map_nil] at r; cases r; exact .nil
  | k :: ks, _, r => by
    rw [List.map_cons] at r
    cases r with
    | cons h t => exact .cons (kV_is h) (items_are t)
abbrev KT (H : Hp) : List (List Key × V) → List (List Key × Addr × Value) → Prop := Paired fun p q => p.1 = q.1 ∧ H q.2.1 = some (.tup (p.1.map kV)) ∧ RelV p.2 q.2.2
theorem KT.val {H : Hp} {kvs : List (List Key × V)} {xs : List (List Key × Addr × Value)} (r : KT H kvs xs) (k : List Key) : RelO (valV kvs k) ((atKey xs k).map (·.2)) := by
  induction r with
  | nil => exact True.intro
  | @cons p q ps qs h t ih =>
    obtain ⟨h1, _, h2⟩ := h
    by_cases e : p.1 = k
    · have e' : q.1 = k := h1.symm.trans e
      have b : atKey (q :: qs) k = some q.2 := by simp [atKey, List.find?_cons, e']
      rw [valV_pos e, b]; exact h2
    · have e' : ¬ q.1 = k := fun z => e (h1.trans z)
      have b : atKey (q :: qs) k = atKey qs k := by simp [atKey, List.find?_cons, e']
      rw [valV_neg e, b]; exact ih
theorem KT.repl {H : Hp} {kvs : List (List Key × V)} {xs : List (List Key × Addr × Value)} (r : KT H kvs xs) (k : List Key) {y : V} {u : Value} (ry : RelV y u) :
    KT H (kvs.map fun kv => if kv.1 = k then (kv.1, y) else kv) (xs.map (putAt k u)) := by
  induction r with
  | nil => exact .nil
  | @cons p q ps qs h t ih =>
    rw [List.map_cons, List.map_cons]
    refine .cons ?_ ih
    obtain ⟨h1, h2, h3⟩ := h
    unfold putAt
    by_cases e : p.1 = k
    · rw [if_pos e, if_pos (h1.symm.trans e)]; exact ⟨h1, h2, ry⟩
    · rw [if_neg e, if_neg (fun z => e (h1.trans z))]; exact ⟨h1, h2, h3⟩
theorem KT.put {H : Hp} {kvs : List (List Key × V)} {xs : List (List Key × Addr × Value)} (r : KT H kvs xs) (k : List Key) {b : Addr} {y : V} {u : Value} (hb : H b = some (.tup (k.map kV))) (ry : RelV y u) :
    KT H (putK kvs k y) (storedH xs k b u) := by
  have e : (kvs.any fun kv => decide (kv.1 = k)) = (atKey xs k).isSome := by
    rw [valV_any, (r.val k).isSome_eq, Option.isSome_map]
  unfold putK storedH
  rw [e]
  by_cases q : (atKey xs k).isSome = true
  · rw [if_pos q, if_pos q]; exact r.repl k ry
  · rw [if_neg q, if_neg q]; exact Paired.snoc r ⟨rfl, hb, ry⟩
theorem KT.keeps {H H' : Hp} {kvs : List (List Key × V)} {xs : List (List Key × Addr × Value)} (r : KT H kvs xs) (ht : ∀ b ys, H b = some (.tup ys) → H' b = some (.tup ys)) : KT H' kvs xs :=
  Paired.mapP r fun _ _ z => ⟨z.1, ht _ _ z.2.1, z.2.2⟩
section
variable {P : Program} {w : World} {H : Hp} {h : Heap} {a : Addr}
theorem rd_of {u : HO} (ok : HOk P w H h) (e : Rd H a u) : ObjOk P w H h a u := e.ok ok
theorem dk_rd {kvs : List (Key × V)} (ok : HOk P w H h) (e : Rd H a (.dK kvs)) : kvs.length ≤ sizeLine ∧ (a == sysModules) = false ∧ ∃ vs, KV kvs vs ∧ h.DictOf (mixKind P w) a vs :=
  show ObjOk P w H h a (.dK kvs) from rd_of ok e
theorem dk_of {kvs : List (Key × V)} (ok : HOk P w H h) (e : H a = some (.dK kvs)) : kvs.length ≤ sizeLine ∧ (a == sysModules) = false ∧ ∃ vs, KV kvs vs ∧ h.DictOf (mixKind P w) a vs := dk_rd ok (.inl e)
theorem key_of {ks : List Key} (ok : HOk P w H h) (e : H a = some (.tup (ks.map kV))) : (tupleKind (mixKind P w)).is h ks a := by
  obtain ⟨_, its, r, o, h1, h2, n, h3⟩ := (show ObjOk P w H h a (.tup (ks.map kV)) from ok a _ e)
  exact ⟨o, its.toArray, n, h1, h2, h3, by simpa using items_are r⟩
theorem dt_rd {kvs : List (List Key × V)} (ok : HOk P w H h) (e : Rd H a (.dT kvs)) : kvs.length ≤ sizeLine ∧ (a == sysModules) = false ∧
    ∃ xs, KT H kvs xs ∧ h.DictOfH (tupleKind (mixKind P w)) a xs := by
  obtain ⟨z, y, xs, r, o, es, ep, h1, h2, h3, h4, h5⟩ := (show ObjOk P w H h a (.dT kvs) from rd_of ok e)
  refine ⟨z, y, xs, r, o, es, ep, h1, h2, h3, h4, fun x hx => ?_, h5⟩
  have all : ∀ {l : List (List Key × V)} {m : List (List Key × Addr × Value)}, KT H l m → ∀ x ∈ m, (tupleKind (mixKind P w)).is h x.1 x.2.1 := by
    intro l m q
    induction q with
    | nil => intro x hx; exact nomatch hx
    | @cons p q ps qs hq t ih =>
      intro x hx
      rcases List.mem_cons.mp hx with e | hx
      · subst e
        exact key_of ok (by rw [← hq.1]; exact hq.2.1)
      · exact ih x hx
  exact all r x hx
theorem dt_of {kvs : List (List Key × V)} (ok : HOk P w H h) (e : H a = some (.dT kvs)) : kvs.length ≤ sizeLine ∧ (a == sysModules) = false ∧
    ∃ xs, KT H kvs xs ∧ h.DictOfH (tupleKind (mixKind P w)) a xs := dt_rd ok (.inl e)
end
def DGet (H : Hp) (a : Addr) (y : V) (r : Option V) : Prop :=
  (∃ kvs k, Rd H a (.dK kvs) ∧ y = kV k ∧ r = valV kvs k) ∨ ∃ kvs k b, Rd H a (.dT kvs) ∧ y = .ref b ∧ H b = some (.tup (k.map kV)) ∧ r = valV kvs k
def DPut (H : Hp) (a : Addr) (y v : V) (H' : Hp) : Prop :=
  (∃ kvs k, H a = some (.dK kvs) ∧ y = kV k ∧ kvs.length < sizeLine ∧ H' = upd H a (.dK (putK kvs k v))) ∨
  ∃ kvs k b, H a = some (.dT kvs) ∧ y = .ref b ∧ H b = some (.tup (k.map kV)) ∧ kvs.length < sizeLine ∧ H' = upd H a (.dT (putK kvs k v))
theorem DGet.k {H : Hp} {a : Addr} {kvs : List (Key × V)} {k : Key} (e : H a = some (.dK kvs)) : DGet H a (kV k) (valV kvs k) := .inl ⟨kvs, k, .inl e, rfl, rfl⟩
theorem DGet.t {H : Hp} {a b : Addr} {kvs : List (List Key × V)} {k : List Key} (e : H a = some (.dT kvs)) (eb : H b = some (.tup (k.map kV))) : DGet H a (.ref b) (valV kvs k) := .inr ⟨kvs, k, b, .inl e, rfl, eb, rfl⟩
theorem DPut.k {H : Hp} {a : Addr} {kvs : List (Key × V)} {k : Key} {v : V} (e : H a = some (.dK kvs)) (hl : kvs.length < sizeLine) : DPut H a (kV k) v (upd H a (.dK (putK kvs k v))) := .inl ⟨kvs, k, e, rfl, hl, rfl⟩
theorem DPut.t {H : Hp} {a b : Addr} {kvs : List (List Key × V)} {k : List Key} {v : V} (e : H a = some (.dT kvs)) (eb : H b = some (.tup (k.map kV))) (hl : kvs.length < sizeLine) :
    DPut H a (.ref b) v (upd H a (.dT (putK kvs k v))) := .inr ⟨kvs, k, b, e, rfl, eb, hl, rfl⟩
section
variable {X : Cx} {pins : List (Addr × Obj)} {σ : St} {H : Hp} {s : Shared} {a : Addr} {y v : V} {u r : Value} {o : Option V} {A : Around} {E : Value → Shared → Prop}
theorem Inv.big (I : Inv X pins σ H s) : sysModules < s.heap.objs.size := by
  have h : mainGlobals < s.heap.objs.size := (I.mod.glob.keeps I.bk).lt
  exact Nat.lt_trans (by decide) h
theorem d_getItem {Q : Value → Shared → Prop} (hu : A.units + 1 < cLine) (I : Inv X pins σ H s) (g : DGet H a y (some v)) (ry : RelV y u) (h : ∀ w' s', Inv X pins σ H s' → RelV v w' → Q w' s') :
    wpAny (model X.prog X.w) A (getItem (.ref a) u) Q E s := by
  rcases g with ⟨kvs, k, e, ey, l⟩ | ⟨kvs, k, b, e, ey, eb, l⟩
  · subst ey
    obtain ⟨z, hd, vs, rel, dd⟩ := dk_rd I.hok e
    obtain ⟨w', hw, rw'⟩ := RelO.some_of (v := v) (o := valueAt vs k) (by rw [l]; exact rel.val k)
    exact wpAny_getItem_of (kV_is ry) dd.mapOf hw (h w' _ (I.tok _) rw')
  · subst ey
    cases (show u = Value.ref b from ry)
    obtain ⟨z, hd, xs, rel, dd⟩ := dt_rd I.hok e
    obtain ⟨w', hw, rw'⟩ := RelO.some_of (v := v) (o := (atKey xs k).map (·.2)) (by rw [l]; exact rel.val k)
    obtain ⟨p, hp, hp2⟩ := Option.map_eq_some_iff.mp hw
    refine wpAny_getItem_heap (tupleKind_room_in1 hu) (key_of I.hok eb) dd hp ?_
    rw [hp2]
    exact h w' _ (I.tok _) rw'
theorem d_in {Q : Value → Shared → Prop} (hu : A.units + 1 < cLine) (I : Inv X pins σ H s) (g : DGet H a y o) (ry : RelV y u) (h : ∀ s', Inv X pins σ H s' → Q (.bool o.isSome) s') :
    wpAny (model X.prog X.w) A (compareOp .In u (.ref a)) Q E s := by
  rcases g with ⟨kvs, k, e, ey, l⟩ | ⟨kvs, k, b, e, ey, eb, l⟩
  · subst ey
    obtain ⟨z, hd, vs, rel, dd⟩ := dk_rd I.hok e
    refine wpAny_in_of (kV_is ry) hd dd.mapOf ?_
    rw [← (rel.val k).isSome_eq, ← l]
    exact h _ (I.tok _)
  · subst ey
    cases (show u = Value.ref b from ry)
    obtain ⟨z, hd, xs, rel, dd⟩ := dt_rd I.hok e
    refine wpAny_in_heap (tupleKind_room_in1 hu) (key_of I.hok eb) hd dd ?_
    have q := (rel.val k).isSome_eq
    rw [Option.isSome_map] at q
    rw [← q, ← l]
    exact h _ (I.tok _)
theorem d_notIn {Q : Value → Shared → Prop} (hu : A.units + 1 < cLine) (I : Inv X pins σ H s) (g : DGet H a y o) (ry : RelV y u) (h : ∀ s', Inv X pins σ H s' → Q (.bool (!o.isSome)) s') :
    wpAny (model X.prog X.w) A (compareOp .NotIn u (.ref a)) Q E s := by
  rcases g with ⟨kvs, k, e, ey, l⟩ | ⟨kvs, k, b, e, ey, eb, l⟩
  · subst ey
    obtain ⟨z, hd, vs, rel, dd⟩ := dk_rd I.hok e
    refine wpAny_notIn_of (kV_is ry) hd dd.mapOf ?_
    rw [← (rel.val k).isSome_eq, ← l]
    exact h _ (I.tok _)
  · subst ey
    cases (show u = Value.ref b from ry)
    obtain ⟨z, hd, xs, rel, dd⟩ := dt_rd I.hok e
    refine wpAny_notIn_heap (tupleKind_room_in1 hu) (key_of I.hok eb) hd dd ?_
    have q := (rel.val k).isSome_eq
    rw [Option.isSome_map] at q
    rw [← q, ← l]
    exact h _ (I.tok _)
theorem d_write {h' : Heap} {t' : Nat} {ob : HO} (I : Inv X pins σ H s) (mu : Mut (H a)) (hs : Heap.SameBut a s.heap h') (he : ∃ q, h'.get? a = some q) (new : ObjOk X.prog X.w (upd H a ob) h' a ob) :
    Inv X pins σ (upd H a ob) { s with heap := h', toks := t' } :=
  I.write (x := a) (e := a) mu (.inl rfl) (fun b q hb z => (hs.2 b hb).trans z) he new
theorem dk_new {P : Program} {w : World} {H' : Hp} {h' : Heap} {kvs : List (Key × V)} {vs : List (Key × Value)} (z : kvs.length ≤ sizeLine) (hd : (a == sysModules) = false) (rel : KV kvs vs) (dd : h'.DictOf (mixKind P w) a vs) :
    ObjOk P w H' h' a (.dK kvs) := ⟨z, hd, vs, rel, dd⟩
theorem d_setItem {H' : Hp} {Q : Unit → Shared → Prop} (hu : A.units + 1 < cLine) (I : Inv X pins σ H s) (g : DPut H a y v H') (ry : RelV y u) (rv : RelV v r) (h : ∀ s', Inv X pins σ H' s' → Q () s') :
    wpAny (model X.prog X.w) A (setItem (.ref a) u r) Q E s := by
  rcases g with ⟨kvs, k, e, ey, l, eH⟩ | ⟨kvs, k, b, e, ey, eb, l, eH⟩
  · subst ey eH
    obtain ⟨z, hd, vs, rel, dd⟩ := dk_of I.hok e
    have hz : vs.length ≤ sizeLine := by rw [← rel.length]; exact z
    have hl : (putK kvs k v).length ≤ sizeLine := by have := length_putK kvs k v; omega
    refine wpAny_setItem_pairs (hsz := hz) (kV_is ry) dd fun h' dd' hs => h _ ?_
    have he : ∃ q, h'.get? a = some q := let ⟨q, _, _, hq, _⟩ := dd'; ⟨q, hq⟩
    exact d_write I (by rw [e]; exact True.intro) hs he (dk_new hl hd (rel.put k rv) dd')
  · subst ey eH
    cases (show u = Value.ref b from ry)
    obtain ⟨z, hd, xs, rel, dd⟩ := dt_of I.hok e
    have hz : xs.length ≤ sizeLine := by rw [← Paired.length rel]; exact z
    have hl : (putK kvs k v).length ≤ sizeLine := by have := length_putK kvs k v; omega
    refine wpAny_setItem_heap (hsz := hz) (tupleKind_room_in1 hu) (key_of I.hok eb) dd fun h' dd' hs => h _ ?_
    obtain ⟨q, es, ep, hq, h2, h3, h4, _, h5⟩ := dd'
    refine d_write I (by rw [e]; exact True.intro) hs ⟨q, hq⟩ ⟨hl, hd, _, (rel.put k eb rv).keeps fun c ys ec => ?_, q, es, ep, hq, h2, h3, h4, h5⟩
    rw [upd_ne (ne_of ec e (fun z => nomatch z))]
    exact ec
end
section
variable {X : Cx} {pins : List (Addr × Obj)} {σ : St} {H : Hp} {s : Shared} {a : Addr} {kvs : List (Key × V)} {k : Key} {u : Value} {A : Around} {E : Value → Shared → Prop}
end
def NoSl (i : Expr) : Prop := ∀ ov iv, subscripted i false ov iv = operate [ov, iv] (getItem ov iv)
theorem subD_of {prog : Program} {w : World} {A : Around} {E : Value → Shared → Prop} {s : Shared} {env : Env} {value slice : Expr} {pos : Pos} {T id : String} {Q : Value → Shared → Prop}
    (hl : typeLookup (.type T) "__getitem__" = pure (some (.builtin id))) (hs : NoSl slice)
    (h : wpAny (model prog w) A (eval value env) (fun o s₁ => wpAny (model prog w) A (eval slice env) (fun i s₂ => s₂.TypeIs o T ∧ wpAny (model prog w) A (getItem o i) Q E s₂) E s₁) E s) :
    wpAny (model prog w) A (eval (.Subscript value slice pos) env) Q E s := by
  refine Subscript_ (wpAny_mono h (fun o s₁ h₁ => wpAny_mono h₁ (fun i s₂ h₂ => ?_) fun _ _ x => x) fun _ _ x => x)
  obtain ⟨hT, h₂⟩ := h₂
  unfold subscriptTail
  refine wpAny_bind ?_
  rw [getitemInPython_of_ne hT.not_modules]
  refine wpAny_bind (wpAny_specialOf hT hl ?_)
  have fin : wpAny (model prog w) A (subscripted slice false o i) (fun r s₃ => wpAny (model prog w) A (letTemporaryGo value o r >>= fun _ => pure r) Q E s₃) E s₂ := by
    rw [hs o i]
    exact wpAny_operating (wpAny_mono h₂ (fun r s₃ h₃ => wpAny_bind (wpAny_letTemporaryGo (wpAny_pure h₃))) fun _ _ x => x)
  first
    | exact wpAny_pure (wpAny_bind fin)
    | exact wpAny_bind (wpAny_pure (wpAny_bind fin))
    | exact wpAny_bind fin
theorem dict_typeIs {X : Cx} {pins : List (Addr × Obj)} {σ : St} {H : Hp} {s : Shared} {a : Addr} {y : V} {o : Option V} (I : Inv X pins σ H s) (g : DGet H a y o) : s.TypeIs (.ref a) "dict" := by
  rcases g with ⟨kvs, k, e, _, _⟩ | ⟨kvs, k, b, e, _, _, _⟩
  · obtain ⟨_, _, vs, _, dd⟩ := dk_rd I.hok e
    exact dd.typeIs
  · obtain ⟨_, _, xs, _, dd⟩ := dt_rd I.hok e
    exact dd.typeIs
def tDGet (td ty : TE) : TE := fun σ H Q => td σ H fun x H1 => ty σ H1 fun y H2 => ∃ a v, x = .ref a ∧ DGet H2 a y (some v) ∧ Q v H2
def tDIn (ty td : TE) : TE := fun σ H Q => ty σ H fun y H1 => td σ H1 fun x H2 => ∃ a o, x = .ref a ∧ DGet H2 a y o ∧ Q (.bl o.isSome) H2
def tDNotIn (ty td : TE) : TE := fun σ H Q => ty σ H fun y H1 => td σ H1 fun x H2 => ∃ a o, x = .ref a ∧ DGet H2 a y o ∧ Q (.bl (!o.isSome)) H2
def sDPut (td ty tv : TE) : TS := fun D σ H => tv σ H fun v H1 => td σ H1 fun x H2 => ty σ H2 fun y H3 => ∃ a H4, x = .ref a ∧ DPut H3 a y v H4 ∧ D.nx σ H4
section
variable {X : Cx} {o i e value : Expr} {pos pos' tpos : Pos} {td ty tv : TE}
theorem pe_dget (hu : X.A.units + 1 < cLine) (ho : PE X o td) (hi : PE X i ty) (hs : NoSl i) : PE X (.Subscript o i pos) (tDGet td ty) := by
  intro pins s σ H Q I h
  refine subD_of PySem.F.slot_dict_getitem.lookup hs (thn (ho pins s σ H _ I h) fun u s1 ⟨x, H1, I1, rx, q1⟩ => thn (hi pins s1 σ H1 _ I1 q1) fun iv s2 ⟨y, H2, I2, ry, a, v, ex, g, q2⟩ => ?_)
  subst ex
  obtain rfl : u = Value.ref a := rx
  exact ⟨dict_typeIs I2 g, d_getItem hu I2 g ry fun w' s3 I3 rw' => ⟨v, H2, I3, rw', q2⟩⟩
theorem pc_din (hu : X.A.units + 1 < cLine) (hi : PE X i ty) (ho : PE X o td) : PC X .In i o (tDIn ty td) := by
  intro pins s σ H Q I h
  refine thn (hi pins s σ H _ I h) fun iv s1 ⟨y, H1, I1, ry, q1⟩ => thn (ho pins s1 σ H1 _ I1 q1) fun u s2 ⟨x, H2, I2, rx, a, ov, ex, g, q2⟩ => ?_
  subst ex
  obtain rfl : u = Value.ref a := rx
  exact d_in hu I2 g ry fun s3 I3 => ⟨.bl ov.isSome, H2, I3, rfl, q2⟩
theorem pc_dnotin (hu : X.A.units + 1 < cLine) (hi : PE X i ty) (ho : PE X o td) : PC X .NotIn i o (tDNotIn ty td) := by
  intro pins s σ H Q I h
  refine thn (hi pins s σ H _ I h) fun iv s1 ⟨y, H1, I1, ry, q1⟩ => thn (ho pins s1 σ H1 _ I1 q1) fun u s2 ⟨x, H2, I2, rx, a, ov, ex, g, q2⟩ => ?_
  subst ex
  obtain rfl : u = Value.ref a := rx
  exact d_notIn hu I2 g ry fun s3 I3 => ⟨.bl (!ov.isSome), H2, I3, rfl, q2⟩
theorem ps_dput (hu : X.A.units + 1 < cLine) (ho : PE X o td) (hi : PE X i ty) (hv : PE X value tv) (hs : swapsWith value (some (.Subscript o i pos')) pos.line X.env = pure false) :
    PS X (.Assign [.Subscript o i pos'] value pos) (sDPut td ty tv) := by
  intro pins s σ H D I h
  refine wpAny_Assign_Subscript (thn (hv pins s σ H _ I h) fun r s1 ⟨v, H1, I1, rv, q1⟩ => thn (ho pins s1 σ H1 _ I1 q1) fun u s2 ⟨x, H2, I2, rx, q2⟩ => thn (hi pins s2 σ H2 _ I2 q2) fun iv s3 ⟨y, H3, I3, ry, a, H4, ex, g, q3⟩ => ?_) hs
  subst ex
  obtain rfl : u = Value.ref a := rx
  exact d_setItem hu I3 g ry rv fun s4 I4 => ⟨σ, H4, I4, q3⟩
end
theorem dt_empty {P : Program} {w : World} {H : Hp} (h : Heap) (hb : sysModules < h.objs.size) : ObjOk P w H (h.push { cls := .type "dict", data := .dict #[] }) h.objs.size (.dT []) :=
  ⟨Nat.zero_le _, beq_eq_false_iff_ne.mpr (Ne.symm (Nat.ne_of_lt hb)), [], .nil, _, #[], 0, Heap.get?_push_size _ rfl, ⟨rfl, rfl, rfl⟩, rfl, rfl, List.nodup_nil⟩
def tDNewT : TE := fun _ H Q => ∀ p, H p = none → Q (.ref p) (upd H p (.dT []))
section
variable {X : Cx} {pos : Pos}
theorem pe_dnewT : PE X (.Dict [] [] pos) tDNewT := fun pins s σ H Q I h =>
  wpAny_Dict_empty ⟨.ref s.heap.objs.size, _, I.laid (a := s.heap.objs.size) (o := .dT []) (t' := s.toks) (fun _ _ q => Heap.get?_push_of_some _ q) (Nat.le_refl _) (dt_empty s.heap I.big), rfl, h _ (I.hok.fresh (Nat.le_refl _))⟩
end
structure M1 (X : Cx) (o : Expr) (m : Str) (apos : Pos) (e : Expr) (cpos : Pos) : Prop where
  base : attributeBase o m X.env (eval o X.env) = eval o X.env
  few : ((backTo cpos (starEach [e] X.env)).all (fun x => !x.1) && (backToKw cpos (keywordEach [] X.env)).all (fun x => x.1.isSome)
    && decide (([e] : List Expr).length + ([] : List Keyword).length + (if ([] : List Keyword).isEmpty then 0 else 1) < 30)) = true
  line : (apos.endLine == cpos.line) = true
  trees : backTo cpos (starEach [e] X.env) = [(false, eval e X.env)]
structure M2 (X : Cx) (o : Expr) (m : Str) (apos : Pos) (e f : Expr) (cpos : Pos) : Prop where
  base : attributeBase o m X.env (eval o X.env) = eval o X.env
  few : ((backTo cpos (starEach [e, f] X.env)).all (fun x => !x.1) && (backToKw cpos (keywordEach [] X.env)).all (fun x => x.1.isSome)
    && decide (([e, f] : List Expr).length + ([] : List Keyword).length + (if ([] : List Keyword).isEmpty then 0 else 1) < 30)) = true
  line : (apos.endLine == cpos.line) = true
  trees : backTo cpos (starEach [e, f] X.env) = [(false, eval e X.env), (false, eval f X.env)]
def IsD (H : Hp) (a : Addr) : Prop := (∃ kvs, Rd H a (.dK kvs)) ∨ ∃ kvs, Rd H a (.dT kvs)
theorem isD_at {X : Cx} {pins : List (Addr × Obj)} {σ : St} {H : Hp} {s : Shared} {a : Addr} (I : Inv X pins σ H s) (d : IsD H a) :
    s.TypeIs (.ref a) "dict" ∧ (∀ b, Value.ref a = .ref b → ∃ ob, s.heap.get? b = some ob ∧ ob.dict = none) ∧ (a == sysModules) = false := by
  rcases d with ⟨kvs, e⟩ | ⟨kvs, e⟩
  · obtain ⟨_, hd, vs, _, dd⟩ := dk_rd I.hok e
    refine ⟨dd.typeIs, fun b q => ?_, hd⟩
    cases q
    obtain ⟨ob, _, _, h1, h2, _⟩ := dd
    exact ⟨ob, h1, h2.2.1⟩
  · obtain ⟨_, hd, xs, _, dd⟩ := dt_rd I.hok e
    refine ⟨dd.typeIs, fun b q => ?_, hd⟩
    cases q
    obtain ⟨ob, _, _, h1, h2, _⟩ := dd
    exact ⟨ob, h1, h2.2.1⟩
section
variable {X : Cx} {pins : List (Addr × Obj)} {σ : St} {H : Hp} {s : Shared} {a : Addr} {y d : V} {u r : Value} {o : Option V} {A : Around} {E : Value → Shared → Prop}
theorem d_get2 {Q : Value → Shared → Prop} (hu : A.units + 1 < cLine) (I : Inv X pins σ H s) (g : DGet H a y o) (ry : RelV y u) (rd : RelV d r) (h : ∀ w' s', Inv X pins σ H s' → RelV (o.getD d) w' → Q w' s') :
    wpAny (model X.prog X.w) A (call (.builtin "dict.get") [.ref a, u, r]) Q E s := by
  rcases g with ⟨kvs, k, e, ey, l⟩ | ⟨kvs, k, b, e, ey, eb, l⟩
  · subst ey
    obtain ⟨z, hd, vs, rel, dd⟩ := dk_rd I.hok e
    refine call_meetsIn PySem.F.slot_dict_get dd.typeIs PySem.F.entry_dict_get (PySem.F.args_dict_get_3 _ _ _) (meets_dict_get_default (mixKind X.prog X.w) a (kV_is ry) hd r) ⟨_, dd.mapOf, h _ _ (I.tok _) ?_⟩
    rw [l]
    exact (rel.val k).getD rd
  · subst ey
    cases (show u = Value.ref b from ry)
    obtain ⟨z, hd, xs, rel, dd⟩ := dt_rd I.hok e
    refine call_meetsIn PySem.F.slot_dict_get dd.typeIs PySem.F.entry_dict_get (PySem.F.args_dict_get_3 _ _ _) (meetsH_dict_get_default (tupleKind (mixKind X.prog X.w)) a b hd r) ⟨tupleKind_room_in1 hu, k, xs, key_of I.hok eb, dd, h _ _ (I.tok _) ?_⟩
    rw [l]
    exact (rel.val k).getD rd
end
def tDGet2 (td ty tx : TE) : TE := fun σ H Q => td σ H fun x H1 => ∃ a, x = .ref a ∧ IsD H1 a ∧ ty σ H1 fun y H2 => tx σ H2 fun z H3 => ∃ o, DGet H3 a y o ∧ Q (o.getD z) H3
section
variable {X : Cx} {o e f : Expr} {apos cpos : Pos} {td ty tx : TE}
theorem pe_dget2 (hu : X.A.units + 1 < cLine) (ho : PE X o td) (he : PE X e ty) (hf : PE X f tx) (m : M2 X o "get" apos e f cpos) : PE X (.Call (.Attribute o "get" apos) [e, f] [] cpos) (tDGet2 td ty tx) := by
  intro pins s σ H Q I h
  refine wpAny_Call_method m.base m.few m.line PySem.F.plainAttrs_dict PySem.F.slot_dict_get PySem.F.type_dict_get (thn (ho pins s σ H _ I h) fun u s1 ⟨x, H1, I1, rx, a, ex, d, q1⟩ => ?_)
  subst ex
  obtain rfl : u = Value.ref a := rx
  obtain ⟨t1, t2, _⟩ := isD_at I1 d
  refine ⟨t1, t2, ?_⟩
  rw [m.trees]
  refine Calls.callWith_builtin rfl (Calls.evalArgs_plain (Calls.spliced_cons (thn (he pins s1 σ H1 _ I1 q1) fun iv s2 ⟨y, H2, I2, ry, q2⟩ =>
    Calls.spliced_cons (thn (hf pins s2 σ H2 _ I2 q2) fun fv s3 ⟨z, H3, I3, rz, ov, g, q3⟩ => Calls.spliced_nil ?_))))
  exact d_get2 hu I3 g ry rz fun w' s4 I4 rw' => ⟨_, H3, I4, rw', q3⟩
end
section
variable {X : Cx} {pins : List (Addr × Obj)} {σ : St} {H : Hp} {s : Shared} {a : Addr} {kvs : List (Key × V)} {A : Around} {E : Value → Shared → Prop}
end
section
variable {X : Cx} {pins : List (Addr × Obj)} {σ : St} {H : Hp} {s : Shared} {a : Addr} {y : V} {u : Value} {A : Around} {E : Value → Shared → Prop}
end
end L2
namespace L2
open PySem PySem.Spec PyProof.Rows
section
variable {prog : Program} {w : World} {A : Around} {E : Value → Shared → Prop}
end
section
variable {X : Cx}
end
end L2
namespace L2
open PySem PySem.Spec PyProof.Rows
section
variable {X : Cx} {pins : List (Addr × Obj)} {σ : St} {H : Hp} {s : Shared} {h' : Heap}
theorem Inv.turnedL {t' : Nat} {ch : List Addr} (I : Inv X pins σ H s) (k : ∀ b o, b ∉ ch → s.heap.get? b = some o → h'.get? b = some o) (hf : ∀ b ∈ ch, FpOk X pins H b) : Inv X pins σ H { s with heap := h', toks := t' } := by
  have nit : ∀ b u, H b = some u → b ∉ ch := fun b u e z => by
    have q := (hf b z).1
    rw [q] at e; cases e
  refine I.step (g' := s.gens) (d' := s.drawn) (ch := ch) (fun b hb => ⟨(hf b hb).2.2.2.1, (hf b hb).2.1, (hf b hb).2.2.2.2.1, (hf b hb).2.2.2.2.2⟩) (fun b o _ _ hc e _ => k b o hc e) (fun b o _ _ hc e _ => ⟨o.slots, k b o hc e⟩)
    (fun _ _ _ _ n => n) (fun b o hc e => ⟨o, k b o hc e⟩) (fun _ _ e => e) (fun _ _ _ e => e) (fun b ps e => ⟨#[], by rw [e]; simp⟩) (fun m hm => ?_) (fun b u e => ?_) I.bare
  · obtain ⟨o, es, ep, ho, r⟩ := hm
    exact ⟨o, es, ep, k _ o (fun z => (hf _ z).2.1 rfl) ho, r⟩
  · refine (I.hok b u e).stay (fun c v hc q => k c v ?_ q) (fun _ q => q) fun _ _ q => q
    rcases hc with z | z
    · rw [z]; exact nit b u e
    · exact nit c _ z
theorem Inv.turnedNew {t' : Nat} {ch : List Addr} {T : Addr} {ob : HO} (I : Inv X pins σ H s) (k : ∀ b o, b ∉ ch → s.heap.get? b = some o → h'.get? b = some o) (hf : ∀ b ∈ ch, FpOk X pins H b) (hT : s.heap.objs.size ≤ T)
    (new : ObjOk X.prog X.w (upd H T ob) h' T ob) : Inv X pins σ (upd H T ob) { s with heap := h', toks := t' } := by
  have hn : H T = none := I.hok.fresh hT
  have nit : ∀ b u, H b = some u → b ∉ ch := fun b u e z => by
    have q := (hf b z).1
    rw [q] at e; cases e
  refine I.step (g' := s.gens) (d' := s.drawn) (ch := ch) (fun b hb => ⟨(hf b hb).2.2.2.1, (hf b hb).2.1, (hf b hb).2.2.2.2.1, (hf b hb).2.2.2.2.2⟩) (fun b o _ _ hc e _ => k b o hc e) (fun b o _ _ hc e _ => ⟨o.slots, k b o hc e⟩)
    (fun b o _ e n => ?_) (fun b o hc e => ⟨o, k b o hc e⟩) (fun b xs e => ?_) (fun b o u e => ?_) (fun b ps e => ⟨#[], ?_⟩) (fun m hm => ?_) (fun b u e => ?_) I.bare
  · rw [upd_ne (Nat.ne_of_lt (Nat.lt_of_lt_of_le (Heap.lt_size e) hT))]; exact n
  · rw [upd_ne (ne_of_none e hn)]; exact e
  · rw [upd_ne (ne_of_none e hn)]; exact e
  · rw [upd_ne (ne_of_none e hn), e]; simp
  · obtain ⟨o, es, ep, ho, r⟩ := hm
    exact ⟨o, es, ep, k _ o (fun z => (hf _ z).2.1 rfl) ho, r⟩
  · by_cases hb : b = T
    · subst hb
      rw [upd_same] at e
      cases e
      exact new
    · rw [upd_ne hb] at e
      refine (I.hok b u e).stay (fun c v hc q => k c v ?_ q) (fun c q => by rw [upd_ne (ne_of_none q hn)]; exact q) fun c xs q => by rw [upd_ne (ne_of_none q hn)]; exact q
      rcases hc with z | z
      · rw [z]; exact nit b u e
      · exact nit c _ z
end
section
variable {X : Cx}
end
section
variable {X : Cx} {tg : Expr}
end
section
variable {X : Cx} {tg : Expr}
end
section
variable {prog : Program} {w : World} {A : Around} {E : Value → Shared → Prop} {s : Shared}
theorem iter_keys {d : Addr} {o : Obj} {es : Array DictEntry} {ep : Nat} {Q : Value → Shared → Prop} (hd : (d == sysModules) = false) (ho : s.heap.get? d = some o) (hc : o.ExactDict) (hdat : o.data = .dict es ep)
    (hQ : Q (.ref s.heap.objs.size) { s with heap := s.heap.push { cls := .type "dict_keyiterator", data := .fields #[.ref d, .int 0 0, .int es.size 0, .int ep 0] } }) :
    wpAny (model prog w) A (pyIter (.ref d)) Q E s := by
  have hT : s.TypeIs (.ref d) "dict" := ⟨o, ho, hc.1⟩
  refine wpAny_pyIter_slot hT F.slot_dict_iter (wpAny_call_entry F.slot_dict_iter hT F.entry_dict_iter ?_ (F.args_dict_iter_1 _))
  unfold Builtin.«dict.__iter__»
  refine wpAny_bind ?_
  unfold Builtin.Dict.dictSlotNone
  refine wpAny_bind (wpAny_notOrdered_dict hT ?_)
  show wpAny _ _ (pure (Value.ref d)) _ _ s
  refine wpAny_pure ?_
  show wpAny _ _ (Builtin.Dict.showsAll d >>= _) _ _ s
  unfold Builtin.Dict.showsAll
  rw [if_neg (by rw [hd]; exact Bool.false_ne_true)]
  refine wpAny_bind (wpAny_pure ?_)
  refine wpAny_bind (wpAny_dictEntries ho hdat ?_)
  refine wpAny_bind (wpAny_dictEpoch ho hdat ?_)
  refine wpAny_bind (wpAny_newObj_type (wpAny_pure ⟨_, rfl, "dict_keyiterator", _, ⟨_, Heap.get?_push_size _ rfl, rfl⟩, F.slot_dict_keyiterator_next.lookup, ?_⟩))
  simpa [rawInt] using hQ
theorem next_key_item {it d : Addr} {i n ep : Nat} {od : Obj} {es : Array DictEntry} {en : DictEntry} {Q : Option Value → Shared → Prop} (hit : s.heap.IsKeyIter it d i n ep) (hod : s.heap.get? d = some od) (hdd : od.data = .dict es ep)
    (hsz : es.size = n) (hx : es[i]? = some en) (hQ : ∀ h', h'.IsKeyIter it d (i + 1) n ep → Heap.SameBut it s.heap h' → Q (some en.key) { s with heap := h' }) : wpAny (model prog w) A (pyNext (.ref it)) Q E s := by
  obtain ⟨o, ho, hc, hd⟩ := id hit
  unfold pyNext
  refine wpAny_bind (wpAny_attempt (wpAny_callSpecial?_slot (name := Str.ofString "__next__") hit.typeIs F.slot_dict_keyiterator_next
    (wpAny_call_entry F.slot_dict_keyiterator_next hit.typeIs F.entry_dict_keyiterator_next ?_ (F.args_dict_keyiterator_next_1 _))))
  refine wpAny_bind (wpAny_pure ?_)
  refine wpAny_bind ?_
  refine wpAny_bind ?_
  first | refine wpAny_bind (wpAny_typeNameOfWhole_keyiter hit.typeIs (wpAny_pure ?_)) | refine wpAny_bind (wpAny_typeNameOf_keyiter hit.typeIs (wpAny_pure ?_))
  refine wpAny_bind (wpAny_fieldsOf ho hd ?_)
  have hown : Builtin.Dict_items.ownsTuple "dict_keyiterator" = false := by decide
  simp only [hown, Bool.false_eq_true, if_false]
  show wpAny _ _ (if (Value.ref d == Value.none) = true then _ else _) _ _ s
  rw [if_neg (show ¬ ((Value.ref d == Value.none) = true) from Bool.false_ne_true)]
  refine wpAny_bind (wpAny_pure ?_)
  refine wpAny_bind (wpAny_dictEntries hod hdd ?_)
  rw [if_neg (by rw [hsz]; simp)]
  refine wpAny_bind (wpAny_pure ?_)
  refine wpAny_bind (wpAny_dictEpoch hod hdd ?_)
  rw [if_neg (by simp)]
  refine wpAny_pure ?_
  obtain ⟨hlt', hen⟩ := Array.getElem?_eq_some_iff.mp hx
  simp only [show ¬ ((i : Int) < 0) from by omega, if_false, Int.toNat_natCast, Array.getElem?_eq_getElem hlt']
  refine wpAny_bind ?_
  first | refine wpAny_bind (wpAny_typeNameOfWhole_keyiter hit.typeIs (wpAny_pure ?_)) | refine wpAny_bind (wpAny_typeNameOf_keyiter hit.typeIs (wpAny_pure ?_))
  refine wpAny_bind (wpAny_isOneOf_keyiter hit.typeIs ?_)
  show wpAny _ _ (setField (.ref it) 1 (rawInt ((i : Int) + 1)) >>= _) _ _ s
  refine wpAny_bind (wpAny_setField ho hd (by simp) ?_)
  have hit' : (s.heap.update it (Obj.mapFields (·.setIfInBounds 1 (rawInt ((i : Int) + 1))))).IsKeyIter it d (i + 1) n ep :=
    ⟨_, Heap.get?_update_self _ ho (Obj.isFreed_of_fields (Obj.data_mapFields hd _)), (Obj.cls_mapFields ..).trans hc, by rw [Obj.data_mapFields hd]; simp [rawInt]⟩
  refine wpAny_bind (wpAny_holding ?_)
  refine wpAny_bind (wpAny_isOneOf_keyiter (s := { s with heap := s.heap.update it (Obj.mapFields (·.setIfInBounds 1 (rawInt ((i : Int) + 1)))) }) hit'.typeIs ?_)
  show wpAny _ _ (pure es[i].key) _ _ _
  rw [hen]
  exact wpAny_pure (wpAny_pure ⟨_, rfl, wpAny_pure (hQ _ hit' (Heap.SameBut.update ..))⟩)
theorem next_key_end {it d : Addr} {i n ep : Nat} {od : Obj} {es : Array DictEntry} {Q : Option Value → Shared → Prop} (hh : A.handled = none) (hit : s.heap.IsKeyIter it d i n ep) (hod : s.heap.get? d = some od) (hdd : od.data = .dict es ep)
    (hsz : es.size = n) (hge : n ≤ i) (hQ : ∀ h', Heap.ExtBut it s.heap h' → Q none { s with heap := h' }) : wpAny (model prog w) A (pyNext (.ref it)) Q E s := by
  obtain ⟨o, ho, hc, hd⟩ := id hit
  unfold pyNext
  refine wpAny_bind (wpAny_attempt (wpAny_callSpecial?_slot (name := Str.ofString "__next__") hit.typeIs F.slot_dict_keyiterator_next
    (wpAny_call_entry F.slot_dict_keyiterator_next hit.typeIs F.entry_dict_keyiterator_next ?_ (F.args_dict_keyiterator_next_1 _))))
  refine wpAny_bind (wpAny_pure ?_)
  refine wpAny_bind ?_
  refine wpAny_bind ?_
  first | refine wpAny_bind (wpAny_typeNameOfWhole_keyiter hit.typeIs (wpAny_pure ?_)) | refine wpAny_bind (wpAny_typeNameOf_keyiter hit.typeIs (wpAny_pure ?_))
  refine wpAny_bind (wpAny_fieldsOf ho hd ?_)
  have hown : Builtin.Dict_items.ownsTuple "dict_keyiterator" = false := by decide
  simp only [hown, Bool.false_eq_true, if_false]
  show wpAny _ _ (if (Value.ref d == Value.none) = true then _ else _) _ _ s
  rw [if_neg (show ¬ ((Value.ref d == Value.none) = true) from Bool.false_ne_true)]
  refine wpAny_bind (wpAny_pure ?_)
  refine wpAny_bind (wpAny_dictEntries hod hdd ?_)
  rw [if_neg (by rw [hsz]; simp)]
  refine wpAny_bind (wpAny_pure ?_)
  refine wpAny_bind (wpAny_dictEpoch hod hdd ?_)
  rw [if_neg (by simp)]
  refine wpAny_pure ?_
  have hge' : es.size ≤ i := by rw [hsz]; exact hge
  simp only [show ¬ ((i : Int) < 0) from by omega, if_false, Int.toNat_natCast, Array.getElem?_eq_none hge']
  refine wpAny_bind ?_
  first | refine wpAny_bind (wpAny_typeNameOfWhole_keyiter hit.typeIs (wpAny_pure ?_)) | refine wpAny_bind (wpAny_typeNameOf_keyiter hit.typeIs (wpAny_pure ?_))
  show wpAny _ _ (setField (.ref it) 0 .none >>= _) _ _ s
  refine wpAny_bind (wpAny_setField ho hd (by simp) ?_)
  show wpAny _ _ (newExc (.type "StopIteration") [] >>= _) _ _ _
  refine wpAny_bind ?_
  simp only [newExc, newTuple]
  refine wpAny_bind (wpAny_newObj_type ?_ (by size_fits))
  refine wpAny_bind (m := firstArgMember _ _) (wpAny_of_eq (a := Value.none) (by first | rfl | (simp only [firstArgMember]; rfl)) ?_)
  refine wpAny_newObj_type ?_ (by size_fits)
  simp only [raiseNew]
  refine wpAny_bind (wpAny_handled ?_)
  rw [show A.in1.handled = none from hh]
  refine wpAny_bind (wpAny_pure (wpAny_throw ?_))
  refine wpAny_bind (wpAny_isInstance (T := "StopIteration") (b := true) ⟨_, Heap.get?_push_size _ rfl, rfl⟩ isSubtype_stop ?_)
  exact wpAny_pure (hQ _ (((Heap.SameBut.update ..).extBut.push _).push _))
end
theorem paired_get {α β : Type} {G : α → β → Prop} {l₁ : List α} {l₂ : List β} (h : Paired G l₁ l₂) : ∀ {i : Nat} {a : α}, l₁[i]? = some a → ∃ b, l₂[i]? = some b ∧ G a b := by
  induction h with
  | nil => intro i a e; simp at e
  | @cons a b l₁ l₂ r t ih =>
    intro i a' e
    cases i with
    | zero =>
      simp only [List.getElem?_cons_zero, Option.some.injEq] at e
      subst e
      exact ⟨b, rfl, r⟩
    | succ j =>
      simp only [List.getElem?_cons_succ] at e ⊢
      exact ih e
section
variable {X : Cx} {pins : List (Addr × Obj)} {σ : St} {H : Hp} {s : Shared} {d : Addr} {o : Obj}
end
section
variable {P : Program} {w : World} {K : PySem.W.Frag} {tg : Expr} {d : Addr} {o : Obj} {es : Array DictEntry} {ep : Nat}
end
section
variable {X : Cx} {tg e : Expr} {td : TE} {apos cpos : Pos}
end
def Ite (K : PySem.W.Frag) (a : Addr) : It :=
  ⟨fun i H => ∃ (xs : List V) (x : V), SqL K H a xs ∧ xs[i]? = some x, fun i H v H' => ∃ T x, v = .ref T ∧ H T = none ∧ H' = upd H T (.tup [.int (i : Nat), x]) ∧ ∀ xs, SqL K H a xs → xs[i]? = some x, fun i H => ∃ xs : List V, SqL K H a xs ∧ xs.length ≤ i⟩
theorem turn_enum {P : Program} {w : World} {K : PySem.W.Frag} {elts : List Expr} {kk : Nat} {tpos : Pos} (a e it : Addr) :
    Turn P w K (.Tuple elts kk tpos) (Ite K a) [e, it] e (fun i h => (∃ old, IsEnum h e it ((i : Nat) : Int) old) ∧ h.IsListIter it a i ∧ e ≠ it) where
  mem := by simp
  obj := fun i h st b hb => by
    obtain ⟨⟨old, he⟩, ⟨o, ho, hc, hd⟩, _⟩ := st
    have e' : b = e ∨ b = it := by simpa using hb
    rcases e' with z | z
    · rw [z]; exact ⟨_, he, fun v q => nomatch q⟩
    · rw [z]; exact ⟨o, ho, fun v q => by rw [hd] at q; cases q⟩
  keep := fun i h h' st k => let ⟨⟨old, he⟩, hi, hne⟩ := st; ⟨⟨old, k e (by simp) _ he⟩, hi.at fun o q => k it (by simp) o q, hne⟩
  item := by
    intro X hP hw hK hc i pins s σ H E I hf st hg
    subst hP hw hK
    obtain ⟨⟨old, he⟩, hit, hne⟩ := st
    obtain ⟨xs, x, hq, hx⟩ := hg
    obtain ⟨its, rv, p, hz⟩ := I.list hq
    obtain ⟨u, hu, ru⟩ := rv.get hx
    have hel : e < s.heap.objs.size := Heap.lt_size he
    have hil : it < s.heap.objs.size := by obtain ⟨_, q, _⟩ := hit; exact Heap.lt_size q
    refine wpAny_pyNext_enum_item he hit p.isList (x := u) (by simpa using hu) hne fun h' ho hit' hT hsz hk => ?_
    refine ⟨_, rfl, wpAny_letOwnedTupleGo_enum (s := { s with heap := h', toks := s.toks + 1 }) ho fun h'' he' sb => ?_⟩
    have hT2 : h''.get? s.heap.objs.size = some { cls := .type "tuple", data := .seq #[.int i s.toks, u] } := (sb.2 _ (Nat.ne_of_gt hel)).trans hT
    have new : ObjOk X.prog X.w (upd H s.heap.objs.size (.tup [.int (i : Nat), x])) h'' s.heap.objs.size (.tup [.int (i : Nat), x]) :=
      ⟨by show 2 ≤ sizeLine; decide, [.int i s.toks, u], .cons ⟨_, rfl⟩ (.cons ru .nil), ⟨_, hT2, rfl, _, rfl⟩⟩
    have I1 : Inv X pins σ (upd H s.heap.objs.size (.tup [.int (i : Nat), x])) { s with heap := h'', toks := s.toks + 1 } :=
      I.turnedNew (ch := [e, it]) (fun b ob hb q => (sb.2 b (fun z => hb (by simp [z]))).trans (hk b ob (fun z => hb (by simp [z])) (fun z => hb (by simp [z])) q)) hf (Nat.le_refl _) new
    refine ⟨.ref s.heap.objs.size, _, I1, rfl, ⟨_, x, rfl, I.hok.fresh (Nat.le_refl _), rfl, fun ys hy => by rw [I.list_inj hy hq]; exact hx⟩, ⟨⟨u, ?_⟩, hit'.at fun o q => (sb.2 it (Ne.symm hne)).trans q, hne⟩, fun b hb => ?_⟩
    · have e1 : ((i + 1 : Nat) : Int) = (i : Int) + 1 := by omega
      rw [e1]; exact he'
    · have hb' : b < s.heap.objs.size := by
        have e' : b = e ∨ b = it := by simpa using hb
        rcases e' with z | z
        · rw [z]; exact hel
        · rw [z]; exact hil
      rw [upd_ne (Nat.ne_of_lt hb')]
      exact (hf b hb).1
  done := by
    intro X hP hw hK hc i pins s σ H E I hf st hg
    subst hP hw hK
    obtain ⟨⟨old, he⟩, hit, hne⟩ := st
    obtain ⟨xs, hq, hx⟩ := hg
    obtain ⟨its, rv, p, hz⟩ := I.list hq
    obtain ⟨f0, f1, f2, f3, f4, f5⟩ := hf it (by simp)
    have hl := rv.length
    exact wpAny_pyNext_enum_end (I.ok.hd hc) he hit p.isList (by simp; omega) fun h' eb => ⟨rfl, I.turned (t' := s.toks) (fun b o hb q => eb b o hb q) f0 f1 f3 f4 f5⟩
  self := fun A i s Q E st h => let ⟨⟨_, he⟩, _⟩ := st; wpAny_pyIter_enum he h
def iEnum (K : PySem.W.Frag) (ta : TA) : TI := fun σ H R => ta σ H fun vs H1 => ∃ a xs, vs = [.ref a] ∧ SqL K H1 a xs ∧ R (Ite K a) H1
theorem pi_enum {X : Cx} {e : Expr} {ta : TA} {p pos tpos : Pos} {elts : List Expr} {kk : Nat} (hg : Gl X "enumerate") (hm : X.mg "enumerate" = none) (ha : PA X [e] ta) (hs : starEach [e] X.env = [(false, eval e X.env)] := by rfl) :
    PI X (.Tuple elts kk tpos) (.Call (.Name "enumerate" p) [e] [] pos) (iEnum X.K ta) := by
  intro pins s σ H R I h
  refine Call_ (ld_blt I hg hm boot_enumerate (PyProof.Rows.callWith_type1 (thn (ha pos pins s σ H _ I h) fun us s1 ⟨vs, H1, I1, r1, q1⟩ => ?_) hs rfl))
  obtain ⟨a, xs, ex, hq, q⟩ := q1
  subst ex
  cases r1 with
  | cons r rr =>
    cases rr
    cases r
    obtain ⟨its, rv, p', hz⟩ := I1.list hq
    refine call_enumerate_list p'.isList fun h' he hit hsz hk => wpAny_pyIter_enum he ?_
    have I2 : Inv X pins σ H1 { s1 with heap := h' } := I1.kept (t' := s1.toks) hk
    refine ⟨s1.heap.objs.size + 1, [s1.heap.objs.size + 1, s1.heap.objs.size], _, _, H1, rfl, I2, turn_enum a (s1.heap.objs.size + 1) s1.heap.objs.size, ⟨⟨.none, he⟩, hit, Nat.succ_ne_self _⟩, fun b hb => ?_, q⟩
    have e' : b = s1.heap.objs.size + 1 ∨ b = s1.heap.objs.size := by simpa using hb
    have hle : s1.heap.objs.size ≤ b := by
      rcases e' with z | z
      · rw [z]; exact Nat.le_add_right _ _
      · rw [z]; exact Nat.le_refl _
    exact I1.fpOk hle (I1.hok.fresh hle)
theorem boot_zip5 : bootBuiltins "zip" = some (.type "zip") := by decide +kernel
end L2
section 
namespace Bits
open PySem PyProof.Rows
end Bits
end 
section 
namespace TL
open PySem PySem.Builtin PySem.Builtin.Str PySem.StrLaws
abbrev tl (x : Str) : List Nat := x.cps.toList
theorem len_tl (x : Str) : x.length = (tl x).length := by simp [tl, Str.length]
theorem len1 {y : Str} (hy : tl y ≠ []) : 1 ≤ y.length := by
  have e2 : 0 < (tl y).length := List.length_pos_iff.mpr hy
  rw [len_tl y]
  exact e2
end TL
end 
namespace L2
open PySem PySem.Spec PyProof.Rows
section
variable {X : Cx} {pins : List (Addr × Obj)} {σ : St} {H : Hp} {s : Shared} {Q : VK}
end
section
variable {X : Cx}
end
section
variable {X : Cx} {o e : Expr} {to te : TE}
end
end L2
namespace L2
open PySem PySem.Spec PyProof.Rows
section
variable {X : Cx}
end
end L2
namespace Att
open PySem PySem.W PySem.Calls PyProof.Rows
section
variable {prog : Program} {w : World} {A : Around} {E : Value → Shared → Prop} {s : Shared} {K : Frag}
end
end Att
namespace L2
open PySem PySem.Spec PyProof.Rows
end L2
namespace L2
open PySem PySem.Spec PyProof.Rows
end L2
namespace L2
open PySem PySem.Spec PyProof.Rows
def inClass (s : Stmt) (j : Nat) : Stmt := match s with
  | .ClassDef _ _ _ body _ _ _ _ _ _ _ => body.getD j (.Pass ⟨0, 0, 0, 0⟩)
  | _ => .Pass ⟨0, 0, 0, 0⟩
def defArgs (s : Stmt) : Arguments := match s with
  | .FunctionDef _ a _ _ _ _ _ _ _ _ => a
  | _ => { posonlyargs := [], args := [], vararg := none, kwonlyargs := [], kw_defaults := [], kwarg := none, defaults := [] }
def defBody (s : Stmt) : List Stmt := match s with
  | .FunctionDef _ _ b _ _ _ _ _ _ _ => b
  | _ => []
def defScope (s : Stmt) : Scope := match s with
  | .FunctionDef _ _ _ _ _ _ sc _ _ _ => sc
  | _ => { kind := .function, names := [], isGenerator := false, isCoroutine := false }
abbrev CX0 : CXT := fun _ _ _ _ _ _ => False
abbrev E0 : XK := fun _ _ _ => False
theorem pass0 {X : Cx} : Passes CX0 X E0 := fun _ _ _ _ _ _ _ h => h.elim
structure Fun (K : PySem.W.Frag) (x qual : Str) (st : Stmt) (f : Addr) (fd : FuncData) : Prop where
  ex : ∃ (oc : Value) (od : Option Addr) (kV doc pm : Value) (an : Option Addr) (cdv ct : Value) (osl : Array (Option Value)),
    fd = PySem.W.fnOf x qual (defArgs st) (defBody st) (defScope st) .none kV doc pm an cdv ct ∧ K.lookup f = some ⟨oc, od, .func fd, osl⟩ ∧ PySem.W.codeIn K cdv qual = true
  kp : PySem.W.keepIn K (.ref f) = true
section
variable {P : Program} {w : World} {K : PySem.W.Frag} {mg : Str → Option Value} {base : Heap}
theorem Fun.ok {x qual : Str} {st : Stmt} {f : Addr} {fd : FuncData} {N ps : List Str} {k : Nat} {sp : Sp} (F : Fun K x qual st f fd) (S : FnScope N ps (defScope st)) (len : ∀ vs H Q E, sp vs H Q E → vs.length = ps.length)
    (hbody : ∀ (cdv : Value) (A : Around) (outer : List Env) (s : Shared) (H : Hp) (vs : List V) (Q : VK) (E : XK), Room k (A.deeper (envOfC qual (defScope st) s.heap.objs.size f cdv)) → sp vs H Q E →
      ∃ t, PSs (cxOf CX0 P w K mg base N qual (defScope st) f cdv A outer s H E).nox (defBody st) t ∧ t { nx := fun _ H' => Q .non H', rt := Q } (start N vs) H) : FnOk P w K mg base CX0 (k + 1) f fd ps sp := by
  obtain ⟨oc, od, kV, doc, pm, an, cdv, ct, osl, rfl, lk, hcd⟩ := F.ex
  refine fn_of lk hcd S len fun A outer s H vs Q E hr hsp => ?_
  obtain ⟨t, h, q⟩ := hbody cdv A outer s H vs Q E hr hsp
  exact ⟨t, h.nox, q⟩
theorem Fun.binds {x qual : Str} {st : Stmt} {f : Addr} {fd : FuncData} {ps : List Str} (F : Fun K x qual st f fd)
    (h : ∀ (kV doc pm : Value) (an : Option Addr) (cdv ct : Value) (us : List Value), us.length = ps.length → bindArgs (PySem.W.fnOf x qual (defArgs st) (defBody st) (defScope st) .none kV doc pm an cdv ct) ⟨us, []⟩ = pure (ps.zip us)) : Binds K fd ps [] := by
  obtain ⟨oc, od, kV, doc, pm, an, cdv, ct, osl, rfl, lk, hcd⟩ := F.ex
  exact .all (h kV doc pm an cdv ct)
theorem fun_mk {x qual : Str} {st : Stmt} {f : Addr} {oc : Value} {od an : Option Addr} {osl : Array (Option Value)} {kV doc pm cdv ct : Value} (l : K.lookup f = some ⟨oc, od, .func (PySem.W.fnOf x qual (defArgs st) (defBody st) (defScope st) .none kV doc pm an cdv ct), osl⟩)
    (c : PySem.W.codeIn K cdv qual = true) (k : PySem.W.keepIn K (.ref f) = true) : Fun K x qual st f (PySem.W.fnOf x qual (defArgs st) (defBody st) (defScope st) .none kV doc pm an cdv ct) := ⟨⟨oc, od, kV, doc, pm, an, cdv, ct, osl, rfl, l, c⟩, k⟩
end
theorem hu_of {A : Around} {k : Nat} (hr : Room k A) : A.units + 1 < cLine := Nat.lt_of_le_of_lt (Nat.add_le_add_left (by decide : 1 ≤ 64) _) hr.units
section
variable {X : Cx}
theorem pv (i : Nat) {x : Str} {pos : Pos} (hN : X.N[i]? = some x := by rfl) (hv : Vis X.env.scope x := by first | exact Or.inl rfl | exact Or.inr (Or.inl rfl) | exact Or.inr (Or.inr rfl)) (hd : (x == ("__debug__" : Str)) = false := by decide)
    (hcd : (x == ("__classdict__" : Str)) = false := by decide) : PE X (.Name x pos) (tVar i) := pe_var hN hv hd hcd
end
theorem iteF {A B : Prop} (h : B) : if false = true then A else B := by
  rw [if_neg Bool.false_ne_true]
  exact h
theorem iteT {A B : Prop} (h : A) : if true = true then A else B := by
  rw [if_pos rfl]
  exact h
theorem ite2 {c A B : Prop} [Decidable c] (h1 : c → A) (h2 : ¬ c → B) : if c then A else B := by
  by_cases h : c
  · rw [if_pos h]
    exact h1 h
  · rw [if_neg h]
    exact h2 h
theorem iteNS {c A B : Prop} [Decidable c] (hc : c) (h : B) : if (!decide c) = true then A else B := by
  rw [decide_eq_true hc]
  exact iteF h
def Same (H H' : Hp) : Prop := ∀ b o, H b = some o → H' b = some o
theorem Same.refl (H : Hp) : Same H H := fun _ _ h => h
theorem Same.trans {H H1 H2 : Hp} (a : Same H H1) (b : Same H1 H2) : Same H H2 := fun c o h => b c o (a c o h)
theorem Same.seq {K : PySem.W.Frag} {H H' : Hp} {a : Addr} {xs : List V} (e : Same H H') (h : SqL K H a xs) : SqL K H' a xs := by
  rcases h with (h | ⟨o, h⟩) | h
  · exact .inl (.inl (e _ _ h))
  · exact .inl (.inr ⟨o, e _ _ h⟩)
  · exact .inr h
section
variable {κ : Type} [DecidableEq κ]
end
theorem at_of {xs : List V} {z : Int} {j : Nat} {v : V} (e : z = (j : Int)) (h : xs[j]? = some v) : atI xs z = some v := by
  rw [e]
  exact atI_nat h
theorem Same.made {H H1 : Hp} {x dx C : Addr} (nx : H x = Option.none) (nd : H dx = Option.none) (k : ∀ b o, (upd (upd H dx (.own x)) x (.ins C dx [])) b = some o → b ≠ x → H1 b = some o) : Same H H1 := fun b o e =>
  k b o (by rw [upd_ne (ne_of_none e nx), upd_ne (ne_of_none e nd)]; exact e) (ne_of_none e nx)
end L2
section
set_option Elab.async false
set_option linter.all false
set_option maxRecDepth 100000
set_option maxHeartbeats 2000000
namespace L2
open PySem PySem.Spec PyProof.Rows
open PySem.W (WData Codec OpenSpec Well WellAll ReadsW ReadsAllW)
mutual
/-- x stands for the datum d, lists and tuples all the way -/
inductive Dw (K : PySem.W.Frag) (H : Hp) : V → WData → Prop
  | non : Dw K H .non .none
  | bl (b : Bool) : Dw K H (.bl b) (.bool b)
  | int (i : Int) : Dw K H (.int i) (.int i)
  | str (x : Str) : Dw K H (.str x) (.str x)
  | byt (b : Array UInt8) : Dw K H (.byt b) (.bytes b.toList)
  | lst {a : Addr} {xs : List V} {ds : List WData} : SqL K H a xs → DwAll K H xs ds → Dw K H (.ref a) (.list ds)
  | tup {a : Addr} {xs : List V} {ds : List WData} : SqT K H a xs → DwAll K H xs ds → Dw K H (.ref a) (.tuple ds)
inductive DwAll (K : PySem.W.Frag) (H : Hp) : List V → List WData → Prop
  | nil : DwAll K H [] []
  | cons {v : V} {vs : List V} {d : WData} {ds : List WData} : Dw K H v d → DwAll K H vs ds → DwAll K H (v :: vs) (d :: ds)
end
theorem dw_ints {K : PySem.W.Frag} {H : Hp} : ∀ ns : List Int, DwAll K H (ns.map V.int) (ns.map WData.int)
  | [] => .nil
  | n :: r => .cons (.int n) (dw_ints r)
theorem ints_dw {K : PySem.W.Frag} {H : Hp} : ∀ (ns : List Int) (xs : List V), DwAll K H xs (ns.map WData.int) → xs = ns.map V.int
  | [], xs, h => by
    cases h
    rfl
  | n :: r, xs, h => by
    cases h with
    | cons h1 h2 =>
      cases h1
      rw [ints_dw r _ h2] <;> rfl
section
variable {P : Program} {w : World} {K : PySem.W.Frag} {H : Hp} {h : Heap} {R : PySem.W.WRecords} {cl : Str → Option Addr}
theorem sqL_at {a : Addr} {xs : List V} (hok : HOk P w H h) (KX : K.In h) (q : SqL K H a xs) : ∃ (its : List Value) (o : Obj) (n : Nat), Vals xs its ∧ h.get? a = some o ∧ o.cls = .type "list" ∧ o.data = .seq its.toArray n := by
  rcases q with q | ⟨o, its, n, e, hc, _, hd, _, hv⟩
  · obtain ⟨_, its, n, hv, e⟩ := (show ObjOk P w H h a (.lst xs) from q.ok hok)
    exact ⟨its, _, n, hv, e, rfl, rfl⟩
  · exact ⟨its.toList, o, n, hv, KX _ _ e, hc, by simp [hd]⟩
theorem sqT_at {a : Addr} {xs : List V} (hok : HOk P w H h) (KX : K.In h) (q : SqT K H a xs) : ∃ (its : List Value) (o : Obj) (n : Nat), Vals xs its ∧ h.get? a = some o ∧ o.cls = .type "tuple" ∧ o.data = .seq its.toArray n := by
  rcases q with q | ⟨o, its, n, e, hc, hd, _, hv⟩
  · obtain ⟨_, its, hv, o, e, hc, n, hd⟩ := (show ObjOk P w H h a (.tup xs) from q.ok hok)
    exact ⟨its, o, n, hv, e, hc, hd⟩
  · exact ⟨its.toList, o, n, hv, KX _ _ e, hc, by simp [hd]⟩
mutual
theorem Dw.reads (hok : HOk P w H h) (KX : K.In h) : ∀ (d : WData) (v : V) (u : Value), Dw K H v d → RelV v u → ∃ as, ReadsW R cl h u d as
  | .none, _, _, x, r => by
    cases x
    cases r
    exact ⟨_, ReadsW.none⟩
  | .bool b, _, _, x, r => by
    cases x
    cases r
    exact ⟨_, ReadsW.bool b⟩
  | .int i, _, _, x, r => by
    cases x
    obtain ⟨t, rfl⟩ := r
    exact ⟨_, ReadsW.int i t⟩
  | .str s, _, _, x, r => by
    cases x
    obtain ⟨t, rfl⟩ := r
    exact ⟨_, ReadsW.str s t⟩
  | .bytes b, _, _, x, r => by
    cases x
    obtain ⟨t, rfl⟩ := r
    exact ⟨_, ReadsW.bytes _ t⟩
  | .list ds, _, _, x, r => by
    cases x with
    | lst hs ha =>
      cases r
      obtain ⟨its, o, n, rv, ho, hc, hd⟩ := sqL_at hok KX hs
      obtain ⟨as, hr⟩ := Dw.readsAll hok KX ds _ its ha rv
      exact ⟨_, ReadsW.list ho hc hd hr⟩
  | .tuple ds, _, _, x, r => by
    cases x with
    | tup hs ha =>
      cases r
      obtain ⟨its, o, n, rv, ho, hc, hd⟩ := sqT_at hok KX hs
      obtain ⟨as, hr⟩ := Dw.readsAll hok KX ds _ its ha rv
      exact ⟨_, ReadsW.tuple ho hc hd hr⟩
  | .float _, _, _, x, _ => by cases x
  | .dict _, _, _, x, _ => by cases x
  | .bytearray _, _, _, x, _ => by cases x
  | .set _, _, _, x, _ => by cases x
  | .frozenset _, _, _, x, _ => by cases x
  | .obj _ _, _, _, x, _ => by cases x
theorem Dw.readsAll (hok : HOk P w H h) (KX : K.In h) : ∀ (ds : List WData) (vs : List V) (us : List Value), DwAll K H vs ds → Vals vs us → ∃ as, ReadsAllW R cl h us ds as
  | [], _, _, x, r => by
    cases x
    cases r
    exact ⟨_, ReadsAllW.nil⟩
  | d :: ds, _, _, x, r => by
    cases x with
    | cons h1 h2 =>
      cases r with
      | cons r1 r2 =>
        obtain ⟨as, q1⟩ := Dw.reads hok KX d _ _ h1 r1
        obtain ⟨bs, q2⟩ := Dw.readsAll hok KX ds _ _ h2 r2
        exact ⟨_, ReadsAllW.cons q1 q2⟩
end
end
mutual
/-- data that a codec tells -/
def plW : WData → Bool
  | .none => true
  | .bool _ => true
  | .int _ => true
  | .str _ => true
  | .bytes _ => true
  | .list xs => plWs xs
  | .tuple xs => plWs xs
  | _ => false
def plWs : List WData → Bool
  | [] => true
  | x :: r => plW x && plWs r
end
theorem plWs_map {α : Type} {f : α → WData} (h : ∀ a, plW (f a) = true) : ∀ l : List α, plWs (l.map f) = true
  | [] => rfl
  | x :: r => by
    show (plW (f x) && plWs (r.map f)) = true
    rw [h x, plWs_map h r] <;> rfl
theorem pl_enc : ∀ (c : Codec) (a : c.denote), plW (c.enc a) = true
  | .unit, _ => rfl
  | .bool, _ => rfl
  | .int _ _, _ => rfl
  | .nat _ _, _ => rfl
  | .u8, _ => rfl
  | .bytes _ _, _ => rfl
  | .text _ _ _ _, _ => rfl
  | .list _ _ c, a => plWs_map (fun x => pl_enc c x) a
  | .pair c d, a => by
    show (plW (c.enc a.1) && (plW (d.enc a.2) && true)) = true
    rw [pl_enc c a.1, pl_enc d a.2] <;> rfl
  | .triple c d e, a => by
    show (plW (c.enc a.1) && (plW (d.enc a.2.1) && (plW (e.enc a.2.2) && true))) = true
    rw [pl_enc c a.1, pl_enc d a.2.1, pl_enc e a.2.2] <;> rfl
  | .option c, none => rfl
  | .option c, some x => pl_enc c x
theorem pl_encAll : ∀ (cs : List Codec) (a : Codec.denoteAll cs), plWs (Codec.encAll cs a) = true
  | [], _ => rfl
  | c :: cs, a => by
    show (plW (c.enc a.1) && plWs (Codec.encAll cs a.2)) = true
    rw [pl_enc c a.1, pl_encAll cs a.2] <;> rfl
theorem weight_mem : ∀ {xs : List WData} {d : WData}, d ∈ xs → d.weight ≤ WData.weightAll xs
  | [], d, h => absurd h (by simp)
  | x :: r, d, h => by
    show d.weight ≤ x.weight + 1 + WData.weightAll r
    rcases List.mem_cons.mp h with e | m
    · rw [e]
      omega
    · have z := weight_mem m
      omega
def toV : Value → V
  | .none => .non
  | .bool b => .bl b
  | .int i _ => .int i
  | .str x _ => .str x
  | .bytes b _ => .byt b
  | .ref a => .ref a
  | _ => .non
def OkU (A : List Addr) : Value → Prop
  | .none => True
  | .bool _ => True
  | .int _ _ => True
  | .str _ _ => True
  | .bytes _ _ => True
  | .ref a => a ∈ A
  | _ => False
theorem OkU.mono {A B : List Addr} (h : ∀ a ∈ A, a ∈ B) : ∀ {u : Value}, OkU A u → OkU B u := fun {u} x => by
  cases u with
  | ref a => exact h a x
  | none => trivial
  | bool b => trivial
  | int i t => trivial
  | str s t => trivial
  | bytes b t => trivial
  | _ => exact False.elim x
theorem relV_toV {A : List Addr} {u : Value} (x : OkU A u) : RelV (toV u) u := by
  cases u with
  | ref a => rfl
  | none => rfl
  | bool b => rfl
  | int i t => exact ⟨t, rfl⟩
  | str s t => exact ⟨t, rfl⟩
  | bytes b t => exact ⟨t, rfl⟩
  | _ => exact False.elim x
theorem vals_toV {A : List Addr} : ∀ {vs : List Value}, (∀ u ∈ vs, OkU A u) → Vals (vs.map toV) vs
  | [], _ => .nil
  | u :: r, h => .cons (relV_toV (h u (List.mem_cons_self ..))) (vals_toV fun x hx => h x (List.mem_cons_of_mem _ hx))
def ArgOb (h : Heap) (A : List Addr) (a : Addr) : Prop := ∃ vs : List Value, vs.length ≤ sizeLine ∧ (∀ u ∈ vs, OkU A u) ∧
  (h.get? a = some { cls := .type "list", data := .seq vs.toArray } ∨ h.get? a = some { cls := .type "tuple", data := .seq vs.toArray })
theorem ArgOb.mono {h : Heap} {A B : List Addr} {a : Addr} (k : ∀ a ∈ A, a ∈ B) (x : ArgOb h A a) : ArgOb h B a := by
  obtain ⟨vs, h1, h2, h3⟩ := x
  exact ⟨vs, h1, fun u hu => (h2 u hu).mono k, h3⟩
theorem wellAll_len {P : Params} {h : Heap} : ∀ {vs : List Value} {ds : List WData}, WellAll P h vs ds → vs.length = ds.length
  | _, _, .nil => rfl
  | _, _, .cons _ b => by
    show _ + 1 = _ + 1
    rw [wellAll_len b]
theorem well_list {P : Params} {h : Heap} {v : Value} {ds : List WData} (x : Well P h v (.list ds)) : ∃ (a : Addr) (vs : List Value), v = .ref a ∧ h.get? a = some { cls := .type "list", data := .seq vs.toArray } ∧ WellAll P h vs ds := by
  cases x with
  | list ho hall => exact ⟨_, _, rfl, ho, hall⟩
theorem well_tuple {P : Params} {h : Heap} {v : Value} {ds : List WData} (x : Well P h v (.tuple ds)) : ∃ (a : Addr) (vs : List Value), v = .ref a ∧ h.get? a = some { cls := .type "tuple", data := .seq vs.toArray } ∧ WellAll P h vs ds := by
  cases x with
  | tuple ho hall => exact ⟨_, _, rfl, ho, hall⟩
theorem well_cons {P : Params} {h : Heap} {us : List Value} {d : WData} {ds : List WData} (x : WellAll P h us (d :: ds)) : ∃ (v : Value) (vs : List Value), us = v :: vs ∧ Well P h v d ∧ WellAll P h vs ds := by
  cases x with
  | cons a b => exact ⟨_, _, rfl, a, b⟩
theorem line_of {n : Nat} (h : n ≤ 1048576) : n ≤ sizeLine := Nat.le_trans h (by decide)
section
variable {P : Params} {h : Heap}
mutual
theorem area_one : ∀ (d : WData) (v : Value), Well P h v d → plW d = true → d.weight ≤ 1048576 → ∃ A : List Addr, OkU A v ∧ ∀ a ∈ A, ArgOb h A a
  | .none, _, x, _, _ => by
    cases x
    exact ⟨[], trivial, fun a m => absurd m (by simp)⟩
  | .bool b, _, x, _, _ => by
    cases x
    exact ⟨[], trivial, fun a m => absurd m (by simp)⟩
  | .int i, _, x, _, _ => by
    cases x
    exact ⟨[], trivial, fun a m => absurd m (by simp)⟩
  | .str s, _, x, _, _ => by
    cases x
    exact ⟨[], trivial, fun a m => absurd m (by simp)⟩
  | .bytes b, _, x, _, _ => by
    cases x
    exact ⟨[], trivial, fun a m => absurd m (by simp)⟩
  | .list ds, _, x, p, z => by
    obtain ⟨a, vs, rfl, ho, hall⟩ := well_list x
    have z2 : WData.weightAll ds ≤ 1048576 := z
    obtain ⟨A, h1, h2⟩ := area_all ds _ hall p fun d hd => Nat.le_trans (weight_mem hd) z2
    have k : ∀ b ∈ A, b ∈ a :: A := fun b hb => List.mem_cons_of_mem _ hb
    refine ⟨a :: A, List.mem_cons_self .., fun b hb => ?_⟩
    rcases List.mem_cons.mp hb with e | m
    · rw [e]
      exact ⟨vs, line_of (by rw [wellAll_len hall]; exact Nat.le_trans (PySem.W.length_le_weightAllW ds) z2), fun u hu => (h1 u hu).mono k, .inl ho⟩
    · exact (h2 b m).mono k
  | .tuple ds, _, x, p, z => by
    obtain ⟨a, vs, rfl, ho, hall⟩ := well_tuple x
    have z2 : WData.weightAll ds ≤ 1048576 := z
    obtain ⟨A, h1, h2⟩ := area_all ds _ hall p fun d hd => Nat.le_trans (weight_mem hd) z2
    have k : ∀ b ∈ A, b ∈ a :: A := fun b hb => List.mem_cons_of_mem _ hb
    refine ⟨a :: A, List.mem_cons_self .., fun b hb => ?_⟩
    rcases List.mem_cons.mp hb with e | m
    · rw [e]
      exact ⟨vs, line_of (by rw [wellAll_len hall]; exact Nat.le_trans (PySem.W.length_le_weightAllW ds) z2), fun u hu => (h1 u hu).mono k, .inr ho⟩
    · exact (h2 b m).mono k
  | .float _, _, _, p, _ => Bool.noConfusion (show false = true from p)
  | .dict _, _, _, p, _ => Bool.noConfusion (show false = true from p)
  | .bytearray _, _, _, p, _ => Bool.noConfusion (show false = true from p)
  | .set _, _, _, p, _ => Bool.noConfusion (show false = true from p)
  | .frozenset _, _, _, p, _ => Bool.noConfusion (show false = true from p)
  | .obj _ _, _, _, p, _ => Bool.noConfusion (show false = true from p)
theorem area_all : ∀ (ds : List WData) (vs : List Value), WellAll P h vs ds → plWs ds = true → (∀ d ∈ ds, d.weight ≤ 1048576) → ∃ A : List Addr, (∀ u ∈ vs, OkU A u) ∧ ∀ a ∈ A, ArgOb h A a
  | [], _, x, _, _ => by
    cases x
    exact ⟨[], fun u m => absurd m (by simp), fun a m => absurd m (by simp)⟩
  | d :: ds, _, x, p, z => by
    obtain ⟨v, vs, rfl, x1, x2⟩ := well_cons x
    have q : plW d = true ∧ plWs ds = true := Bool.and_eq_true_iff.mp p
    obtain ⟨A, a1, a2⟩ := area_one d v x1 q.1 (z d (List.mem_cons_self ..))
    obtain ⟨B, b1, b2⟩ := area_all ds vs x2 q.2 fun e he => z e (List.mem_cons_of_mem _ he)
    have kA : ∀ b ∈ A, b ∈ A ++ B := fun b hb => List.mem_append.mpr (.inl hb)
    have kB : ∀ b ∈ B, b ∈ A ++ B := fun b hb => List.mem_append.mpr (.inr hb)
    refine ⟨A ++ B, fun u hu => ?_, fun b hb => ?_⟩
    · rcases List.mem_cons.mp hu with e | m
      · rw [e]
        exact a1.mono kA
      · exact (b1 u m).mono kB
    · rcases List.mem_append.mp hb with m | m
      · exact (a2 b m).mono kA
      · exact (b2 b m).mono kB
end
end
def hoOf (o : Obj) : Option HO := match o.data with
  | .seq vs _ => if (o.cls == Value.type "list") = true then some (.frz o (.lst (vs.toList.map toV))) else some (.frz o (.tup (vs.toList.map toV)))
  | _ => none
def argH (K : PySem.W.Frag) (h : Heap) (A : List Addr) : Hp := fun b => if b ∈ A then (if (K.lookup b).isNone = true then (h.get? b).bind hoOf else none) else none
def OnlyF (H : Hp) : Prop := ∀ b, H b = none ∨ ∃ o u, H b = some (.frz o u)
theorem hoOf_lst (vs : List Value) : hoOf { cls := .type "list", data := .seq vs.toArray } = some (.frz { cls := .type "list", data := .seq vs.toArray } (.lst (vs.map toV))) := by
  show (if (Value.type "list" == Value.type "list") = true then some (HO.frz { cls := .type "list", data := .seq vs.toArray } (.lst (vs.toArray.toList.map toV))) else some (HO.frz { cls := .type "list", data := .seq vs.toArray } (.tup (vs.toArray.toList.map toV)))) = _
  rw [if_pos (beq_self_eq_true _)]
theorem hoOf_tup (vs : List Value) : hoOf { cls := .type "tuple", data := .seq vs.toArray } = some (.frz { cls := .type "tuple", data := .seq vs.toArray } (.tup (vs.map toV))) := by
  show (if (Value.type "tuple" == Value.type "list") = true then some (HO.frz { cls := .type "tuple", data := .seq vs.toArray } (.lst (vs.toArray.toList.map toV))) else some (HO.frz { cls := .type "tuple", data := .seq vs.toArray } (.tup (vs.toArray.toList.map toV)))) = _
  rw [if_neg (by decide)]
section
variable {P : Program} {w : World} {K : PySem.W.Frag} {h : Heap} {A : List Addr}
theorem argH_at {b : Addr} {o : Obj} (hb : b ∈ A) (hk : K.lookup b = none) (e : h.get? b = some o) : argH K h A b = hoOf o := by
  unfold argH
  rw [if_pos hb, hk, if_pos (show (none : Option Obj).isNone = true from rfl), e] <;> rfl
theorem of_argH {b : Addr} {u : HO} (q : argH K h A b = some u) : b ∈ A ∧ K.lookup b = none := by
  unfold argH at q
  by_cases hb : b ∈ A
  · rw [if_pos hb] at q
    cases hk : K.lookup b with
    | none => exact ⟨hb, rfl⟩
    | some o =>
      rw [hk, if_neg (by simp)] at q
      cases q
  · rw [if_neg hb] at q
    cases q
theorem argH_is (ar : ∀ a ∈ A, ArgOb h A a) {b : Addr} {u : HO} (q : argH K h A b = some u) : K.lookup b = none ∧ ∃ vs : List Value, vs.length ≤ sizeLine ∧ (∀ u ∈ vs, OkU A u) ∧
    ((h.get? b = some { cls := .type "list", data := .seq vs.toArray } ∧ u = .frz { cls := .type "list", data := .seq vs.toArray } (.lst (vs.map toV))) ∨
     (h.get? b = some { cls := .type "tuple", data := .seq vs.toArray } ∧ u = .frz { cls := .type "tuple", data := .seq vs.toArray } (.tup (vs.map toV)))) := by
  obtain ⟨hb, hk⟩ := of_argH q
  obtain ⟨vs, h1, h2, h3⟩ := ar b hb
  refine ⟨hk, vs, h1, h2, ?_⟩
  rcases h3 with e | e
  · rw [argH_at hb hk e, hoOf_lst] at q
    exact .inl ⟨e, (Option.some.inj q).symm⟩
  · rw [argH_at hb hk e, hoOf_tup] at q
    exact .inr ⟨e, (Option.some.inj q).symm⟩
theorem argH_only (ar : ∀ a ∈ A, ArgOb h A a) : OnlyF (argH K h A) := fun b => by
  cases q : argH K h A b with
  | none => exact .inl rfl
  | some u =>
    obtain ⟨_, vs, _, _, ⟨_, e⟩ | ⟨_, e⟩⟩ := argH_is ar q
    · exact .inr ⟨_, _, by rw [e]⟩
    · exact .inr ⟨_, _, by rw [e]⟩
theorem argH_ok (ar : ∀ a ∈ A, ArgOb h A a) : HOk P w (argH K h A) h := fun b u q => by
  obtain ⟨_, vs, h1, h2, ⟨e, rfl⟩ | ⟨e, rfl⟩⟩ := argH_is ar q
  · exact ⟨e, by rw [List.length_map]; exact h1, vs, _, vals_toV h2, e⟩
  · exact ⟨e, by rw [List.length_map]; exact h1, vs, vals_toV h2, _, e, rfl, _, rfl⟩
theorem seq_inj {c c' : Value} {vs us : List Value} (e : (some { cls := c, data := .seq vs.toArray } : Option Obj) = some { cls := c', data := .seq us.toArray }) : c = c' ∧ vs = us := by
  have e1 := Option.some.inj e
  have e2 : c = c' := congrArg Obj.cls e1
  have e3 : Data.seq vs.toArray = Data.seq us.toArray := congrArg Obj.data e1
  injection e3 with e4
  refine ⟨e2, ?_⟩
  have e5 := congrArg Array.toList e4
  simpa using e5
theorem argL (KX : K.In h) (ar : ∀ a ∈ A, ArgOb h A a) {a : Addr} {vs : List Value} (ha : a ∈ A) (e : h.get? a = some { cls := .type "list", data := .seq vs.toArray }) : (∀ u ∈ vs, OkU A u) ∧ SqL K (argH K h A) a (vs.map toV) := by
  obtain ⟨us, h1, h2, h3⟩ := ar a ha
  have hu : us = vs := by
    rcases h3 with q | q
    · rw [e] at q
      exact (seq_inj q).2.symm
    · rw [e] at q
      exact absurd (Value.type.inj (seq_inj q).1) (by decide)
  subst hu
  refine ⟨h2, ?_⟩
  cases hk : K.lookup a with
  | none => exact .inl (.inr ⟨_, by rw [argH_at ha hk e, hoOf_lst]⟩)
  | some o =>
    have e2 := KX a o hk
    rw [e] at e2
    obtain rfl := Option.some.inj e2
    exact .inr ⟨_, us.toArray, _, hk, rfl, rfl, rfl, by rw [List.size_toArray]; exact h1, by simpa using vals_toV h2⟩
theorem argT (KX : K.In h) (ar : ∀ a ∈ A, ArgOb h A a) {a : Addr} {vs : List Value} (ha : a ∈ A) (e : h.get? a = some { cls := .type "tuple", data := .seq vs.toArray }) : (∀ u ∈ vs, OkU A u) ∧ SqT K (argH K h A) a (vs.map toV) := by
  obtain ⟨us, h1, h2, h3⟩ := ar a ha
  have hu : us = vs := by
    rcases h3 with q | q
    · rw [e] at q
      exact absurd (Value.type.inj (seq_inj q).1) (by decide)
    · rw [e] at q
      exact (seq_inj q).2.symm
  subst hu
  refine ⟨h2, ?_⟩
  cases hk : K.lookup a with
  | none => exact .inl (.inr ⟨_, by rw [argH_at ha hk e, hoOf_tup]⟩)
  | some o =>
    have e2 := KX a o hk
    rw [e] at e2
    obtain rfl := Option.some.inj e2
    exact .inr ⟨_, us.toArray, _, hk, rfl, rfl, by rw [List.size_toArray]; exact h1, by simpa using vals_toV h2⟩
mutual
theorem dw_one {Pm : Params} (KX : K.In h) (ar : ∀ a ∈ A, ArgOb h A a) : ∀ (d : WData) (v : Value), Well Pm h v d → plW d = true → OkU A v → Dw K (argH K h A) (toV v) d
  | .none, _, x, _, _ => by
    cases x
    exact .non
  | .bool b, _, x, _, _ => by
    cases x
    exact .bl b
  | .int i, _, x, _, _ => by
    cases x
    exact .int i
  | .str s, _, x, _, _ => by
    cases x
    exact .str s
  | .bytes b, _, x, _, _ => by
    cases x
    have z := Dw.byt (K := K) (H := argH K h A) b.toArray
    exact z
  | .list ds, _, x, p, hu => by
    obtain ⟨a, vs, rfl, ho, hall⟩ := well_list x
    obtain ⟨h2, hs⟩ := argL KX ar hu ho
    exact .lst hs (dw_all KX ar ds _ hall p h2)
  | .tuple ds, _, x, p, hu => by
    obtain ⟨a, vs, rfl, ho, hall⟩ := well_tuple x
    obtain ⟨h2, hs⟩ := argT KX ar hu ho
    exact .tup hs (dw_all KX ar ds _ hall p h2)
  | .float _, _, _, p, _ => Bool.noConfusion (show false = true from p)
  | .dict _, _, _, p, _ => Bool.noConfusion (show false = true from p)
  | .bytearray _, _, _, p, _ => Bool.noConfusion (show false = true from p)
  | .set _, _, _, p, _ => Bool.noConfusion (show false = true from p)
  | .frozenset _, _, _, p, _ => Bool.noConfusion (show false = true from p)
  | .obj _ _, _, _, p, _ => Bool.noConfusion (show false = true from p)
theorem dw_all {Pm : Params} (KX : K.In h) (ar : ∀ a ∈ A, ArgOb h A a) : ∀ (ds : List WData) (vs : List Value), WellAll Pm h vs ds → plWs ds = true → (∀ u ∈ vs, OkU A u) → DwAll K (argH K h A) (vs.map toV) ds
  | [], _, x, _, _ => by
    cases x
    exact .nil
  | d :: ds, _, x, p, hu => by
    obtain ⟨v, vs, rfl, x1, x2⟩ := well_cons x
    have q : plW d = true ∧ plWs ds = true := Bool.and_eq_true_iff.mp p
    exact .cons (dw_one KX ar d v x1 q.1 (hu _ (List.mem_cons_self ..))) (dw_all KX ar ds vs x2 q.2 fun u m => hu u (List.mem_cons_of_mem _ m))
end
end
theorem spec_call {P : Program} {w : World} {K : PySem.W.Frag} {mg mb : Str → Option Value} {CX : CXT} {k : Nat} {fa : Addr} {fd : FuncData} {ps : List Str} {sp : Sp} {s₁ : Shared} {vals : List Value} {ds : List WData} {R : PySem.W.WRecords} {cl : Str → Option Addr} {d0 : WData}
    (KX : K.In s₁.heap) (hns : s₁.heap.Ns mainGlobals mg) (hb : s₁.heap.Ns builtinsNs mb) (hbb : ∀ x : Str, x ≠ "__name__" → mb x = bootBuiltins x) (hlim : s₁.heap.NoLimit) (hg : s₁.gens = #[])
    (hwl : WellAll w.params s₁.heap vals ds) (hpl : plWs ds = true) (hwt : ∀ d ∈ ds, d.weight ≤ 1048576) (hr : Room k callerA)
    (F : ∀ base : Heap, K.In base → base.Ns mainGlobals mg → FnOk P w K mg base CX k fa fd ps sp) (hbind : ∀ (s : Shared) (us : List Value), us.length = ps.length → BindsTo s fd ⟨us, []⟩ (ps.zip us)) (hlen : ds.length = ps.length)
    (hsp : ∀ (H : Hp) (xs : List V), OnlyF H → DwAll K H xs ds → sp xs H (fun v H' => Dw K H' v d0) fun _ _ _ => False)
    (hCX : ∀ H e s', CX [] H s₁ (fun _ _ _ => False) e s' → False) :
    codeAny (model P w) callerA (.call (.ref fa) ⟨vals, []⟩) (fun r s' => ∃ u as, r = .ok (.ret u) ∧ ReadsW R cl s'.heap u d0 as ∧ OldK s₁.heap s'.heap ∧ s'.os = s₁.os ∧ AllBare s'.gens) s₁ := by
  obtain ⟨A, ho, ar⟩ := area_all ds vals hwl hpl hwt
  have hO : OnlyF (argH K s₁.heap A) := argH_only ar
  have hok : HOk P w (argH K s₁.heap A) s₁.heap := argH_ok ar
  have hS := dw_all KX ar ds vals hwl hpl ho
  have hV := vals_toV ho
  have hK : ∀ b u, argH K s₁.heap A b = some u → K.lookup b = none := fun b u q => (argH_is ar q).1
  have noA : ∀ {b : Addr} {o : Obj} {es : Array DictEntry} {ep : Nat}, s₁.heap.get? b = some o → o.data = .dict es ep → argH K s₁.heap A b = none := fun {b o es ep} e d => by
    cases q : argH K s₁.heap A b with
    | none => rfl
    | some u =>
      obtain ⟨_, vs, _, _, ⟨e2, _⟩ | ⟨e2, _⟩⟩ := argH_is ar q
      · rw [e2] at e
        cases e
        have d' : Data.seq vs.toArray _ = Data.dict es ep := d
        cases d'
      · rw [e2] at e
        cases e
        have d' : Data.seq vs.toArray _ = Data.dict es ep := d
        cases d'
  generalize argH K s₁.heap A = H at hO hok hS hK noA
  have base_of : ∀ {b : Addr} {o : Obj}, s₁.heap.get? b = some o → H b = none → (hidT s₁.heap H).get? b = some o := fun e n => hidT_get e n
  have nsK : ∀ {b : Addr} {m : Str → Option Value}, s₁.heap.Ns b m → (hidT s₁.heap H).Ns b m := fun {b m} ⟨o, es, ep, e, d, r⟩ => ⟨o, es, ep, base_of e (noA e d), d, r⟩
  have nK : ∀ b o, K.lookup b = some o → H b = none := fun b o e => by
    cases q : H b with
    | none => rfl
    | some u =>
      rw [hK b u q] at e
      cases e
  have hKb : K.In (hidT s₁.heap H) := fun b o e => base_of (KX b o e) (nK b o e)
  have hM : Mod K mg (hidT s₁.heap H) := ⟨hKb, nsK hns, ⟨mb, nsK hb, hbb⟩, let ⟨mc, h1, h2⟩ := hlim; ⟨mc, nsK h1, h2⟩⟩
  have e0 : Env0 P w K mg (hidT s₁.heap H) callerA [] s₁ H := ⟨rfl, hM, fun b o e => of_hidT e, Nat.le_of_eq (hidT_size _ _), trivial, fun b hb => absurd (show b ∈ ([] : List Addr) from hb) (by simp), hok, .of_eq hg⟩
  have hl : vals.length = ps.length := by rw [wellAll_len hwl]; exact hlen
  refine codeAny_mono ((F _ hKb (nsK hns)).run callerA [] s₁ H ⟨vals, []⟩ vals (vals.map toV) _ _ hr e0 (hbind s₁ vals hl) hV (hsp H _ hO hS)) fun r s' x => ?_
  cases r with
  | error e => exact (hCX H e s' x).elim
  | ok fl =>
    cases fl with
    | next => exact False.elim x
    | brk => exact False.elim x
    | cont => exact False.elim x
    | ret u =>
      obtain ⟨v, H', os, bare, un, hok', r', q⟩ := x
      have kept : ∀ b o, s₁.heap.get? b = some o → s'.heap.get? b = some o := fun b o e => by
        cases q2 : H b with
        | none => exact un.keep b o e q2 (by intro z; exact absurd (show b ∈ ([] : List Addr) from z) (by simp)) (by simp)
        | some u2 =>
          rcases hO b with z | ⟨ob, u3, z⟩
          · rw [q2] at z
            cases z
          · have z2 := un.frzs b ob _ z
            obtain ⟨e1, _⟩ := hok b _ z
            obtain ⟨e2, _⟩ := hok' b _ z2
            rw [e] at e1
            cases e1
            exact e2
      have KX' : K.In s'.heap := fun b o e => kept b o (KX b o e)
      obtain ⟨as, hrd⟩ := Dw.reads (R := R) (cl := cl) hok' KX' d0 v u q r'
      exact ⟨u, as, rfl, hrd, OldK.of_keep kept, os, bare⟩
theorem layable_weight {ds : List WData} (h : WData.layableAll ds = true) : ∀ d ∈ ds, d.weight ≤ 1048576 := fun d hd =>
  (PySem.W.layableW_iff.mp (List.all_eq_true.mp h d hd)).2.2
theorem encAll_len : ∀ (cs : List Codec) (a : Codec.denoteAll cs), (Codec.encAll cs a).length = cs.length
  | [], _ => rfl
  | c :: cs, a => by
    show (Codec.encAll cs a.2).length + 1 = cs.length + 1
    rw [encAll_len cs a.2]
theorem walk_spec {r : OpenSpec} {k : Nat} {q : Program} {loose : List Str} {XP : (Str → Option Value) → Heap → Prop} {YP : World → Heap → Prop} {d : DefRec} {K : Params → PySem.W.Frag} {CX : World → CXT} {ps : List Str} {sp : World → Sp}
    (hwell : r.wellSaid = true) (hdf : d.params.defaults = []) (hlen : r.args.length = ps.length) (hr : Room k callerA)
    (hY : ∀ (w : World) (h : Heap), YP w h → (K w.params).In h)
    (F : ∀ (w : World) (mg : Str → Option Value) (fa : Addr) (h : Heap), YP w h → (K w.params).In h → h.Ns mainGlobals mg → mg d.name = some (.ref fa) →
      ∃ fd : FuncData, (∀ (s : Shared) (us : List Value), us.length = ps.length → BindsTo s fd ⟨us, []⟩ (ps.zip us)) ∧
        ∀ base : Heap, (K w.params).In base → base.Ns mainGlobals mg → FnOk r.prog w (K w.params) mg base (CX w) k fa fd ps (sp w))
    (hsp : ∀ (w : World) (H : Hp) (xs : List V) (a : Codec.denoteAll r.args), OnlyF H → Codec.withinAll r.args a = true → Codec.app r.args r.asked a = true → DwAll (K w.params) H xs (Codec.encAll r.args a) →
      sp w xs H (fun v H' => Dw (K w.params) H' v (r.ret.enc (Codec.app r.args r.f a))) fun _ _ _ => False)
    (hCX : ∀ (w : World) (H : Hp) (s : Shared) (e : Value) (s' : Shared), CX w [] H s (fun _ _ _ => False) e s' → False) :
    PySem.W.WalkOS q loose XP YP r d [] (fun f vs => PySem.call f vs) := by
  intro w s_0 s₁ mg mb G Y fa o pm cd doc dV kV ho hd hcd hD hmg hg args vals as hpre hlay hrd hwl hlo
  obtain ⟨a, e1, e2⟩ := PySem.W.os_pre_some hpre
  obtain ⟨e3, hwi⟩ := Codec.encAll_of_decAll r.args args a e1
  subst e3
  have KX := hY w _ Y
  obtain ⟨fd, hb, hF⟩ := F w mg fa _ Y KX G.T.g hmg
  refine PySem.W.enter_call (codeAny_mono (spec_call (R := []) (cl := classAt s_0.heap) (d0 := r.ret.enc (Codec.app r.args r.f a)) KX G.T.g G.T.b G.T.builtins G.T.nolimit hg hwl (pl_encAll _ _) (layable_weight hlay) hr hF hb (by rw [encAll_len]; exact hlen)
    (fun H xs hO hS => hsp w H xs a hO hwi e2 hS) fun H e s' => hCX w H s₁ e s') fun r' s' hq => ?_)
  obtain ⟨u, as', rfl, h1, h2, h3, h4⟩ := hq
  exact ⟨.inl ⟨u, _, as', rfl, fun _ => rfl, h1, (OpenSpec.post_iff hwell hwi _ _).mpr rfl, fun z => Bool.noConfusion (show false = true from z)⟩, h2, h3, h4⟩
theorem walk_specK {r : OpenSpec} {k : Nat} {q : Program} {loose : List Str} {XP : (Str → Option Value) → Heap → Prop} {YP : World → Heap → Prop} {d : DefRec} {K : Params → PySem.W.Frag} {CX : CXT} {ps : List Str} {sp : PySem.W.Frag → Sp}
    (hwell : r.wellSaid = true) (hdf : d.params.defaults = []) (hlen : r.args.length = ps.length) (hr : Room k callerA)
    (hY : ∀ (w : World) (h : Heap), YP w h → (K w.params).In h)
    (F : ∀ (w : World) (mg : Str → Option Value) (fa : Addr) (h : Heap), YP w h → (K w.params).In h → h.Ns mainGlobals mg → mg d.name = some (.ref fa) →
      ∃ fd : FuncData, (∀ (s : Shared) (us : List Value), us.length = ps.length → BindsTo s fd ⟨us, []⟩ (ps.zip us)) ∧
        ∀ base : Heap, (K w.params).In base → base.Ns mainGlobals mg → FnOk r.prog w (K w.params) mg base CX k fa fd ps (sp (K w.params)))
    (hsp : ∀ (K : PySem.W.Frag) (H : Hp) (xs : List V) (a : Codec.denoteAll r.args), OnlyF H → Codec.withinAll r.args a = true → Codec.app r.args r.asked a = true → DwAll K H xs (Codec.encAll r.args a) →
      sp K xs H (fun v H' => Dw K H' v (r.ret.enc (Codec.app r.args r.f a))) fun _ _ _ => False)
    (hCX : ∀ (H : Hp) (s : Shared) (e : Value) (s' : Shared), CX [] H s (fun _ _ _ => False) e s' → False) :
    PySem.W.WalkOS q loose XP YP r d [] (fun f vs => PySem.call f vs) :=
  walk_spec (K := K) (CX := fun _ => CX) (sp := fun w => sp (K w.params)) hwell hdf hlen hr hY F (fun w H xs a h1 h2 h3 h4 => hsp (K w.params) H xs a h1 h2 h3 h4) fun _ H s e s' => hCX H s e s'
end L2
end
set_option Elab.async false
set_option linter.all false
set_option maxRecDepth 100000
set_option maxHeartbeats 4000000
namespace Bw
open PySem PySem.Spec PyProof.Rows L2
abbrev iv (n : Nat) : V := V.int (n : Int)
def nv (l : List Nat) : List V := l.map iv
theorem nv_length (l : List Nat) : (nv l).length = l.length := List.length_map ..
theorem nv_get {l : List Nat} {i : Nat} {v : V} (h : (nv l)[i]? = some v) : ∃ n, l[i]? = some n ∧ v = iv n := by
  unfold nv at h
  rw [List.getElem?_map] at h
  cases e : l[i]? with
  | none => rw [e] at h; cases h
  | some n => rw [e] at h; exact ⟨n, rfl, (Option.some.inj h).symm⟩
theorem nv_at {l : List Nat} {i n : Nat} (h : l[i]? = some n) : (nv l)[i]? = some (iv n) := by
  unfold nv
  rw [List.getElem?_map, h]
  rfl
theorem nv_append (l m : List Nat) : nv (l ++ m) = nv l ++ nv m := List.map_append ..
theorem nv_cut (l : List Nat) (a b : Option Int) : cutV (nv l) a b = nv ((l.drop (HT.sIx l.length 0 a)).take (HT.sIx l.length l.length b - HT.sIx l.length 0 a)) := by
  unfold cutV nv
  rw [List.length_map, List.map_take, List.map_drop]
theorem cut_nat (l : List Nat) (a b : Nat) (hab : a ≤ b) : cutV (nv l) (some (a : Int)) (some (b : Int)) = nv ((l.drop a).take (b - a)) := by
  rw [nv_cut, HT.sIx_nat, HT.sIx_nat]
  congr 1
  by_cases h : a ≤ l.length
  · rw [Nat.min_eq_left h]
    by_cases h2 : b ≤ l.length
    · rw [Nat.min_eq_left h2]
    · rw [Nat.min_eq_right (by omega), List.take_of_length_le (by rw [List.length_drop]; omega), List.take_of_length_le (by rw [List.length_drop]; omega)]
  · rw [Nat.min_eq_right (show l.length ≤ a by omega), Nat.min_eq_right (show l.length ≤ b by omega), List.drop_of_length_le (Nat.le_refl _), List.drop_of_length_le (show l.length ≤ a by omega), List.take_nil, List.take_nil]
theorem cut_from (l : List Nat) (a : Nat) : cutV (nv l) (some (a : Int)) none = nv (l.drop a) := by
  rw [nv_cut, HT.sIx_nat, HT.sIx_none]
  congr 1
  by_cases h : a ≤ l.length
  · rw [Nat.min_eq_left h, List.take_of_length_le (by rw [List.length_drop]; omega)]
  · rw [Nat.min_eq_right (by omega), List.drop_of_length_le (Nat.le_refl _), List.drop_of_length_le (by omega), List.take_nil]
theorem ceq {a b : Int} (h : a = b) : V.int a = V.int b := by rw [h]
theorem dec_cast {a b : Nat} : decide ((a : Int) ≤ (b : Int)) = decide (a ≤ b) := by
  by_cases h : a ≤ b
  · rw [decide_eq_true h, decide_eq_true (by omega)]
  · rw [decide_eq_false h, decide_eq_false (by omega)]
theorem size100 {n : Nat} (h : n ≤ 100000) : n < sizeLine := Nat.lt_of_le_of_lt h (by decide)
theorem iteNeq {x y : V} {A B : Prop} (h : ¬ x = y) (a : A) : if (!decide (x = y)) = true then A else B := by
  rw [decide_eq_false h]
  exact a
theorem iteEq {x y : V} {A B : Prop} (h : x = y) (a : A) : if decide (x = y) = true then A else B := by
  rw [decide_eq_true h]
  exact a
theorem iteEqN {x y : V} {A B : Prop} (h : ¬ x = y) (b : B) : if decide (x = y) = true then A else B := by
  rw [decide_eq_false h]
  exact b
theorem iv_ne {n : Int} {m : Int} (h : ¬ n = m) : ¬ V.int n = V.int m := fun z => h (by injection z)
theorem ref_non {a : Addr} : ¬ V.ref a = V.non := fun z => V.noConfusion z
def GI (mg : Str → Option Value) (x : Str) (i : Int) : Prop := ∃ t, mg x = some (Value.int i t)
theorem pe_gi {X : Cx} {x : Str} {i : Int} {pos : Pos} (h : GI X.mg x i) (hg : Gl X x := by rfl) (hd : (x == ("__debug__" : Str)) = false := by decide) : PE X (.Name x pos) (tC (.int i)) := by
  obtain ⟨t, e⟩ := h
  exact pe_glob hg e ⟨t, rfl⟩ hd
structure Cal (P : Program) (w : World) (K : PySem.W.Frag) (mg : Str → Option Value) (base : Heap) (x : Str) (ps : List Str) (k : Nat) (sp : Sp) : Prop where
  ex : ∃ (f : Addr) (fd : FuncData), FnOk P w K mg base CX0 k f fd ps sp ∧ mg x = some (.ref f) ∧ PySem.W.keepIn K (.ref f) = true ∧ Binds K fd ps []
structure MCal (P : Program) (w : World) (K : PySem.W.Frag) (mg : Str → Option Value) (base : Heap) (C : Addr) (m : Str) (ps : List Str) (k : Nat) (sp : Sp) : Prop where
  ex : ∃ (f : Addr) (fd : FuncData), FnOk P w K mg base CX0 k f fd ps sp ∧ Meth K C m f ∧ Binds K fd ps []
structure Mke (P : Program) (w : World) (K : PySem.W.Frag) (mg : Str → Option Value) (base : Heap) (x : Str) (C : Addr) (ps : List Str) (k : Nat) (sp : Sp) : Prop where
  ex : ∃ (f : Addr) (fd : FuncData), Mk K C f ∧ FnOk P w K mg base CX0 k f fd ps sp ∧ mg x = some (.ref C) ∧ Binds K fd ps []
section
variable {X : Cx} {x m : Str} {ps : List Str} {k : Nat} {sp : Sp} {C : Addr} {e o : Expr} {es : List Expr} {p pos apos : Pos} {t : TA} {ta : TE}
theorem pe_cal (c : Cal X.prog X.w X.K X.mg X.base x ps k sp) (hr : Room k X.A) (ha : PA X (e :: es) t) (hg : Gl X x := by rfl)
    (hdb : (x == ("__debug__" : Str)) = false := by decide) (he : starEach (e :: es) X.env = (false, eval e X.env) :: starEach es X.env := by rfl) (hpl : (backTo pos (starEach es X.env)).any (·.1) = false := by rfl) :
    PE X (.Call (.Name x p) (e :: es) [] pos) (tCall sp [] E0 t) := by
  obtain ⟨f, fd, F, hm, hk, hb⟩ := c.ex
  exact pe_call F hr hg hm hk hb .nil pass0 ha hdb he hpl
theorem pe_mcal {pl : Sem Bool} (he : PE X o ta) (c : Cls X.K C) (mc : MCal X.prog X.w X.K X.mg X.base C m ps k sp) (hr : Room k X.A) (ha : PA X (e :: es) t)
    (hst : starEach (e :: es) X.env = (false, eval e X.env) :: starEach es X.env := by rfl) (hpl : (backTo pos (starEach es X.env)).any (·.1) = false := by rfl)
    (ht : eval (.Call (.Attribute o m apos) (e :: es) [] pos) X.env = (do
      let ov ← eval o X.env
      standAt apos.atName
      let (f, first) ← holding [ov] (getMethod ov m pl)
      callWith pos f first (backTo pos (starEach (e :: es) X.env)) (backToKw pos (keywordEach [] X.env))) := by rfl) :
    PE X (.Call (.Attribute o m apos) (e :: es) [] pos) (tMeth C m sp [] E0 ta t) := by
  obtain ⟨f, fd, F, hm, hb⟩ := mc.ex
  exact pe_meth he c hm F hr hb .nil pass0 ha hst hpl ht
theorem pe_mcal0 {pl : Sem Bool} (he : PE X o ta) (c : Cls X.K C) (mc : MCal X.prog X.w X.K X.mg X.base C m ps k sp) (hr : Room k X.A)
    (ht : eval (.Call (.Attribute o m apos) [] [] pos) X.env = (do
      let ov ← eval o X.env
      standAt apos.atName
      let (f, first) ← holding [ov] (getMethod ov m pl)
      callWith pos f first (backTo pos (starEach [] X.env)) (backToKw pos (keywordEach [] X.env))) := by rfl) :
    PE X (.Call (.Attribute o m apos) [] [] pos) (tMeth C m sp [] E0 ta tNil) := by
  obtain ⟨f, fd, F, hm, hb⟩ := mc.ex
  exact pe_meth0 he c hm F hr hb .nil pass0 ht
theorem pe_mke (c : Mke X.prog X.w X.K X.mg X.base x C ps k sp) (hr : Room (k + 1) X.A) (ha : PA X (e :: es) t) (hg : Gl X x := by rfl)
    (hdb : (x == ("__debug__" : Str)) = false := by decide) (he : starEach (e :: es) X.env = (false, eval e X.env) :: starEach es X.env := by rfl) (hpl : (backTo pos (starEach es X.env)).any (·.1) = false := by rfl) :
    PE X (.Call (.Name x p) (e :: es) [] pos) (tMake C sp [] E0 t) := by
  obtain ⟨f, fd, M, F, hm, hb⟩ := c.ex
  exact pe_make M F hr hg hm hb .nil pass0 ha hdb he hpl
theorem pe_mke0 (c : Mke X.prog X.w X.K X.mg X.base x C ps k sp) (hr : Room (k + 1) X.A) (hg : Gl X x := by rfl) (hdb : (x == ("__debug__" : Str)) = false := by decide) :
    PE X (.Call (.Name x p) [] [] pos) (tMake C sp [] E0 tNil) := by
  obtain ⟨f, fd, M, F, hm, hb⟩ := c.ex
  exact pe_make0 M F hr hg hm hb .nil pass0 hdb
theorem pe_app (ho : PE X o ta) (ha : PA X [e] t) (hbase : attributeBase o "append" X.env (eval o X.env) = eval o X.env := by rfl)
    (hfew : ((backTo pos (starEach [e] X.env)).all (fun x => !x.1) && (backToKw pos (keywordEach [] X.env)).all (fun x => x.1.isSome)
      && decide ([e].length + ([] : List Keyword).length + (if ([] : List Keyword).isEmpty then 0 else 1) < 30)) = true := by rfl)
    (hline : (apos.endLine == pos.line) = true := by rfl) (hs : starEach [e] X.env = (false, eval e X.env) :: starEach [] X.env := by rfl) (hplain : (backTo pos (starEach [] X.env)).any (·.1) = false := by rfl) :
    PE X (.Call (.Attribute o "append" apos) [e] [] pos) (tBM X.K "list" rAppend ta t) :=
  pe_bm PySem.F.plainAttrs_list PySem.F.slot_list_append PySem.F.type_list_append mt_append ho ha hbase hfew hline hs hplain
end
theorem same_new {H H' : Hp} {q : Addr} {o : HO} (s : Same H H') (hq : H' q = Option.none) : Same H (upd H' q o) := fun b u e => by
  rw [upd_ne (ne_of_none (s b u e) hq)]
  exact s b u e
theorem same_upd {H H' : Hp} {q : Addr} {o : HO} (s : Same H H') (hq : H q = Option.none) : Same H (upd H' q o) := fun b u e => by
  rw [upd_ne (ne_of_none e hq)]
  exact s b u e
theorem Same.tup {K : PySem.W.Frag} {H H' : Hp} {a : Addr} {xs : List V} (e : Same H H') (h : SqT K H a xs) : SqT K H' a xs := by
  rcases h with (h | ⟨o, h⟩) | h
  · exact .inl (.inl (e _ _ h))
  · exact .inl (.inr ⟨o, e _ _ h⟩)
  · exact .inr h
end Bw
set_option Elab.async false
set_option linter.all false
set_option maxRecDepth 100000
set_option maxHeartbeats 4000000
namespace Bw
open PySem PySem.Spec PyProof.Rows L2
section
variable {prog : Program} {w : World} {K : Type} [DecidableEq K]
def withoutH (xs : List (K × Addr × Value)) (k : K) : List (K × Addr × Value) := xs.filter fun x => decide (x.1 ≠ k)
theorem withoutH_not {xs : List (K × Addr × Value)} {k : K} (h : k ∉ xs.map (·.1)) : withoutH xs k = xs := by
  unfold withoutH
  rw [List.filter_eq_self]
  intro x hx
  exact decide_eq_true fun e => h (List.mem_map.mpr ⟨x, hx, e⟩)
theorem eraseH {β : Type} (f : K × Addr × Value → β) {k : K} : ∀ {xs : List (K × Addr × Value)} {j : Nat} {p : Addr × Value}, (xs.map (·.1)).Nodup → xs[j]? = some (k, p) → (xs.map f).eraseIdx j = (withoutH xs k).map f
  | [], j, p, _, h => by simp at h
  | x :: r, 0, p, hn, h => by
    rw [List.map_cons, List.nodup_cons] at hn
    simp only [List.getElem?_cons_zero, Option.some.injEq] at h
    subst h
    have e : withoutH ((k, p) :: r) k = withoutH r k := by simp [withoutH]
    rw [e, withoutH_not hn.1]
    rfl
  | x :: r, j + 1, p, hn, h => by
    rw [List.map_cons, List.nodup_cons] at hn
    simp only [List.getElem?_cons_succ] at h
    have hm : k ∈ r.map (·.1) := List.mem_map.mpr ⟨(k, p), List.mem_of_getElem? h, rfl⟩
    have hne : ¬ x.1 = k := fun e => hn.1 (e ▸ hm)
    have e : withoutH (x :: r) k = x :: withoutH r k := by simp [withoutH, hne]
    rw [e, List.map_cons, List.map_cons, List.eraseIdx_cons_succ, eraseH f hn.2 h]
theorem withoutH_nodup {xs : List (K × Addr × Value)} {k : K} (h : (xs.map (·.1)).Nodup) : ((withoutH xs k).map (·.1)).Nodup :=
  h.sublist (List.Sublist.map _ (List.filter_sublist ..))
theorem withoutH_sub {xs : List (K × Addr × Value)} {k : K} {x : K × Addr × Value} (h : x ∈ withoutH xs k) : x ∈ xs := (List.mem_filter.mp h).1
variable {knd : HeapKind prog w K} {A : Around} {E : Value → Shared → Prop} {s : Shared}
theorem takeOutH {d a : Addr} {xs : List (K × Addr × Value)} {k : K} {p : Addr × Value} {Q : Option DictEntry → Shared → Prop} (hu : knd.room A) (hkey : knd.is s.heap k a) (hm : s.heap.DictOfH knd d xs) (hp : atKey xs k = some p)
    (hsz : xs.length ≤ sizeLine) (hQ : ∀ h', h'.DictOfH knd d (withoutH xs k) → Heap.SameBut d s.heap h' → Q (some (entryOfKey knd (k, p))) { s with heap := h', toks := s.toks + knd.draws k }) :
    wpAny (model prog w) A (Builtin.Dict.takeOut d (.ref a)) Q E s := by
  obtain ⟨o, es, ep, ho, hc, hd, he, his, hn⟩ := hm
  unfold Builtin.Dict.takeOut
  try with_reducible refine wpAny_holding ?_
  refine wpAny_bind (knd.pyHash hu hkey ?_)
  refine wpAny_bind (wpAny_dictFind_heap (s := { s with toks := s.toks + knd.draws k }) hu hkey ho hd he his hn ?_ ?_)
  · intro hno
    rw [atKey_none_of_get hno] at hp
    cases hp
  · intro j q hj
    have e := atKey_of_get hn hj
    rw [hp] at e
    cases e
    refine wpAny_bind (wpAny_dictEntries (s := { s with toks := s.toks + knd.draws k }) ho hd ?_)
    rw [entry_at he j, hj]
    refine wpAny_bind (wpAny_updateDictKeys (hz := by have e := size_of_entries he; omega) (s := { s with toks := s.toks + knd.draws k }) ho hd (wpAny_pure (hQ _ ⟨_, _, ep + 1, Heap.get?_update_self _ ho (Obj.isFreed_of_dict (Obj.data_mapDictKeys hd _)),
      hc.mapDictKeys _, Obj.data_mapDictKeys hd _, ?_, ?_, withoutH_nodup hn⟩ (Heap.SameBut.update ..))))
    · have := eraseH (entryOfKey knd) hn hj
      rw [← he] at this
      obtain ⟨l⟩ := es
      simpa using this
    · intro x hx
      exact knd.keeps (his x (withoutH_sub hx)) ho hd (Heap.SameBut.update ..)
theorem meetsH_pop (knd : HeapKind prog w K) (d a : Addr) :
    MeetsIn prog w (Builtin.«dict.pop» ⟨[.ref d, .ref a], []⟩) (fun A R s => knd.room A.in1 ∧ ∃ k xs p, knd.is s.heap k a ∧ s.heap.DictOfH knd d xs ∧ xs.length ≤ sizeLine ∧ atKey xs k = some p ∧
      ∀ h', h'.DictOfH knd d (withoutH xs k) → Heap.SameBut d s.heap h' → R (.ok (.ret p.2)) { s with heap := h', toks := s.toks + knd.draws k }) :=
  .of_wp fun A R s ⟨hu, k, xs, p, hkey, hm, hsz, hp, h⟩ => by
    unfold Builtin.«dict.pop»
    refine wpAny_bind ?_
    unfold Builtin.Dict.keyAndDefault
    refine wpAny_bind (wpAny_notOrdered_dict hm.typeIs ?_)
    show wpAny _ _ (pure (d, Value.ref a, none)) _ _ s
    refine wpAny_pure ?_
    have hpart : (keyPart (Value.ref a)).isSome = false := rfl
    simp only [hpart, Bool.false_eq_true, if_false]
    obtain ⟨o, es, ep, ho, hc, hd, he, his, hn⟩ := id hm
    refine wpAny_bind (wpAny_dictEntries ho hd (wpAny_bind (wpAny_pure ?_)))
    have hne : es.isEmpty = false := by
      cases hxs : xs with
      | nil => rw [hxs] at hp; cases hp
      | cons x r =>
        have e := size_of_entries he
        rw [hxs, List.length_cons] at e
        rw [Array.isEmpty_eq_false_iff]
        intro z
        rw [z] at e
        simp at e
    rw [hne]
    simp only [Bool.false_eq_true, if_false]
    refine wpAny_bind (takeOutH hu hkey hm hp hsz fun h' hm' hs' => ?_)
    simp only [Option.isNone_some, Bool.false_eq_true, if_false]
    exact wpAny_bind (wpAny_letGo (wpAny_pure ⟨p.2, rfl, h h' hm' hs'⟩))
theorem setDefaultH {d a : Addr} {xs : List (K × Addr × Value)} {k : K} {dflt : Value} {Q : Value → Shared → Prop} (hu : knd.room A) (hkey : knd.is s.heap k a) (hm : s.heap.DictOfH knd d xs) (hsz : xs.length ≤ sizeLine)
    (hthere : ∀ p, atKey xs k = some p → Q p.2 { s with toks := s.toks + knd.draws k })
    (hnew : atKey xs k = none → ∀ h', h'.DictOfH knd d (storedH xs k a dflt) → Heap.SameBut d s.heap h' → Q dflt { s with heap := h', toks := s.toks + knd.draws k }) :
    wpAny (model prog w) A (dictSetDefault d (.ref a) dflt) Q E s := by
  obtain ⟨o, es, ep, ho, hc, hd, he, his, hn⟩ := hm
  unfold dictSetDefault
  try with_reducible refine wpAny_holding ?_
  refine wpAny_bind (knd.pyHash hu hkey ?_)
  refine wpAny_bind (wpAny_dictFind_heap (s := { s with toks := s.toks + knd.draws k }) hu hkey ho hd he his hn ?_ ?_)
  · intro hno
    have hnot : k ∉ xs.map (·.1) := not_mem_keys_of_get hno
    refine wpAny_bind (wpAny_rule (wpAny_bind (wpAny_updateDictKeys (hz := by have e := size_of_entries he; omega) (s := { s with toks := s.toks + knd.draws k }) ho hd (wpAny_pure (hnew (atKey_none_of_get hno) _ ⟨_, _, ep + 1, Heap.get?_update_self _ ho (Obj.isFreed_of_dict (Obj.data_mapDictKeys hd _)),
      hc.mapDictKeys _, Obj.data_mapDictKeys hd _, ?_, ?_, ?_⟩ (Heap.SameBut.update ..))))))
    · rw [storedH_new (atKey_none_of_get hno)]
      simp [he, entryOfKey]
    · rw [storedH_new (atKey_none_of_get hno)]
      intro x hx
      rcases List.mem_append.mp hx with hx | hx
      · exact knd.keeps (his x hx) ho hd (Heap.SameBut.update ..)
      · simp only [List.mem_singleton] at hx
        subst hx
        exact knd.keeps hkey ho hd (Heap.SameBut.update ..)
    · rw [storedH_new (atKey_none_of_get hno)]
      rw [List.map_append, List.nodup_append]
      refine ⟨hn, by simp, ?_⟩
      intro x hx y hy
      simp only [List.map_cons, List.map_nil, List.mem_singleton] at hy
      subst hy
      exact fun e => hnot (e ▸ hx)
  · intro j p hj
    refine wpAny_bind (wpAny_dictEntries (s := { s with toks := s.toks + knd.draws k }) ho hd ?_)
    rw [entry_at he j, hj]
    exact wpAny_bind (wpAny_rule (wpAny_pure (hthere p (atKey_of_get hn hj))))
theorem meetsH_setdefault (knd : HeapKind prog w K) (d a : Addr) (hd : (d == sysModules) = false) (dflt : Value) :
    MeetsIn prog w (Builtin.«dict.setdefault» ⟨[.ref d, .ref a, dflt], []⟩) (fun A R s => knd.room A.in1 ∧ ∃ k xs, knd.is s.heap k a ∧ s.heap.DictOfH knd d xs ∧ xs.length ≤ sizeLine ∧
      (∀ p, atKey xs k = some p → R (.ok (.ret p.2)) { s with toks := s.toks + knd.draws k }) ∧
      (atKey xs k = none → ∀ h', h'.DictOfH knd d (storedH xs k a dflt) → Heap.SameBut d s.heap h' → R (.ok (.ret dflt)) { s with heap := h', toks := s.toks + knd.draws k })) :=
  .of_wp fun A R s ⟨hu, k, xs, hkey, hm, hsz, h1, h2⟩ => by
    unfold Builtin.«dict.setdefault»
    refine wpAny_bind ?_
    unfold Builtin.Dict.keyAndDefault
    refine wpAny_bind (wpAny_notOrdered_dict hm.typeIs ?_)
    show wpAny _ _ (pure (d, Value.ref a, some dflt)) _ _ s
    refine wpAny_pure ?_
    show wpAny _ _ (if (d == sysModules) = true then _ else (dictSetDefault d (.ref a) dflt >>= _)) _ _ s
    rw [if_neg (by rw [hd]; exact Bool.false_ne_true)]
    exact wpAny_bind (setDefaultH hu hkey hm hsz (fun p hp => wpAny_pure ⟨p.2, rfl, h1 p hp⟩) fun hn h' hm' hs' => wpAny_pure ⟨dflt, rfl, h2 hn h' hm' hs'⟩)
end
theorem KT.drop {H : Hp} {kvs : List (List Key × V)} {xs : List (List Key × Addr × Value)} (r : KT H kvs xs) (k : List Key) : KT H (dropK kvs k) (withoutH xs k) := by
  unfold dropK withoutH
  induction r with
  | nil => exact .nil
  | @cons p q ps qs h t ih =>
    obtain ⟨h1, h2⟩ := h
    rw [List.filter_cons, List.filter_cons]
    by_cases e : p.1 = k
    · have a : ¬ decide (p.1 ≠ k) = true := by simp [e]
      have b : ¬ decide (q.1 ≠ k) = true := by simp [h1.symm.trans e]
      rw [if_neg a, if_neg b]; exact ih
    · have e' : ¬ q.1 = k := fun z => e (h1.trans z)
      have a : decide (p.1 ≠ k) = true := by simp [e]
      have b : decide (q.1 ≠ k) = true := by simp [e']
      rw [if_pos a, if_pos b]; exact .cons ⟨h1, h2⟩ ih
section
variable {X : Cx} {pins : List (Addr × Obj)} {σ : L2.St} {H : Hp} {s : Shared} {a b : Addr} {kvs : List (List Key × V)} {k : List Key} {A : Around} {E : Value → Shared → Prop}
theorem atKey_of {xs : List (List Key × Addr × Value)} {v : V} (rel : KT H kvs xs) (l : valV kvs k = some v) : ∃ p, atKey xs k = some p ∧ RelV v p.2 := by
  obtain ⟨w', hw, rw'⟩ := RelO.some_of (v := v) (o := (atKey xs k).map (·.2)) (by rw [← l]; exact rel.val k)
  obtain ⟨p, hp, rfl⟩ := Option.map_eq_some_iff.mp hw
  exact ⟨p, hp, rw'⟩
theorem d_popT {v : V} {Q : Value → Shared → Prop} (hu : A.units + 1 < cLine) (I : Inv X pins σ H s) (e : H a = some (.dT kvs)) (eb : H b = some (.tup (k.map kV))) (l : valV kvs k = some v)
    (h : ∀ w' s', Inv X pins σ (upd H a (.dT (dropK kvs k))) s' → RelV v w' → Q w' s') : wpAny (model X.prog X.w) A (call (.builtin "dict.pop") [.ref a, .ref b]) Q E s := by
  obtain ⟨z, hd, xs, rel, dd⟩ := dt_of I.hok e
  obtain ⟨p, hp, rp⟩ := atKey_of rel l
  refine call_meetsIn PySem.F.slot_dict_pop dd.typeIs PySem.F.entry_dict_pop (PySem.F.args_dict_pop_2 _ _) (meetsH_pop (tupleKind (mixKind X.prog X.w)) a b)
    ⟨tupleKind_room_in1 hu, k, xs, p, key_of I.hok eb, dd, by rw [← Paired.length rel]; exact z, hp, fun h' dd' hs => h _ _ ?_ rp⟩
  obtain ⟨q, es, ep, hq, h2, h3, h4, _, h5⟩ := dd'
  refine d_write I (by rw [e]; exact True.intro) hs ⟨q, hq⟩ ⟨Nat.le_trans (dropK_le kvs k) z, hd, _, ((KT.drop rel k).keeps fun c ys ec => ?_), q, es, ep, hq, h2, h3, h4, h5⟩
  rw [upd_ne (ne_of ec e (fun z => nomatch z))]
  exact ec
theorem d_setT {v : V} {u : Value} {Q : Value → Shared → Prop} (hu : A.units + 1 < cLine) (I : Inv X pins σ H s) (e : H a = some (.dT kvs)) (eb : H b = some (.tup (k.map kV))) (rv : RelV v u) (hl : kvs.length < sizeLine)
    (h1 : ∀ y w' s', valV kvs k = some y → Inv X pins σ H s' → RelV y w' → Q w' s') (h2 : valV kvs k = none → ∀ s', Inv X pins σ (upd H a (.dT (putK kvs k v))) s' → Q u s') :
    wpAny (model X.prog X.w) A (call (.builtin "dict.setdefault") [.ref a, .ref b, u]) Q E s := by
  obtain ⟨z, hd, xs, rel, dd⟩ := dt_of I.hok e
  have hv := rel.val k
  refine call_meetsIn PySem.F.slot_dict_setdefault dd.typeIs PySem.F.entry_dict_setdefault (PySem.F.args_dict_setdefault_3 _ _ _) (meetsH_setdefault (tupleKind (mixKind X.prog X.w)) a b hd u)
    ⟨tupleKind_room_in1 hu, k, xs, key_of I.hok eb, dd, by rw [← Paired.length rel]; exact z, fun p hp => ?_, fun hn h' dd' hs => ?_⟩
  · cases l : valV kvs k with
    | none => rw [l, hp] at hv; exact (show False from hv).elim
    | some y =>
      rw [l, hp] at hv
      exact h1 y _ _ l (I.tok _) hv
  · have l : valV kvs k = none := by
      cases l : valV kvs k with
      | none => rfl
      | some y => rw [l, hn] at hv; exact (show False from hv).elim
    refine h2 l _ ?_
    obtain ⟨q, es, ep, hq, g2, g3, g4, _, g5⟩ := dd'
    have hl' : (putK kvs k v).length ≤ sizeLine := by have := length_putK kvs k v; omega
    refine d_write I (by rw [e]; exact True.intro) hs ⟨q, hq⟩ ⟨hl', hd, _, (rel.put k eb rv).keeps fun c ys ec => ?_, q, es, ep, hq, g2, g3, g4, g5⟩
    rw [upd_ne (ne_of ec e (fun z => nomatch z))]
    exact ec
end
section
variable {X : Cx} {o e f : Expr} {apos cpos : Pos} {td ty tx : TE}
end
end Bw
set_option Elab.async false
set_option linter.all false
set_option maxRecDepth 100000
set_option maxHeartbeats 4000000
namespace Bw
open PySem PySem.Spec PyProof.Rows L2
section
variable {prog : Program} {w : World} {K : Type} [DecidableEq K] {knd : HeapKind prog w K} {A : Around} {E : Value → Shared → Prop} {s : Shared}
theorem meetsH_len (knd : HeapKind prog w K) (d : Addr) (hd : (d == sysModules) = false) :
    MeetsIn prog w (Builtin.«dict.__len__» ⟨[.ref d], []⟩) (fun _ R s => ∃ xs, s.heap.DictOfH knd d xs ∧ R (.ok (.ret (.int xs.length s.toks))) { s with toks := s.toks + 1 }) :=
  .of_wp fun A R s ⟨xs, hm, h⟩ => by
    obtain ⟨o, es, ep, ho, hc, hdat, he, his, hn⟩ := hm
    show wpAny _ _ (dictSize d >>= _) _ _ s
    unfold dictSize
    refine wpAny_bind (wpAny_bind (wpAny_dictEntries ho hdat (wpAny_pure ?_)))
    show wpAny _ _ (Builtin.Dict.pendingCount d >>= _) _ _ s
    refine wpAny_bind (wpAny_pendingCount_other hd ?_)
    refine wpAny_ret_mkInt ?_
    have : es.size = xs.length := size_of_entries he
    rw [Nat.add_zero, this]; exact h
theorem call_lenH {d : Addr} {xs : List (K × Addr × Value)} {Q : Value → Shared → Prop} (hd : (d == sysModules) = false) (hm : s.heap.DictOfH knd d xs) (hfit : (xs.length : Int) < 2 ^ 63)
    (h : Q (.int xs.length (s.toks + 1)) { s with toks := s.toks + 1 + 1 }) : wpAny (model prog w) A (call (.builtin "len") [.ref d]) Q E s := by
  refine Calls.call_function_entry kind_len plain_len entry_len (args_len1 _) ?_
  unfold Builtin.«len»
  refine wpAny_bind (m := oneArg "len" _) (wpAny_pure ?_)
  refine wpAny_bind (m := callSpecial? (.ref d) (Str.ofString "__len__")) (wpAny_callSpecial?_slot (name := Str.ofString "__len__") hm.typeIs F.slot_dict_len
    (call_meetsIn F.slot_dict_len hm.typeIs F.entry_dict_len (F.args_dict_len_1 _) (meetsH_len knd d hd) ⟨xs, hm, ?_⟩))
  show wpAny _ _ _ _ _ { s with toks := s.toks + 1 }
  refine wpAny_bind (wpAny_holding (wpAny_pure ?_))
  refine wpAny_bind (wpAny_letGo ?_)
  show wpAny _ _ (if ((xs.length : Nat) : Int) < 0 then _ else _) _ _ _
  rw [if_neg (by omega)]
  show wpAny _ _ (if ((xs.length : Nat) : Int) ≥ 2 ^ 63 then _ else _) _ _ _
  rw [if_neg (by omega)]
  exact wpAny_bind (wpAny_mkInt (wpAny_pure ⟨_, rfl, h⟩))
end
theorem call_lenT {X : Cx} : CallR X (.builtin "len") (fun xs H Q => ∃ a kvs, xs = [V.ref a] ∧ H a = some (.dT kvs) ∧ Q (.int kvs.length) H) := by
  intro pins s σ H xs us Q I r h
  obtain ⟨a, kvs, rfl, ha, q⟩ := h
  obtain ⟨u, rfl, ru⟩ := vals1 r
  cases ru
  obtain ⟨z, hd, xs, rel, dd⟩ := dt_of I.hok ha
  have hl : kvs.length = xs.length := Paired.length rel
  refine call_lenH hd dd (by rw [sizeLine_eq] at z; omega) ⟨.int kvs.length, H, I.tok _, ⟨_, by rw [hl]⟩, q⟩
section
variable {prog : Program} {w : World} {A : Around} {E : Value → Shared → Prop} {s : Shared}
abbrev PKey : Type := Int × List Key
def PairK (prog : Program) (w : World) (h : Heap) (k : PKey) (a : Addr) : Prop :=
  ∃ o items n t c, h.get? a = some o ∧ o.cls = .type "tuple" ∧ o.data = .seq items n ∧ items.toList = [Value.int k.1 t, .ref c] ∧ IsTupleKey (mixKind prog w) h k.2 c
theorem PairK.typeIs {k : PKey} {a : Addr} (x : PairK prog w s.heap k a) : s.TypeIs (.ref a) "tuple" := let ⟨o, _, _, _, _, ho, hc, _⟩ := x; ⟨o, ho, hc⟩
theorem PairK.inj {h : Heap} {a : Addr} {x y : PKey} (hx : PairK prog w h x a) (hy : PairK prog w h y a) : x = y := by
  obtain ⟨o, items, n, t, c, ho, _, hd, hi, hc⟩ := hx
  obtain ⟨o', items', n', t', c', ho', _, hd', hi', hc'⟩ := hy
  obtain rfl : o = o' := Option.some.inj (ho.symm.trans ho')
  rw [hd] at hd'
  injection hd' with h1 _
  subst h1
  rw [hi] at hi'
  injection hi' with e1 e2
  injection e1 with e1 _
  injection e2 with e2 _
  injection e2 with e2
  subst e2
  exact Prod.ext e1 (hc.inj hc')
theorem PairK.keeps {h h' : Heap} {k : PKey} {a d : Addr} {o : Obj} {es ep} (x : PairK prog w h k a) (ho : h.get? d = some o) (hd : o.data = .dict es ep) (hs : Heap.SameBut d h h') : PairK prog w h' k a := by
  obtain ⟨o', items, n, t, c, ho', hc, hd', hi, hk⟩ := x
  have hne : a ≠ d := by
    rintro rfl
    obtain rfl : o' = o := Option.some.inj (ho'.symm.trans ho)
    rw [hd] at hd'; exact nomatch hd'
  exact ⟨o', items, n, t, c, (hs.2 a hne).trans ho', hc, hd', hi, hk.keeps ho hd hs⟩
def pairHash (w : World) (prog : Program) (k : PKey) : Int := reduceHash (Builtin.Tuple.tupleHashOf [hashInt k.1, tupleKeyHash (mixKind prog w) k.2])
theorem hash_pair {k : PKey} {a : Addr} {Q : Int → Shared → Prop} (hu : A.units + 8 < cLine) (hk : PairK prog w s.heap k a) (h : Q (pairHash w prog k) { s with toks := s.toks + (k.2.length + 3) }) :
    wpAny (model prog w) A (pyHash (.ref a)) Q E s := by
  have hT := hk.typeIs
  obtain ⟨o, items, n, t, c, ho, _, hd, hi, hc⟩ := hk
  unfold pyHash
  first | unfold pyHashByItsType | skip
  first | refine wpAny_bind (wpAny_cRoomFor_or (.inr (by omega)) ?_) | skip
  refine wpAny_bind (wpAny_specialOf hT F.slot_tuple_hash.lookup ?_)
  show wpAny _ _ (if (some (Value.builtin "tuple.__hash__") == some Value.none) = true then _ else _) Q E s
  rw [if_neg (by rw [beq_builtin_none]; exact Bool.false_ne_true)]
  refine wpAny_bind (wpAny_specialOf hT F.slot_tuple_hash.lookup ?_)
  show wpAny _ _ (callSpecialIfBoundUnlessNone? (.ref a) "__hash__" _ >>= _) Q E s
  refine wpAny_bind (wpAny_callSpecialIfBoundUnlessNone?_slot hT F.slot_tuple_hash (wpAny_call_entry F.slot_tuple_hash hT F.entry_tuple_hash ?_ (F.args_tuple_hash_1 _)))
  show wpAny _ _ (Builtin.Tuple.tupleItemsOf (.ref a) >>= _) _ _ s
  refine wpAny_bind (wpAny_tupleItemsOf ho hd ?_)
  refine wpAny_bind ?_
  rw [← Array.forIn_toList, hi]
  refine wpAny_forIn_list _
    (fun rest (b : Array Int) s' => (rest = [Value.int k.1 t, .ref c] ∧ b.toList = [] ∧ s' = s) ∨ (rest = [Value.ref c] ∧ b.toList = [hashInt k.1] ∧ s' = { s with toks := s.toks + 1 }) ∨
      (rest = [] ∧ b.toList = [hashInt k.1, tupleKeyHash (mixKind prog w) k.2] ∧ s' = { s with toks := s.toks + (k.2.length + 2) }))
    _ ?_ ?_ _ _ (.inl ⟨rfl, rfl, rfl⟩)
  · rintro x rest b s' (⟨e, hb, rfl⟩ | ⟨e, hb, rfl⟩ | ⟨e, _, _⟩)
    · injection e with e1 e2
      subst e1 e2
      refine wpAny_bind (wpAny_pyHash_int ?_)
      first
        | exact wpAny_pure (.inr (.inl ⟨rfl, by simp [hb], rfl⟩))
        | exact wpAny_bind (wpAny_pure (wpAny_pure (.inr (.inl ⟨rfl, by simp [hb], rfl⟩))))
    · injection e with e1 e2
      subst e1 e2
      refine wpAny_bind (wpAny_pyHash_tuple (s := { s with toks := s.toks + 1 }) (by show A.units + 1 < cLine; omega) hc ?_)
      first
        | exact wpAny_pure (.inr (.inr ⟨rfl, by simp [hb], by simp [Nat.add_assoc, Nat.add_comm, Nat.add_left_comm]⟩))
        | exact wpAny_bind (wpAny_pure (wpAny_pure (.inr (.inr ⟨rfl, by simp [hb], by simp [Nat.add_assoc, Nat.add_comm, Nat.add_left_comm]⟩))))
    · cases e
  · rintro b s' (⟨e, _, _⟩ | ⟨e, _, _⟩ | ⟨_, hb, rfl⟩)
    · cases e
    · cases e
    show wpAny _ _ (retInt (Builtin.Tuple.tupleHashOf b.toList)) _ _ _
    rw [hb]
    refine wpAny_ret_mkInt ?_
    show wpAny _ _ (if (decide (-(2 : Int) ^ 63 ≤ Builtin.Tuple.tupleHashOf [hashInt k.1, tupleKeyHash (mixKind prog w) k.2]) && decide (Builtin.Tuple.tupleHashOf [hashInt k.1, tupleKeyHash (mixKind prog w) k.2] < 2 ^ 63)) = true then _ else _) Q E _
    unfold pairHash reduceHash at h
    by_cases hr : (decide (-(2 : Int) ^ 63 ≤ Builtin.Tuple.tupleHashOf [hashInt k.1, tupleKeyHash (mixKind prog w) k.2]) && decide (Builtin.Tuple.tupleHashOf [hashInt k.1, tupleKeyHash (mixKind prog w) k.2] < 2 ^ 63)) = true
    · rw [if_pos hr]
      rw [if_pos hr] at h
      exact wpAny_pure (by simpa [Nat.add_assoc] using h)
    · rw [if_neg hr]
      rw [if_neg hr] at h
      exact wpAny_bind (wpAny_rule (wpAny_pure (by simpa [Nat.add_assoc] using h)))
theorem pair_dec {x y : PKey} (h : x.1 = y.1) : decide (x = y) = decide (x.2 = y.2) := by
  by_cases e : x.2 = y.2
  · rw [decide_eq_true e, decide_eq_true (Prod.ext h e)]
  · rw [decide_eq_false e, decide_eq_false fun z => e (by rw [z])]
theorem pair_eq_tree {x y : PKey} {a b : Addr} {P : Fin → Shared → Prop} (hu : A.units < cLine) (hx : PairK prog w s.heap x a) (hy : PairK prog w s.heap y b) (h : P (.done (.ret (.bool (decide (x = y))))) s) :
    wpAny (model prog w) A (Builtin.«tuple.__eq__» ⟨[.ref a, .ref b], []⟩) P E s := by
  have hTb := hy.typeIs
  obtain ⟨oa, xs, na, t, c, hoa, _, hda, hia, hca⟩ := hx
  obtain ⟨ob, ys, nb, u, d, hob, _, hdb, hib, hcb⟩ := hy
  have z1 : xs.size = 2 := by rw [← Array.length_toList, hia]; rfl
  have z2 : ys.size = 2 := by rw [← Array.length_toList, hib]; rfl
  show wpAny _ _ (isInstance (.ref b) (.type "tuple") >>= _) _ _ s
  refine wpAny_bind (wpAny_isInstance hTb isSubtype_tuple_tuple ?_)
  simp only [Bool.not_true, Bool.false_eq_true, if_false]
  refine wpAny_bind (wpAny_tupleItemsOf hoa hda ?_)
  refine wpAny_bind (wpAny_tupleItemsOf hob hdb ?_)
  refine wpAny_bind ?_
  rw [hia, hib]
  refine wpAny_forIn_list _
    (fun rest r s' => r.1 = none ∧ s' = s ∧ ((rest = [(Value.int x.1 t, Value.int y.1 u), (Value.ref c, Value.ref d)]) ∨ (rest = [(Value.ref c, Value.ref d)] ∧ x.1 = y.1) ∨ (rest = [] ∧ x = y)))
    _ ?_ ?_ _ _ ⟨rfl, rfl, .inl rfl⟩
  · rintro ⟨p, q⟩ rest r s' ⟨hr, rfl, (e | ⟨e, hk⟩ | ⟨e, _⟩)⟩
    · injection e with e1 e2
      injection e1 with e1 e3
      subst e1 e2 e3
      refine wpAny_bind ((mixKind prog w).eqBool (a := Sum.inl x.1) (b := Sum.inl y.1) (mixKind_int prog w _ _) (mixKind_int prog w _ _) ?_)
      by_cases hk : x.1 = y.1
      · rw [decide_eq_true (show (Sum.inl x.1 : Key) = Sum.inl y.1 by rw [hk])]
        simp only [Bool.not_true, Bool.false_eq_true, if_false]
        exact wpAny_pure ⟨rfl, rfl, .inr (.inl ⟨(by first | rfl | trivial), hk⟩)⟩
      · rw [decide_eq_false (show ¬ (Sum.inl x.1 : Key) = Sum.inl y.1 from fun z => hk (Sum.inl.inj z))]
        simp only [Bool.not_false, if_true]
        have hf : decide (x = y) = false := decide_eq_false fun z => hk (by rw [z])
        rw [hf] at h
        exact wpAny_bind (wpAny_pure (wpAny_pure (wpAny_pure h)))
    · injection e with e1 e2
      injection e1 with e1 e3
      subst e1 e2 e3
      refine wpAny_bind (wpAny_eqBool_tuple hu hca hcb ?_)
      rw [← pair_dec hk]
      by_cases hxy : x = y
      · rw [decide_eq_true hxy]
        simp only [Bool.not_true, Bool.false_eq_true, if_false]
        exact wpAny_pure ⟨rfl, rfl, .inr (.inr ⟨(by first | rfl | trivial), hxy⟩)⟩
      · rw [decide_eq_false hxy]
        simp only [Bool.not_false, if_true]
        rw [decide_eq_false hxy] at h
        exact wpAny_bind (wpAny_pure (wpAny_pure (wpAny_pure h)))
    · cases e
  · rintro ⟨r1, r2⟩ s' ⟨hr, rfl, (e | ⟨e, _⟩ | ⟨_, hxy⟩)⟩
    · cases e
    · cases e
    simp only at hr
    subst hr
    refine wpAny_pure ?_
    show P (.done (.ret (.bool (xs.size == ys.size)))) s'
    rw [z1, z2]
    rw [decide_eq_true hxy] at h
    exact h
theorem eqBool_pair {x y : PKey} {a b : Addr} {Q : Bool → Shared → Prop} (hu : A.units + 8 < cLine) (hx : PairK prog w s.heap x a) (hy : PairK prog w s.heap y b) (h : Q (decide (x = y)) s) :
    wpAny (model prog w) A (eqBool (.ref a) (.ref b)) Q E s := by
  unfold eqBool
  try with_reducible refine wpAny_holding ?_
  show wpAny _ _ (if (Value.ref a == Value.ref b) = true then _ else _) Q E s
  by_cases hab : (Value.ref a == Value.ref b) = true
  · rw [if_pos hab]
    have e : a = b := by have := eq_of_beq hab; injection this
    subst e
    obtain rfl := hx.inj hy
    exact wpAny_bind (wpAny_rule (wpAny_pure (by simpa using h)))
  · rw [if_neg hab]
    exact wpAny_bind (wpAny_richCompare_same_room (op := .Eq) hx.typeIs hy.typeIs F.slot_tuple_eq
      (wpAny_call_entry F.slot_tuple_eq hx.typeIs F.entry_tuple_eq (pair_eq_tree (by show A.units + 1 < cLine; omega) hx hy ⟨_, rfl, (fun e => nomatch e), wpAny_truthy_bool h⟩) (F.args_tuple_eq_2 _ _)) (by omega))
theorem quiet_n {K : Type} [DecidableEq K] {knd : PySem.KeyKind prog w K} (m : Nat) {ks : List K} {a : Addr} {Q : Bool → Shared → Prop} (hk : IsTupleKey knd s.heap ks a) (h : Q true s) : wpAny (model prog w) A (eqIsQuiet (m + 1) (.ref a)) Q E s := by
  have hT := hk.typeIs
  obtain ⟨o, items, n, ho, _, hd, hi⟩ := hk
  unfold eqIsQuiet
  refine wpAny_bind (wpAny_specialOf hT F.slot_tuple_eq.lookup ?_)
  show wpAny _ _ (isInstance (.ref a) (.type "tuple") >>= _) _ _ s
  refine wpAny_bind (wpAny_isInstance hT isSubtype_tuple_tuple ?_)
  simp only [Bool.not_true, Bool.false_eq_true, if_false]
  refine wpAny_bind (wpAny_seqItems ho hd ?_)
  refine wpAny_bind ?_
  show wpAny _ _ (forIn items _ _) _ _ s
  rw [← Array.forIn_toList]
  refine wpAny_forIn_list _ (fun rest r s' => r.1 = none ∧ s' = s ∧ ∀ v ∈ rest, carriedByValue v = true) _ ?_ ?_ _ _ ⟨rfl, rfl, hi.byValue⟩
  · rintro v rest r s' ⟨hr, rfl, hall⟩
    rw [eqIsQuiet_byValue _ (hall v List.mem_cons_self)]
    refine wpAny_bind (wpAny_pure ?_)
    simp only [Bool.not_true, Bool.false_eq_true, if_false]
    exact wpAny_pure ⟨rfl, rfl, fun u hu' => hall u (List.mem_cons_of_mem _ hu')⟩
  · rintro ⟨r1, r2⟩ s' ⟨hr, rfl, _⟩
    simp only at hr
    subst hr
    exact wpAny_pure h
theorem quiet_pair {k : PKey} {a : Addr} {Q : Bool → Shared → Prop} (hk : PairK prog w s.heap k a) (h : Q true s) : wpAny (model prog w) A (eqIsQuiet 8 (.ref a)) Q E s := by
  have hT := hk.typeIs
  obtain ⟨o, items, n, t, c, ho, _, hd, hi, hc⟩ := hk
  unfold eqIsQuiet
  refine wpAny_bind (wpAny_specialOf hT F.slot_tuple_eq.lookup ?_)
  show wpAny _ _ (isInstance (.ref a) (.type "tuple") >>= _) _ _ s
  refine wpAny_bind (wpAny_isInstance hT isSubtype_tuple_tuple ?_)
  simp only [Bool.not_true, Bool.false_eq_true, if_false]
  refine wpAny_bind (wpAny_seqItems ho hd ?_)
  refine wpAny_bind ?_
  show wpAny _ _ (forIn items _ _) _ _ s
  rw [← Array.forIn_toList, hi]
  refine wpAny_forIn_list _ (fun rest r s' => r.1 = none ∧ s' = s ∧ (rest = [Value.int k.1 t, .ref c] ∨ rest = [Value.ref c] ∨ rest = [])) _ ?_ ?_ _ _ ⟨rfl, rfl, .inl rfl⟩
  · rintro v rest r s' ⟨hr, rfl, (e | e | e)⟩
    · injection e with e1 e2
      subst e1 e2
      rw [eqIsQuiet_byValue _ (show carriedByValue (Value.int k.1 t) = true from rfl)]
      refine wpAny_bind (wpAny_pure ?_)
      simp only [Bool.not_true, Bool.false_eq_true, if_false]
      exact wpAny_pure ⟨rfl, rfl, .inr (.inl (by first | rfl | trivial))⟩
    · injection e with e1 e2
      subst e1 e2
      refine wpAny_bind (quiet_n 6 hc ?_)
      simp only [Bool.not_true, Bool.false_eq_true, if_false]
      exact wpAny_pure ⟨rfl, rfl, .inr (.inr (by first | rfl | trivial))⟩
    · cases e
  · rintro ⟨r1, r2⟩ s' ⟨hr, rfl, _⟩
    simp only at hr
    subst hr
    exact wpAny_pure h
end
def pairKind (prog : Program) (w : World) : HeapKind prog w PKey where
  is := PairK prog w
  hash := pairHash w prog
  draws := fun k => k.2.length + 3
  room := fun A => A.units + 8 < cLine
  inj := fun hx hy => hx.inj hy
  keeps := fun x ho hd hs => x.keeps ho hd hs
  pyHash := fun hu hk h => hash_pair hu hk h
  eqBool := fun hu hx hy h => eqBool_pair hu hx hy h
  quiet := fun hk h => quiet_pair hk h
abbrev PEs := List (PKey × Addr × Value)
def dictRaw (prog : Program) (w : World) (a : Addr) (xs : PEs) (h : Heap) : Prop := (a == sysModules) = false ∧ ∃ o es ep, h.get? a = some o ∧ o.ExactDict ∧ o.data = .dict es ep ∧ es.toList = xs.map (entryOfKey (pairKind prog w)) ∧ (xs.map (·.1)).Nodup
def PDict (prog : Program) (w : World) (a : Addr) (xs : PEs) : HO := .ext (dictRaw prog w a xs)
def PairAt (H : Hp) (k : PKey) (b : Addr) : Prop := ∃ c, H b = some (.tup [V.int k.1, V.ref c]) ∧ H c = some (.tup (k.2.map kV))
theorem dictRaw.stay {prog : Program} {w : World} {a : Addr} {xs : PEs} {h1 h2 : Heap} (x : dictRaw prog w a xs h1) (k : ∀ o, h1.get? a = some o → h2.get? a = some o) : dictRaw prog w a xs h2 := by
  obtain ⟨z, o, es, ep, e, r⟩ := x
  exact ⟨z, o, es, ep, k o e, r⟩
section
variable {X : Cx} {pins : List (Addr × Obj)} {σ : L2.St} {H : Hp} {s : Shared} {a b : Addr} {xs : PEs} {k : PKey} {A : Around} {E : Value → Shared → Prop}
theorem pair_of (I : Inv X pins σ H s) (e : PairAt H k b) : PairK X.prog X.w s.heap k b := by
  obtain ⟨c, h1, h2⟩ := e
  obtain ⟨_, its, r, o, g1, g2, n, g3⟩ := (show ObjOk X.prog X.w H s.heap b (.tup [V.int k.1, V.ref c]) from I.hok b _ h1)
  cases r with
  | cons r1 r2 =>
    cases r2 with
    | cons r2 r3 =>
      cases r3
      obtain ⟨t, rfl⟩ := r1
      cases (show _ = Value.ref c from r2)
      exact ⟨o, _, n, t, c, g1, g2, g3, by simp, key_of I.hok h2⟩
theorem pdict_of (I : Inv X pins σ H s) (e : H a = some (PDict X.prog X.w a xs)) (hk : ∀ x ∈ xs, PairAt H x.1 x.2.1) : (a == sysModules) = false ∧ s.heap.DictOfH (pairKind X.prog X.w) a xs := by
  obtain ⟨⟨z, o, es, ep, h1, h2, h3, h4, h5⟩, _, _⟩ := (show ObjOk X.prog X.w H s.heap a (PDict X.prog X.w a xs) from I.hok a _ e)
  exact ⟨z, o, es, ep, h1, h2, h3, h4, fun x hx => pair_of I (hk x hx), h5⟩
theorem pd_in {Q : Value → Shared → Prop} (hu : A.units + 9 < cLine) (I : Inv X pins σ H s) (e : H a = some (PDict X.prog X.w a xs)) (hk : ∀ x ∈ xs, PairAt H x.1 x.2.1) (eb : PairAt H k b) (h : ∀ s', Inv X pins σ H s' → Q (.bool (atKey xs k).isSome) s') :
    wpAny (model X.prog X.w) A (compareOp .In (.ref b) (.ref a)) Q E s := by
  obtain ⟨hd, dd⟩ := pdict_of I e hk
  exact wpAny_in_heap (knd := pairKind X.prog X.w) (show A.units + 1 + 8 < cLine by omega) (pair_of I eb) hd dd (h _ (I.tok _))
theorem pd_put {v : Value} {Q : Unit → Shared → Prop} (hu : A.units + 9 < cLine) (I : Inv X pins σ H s) (e : H a = some (PDict X.prog X.w a xs)) (hk : ∀ x ∈ xs, PairAt H x.1 x.2.1) (eb : PairAt H k b) (hz : xs.length ≤ sizeLine) (hn : atKey xs k = none)
    (h : ∀ s', Inv X pins σ (upd H a (PDict X.prog X.w a (xs ++ [(k, b, v)]))) s' → Q () s') :
    wpAny (model X.prog X.w) A (setItem (.ref a) (.ref b) v) Q E s := by
  obtain ⟨hd, dd⟩ := pdict_of I e hk
  refine wpAny_setItem_heap (knd := pairKind X.prog X.w) (hsz := hz) (show A.units + 1 + 8 < cLine by omega) (pair_of I eb) dd fun h' dd' hs => h _ ?_
  rw [storedH_new hn] at dd'
  obtain ⟨q, es, ep, hq, h2, h3, h4, _, h5⟩ := dd'
  exact d_write I (by rw [e]; exact True.intro) hs ⟨q, hq⟩ ⟨⟨hd, q, es, ep, hq, h2, h3, h4, h5⟩, ⟨q, hq⟩, fun _ _ x k => x.stay k⟩
end
def tPIn (P : Program) (w : World) (ty td : TE) : TE := fun σ H Q => ty σ H fun y H1 => td σ H1 fun x H2 => ∃ a b xs k, x = .ref a ∧ y = .ref b ∧ H2 a = some (PDict P w a xs) ∧ (∀ x ∈ xs, PairAt H2 x.1 x.2.1) ∧ PairAt H2 k b ∧ Q (.bl (atKey xs k).isSome) H2
def sPPut (P : Program) (w : World) (td ty tv : TE) : TS := fun D σ H => tv σ H fun v H1 => td σ H1 fun x H2 => ty σ H2 fun y H3 => ∃ a b xs k, x = .ref a ∧ y = .ref b ∧ H3 a = some (PDict P w a xs) ∧ (∀ x ∈ xs, PairAt H3 x.1 x.2.1) ∧ PairAt H3 k b ∧
  xs.length ≤ sizeLine ∧ atKey xs k = none ∧ ∀ u, D.nx σ (upd H3 a (PDict P w a (xs ++ [(k, b, u)])))
def tPNew (P : Program) (w : World) : TE := fun _ H Q => ∀ p, H p = none → Q (.ref p) (upd H p (PDict P w p []))
section
variable {X : Cx} {o i e value : Expr} {pos pos' tpos : Pos} {td ty tv : TE}
theorem pc_pin (hu : X.A.units + 9 < cLine) (hi : PE X i ty) (ho : PE X o td) : PC X .In i o (tPIn X.prog X.w ty td) := by
  intro pins s σ H Q I h
  refine thn (hi pins s σ H _ I h) fun iv s1 ⟨y, H1, I1, ry, q1⟩ => thn (ho pins s1 σ H1 _ I1 q1) fun u s2 ⟨x, H2, I2, rx, a, b, xs, k, ex, ey, ea, hk, eb, q2⟩ => ?_
  subst ex ey
  obtain rfl : u = Value.ref a := rx
  obtain rfl : iv = Value.ref b := ry
  exact pd_in hu I2 ea hk eb fun s3 I3 => ⟨.bl _, H2, I3, rfl, q2⟩
theorem ps_pput (hu : X.A.units + 9 < cLine) (ho : PE X o td) (hi : PE X i ty) (hv : PE X value tv) (hs : swapsWith value (some (.Subscript o i pos')) pos.line X.env = pure false) :
    PS X (.Assign [.Subscript o i pos'] value pos) (sPPut X.prog X.w td ty tv) := by
  intro pins s σ H D I h
  refine wpAny_Assign_Subscript (thn (hv pins s σ H _ I h) fun r s1 ⟨v, H1, I1, rv, q1⟩ => thn (ho pins s1 σ H1 _ I1 q1) fun u s2 ⟨x, H2, I2, rx, q2⟩ => thn (hi pins s2 σ H2 _ I2 q2) fun iv s3 ⟨y, H3, I3, ry, a, b, xs, k, ex, ey, ea, hk, eb, hz, hn, q3⟩ => ?_) hs
  subst ex ey
  obtain rfl : u = Value.ref a := rx
  obtain rfl : iv = Value.ref b := ry
  exact pd_put hu I3 ea hk eb hz hn fun s4 I4 => ⟨σ, _, I4, q3 r⟩
theorem pe_pnew : PE X (.Dict [] [] pos) (tPNew X.prog X.w) := fun pins s σ H Q I h =>
  wpAny_Dict_empty ⟨.ref s.heap.objs.size, _, I.laid (a := s.heap.objs.size) (o := PDict X.prog X.w s.heap.objs.size []) (t' := s.toks) (fun _ _ q => Heap.get?_push_of_some _ q) (Nat.le_refl _)
    ⟨⟨beq_eq_false_iff_ne.mpr (Ne.symm (Nat.ne_of_lt I.big)), _, #[], 0, Heap.get?_push_size _ rfl, ⟨rfl, rfl, rfl⟩, rfl, rfl, List.nodup_nil⟩, ⟨_, Heap.get?_push_size _ rfl⟩, fun _ _ x k => x.stay k⟩, rfl, h _ (I.hok.fresh (Nat.le_refl _))⟩
end
end Bw
set_option Elab.async false
set_option linter.all false
set_option maxRecDepth 100000
set_option maxHeartbeats 4000000
namespace Bw
open PySem PySem.Spec PyProof.Rows L2
section
variable {prog : Program} {w : World} {A : Around} {E : Value → Shared → Prop} {s : Shared}
theorem cut_whole {t c : Addr} {us : Array Value} {vl vu : Value} {lo hi : Option Int} {Q : Value → Shared → Prop} (ht : IsTup s.heap t us) (hs : s.heap.IsSliceOf c vl vu .none) (pl : IsPart vl lo) (pu : IsPart vu hi)
    (hw : HT.sIx us.size 0 lo = 0 ∧ HT.sIx us.size us.size hi = us.size) (h : Q (.ref t) s) : wpAny (model prog w) A (getItem (.ref t) (.ref c)) Q E s := by
  obtain ⟨oc, g1, g2, g3⟩ := id hs
  have hTs : s.TypeIs (.ref c) "slice" := ⟨oc, g1, g2⟩
  unfold getItem
  try with_reducible refine wpAny_holding ?_
  first | refine wpAny_bind (wpAny_pure ?_) | skip
  refine wpAny_bind (wpAny_sequenceKey ht.typeIs (by decide) ?_)
  refine wpAny_bind (wpAny_callSpecial?_slot (name := Str.ofString "__getitem__") ht.typeIs PyProof.Rows.slot_tuple_getitem (wpAny_call_entry PyProof.Rows.slot_tuple_getitem ht.typeIs entry_tuple_getitem ?_ (args_tuple_getitem _ _)))
  show wpAny _ _ (Builtin.Tuple.tupleItemsOf (.ref t) >>= _) _ _ s
  refine wpAny_bind (tupleItemsOf_ ht (wpAny_bind (wpAny_typeOf hTs ?_)))
  rw [if_pos (by decide)]
  refine wpAny_bind (HT.sliceApplied_gen hs pl pu ?_)
  have yes : (((HT.sIx us.size 0 lo : Nat) : Int) == 0 && (1 : Int) == 1 && (HT.sIx us.size us.size hi - HT.sIx us.size 0 lo) == us.size) = true := by
    rw [hw.1, hw.2]
    simp
  show wpAny _ _ (if (((HT.sIx us.size 0 lo : Nat) : Int) == 0 && (1 : Int) == 1 && (HT.sIx us.size us.size hi - HT.sIx us.size 0 lo) == us.size) = true then _ else _) _ _ s
  rw [if_pos yes]
  obtain ⟨ot, k1, k2, k3⟩ := id ht
  refine wpAny_bind ?_
  unfold Builtin.Tuple.tupleIsExact
  refine wpAny_bind (wpAny_typeOf ⟨ot, k1, k2⟩ (wpAny_pure ?_))
  rw [if_pos (by decide)]
  first
    | exact wpAny_bind (wpAny_rule (wpAny_pure ⟨_, rfl, wpAny_pure h⟩))
    | exact wpAny_bind (wpAny_rule (wpAny_bind (wpAny_pure (wpAny_pure ⟨_, rfl, wpAny_pure h⟩))))
    | exact wpAny_bind (wpAny_rule (wpAny_pure ⟨_, rfl, h⟩))
theorem cat_none {t b : Addr} {vs ws : List Value} {Q : Value → Shared → Prop} (ht : IsTup s.heap t vs.toArray) (hb : IsTup s.heap b ws.toArray) (hv : vs = []) (h : Q (.ref b) s) : wpAny (model prog w) A (binaryOp .Add (.ref t) (.ref b)) Q E s := by
  obtain ⟨⟨c1, d1, a1, l1⟩, ho, hc, n, hd⟩ := id ht
  obtain ⟨⟨c2, d2, a2, l2⟩, ho2, hc2, n2, hd2⟩ := id hb
  simp only at hc hd hc2 hd2
  subst hc hd hc2 hd2
  exact concat_meets ⟨_, ho, rfl⟩ ⟨_, ho2, rfl⟩ noFill_tuple_add seq_tuple_add PySem.F.slot_tuple_add PySem.F.entry_tuple_add (PySem.F.args_tuple_add_2 _ _) (tuple_addW0 t b vs.toArray ws.toArray n n2 d1 d2 l1 l2 (by simp [hv])) ⟨ho, ho2, h⟩
end
theorem cutV_whole {xs : List V} {lo hi : Option Int} (h : HT.sIx xs.length 0 lo = 0 ∧ HT.sIx xs.length xs.length hi = xs.length) : cutV xs lo hi = xs := by
  unfold cutV
  rw [h.1, h.2, List.drop_zero, Nat.sub_zero, List.take_length]
def rCut : V → Option Int → Option Int → Hp → VK → Prop := fun x lo hi H Q => ∃ a xs, x = .ref a ∧ H a = some (.tup xs) ∧ ∀ p H', Same H H' → H' p = some (.tup (cutV xs lo hi)) → Q (.ref p) H'
theorem sl_cut {X : Cx} : SlR X rCut := by
  intro pins s σ H x v vl vu lo hi sl Q I rx hs pl pu h
  obtain ⟨a, xs, rfl, hx, q⟩ := h
  cases rx
  by_cases hw : HT.sIx xs.length 0 lo = 0 ∧ HT.sIx xs.length xs.length hi = xs.length
  · obtain ⟨its, r, ht, hz⟩ := I.tuple (SqT.of hx)
    have hlen : its.toArray.size = xs.length := by rw [List.size_toArray]; exact r.length.symm
    refine ⟨"tuple", _, PyProof.Rows.slot_tuple_getitem.lookup, ht.typeIs, cut_whole ht hs pl pu (by rw [hlen]; exact hw) ⟨.ref a, H, I, rfl, q a H (Same.refl H) ?_⟩⟩
    rw [cutV_whole hw]
    exact hx
  · exact sl_tup pins s σ H (.ref a) _ vl vu lo hi sl Q I rfl hs pl pu ⟨a, xs, rfl, SqT.of hx, hw, fun p hp => q p _ (same_new (Same.refl H) hp) upd_same⟩
def rJoin : R2 := fun x y H Q => ∃ a b xs ys, x = .ref a ∧ y = .ref b ∧ H a = some (.tup xs) ∧ H b = some (.tup ys) ∧ xs.length + ys.length ≤ sizeLine ∧ ∀ p H', Same H H' → H' p = some (.tup (xs ++ ys)) → Q (.ref p) H'
theorem op_join {X : Cx} : OpR X (binaryOp .Add) rJoin := by
  intro pins s σ H x y v u Q I rx ry h
  obtain ⟨a, b, xs, ys, rfl, rfl, ha, hb, hz, q⟩ := h
  by_cases hx : xs = []
  · cases rx
    cases ry
    obtain ⟨its, r1, p1, _⟩ := I.tuple (SqT.of ha)
    obtain ⟨its2, r2, p2, _⟩ := I.tuple (SqT.of hb)
    refine cat_none p1 p2 (r1.nil_iff.mpr hx) ⟨.ref b, H, I, rfl, q b H (Same.refl H) ?_⟩
    rw [hx, List.nil_append]
    exact hb
  · refine op_catT pins s σ H (.ref a) (.ref b) v u Q I rx ry ⟨a, b, xs, ys, rfl, rfl, SqT.of ha, SqT.of hb, hx, hz, fun hy => q a H (Same.refl H) ?_, fun _ p hp => q p _ (same_new (Same.refl H) hp) upd_same⟩
    rw [hy, List.append_nil]
    exact ha
section
variable {prog : Program} {w : World} {A : Around} {E : Value → Shared → Prop} {s : Shared}
theorem tnext_item {it t : Addr} {i : Nat} {us : Array Value} {x : Value} {Q : Value → Shared → Prop} (hit : IsTupIter s.heap it t i) (ht : IsTup s.heap t us) (hx : us[i]? = some x)
    (hQ : ∀ h', IsTupIter h' it t (i + 1) → Heap.SameBut it s.heap h' → Q x { s with heap := h' }) : wpAny (model prog w) A (Builtin.SmallTypes.nextOf (.ref it)) Q E s := by
  obtain ⟨o, g1, g2, g3⟩ := id hit
  obtain ⟨ot, k1, _, nt, k2⟩ := ht
  unfold Builtin.SmallTypes.nextOf
  refine wpAny_bind (wpAny_callSpecial?_slot (name := Str.ofString "__next__") hit.typeIs slot_tupleiter_next (wpAny_call_entry slot_tupleiter_next hit.typeIs entry_tupleiter_next ?_ (args_tupleiter_next _)))
  show wpAny _ _ (field (.ref it) 0 >>= _) _ _ s
  refine wpAny_bind (wpAny_field g1 g3 (x := .ref t) rfl ?_)
  show wpAny _ _ (if (Value.ref t == Value.none) = true then _ else _) _ _ s
  rw [if_neg (show ¬ ((Value.ref t == Value.none) = true) from Bool.false_ne_true)]
  show wpAny _ _ (field (.ref it) 1 >>= _) _ _ s
  refine wpAny_bind (wpAny_field g1 g3 (x := .int i 0) rfl ?_)
  show wpAny _ _ (seqItems? (.ref t) >>= _) _ _ s
  refine wpAny_bind (wpAny_seqItems k1 k2 ?_)
  simp only [Int.toNat_natCast, hx]
  refine wpAny_bind (wpAny_setField g1 g3 (by simp) (wpAny_pure ⟨x, rfl, wpAny_pure (hQ _ ?_ (Heap.SameBut.update ..))⟩))
  exact ⟨_, Heap.get?_update_self _ g1 (Obj.isFreed_of_fields (Obj.data_mapFields g3 _)), (Obj.cls_mapFields ..).trans g2, by rw [Obj.data_mapFields g3]; simp [rawInt]⟩
theorem tnext_end {it t : Addr} {i : Nat} {us : Array Value} {Q : Value → Shared → Prop} (hh : A.handled = none) (hit : IsTupIter s.heap it t i) (ht : IsTup s.heap t us) (hx : us[i]? = none)
    (hE : ∀ h' e, Heap.ExtBut it s.heap h' → (∃ o, h'.get? e = some o ∧ o.cls = .type "StopIteration") → E (.ref e) { s with heap := h' }) : wpAny (model prog w) A (Builtin.SmallTypes.nextOf (.ref it)) Q E s := by
  obtain ⟨o, g1, g2, g3⟩ := id hit
  obtain ⟨ot, k1, _, nt, k2⟩ := ht
  unfold Builtin.SmallTypes.nextOf
  refine wpAny_bind (wpAny_callSpecial?_slot (name := Str.ofString "__next__") hit.typeIs slot_tupleiter_next (wpAny_call_entry slot_tupleiter_next hit.typeIs entry_tupleiter_next ?_ (args_tupleiter_next _)))
  show wpAny _ _ (field (.ref it) 0 >>= _) _ _ s
  refine wpAny_bind (wpAny_field g1 g3 (x := .ref t) rfl ?_)
  show wpAny _ _ (if (Value.ref t == Value.none) = true then _ else _) _ _ s
  rw [if_neg (show ¬ ((Value.ref t == Value.none) = true) from Bool.false_ne_true)]
  show wpAny _ _ (field (.ref it) 1 >>= _) _ _ s
  refine wpAny_bind (wpAny_field g1 g3 (x := .int i 0) rfl ?_)
  show wpAny _ _ (seqItems? (.ref t) >>= _) _ _ s
  refine wpAny_bind (wpAny_seqItems k1 k2 ?_)
  simp only [Int.toNat_natCast, hx]
  refine wpAny_bind (wpAny_rule (wpAny_bind (wpAny_setField g1 g3 (by simp) ?_)))
  show wpAny _ _ (newExc (.type "StopIteration") [] >>= _) _ _ _
  refine wpAny_bind ?_
  simp only [newExc, newTuple]
  refine wpAny_bind (wpAny_newObj_type ?_ (by size_fits))
  refine wpAny_bind (m := firstArgMember _ _) (wpAny_of_eq (a := Value.none) (by first | rfl | (simp only [firstArgMember]; rfl)) ?_)
  refine wpAny_newObj_type ?_ (by size_fits)
  simp only [raiseNew]
  refine wpAny_bind (wpAny_handled ?_)
  first | rw [show A.in1.handled = none from hh] | rw [hh]
  refine wpAny_bind (wpAny_pure (wpAny_throw ?_))
  exact hE _ _ (((Heap.SameBut.update ..).extBut.push _).push _) ⟨_, Heap.get?_push_size _ rfl, rfl⟩
structure ZipT (h : Heap) (z TI TO i1 i2 l1 l2 : Addr) (k : Nat) (f : Value) : Prop where
  hz : IsZip h z TI TO f
  hi : PySem.IsPair h TI (.ref i1) (.ref i2)
  ho : ∃ a b, PySem.IsPair h TO a b
  h1 : IsTupIter h i1 l1 k
  h2 : IsTupIter h i2 l2 k
theorem tstay {h h' : Heap} {a t : Addr} {i : Nat} (x : IsTupIter h a t i) (e : ∀ o, h.get? a = some o → h'.get? a = some o) : IsTupIter h' a t i := let ⟨o, ho, r⟩ := x; ⟨o, e o ho, r⟩
theorem tlt {h : Heap} {a t : Addr} {i : Nat} (x : IsTupIter h a t i) : a < h.objs.size := let ⟨_, ho, _⟩ := x; Heap.lt_size ho
theorem zipT_item {z TI TO i1 i2 l1 l2 : Addr} {k : Nat} {xs ys : Array Value} {x y : Value} {Q : Value → Shared → Prop} (D : ZipApart z TI TO i1 i2 l1 l2) (Z : ZipT s.heap z TI TO i1 i2 l1 l2 k .none)
    (t1 : IsTup s.heap l1 xs) (t2 : IsTup s.heap l2 ys) (hx : xs[k]? = some x) (hy : ys[k]? = some y)
    (hQ : ∀ h', ZipT h' z TI TO i1 i2 l1 l2 (k + 1) (rawInt s.heap.objs.size) → PySem.IsPair h' s.heap.objs.size x y →
      (∀ c o, c ≠ z → c ≠ TO → c ≠ i1 → c ≠ i2 → s.heap.get? c = some o → h'.get? c = some o) → Q (.ref s.heap.objs.size) { s with heap := h' }) :
    wpAny (model prog w) A (Builtin.«zip.__next__» ⟨[.ref z], []⟩) (fun fin s' => ∃ v, fin = .done (.ret v) ∧ Q v s') E s := by
  obtain ⟨hz, hTI, ⟨a, b, hTO⟩, h1, h2⟩ := Z
  show wpAny _ _ (field (.ref z) 2 >>= _) _ _ _
  refine wpAny_bind (wpAny_field hz rfl (x := .bool false) rfl ?_)
  show wpAny _ _ (field (.ref z) 3 >>= _) _ _ _
  refine wpAny_bind (wpAny_field hz rfl (x := .ref TI) rfl (wpAny_bind (wpAny_seqItems hTI rfl ?_)))
  show wpAny _ _ (Builtin.SmallTypes.ownedTupleIsFree (.ref z) >>= _) _ _ _
  refine wpAny_bind ?_
  unfold Builtin.SmallTypes.ownedTupleIsFree
  refine wpAny_bind (wpAny_field hz rfl (x := .none) rfl (wpAny_pure ?_))
  simp only [if_true]
  refine wpAny_bind (wpAny_rule (wpAny_bind (wpAny_field hz rfl (x := .ref TO) rfl (wpAny_bind (wpAny_setField_rec hz (by simp) fun g1 zz1 s1 => ?_)))))
  replace zz1 : IsZip g1 z TI TO .ellipsis := zz1
  refine wpAny_bind ?_
  simp only [List.zipIdx_cons, List.zipIdx_nil, List.forIn_cons, List.forIn_nil]
  refine wpAny_bind (wpAny_bind (wpAny_onRaise ?_))
  show wpAny _ _ (Builtin.SmallTypes.nextOf (.ref i1) >>= _) _ _ _
  refine wpAny_bind (tnext_item (h1.extBut s1.extBut D.i1z) (t1.extBut s1.extBut D.l1z) hx fun g2 n2 s2 => wpAny_pure ?_)
  have o2 : PySem.IsPair g2 TO a b := s2.extBut _ _ D.TOi1 (s1.extBut _ _ D.TOz hTO)
  refine wpAny_bind (wpAny_seqItems o2 rfl (wpAny_bind (wpAny_updateSeq_pair o2 fun g3 o3 s3 => ?_)))
  replace o3 : PySem.IsPair g3 TO x b := o3
  refine wpAny_bind (wpAny_letGo (wpAny_pure ?_))
  refine wpAny_bind (wpAny_bind (wpAny_onRaise ?_))
  show wpAny _ _ (Builtin.SmallTypes.nextOf (.ref i2) >>= _) _ _ _
  refine wpAny_bind (tnext_item (((h2.extBut s1.extBut D.i2z).extBut s2.extBut D.i12.symm).extBut s3.extBut D.TOi2.symm) (((t2.extBut s1.extBut D.l2z).extBut s2.extBut D.l2i1).extBut s3.extBut D.l2TO) hy fun g4 n4 s4 => wpAny_pure ?_)
  have o4 : PySem.IsPair g4 TO x b := s4.extBut _ _ D.TOi2 o3
  refine wpAny_bind (wpAny_seqItems o4 rfl (wpAny_bind (wpAny_updateSeq_pair o4 fun g5 o5 s5 => ?_)))
  replace o5 : PySem.IsPair g5 TO x y := o5
  refine wpAny_bind (wpAny_letGo (wpAny_pure (wpAny_pure ?_)))
  refine wpAny_bind (wpAny_seqItems o5 rfl (wpAny_bind (wpAny_newTuple ?_)))
  have hsz : g5.objs.size = s.heap.objs.size := by rw [s5.1, s4.1, s3.1, s2.1, s1.1]
  have z5 : IsZip g5 z TI TO .ellipsis := s5.extBut _ _ D.TOz.symm (s4.extBut _ _ D.i2z.symm (s3.extBut _ _ D.TOz.symm (s2.extBut _ _ D.i1z.symm zz1)))
  have k5 : ∀ c o, c ≠ z → c ≠ TO → c ≠ i1 → c ≠ i2 → s.heap.get? c = some o → g5.get? c = some o := fun c o c1 c2 c3 c4 e =>
    s5.extBut _ _ c2 (s4.extBut _ _ c4 (s3.extBut _ _ c2 (s2.extBut _ _ c3 (s1.extBut _ _ c1 e))))
  have a5 : IsTupIter g5 i1 l1 (k + 1) := ((n2.extBut s3.extBut D.TOi1.symm).extBut s4.extBut D.i12).extBut s5.extBut D.TOi1.symm
  have b5 : IsTupIter g5 i2 l2 (k + 1) := n4.extBut s5.extBut D.TOi2.symm
  have hzlt : z < g5.objs.size := Heap.lt_size z5
  show wpAny _ _ (Builtin.SmallTypes.ownedTupleHandOut (.ref z) (.ref g5.objs.size) >>= _) _ _ _
  refine wpAny_bind ?_
  unfold Builtin.SmallTypes.ownedTupleHandOut
  have z6 : IsZip (g5.push { cls := .type "tuple", data := .seq #[x, y] }) z TI TO .ellipsis := Heap.get?_push_of_some _ z5
  refine wpAny_bind (wpAny_setField_rec z6 (by simp) fun g7 z7 s7 => ?_)
  replace z7 : IsZip g7 z TI TO (rawInt g5.objs.size) := z7
  refine wpAny_setField_rec z7 (by simp) fun g8 z8 s8 => ?_
  replace z8 : IsZip g8 z TI TO (rawInt g5.objs.size) := z8
  have up : ∀ c o, c ≠ z → g5.get? c = some o → g8.get? c = some o := fun c o c1 e => s8.extBut _ _ c1 (s7.extBut _ _ c1 (Heap.get?_push_of_some _ e))
  have p8 : PySem.IsPair g8 g5.objs.size x y := s8.extBut _ _ (Nat.ne_of_gt hzlt) (s7.extBut _ _ (Nat.ne_of_gt hzlt) (Heap.get?_push_size _ rfl))
  rw [hsz] at z8 p8
  refine wpAny_pure ⟨_, rfl, ?_⟩
  show Q (.ref g5.objs.size) _
  rw [hsz]
  exact hQ g8 ⟨z8, up _ _ D.TIz (k5 _ _ D.TIz D.TITO D.TIi1 D.TIi2 hTI), ⟨x, y, up _ _ D.TOz o5⟩, tstay a5 fun o e => up _ o D.i1z e, tstay b5 fun o e => up _ o D.i2z e⟩ p8 fun c o c1 c2 c3 c4 e => up c o c1 (k5 c o c1 c2 c3 c4 e)
theorem zipT_end {z TI TO i1 i2 l1 l2 : Addr} {k : Nat} {xs ys : Array Value} {Q : Fin → Shared → Prop} (hh : A.handled = none) (D : ZipApart z TI TO i1 i2 l1 l2) (Z : ZipT s.heap z TI TO i1 i2 l1 l2 k .none)
    (t1 : IsTup s.heap l1 xs) (t2 : IsTup s.heap l2 ys) (hend : xs[k]? = none ∨ ys[k]? = none)
    (hE : ∀ h' e, (∀ c o, c ≠ z → c ≠ TO → c ≠ i1 → c ≠ i2 → s.heap.get? c = some o → h'.get? c = some o) → (∃ o, h'.get? e = some o ∧ o.cls = .type "StopIteration") → E (.ref e) { s with heap := h' }) :
    wpAny (model prog w) A (Builtin.«zip.__next__» ⟨[.ref z], []⟩) Q E s := by
  obtain ⟨hz, hTI, ⟨a, b, hTO⟩, h1, h2⟩ := Z
  show wpAny _ _ (field (.ref z) 2 >>= _) _ _ _
  refine wpAny_bind (wpAny_field hz rfl (x := .bool false) rfl ?_)
  show wpAny _ _ (field (.ref z) 3 >>= _) _ _ _
  refine wpAny_bind (wpAny_field hz rfl (x := .ref TI) rfl (wpAny_bind (wpAny_seqItems hTI rfl ?_)))
  show wpAny _ _ (Builtin.SmallTypes.ownedTupleIsFree (.ref z) >>= _) _ _ _
  refine wpAny_bind ?_
  unfold Builtin.SmallTypes.ownedTupleIsFree
  refine wpAny_bind (wpAny_field hz rfl (x := .none) rfl (wpAny_pure ?_))
  simp only [if_true]
  refine wpAny_bind (wpAny_rule (wpAny_bind (wpAny_field hz rfl (x := .ref TO) rfl (wpAny_bind (wpAny_setField_rec hz (by simp) fun g1 zz1 s1 => ?_)))))
  replace zz1 : IsZip g1 z TI TO .ellipsis := zz1
  refine wpAny_bind ?_
  simp only [List.zipIdx_cons, List.zipIdx_nil, List.forIn_cons, List.forIn_nil]
  refine wpAny_bind (wpAny_bind (wpAny_onRaise ?_))
  show wpAny _ _ (Builtin.SmallTypes.nextOf (.ref i1) >>= _) _ _ _
  cases hx : xs[k]? with
  | none =>
    refine wpAny_bind (tnext_end hh (h1.extBut s1.extBut D.i1z) (t1.extBut s1.extBut D.l1z) hx fun g2 e s2 he => ?_)
    obtain ⟨oe, e1, e2⟩ := he
    have z2 : IsZip g2 z TI TO .ellipsis := s2 _ _ D.i1z.symm zz1
    have hez : e ≠ z := fun q => by subst q; rw [z2] at e1; cases e1; simp at e2
    refine wpAny_setField_rec z2 (by simp) fun g3 _ s3 => hE g3 e (fun c o c1 _ c3 _ q => s3.extBut _ _ c1 (s2 _ _ c3 (s1.extBut _ _ c1 q))) ⟨oe, s3.extBut _ _ hez e1, e2⟩
  | some x =>
    have hy : ys[k]? = none := by rcases hend with q | q; rw [hx] at q; cases q; exact q
    refine wpAny_bind (tnext_item (h1.extBut s1.extBut D.i1z) (t1.extBut s1.extBut D.l1z) hx fun g2 n2 s2 => wpAny_pure ?_)
    have o2 : PySem.IsPair g2 TO a b := s2.extBut _ _ D.TOi1 (s1.extBut _ _ D.TOz hTO)
    refine wpAny_bind (wpAny_seqItems o2 rfl (wpAny_bind (wpAny_updateSeq_pair o2 fun g3 o3 s3 => ?_)))
    refine wpAny_bind (wpAny_letGo (wpAny_pure ?_))
    refine wpAny_bind (wpAny_bind (wpAny_onRaise ?_))
    show wpAny _ _ (Builtin.SmallTypes.nextOf (.ref i2) >>= _) _ _ _
    refine wpAny_bind (tnext_end hh (((h2.extBut s1.extBut D.i2z).extBut s2.extBut D.i12.symm).extBut s3.extBut D.TOi2.symm) (((t2.extBut s1.extBut D.l2z).extBut s2.extBut D.l2i1).extBut s3.extBut D.l2TO) hy fun g4 e s4 he => ?_)
    obtain ⟨oe, e1, e2⟩ := he
    have z4 : IsZip g4 z TI TO .ellipsis := s4 _ _ D.i2z.symm (s3.extBut _ _ D.TOz.symm (s2.extBut _ _ D.i1z.symm zz1))
    have hez : e ≠ z := fun q => by subst q; rw [z4] at e1; cases e1; simp at e2
    refine wpAny_setField_rec z4 (by simp) fun g5 _ s5 => hE g5 e (fun c o c1 c2 c3 c4 q => s5.extBut _ _ c1 (s4 _ _ c4 (s3.extBut _ _ c2 (s2.extBut _ _ c3 (s1.extBut _ _ c1 q))))) ⟨oe, s5.extBut _ _ hez e1, e2⟩
end
abbrev zt1 (h : Heap) (l1 : Addr) : Heap := h.push { cls := .type "tuple_iterator", data := .fields #[.ref l1, .int 0 0] }
abbrev zt2 (h : Heap) (l1 l2 : Addr) : Heap := (zt1 h l1).push { cls := .type "tuple_iterator", data := .fields #[.ref l2, .int 0 0] }
abbrev zt3 (h : Heap) (l1 l2 : Addr) : Heap := (zt2 h l1 l2).push { cls := .type "tuple", data := .seq #[.ref h.objs.size, .ref (zt1 h l1).objs.size] }
abbrev zt4 (h : Heap) (l1 l2 : Addr) : Heap := (zt3 h l1 l2).push { cls := .type "tuple", data := .seq #[.none, .none] }
abbrev zt5 (h : Heap) (l1 l2 : Addr) : Heap := (zt4 h l1 l2).push { cls := .type "zip", data := .fields #[.none, .bool false, .bool false, .ref (zt2 h l1 l2).objs.size, .ref (zt3 h l1 l2).objs.size] }
theorem meets_zipT (l1 l2 : Addr) (xs ys : Array Value) : Meets (Builtin.«zip.__new__» ⟨[.type "zip", .ref l1, .ref l2], []⟩)
    (fun _ R s => IsTup s.heap l1 xs ∧ IsTup s.heap l2 ys ∧ R (.ok (.ret (.ref (zt4 s.heap l1 l2).objs.size))) { s with heap := zt5 s.heap l1 l2 }) :=
  .of_wp fun prog w A R s h => by
    obtain ⟨hp, g, d, tk, os⟩ := s
    obtain ⟨t1, t2, h⟩ := h
    have hsub := sub_zip
    have q1 : IsTup (Shared.heap ⟨hp, g, d, tk, os⟩) l1 xs := t1
    have q2 : IsTup (Shared.heap ⟨hp.push { cls := .type "tuple_iterator", data := .fields #[.ref l1, .int 0 0] }, g, d, tk, os⟩) l2 ys := IsTup.push t2 _
    wp_walk using iter_tuple q1, iter_tuple q2
    exact ⟨_, rfl, h⟩
section
variable {prog : Program} {w : World} {A : Around} {E : Value → Shared → Prop} {s : Shared}
theorem call_zipT {l1 l2 : Addr} {xs ys : Array Value} {Q : Value → Shared → Prop} (t1 : IsTup s.heap l1 xs) (t2 : IsTup s.heap l2 ys)
    (h : ∀ h', ZipT h' (s.heap.objs.size + 4) (s.heap.objs.size + 2) (s.heap.objs.size + 3) s.heap.objs.size (s.heap.objs.size + 1) l1 l2 0 .none → (∀ c o, s.heap.get? c = some o → h'.get? c = some o) → Q (.ref (s.heap.objs.size + 4)) { s with heap := h' }) :
    wpAny (model prog w) A (call (.type "zip") [.ref l1, .ref l2]) Q E s := by
  refine callType_new F.called_zip (by decide) (F.typeCall_zip_2 _ _) (F.newCall_zip_2 _ _) (fun obj => F.args_object_init_3 obj _ _) F.entry_zip_new (meets_zipT l1 l2 xs ys) ⟨t1, t2, ?_⟩
  have z1 : (zt1 s.heap l1).objs.size = s.heap.objs.size + 1 := Heap.size_push ..
  have z2 : (zt2 s.heap l1 l2).objs.size = s.heap.objs.size + 2 := by rw [Heap.size_push, z1]
  have z3 : (zt3 s.heap l1 l2).objs.size = s.heap.objs.size + 3 := by rw [Heap.size_push, z2]
  have z4 : (zt4 s.heap l1 l2).objs.size = s.heap.objs.size + 4 := by rw [Heap.size_push, z3]
  have g5 : (zt5 s.heap l1 l2).get? (zt4 s.heap l1 l2).objs.size = some _ := Heap.get?_push_size _ rfl
  have g4 : (zt5 s.heap l1 l2).get? (zt3 s.heap l1 l2).objs.size = some _ := Heap.get?_push_of_some _ (Heap.get?_push_size _ rfl)
  have g3 : (zt5 s.heap l1 l2).get? (zt2 s.heap l1 l2).objs.size = some _ := Heap.get?_push_of_some _ (Heap.get?_push_of_some _ (Heap.get?_push_size _ rfl))
  have g2 : (zt5 s.heap l1 l2).get? (zt1 s.heap l1).objs.size = some _ := Heap.get?_push_of_some _ (Heap.get?_push_of_some _ (Heap.get?_push_of_some _ (Heap.get?_push_size _ rfl)))
  have g1 : (zt5 s.heap l1 l2).get? s.heap.objs.size = some _ := Heap.get?_push_of_some _ (Heap.get?_push_of_some _ (Heap.get?_push_of_some _ (Heap.get?_push_of_some _ (Heap.get?_push_size _ rfl))))
  show _ ∧ _
  rw [z2, z3, z4] at g5
  rw [z1, z2] at g3
  rw [z3] at g4
  rw [z1] at g2
  rw [z4]
  exact ⟨⟨_, g5, rfl⟩, h _ ⟨g5, g3, ⟨_, _, g4⟩, ⟨_, g1, rfl, rfl⟩, ⟨_, g2, rfl, rfl⟩⟩ fun c o x =>
    Heap.get?_push_of_some _ (Heap.get?_push_of_some _ (Heap.get?_push_of_some _ (Heap.get?_push_of_some _ (Heap.get?_push_of_some _ x))))⟩
end
def ItzT (a b : Addr) (xs ys : List V) : It :=
  ⟨fun i H => H a = some (.tup xs) ∧ H b = some (.tup ys) ∧ i < xs.length ∧ i < ys.length,
    fun i H v H' => ∃ T x y, v = .ref T ∧ H T = none ∧ H' = upd H T (.tup [x, y]) ∧ xs[i]? = some x ∧ ys[i]? = some y,
    fun i H => H a = some (.tup xs) ∧ H b = some (.tup ys) ∧ (xs.length ≤ i ∨ ys.length ≤ i)⟩
theorem turn_zipT {P : Program} {w : World} {K : PySem.W.Frag} {elts : List Expr} {kk : Nat} {tpos : Pos} {a b z TI TO i1 i2 : Addr} {xs ys : List V} (D : ZipApart z TI TO i1 i2 a b) :
    Turn P w K (.Tuple elts kk tpos) (ItzT a b xs ys) [z, TI, TO, i1, i2] z (fun i h => ZipT h z TI TO i1 i2 a b i .none) where
  mem := by simp
  obj := fun i h st c hc => by
    obtain ⟨hz, hTI, ⟨x, y, hTO⟩, ⟨o1, e1, _, d1⟩, ⟨o2, e2, _, d2⟩⟩ := st
    have e' : c = z ∨ c = TI ∨ c = TO ∨ c = i1 ∨ c = i2 := by simpa using hc
    rcases e' with q | q | q | q | q
    · rw [q]; exact ⟨_, hz, fun v q => nomatch q⟩
    · rw [q]; exact ⟨_, hTI, fun v q => nomatch q⟩
    · rw [q]; exact ⟨_, hTO, fun v q => nomatch q⟩
    · rw [q]; exact ⟨o1, e1, fun v q => by rw [d1] at q; cases q⟩
    · rw [q]; exact ⟨o2, e2, fun v q => by rw [d2] at q; cases q⟩
  keep := fun i h h' st k => by
    obtain ⟨hz, hTI, ⟨x, y, hTO⟩, h1, h2⟩ := st
    exact ⟨k z (by simp) _ hz, k TI (by simp) _ hTI, ⟨x, y, k TO (by simp) _ hTO⟩, tstay h1 fun o q => k i1 (by simp) o q, tstay h2 fun o q => k i2 (by simp) o q⟩
  item := by
    intro X hP hw hK hc i pins s σ H E I hf st hg
    subst hP hw hK
    obtain ⟨ha, hb, hi1, hi2⟩ := hg
    obtain ⟨its, rv, p, _⟩ := I.tuple (SqT.of ha)
    obtain ⟨its2, rv2, p2, _⟩ := I.tuple (SqT.of hb)
    obtain ⟨u, hu, ru⟩ := rv.get (List.getElem?_eq_getElem hi1)
    obtain ⟨u2, hu2, ru2⟩ := rv2.get (List.getElem?_eq_getElem hi2)
    have hT : s.TypeIs (.ref z) "zip" := ⟨_, st.hz, rfl⟩
    have hzl : z < s.heap.objs.size := Heap.lt_size st.hz
    unfold pyNext
    refine wpAny_bind (wpAny_attempt (wpAny_callSpecial?_slot (name := Str.ofString "__next__") hT F.slot_zip_next (wpAny_call_entry F.slot_zip_next hT F.entry_zip_next
      (zipT_item D st p p2 (x := u) (y := u2) (by simpa using hu) (by simpa using hu2) fun h' st' hTn hk => wpAny_pure ?_) (F.args_zip_next_1 _))))
    refine ⟨_, rfl, wpAny_letOwnedTupleGo_zip (s := { s with heap := h' }) st'.hz fun h'' z'' sb => ?_⟩
    have hT2 : h''.get? s.heap.objs.size = some { cls := .type "tuple", data := .seq #[u, u2] } := (sb.2 _ (Nat.ne_of_gt hzl)).trans hTn
    have new : ObjOk X.prog X.w (upd H s.heap.objs.size (.tup [xs[i], ys[i]])) h'' s.heap.objs.size (.tup [xs[i], ys[i]]) :=
      ⟨by show 2 ≤ sizeLine; decide, [u, u2], .cons ru (.cons ru2 .nil), ⟨_, hT2, rfl, _, rfl⟩⟩
    have I1 : Inv X pins σ (upd H s.heap.objs.size (.tup [xs[i], ys[i]])) { s with heap := h'' } :=
      I.turnedNew (t' := s.toks) (ch := [z, TI, TO, i1, i2]) (fun c o hb q => (sb.2 c (fun q' => hb (by simp [q']))).trans (hk c o (fun q' => hb (by simp [q'])) (fun q' => hb (by simp [q'])) (fun q' => hb (by simp [q'])) (fun q' => hb (by simp [q'])) q)) hf (Nat.le_refl _) new
    obtain ⟨_, b2, ⟨c1, c2, b3⟩, b4, b5⟩ := st'
    refine ⟨.ref s.heap.objs.size, _, I1, rfl, ⟨_, _, _, rfl, I.hok.fresh (Nat.le_refl _), rfl, List.getElem?_eq_getElem hi1, List.getElem?_eq_getElem hi2⟩, ⟨z'', (sb.2 _ D.TIz).trans b2, ⟨c1, c2, (sb.2 _ D.TOz).trans b3⟩, tstay b4 fun o q => (sb.2 _ D.i1z).trans q, tstay b5 fun o q => (sb.2 _ D.i2z).trans q⟩, fun c hcm => ?_⟩
    have hlt : c < s.heap.objs.size := by
      obtain ⟨q1, q2, ⟨_, _, q3⟩, q4, q5⟩ := st
      have e' : c = z ∨ c = TI ∨ c = TO ∨ c = i1 ∨ c = i2 := by simpa using hcm
      rcases e' with q | q | q | q | q
      · rw [q]; exact hzl
      · rw [q]; exact Heap.lt_size q2
      · rw [q]; exact Heap.lt_size q3
      · rw [q]; exact tlt q4
      · rw [q]; exact tlt q5
    rw [upd_ne (Nat.ne_of_lt hlt)]
    exact (hf c hcm).1
  done := by
    intro X hP hw hK hc i pins s σ H E I hf st hg
    subst hP hw hK
    obtain ⟨ha, hb, hend⟩ := hg
    obtain ⟨its, rv, p, _⟩ := I.tuple (SqT.of ha)
    obtain ⟨its2, rv2, p2, _⟩ := I.tuple (SqT.of hb)
    have l1 := rv.length
    have l2 := rv2.length
    have he : its.toArray[i]? = none ∨ its2.toArray[i]? = none := by
      rcases hend with q | q
      · exact .inl (by simp; omega)
      · exact .inr (by simp; omega)
    have hT : s.TypeIs (.ref z) "zip" := ⟨_, st.hz, rfl⟩
    unfold pyNext
    refine wpAny_bind (wpAny_attempt (wpAny_callSpecial?_slot (name := Str.ofString "__next__") hT F.slot_zip_next (wpAny_call_entry F.slot_zip_next hT F.entry_zip_next (zipT_end (I.ok.hd hc) D st p p2 he fun h' e hk hx => ?_) (F.args_zip_next_1 _))))
    obtain ⟨o, ho, hcl⟩ := hx
    refine wpAny_bind (wpAny_isInstance (T := "StopIteration") (b := true) ⟨o, ho, hcl⟩ isSubtype_stop ?_)
    exact wpAny_pure ⟨rfl, I.turnedL (t' := s.toks) (ch := [z, TI, TO, i1, i2]) (fun c o hb q => hk c o (fun q' => hb (by simp [q'])) (fun q' => hb (by simp [q'])) (fun q' => hb (by simp [q'])) (fun q' => hb (by simp [q'])) q) hf⟩
  self := fun A i s Q E st h => wpAny_pyIter_zip st.hz h
def iZipT (ta : TA) : TI := fun σ H R => ta σ H fun vs H1 => ∃ a b xs ys, vs = [.ref a, .ref b] ∧ H1 a = some (.tup xs) ∧ H1 b = some (.tup ys) ∧ R (ItzT a b xs ys) H1
theorem pi_zipT {X : Cx} {e e2 : Expr} {ta : TA} {p pos tpos : Pos} {elts : List Expr} {kk : Nat} (hg : Gl X "zip") (hm : X.mg "zip" = none) (ha : PA X [e, e2] ta)
    (hs : starEach [e, e2] X.env = (false, eval e X.env) :: starEach [e2] X.env := by rfl) (hpl : (backTo pos (starEach [e2] X.env)).any (·.1) = false := by rfl) :
    PI X (.Tuple elts kk tpos) (.Call (.Name "zip" p) [e, e2] [] pos) (iZipT ta) := by
  intro pins s σ H R I h
  refine Call_ (ld_blt I hg hm boot_zip5 (PyProof.Rows.callWith_type1 (thn (ha pos pins s σ H _ I h) fun us s1 ⟨vs, H1, I1, r1, q1⟩ => ?_) hs hpl))
  obtain ⟨a, b, xs, ys, ex, hqx, hqy, q⟩ := q1
  subst ex
  cases r1 with
  | cons r rr =>
    cases rr with
    | cons r' rr =>
      cases rr
      cases r
      cases r'
      obtain ⟨its, rv, p1, _⟩ := I1.tuple (SqT.of hqx)
      obtain ⟨its2, rv2, p2, _⟩ := I1.tuple (SqT.of hqy)
      refine call_zipT p1 p2 fun h' st hk => wpAny_pyIter_zip st.hz ?_
      have I2 : Inv X pins σ H1 { s1 with heap := h' } := I1.kept (t' := s1.toks) hk
      refine ⟨s1.heap.objs.size + 4, [s1.heap.objs.size + 4, s1.heap.objs.size + 2, s1.heap.objs.size + 3, s1.heap.objs.size, s1.heap.objs.size + 1], _, _, H1, rfl, I2, turn_zipT (PySem.W.ktu_apart s1.heap.objs.size a b p1.lt p2.lt), st, fun c hcm => ?_, q⟩
      have e' : c = s1.heap.objs.size + 4 ∨ c = s1.heap.objs.size + 2 ∨ c = s1.heap.objs.size + 3 ∨ c = s1.heap.objs.size ∨ c = s1.heap.objs.size + 1 := by simpa using hcm
      have hle : s1.heap.objs.size ≤ c := by
        rcases e' with z | z | z | z | z
        · rw [z]; exact Nat.le_add_right _ _
        · rw [z]; exact Nat.le_add_right _ _
        · rw [z]; exact Nat.le_add_right _ _
        · rw [z]; exact Nat.le_refl _
        · rw [z]; exact Nat.le_add_right _ _
      exact I1.fpOk hle (I1.hok.fresh hle)
theorem for_zipT {a b : Addr} {xs ys : List V} {g : TG} {tb : TS} {D : Ends} {σ : L2.St} {H : Hp} (Pv : Nat → L2.St → Hp → Prop) (hlen : xs.length = ys.length) (h0 : Pv 0 σ H) (hl : ∀ i σ H, Pv i σ H → H a = some (.tup xs) ∧ H b = some (.tup ys))
    (hs : ∀ i x y T σ H, xs[i]? = some x → ys[i]? = some y → Pv i σ H → H T = none → g (.ref T) σ (upd H T (.tup [x, y])) fun σ2 H2 => tb { D with nx := Pv (i + 1), ct := Pv (i + 1), bk := D.nx } σ2 H2) (hd : ∀ σ H, Pv xs.length σ H → D.nx σ H) :
    ∃ W : Nat → Nat → L2.St → Hp → Prop, (∃ m, W 0 m σ H) ∧ ∀ i m σ H, W i m σ H →
      ((ItzT a b xs ys).stop i H ∧ D.nx σ H) ∨ ((ItzT a b xs ys).go i H ∧ ∃ N : L2.St → Hp → Prop, (∀ σ' H', N σ' H' → ∃ m', m' < m ∧ W (i + 1) m' σ' H') ∧ ∀ x H', (ItzT a b xs ys).yld i H x H' → g x σ H' fun σ2 H2 => tb { D with nx := N, ct := N, bk := D.nx } σ2 H2) := by
  refine ⟨fun i m σ H => m = xs.length - i ∧ i ≤ xs.length ∧ Pv i σ H, ⟨xs.length, by simp, Nat.zero_le _, h0⟩, ?_⟩
  rintro i m σ H ⟨rfl, hi, p⟩
  obtain ⟨q1, q2⟩ := hl i σ H p
  by_cases hlt : i < xs.length
  · refine .inr ⟨⟨q1, q2, hlt, by omega⟩, Pv (i + 1), fun σ' H' p' => ⟨xs.length - (i + 1), by omega, rfl, hlt, p'⟩, fun x H' y => ?_⟩
    obtain ⟨T, u, v, rfl, hT, rfl, e1, e2⟩ := y
    exact hs i u v T σ _ e1 e2 p hT
  · have e : i = xs.length := by omega
    subst e
    exact .inl ⟨⟨q1, q2, .inl (Nat.le_refl _)⟩, hd σ H p⟩
end Bw
set_option Elab.async false
set_option linter.all false
set_option maxRecDepth 100000
set_option maxHeartbeats 4000000
namespace Bw
open PySem PySem.Spec PyProof.Rows L2 Kct5
def il (l : Bytes) : List (Int ⊕ List Nat) := l.map fun n : Nat => Sum.inl (n : Int)
theorem lex_less : ∀ x y : Bytes, PyProof.Rows.lexLt itemOrd (il x) (il y) = less x y
  | [], [] => rfl
  | [], _ :: _ => by rw [less_nil_cons]; rfl
  | _ :: _, [] => by rw [less_nil]; rfl
  | a :: x, b :: y => by
    show PyProof.Rows.lexLt itemOrd (Sum.inl (a : Int) :: il x) (Sum.inl (b : Int) :: il y) = _
    rw [lex_cons, lex_less x y]
    show (decide ((a : Int) < (b : Int)) || (!decide ((b : Int) < (a : Int)) && less x y)) = (decide (a < b) || (a == b && less x y))
    by_cases h1 : a < b
    · rw [decide_eq_true h1, decide_eq_true (show (a : Int) < b by omega), Bool.true_or, Bool.true_or]
    · by_cases h2 : a = b
      · subst h2
        simp
      · have h3 : (b : Int) < a := by omega
        rw [decide_eq_false h1, decide_eq_false (show ¬ (a : Int) < b by omega), decide_eq_true h3, beq_eq_false_iff_ne.mpr h2]
        rfl
theorem tupItems_ints : ∀ {vs : List Value} {ns : List Int} (i : Nat), IntsAre vs ns → tupItems (fun _ => false) i vs = some (ns.map Sum.inl)
  | _, _, i, .nil => rfl
  | _, _, i, .cons n t h => by
    have ih := tupItems_ints (i + 1) h
    simp [tupItems, ih]
def NatT (h : Heap) (v : Value) (l : Bytes) : Prop := ∃ q o xs n, v = .ref q ∧ h.get? q = some o ∧ o.cls = .type "tuple" ∧ o.data = .seq xs n ∧ IntsAre xs.toList (l.map fun n : Nat => (n : Int))
theorem NatT.key {h : Heap} {v : Value} {l : Bytes} (x : NatT h v l) : G.tupKeyC h (fun _ => false) v = some (il l) := by
  obtain ⟨q, o, xs, n, rfl, ho, hc, hd, hi⟩ := x
  unfold G.tupKeyC
  have e1 : G.isTupObj h (.ref q) = true := by
    simp only [G.isTupObj, ho, hc]
    rfl
  rw [if_pos e1]
  unfold tupKey
  simp only [ho, hd]
  rw [tupItems_ints 0 hi, List.map_map]
  rfl
theorem NatT.of {h : Heap} {v : Value} {l : Bytes} (x : NatT h v l) (hl : l ≠ []) : ∃ f, TupOf h (fun _ => false) v f := by
  obtain ⟨q, o, xs, n, rfl, ho, hc, hd, hi⟩ := x
  cases l with
  | nil => exact (hl rfl).elim
  | cons a l =>
    rw [List.map_cons] at hi
    generalize hxs : xs.toList = us at hi
    cases hi with
    | cons _ t h =>
      refine ⟨.int a t, q, o, xs, n, rfl, ho, hc, hd, ?_, fun _ => ⟨_, _, rfl⟩, fun z => nomatch z⟩
      rw [← Array.getElem?_toList, hxs]
      rfl
theorem tups_of {h : Heap} : ∀ {vs : List Value} {ks : List Bytes}, Paired (NatT h) vs ks → (∀ l ∈ ks, l ≠ []) → ∃ fs, TupsOf h (fun _ => false) vs fs
  | _, _, .nil, _ => ⟨[], .nil⟩
  | _, _, .cons r t, hl => by
    obtain ⟨f, hf⟩ := r.of (hl _ List.mem_cons_self)
    obtain ⟨fs, hfs⟩ := tups_of t fun l hm => hl l (List.mem_cons_of_mem _ hm)
    exact ⟨f :: fs, .cons hf hfs⟩
theorem paired_mem {α β : Type} {R : α → β → Prop} {l : List α} {m : List β} (h : Paired R l m) {x : α} (hx : x ∈ l) : ∃ y ∈ m, R x y := by
  induction h with
  | nil => cases hx
  | cons r t ih =>
    rcases List.mem_cons.mp hx with e | hx
    · subst e; exact ⟨_, List.mem_cons_self, r⟩
    · obtain ⟨y, hy, ry⟩ := ih hx
      exact ⟨y, List.mem_cons_of_mem _ hy, ry⟩
def natsOf (h : Heap) (v : Value) : Bytes := ((G.tupKeyC h (fun _ => false) v).getD []).map fun x => match x with | .inl n => n.toNat | .inr _ => 0
theorem NatT.nats {h : Heap} {v : Value} {l : Bytes} (x : NatT h v l) : natsOf h v = l := by
  unfold natsOf
  rw [x.key, Option.getD_some, il, List.map_map]
  have : ((fun x : Int ⊕ List Nat => match x with | .inl n => n.toNat | .inr _ => 0) ∘ fun n : Nat => Sum.inl (n : Int)) = id := by
    funext n
    show ((n : Int)).toNat = n
    omega
  rw [this, List.map_id]
theorem nats_map {h : Heap} {vs : List Value} {ks : List Bytes} (x : Paired (NatT h) vs ks) : vs.map (natsOf h) = ks := by
  induction x with
  | nil => rfl
  | cons r t ih => rw [List.map_cons, ih, r.nats]
theorem sorted_out_nats {h : Heap} {vs : List Value} {ks : List Bytes} (hv : Paired (NatT h) vs ks) {xs : Array Keyed} (hp : xs.Perm (pairsOf vs)) (hs : SortedToK (G.tupKindC h (fun _ => false)) xs (pairsOf vs).size) :
    (∀ v ∈ (xs.map (·.2)).toList, v ∈ vs) ∧ ((xs.map (·.2)).toList.map (natsOf h)).Perm ks ∧ ((xs.map (·.2)).toList.map (natsOf h)).Pairwise (fun x y => less y x = false) ∧ (xs.map (·.2)).toList.length = vs.length := by
  have hl : xs.toList.Perm (vs.zip vs) := by rw [← pairsOf_toList]; exact Array.perm_iff_toList_perm.mp hp
  have hmem : ∀ p, p ∈ xs.toList → p.1 = p.2 ∧ p.1 ∈ vs := fun p hp' => mem_zip_self (hl.mem_iff.mp hp')
  have e : (xs.map (·.2)).toList = xs.toList.map (·.1) := by
    rw [Array.toList_map]; exact List.map_congr_left fun p hp' => (hmem p hp').1.symm
  rw [e]
  refine ⟨fun v hv' => ?_, ?_, ?_, ?_⟩
  · obtain ⟨p, hp', rfl⟩ := List.mem_map.mp hv'
    exact (hmem p hp').2
  · rw [List.map_map]
    have h1 := hl.map (fun p => natsOf h p.1)
    have e2 : (vs.zip vs).map (fun p => natsOf h p.1) = ks := by
      have : (vs.zip vs).map (fun p => natsOf h p.1) = ((vs.zip vs).map Prod.fst).map (natsOf h) := by rw [List.map_map]; rfl
      rw [this, List.map_fst_zip (Nat.le_refl _), nats_map hv]
    rwa [e2] at h1
  · rw [List.map_map, List.pairwise_iff_getElem]
    intro i j hi hj hij
    have hi' : i < xs.size := by simpa using hi
    have hj' : j < xs.size := by simpa using hj
    have h1 := hs i j (Nat.le_of_lt hij) (by rw [← hp.size_eq]; exact hj')
    obtain ⟨x, _, ex⟩ := paired_mem hv (hmem xs[i] (by simp)).2
    obtain ⟨y, _, ey⟩ := paired_mem hv (hmem xs[j] (by simp)).2
    have k1 : KK (G.tupKindC h (fun _ => false)) xs i = il x := by
      unfold KK
      rw [Array.getElem?_eq_getElem hi']
      show (G.tupKeyC h (fun _ => false) xs[i].1).getD [] = il x
      rw [ex.key]; rfl
    have k2 : KK (G.tupKindC h (fun _ => false)) xs j = il y := by
      unfold KK
      rw [Array.getElem?_eq_getElem hj']
      show (G.tupKeyC h (fun _ => false) xs[j].1).getD [] = il y
      rw [ey.key]; rfl
    rw [k1, k2] at h1
    have h2 : PyProof.Rows.lexLt itemOrd (il y) (il x) = false := h1
    rw [lex_less] at h2
    simp only [List.getElem_map, Array.getElem_toList, Function.comp]
    rw [ex.nats, ey.nats]
    exact h2
  · rw [List.length_map, hl.length_eq, List.length_zip, Nat.min_self]
section
variable {prog : Program} {w : World} {A : Around} {E : Value → Shared → Prop} {s : Shared}
theorem walksRaw (hh : A.handled = none) (I d : Addr) (hne : d ≠ I) (o : Obj) (es : Array DictEntry) (ep : Nat) (hdat : o.data = .dict es ep) :
    Walks prog w A I [I, d] [I] es.size (fun i v => ∃ en, es[i]? = some en ∧ v = en.key) (fun i h => h.IsKeyIter I d i es.size ep ∧ h.get? d = some o) where
  sub := fun b hb => by simp at hb; simp [hb]
  frame := fun _ _ _ st hk => ⟨st.1.at fun o e => hk I (by simp) o e, hk d (by simp) o st.2⟩
  item := fun i s Q E hi st hQ => by
    refine next_key_item st.1 st.2 hdat rfl (Array.getElem?_eq_getElem hi) fun h' hit' hs' => ?_
    exact hQ _ h' s.toks ⟨_, Array.getElem?_eq_getElem hi, rfl⟩ ⟨hit', (hs'.2 d hne).trans st.2⟩ fun b o hb e => hs'.extBut b o (fun h => hb (by simp [h])) e
  done := fun s Q E st hQ => next_key_end hh st.1 st.2 hdat rfl (Nat.le_refl _) fun h' he' => hQ h' s.toks fun b o hb e => he' b o (fun h => hb (by simp [h])) e
  self := fun i s Q E st hQ => by
    refine wpAny_pyIter_slot st.1.typeIs F.slot_dict_keyiterator_iter (wpAny_call_entry F.slot_dict_keyiterator_iter st.1.typeIs F.entry_dict_keyiterator_iter ?_ (F.args_dict_keyiterator_iter_1 _))
    show wpAny _ _ (ret (.ref I)) _ _ s
    exact wpAny_pure ⟨_, rfl, "dict_keyiterator", _, st.1.typeIs, F.slot_dict_keyiterator_next.lookup, hQ⟩
theorem kdl_raw {d : Addr} {o : Obj} {es : Array DictEntry} {ep : Nat} (lo : (d == sysModules) = false) (hc : o.ExactDict) (hdat : o.data = .dict es ep) :
    PySem.W.KdlSrc prog w "dict" d d es.size (fun i v => ∃ en, es[i]? = some en ∧ v = en.key) (fun h => h.get? d = some o) where
  type := fun s hm => ⟨o, hm, hc.1⟩
  there := fun _ hm => ⟨Heap.lt_size hm, Heap.lt_size hm⟩
  keep := fun _ _ hm hk => hk d (.inl rfl) o hm
  notList := by decide
  notTuple := by decide
  hint := fun _ _ _ _ hm hq => PySem.W.kdl_hint_dict ⟨o, hm, hc.1⟩ hq
  iter := fun A s hh hm => ⟨_, fun i h => h.IsKeyIter s.heap.objs.size d i es.size ep ∧ h.get? d = some o, (fun _ _ hq => iter_keys lo hm hc hdat hq), walksRaw hh _ d (Nat.ne_of_lt (Heap.lt_size hm)) o es ep hdat,
    ⟨⟨_, Heap.get?_push_size _ rfl, rfl, rfl⟩, Heap.get?_push_of_some _ hm⟩⟩
end
def nk (l : Bytes) : List Key := l.map fun n : Nat => Sum.inl (n : Int)
theorem nk_kV (l : Bytes) : (nk l).map kV = nv l := by
  unfold nk nv
  rw [List.map_map]
  rfl
theorem nk_inj : ∀ {a b : Bytes}, nk a = nk b → a = b
  | [], [], _ => rfl
  | [], _ :: _, h => nomatch h
  | _ :: _, [], h => nomatch h
  | x :: a, y :: b, h => by
    have h' : (Sum.inl (x : Int) : Key) :: nk a = Sum.inl (y : Int) :: nk b := h
    injection h' with h1 h2
    injection h1 with h1
    rw [nk_inj h2, show x = y by omega]
theorem natTs_of {X : Cx} {pins : List (Addr × Obj)} {σ : L2.St} {H : Hp} {s : Shared} (I : Inv X pins σ H s) {qs : List Addr} {ks : List Bytes} (h : Paired (fun a l => H a = some (.tup (nv l))) qs ks) (k : ∀ {q : Addr} {l : Bytes}, H q = some (.tup (nv l)) → NatT s.heap (.ref q) l) :
    Paired (NatT s.heap) (qs.map Value.ref) ks := by
  induction h with
  | nil => exact .nil
  | cons e t ih => exact .cons (k e) ih
abbrev TupsAt (H : Hp) : List Addr → List Bytes → Prop := Paired fun a l => H a = some (.tup (nv l))
def adOf : Value → Addr
  | .ref a => a
  | _ => 0
theorem paired_maps {α β γ : Type} {R : β → γ → Prop} {f : α → β} {g : α → γ} : ∀ {l : List α}, (∀ x ∈ l, R (f x) (g x)) → Paired R (l.map f) (l.map g)
  | [], _ => .nil
  | x :: l, h => .cons (h x List.mem_cons_self) (paired_maps fun y hy => h y (List.mem_cons_of_mem _ hy))
theorem natT_of {X : Cx} {pins : List (Addr × Obj)} {σ : L2.St} {H : Hp} {s : Shared} (I : Inv X pins σ H s) {q : Addr} {l : Bytes} (h : H q = some (.tup (nv l))) : NatT s.heap (.ref q) l := by
  obtain ⟨_, its, r, o, g1, g2, n, g3⟩ := (show ObjOk X.prog X.w H s.heap q (.tup (nv l)) from I.hok q _ h)
  refine ⟨q, o, _, n, rfl, g1, g2, g3, ?_⟩
  have r' : Vals ((l.map fun n : Nat => (n : Int)).map V.int) its := by
    rw [List.map_map]
    exact r
  simpa using r'.ints
def rSortedT : List V → Hp → VK → Prop := fun vs H Q => ∃ (a : Addr) (kvs : List (List Key × V)) (ks : List Bytes), vs = [V.ref a] ∧ Rd H a (.dT kvs) ∧ kvs.map (·.1) = ks.map nk ∧ (∀ l ∈ ks, l ≠ []) ∧
  ∀ (p : Addr) (as : List Addr) (ks' : List Bytes), H p = none → TupsAt H as ks' → ks'.Perm ks → Rising ks' → Q (.ref p) (upd H p (.lst (as.map V.ref)))
theorem cr_sortedT {X : Cx} (hc : X.calm = true) : CallR X (.builtin "sorted") rSortedT := by
  intro pins s σ H vs us Q I r h
  obtain ⟨a, kvs, ks, rfl, hs, hks, hne, q⟩ := h
  rw [Vals.ref1 r]
  obtain ⟨z, lo, xs, rel, o, es, ep, ho, hx, hdat, he, his, hn⟩ := dt_rd I.hok hs
  have hsz : es.size ≤ sizeLine := by
    rw [size_of_entries he, ← Paired.length rel]
    exact z
  -- the keys, as values and as naturals
  have hA : ∃ qs : List Addr, es.toList.map (·.key) = qs.map Value.ref ∧ TupsAt H qs ks := by
    refine ⟨xs.map (·.2.1), ?_, ?_⟩
    · rw [he, List.map_map, List.map_map]
      rfl
    · clear he his hn hsz z q r hne hs
      induction rel generalizing ks with
      | nil =>
        cases ks with
        | nil => exact .nil
        | cons _ _ => simp at hks
      | @cons p q ps qs hq t ih =>
        cases ks with
        | nil => simp at hks
        | cons l ks =>
          rw [List.map_cons, List.map_cons] at hks
          injection hks with e1 e2
          refine .cons ?_ (ih _ e2)
          rw [hq.2.1, e1, nk_kV]
  obtain ⟨qs, hqs, hT⟩ := hA
  have hnd : ks.Nodup := by
    have h1 : (kvs.map (·.1)) = xs.map (·.1) := by
      clear he his hn hsz z q r hks hs
      induction rel with
      | nil => rfl
      | cons hq t ih => rw [List.map_cons, List.map_cons, ih, hq.1]
    rw [← h1, hks] at hn
    exact List.Pairwise.of_map nk (fun a b h e => h (by rw [e])) hn
  refine Calls.call_function_entry kind_sorted plain_sorted entry_sorted (args_sorted1 _) ?_
  unfold Builtin.«sorted»
  refine wpAny_bind (m := checkCount "sorted" 1 1 _) (wpAny_pure ?_)
  refine wpAny_bind (PySem.W.kdu_collect (kdl_raw lo hx hdat) (I.ok.hd hc) ho hsz fun h' tk acc hk hacc => ?_)
  have hl : acc.toList = qs.map Value.ref := by
    rw [← hqs]
    apply List.ext_getElem?
    intro j
    rw [Array.getElem?_toList, List.getElem?_map, Array.getElem?_toList]
    cases ea : acc[j]? with
    | none =>
      have : acc.size ≤ j := by simpa using ea
      rw [hacc.1] at this
      rw [Array.getElem?_eq_none this]
      rfl
    | some v =>
      obtain ⟨en, h1, h2⟩ := hacc.2 j v ea
      rw [h1, h2]
      rfl
  rw [hl]
  have hql : qs.length = ks.length := Paired.length hT
  have hkl : ks.length ≤ sizeLine := by
    have : kvs.length = ks.length := by
      have := congrArg List.length hks
      simpa using this
    omega
  have I1 : Inv X pins σ H { s with heap := h', toks := tk } := I.kept hk
  refine wpAny_bind (wpAny_newList ?_ (by rw [List.length_map, hql]; exact hkl))
  have I2 : Inv X pins σ H { s with heap := h'.push (seqObj "list" (qs.map Value.ref).toArray 0), toks := tk } := I1.kept (t' := tk) fun _ _ e => Heap.get?_push_of_some _ e
  have hoL : (h'.push (seqObj "list" (qs.map Value.ref).toArray 0)).get? h'.objs.size = some (seqObj "list" (qs.map Value.ref).toArray 0) := Heap.get?_push_size _ rfl
  have hP : Paired (NatT (h'.push (seqObj "list" (qs.map Value.ref).toArray 0))) (qs.map Value.ref) ks := by
    exact natTs_of I2 hT fun e => natT_of I2 e
  obtain ⟨fs, hfs⟩ := tups_of hP hne
  show wpAny _ _ _ _ _ { s with heap := h'.push (seqObj "list" (qs.map Value.ref).toArray 0), toks := tk }
  refine wpAny_bind (wpAny_holding (wpAny_call_entry slot_list_sort ⟨_, hoL, rfl⟩ entry_list_sort
    (G.list_sort_tups (shape := fun _ => false) hoL hfs (fun v hv => let ⟨l, _, hl⟩ := paired_mem hP hv; ⟨_, hl.key⟩) (by rw [List.length_map, hql]; exact hkl) fun st' a1 a2 a3 => ⟨_, rfl, ?_⟩) (args_list_sort _)))
  obtain ⟨b1, b2, b3, b4⟩ := sorted_out_nats hP a1 a2
  generalize ((arrOf st').map (·.2)) = out at b1 b2 b3 b4 ⊢
  have hL : h'.objs.size < (h'.push (seqObj "list" (qs.map Value.ref).toArray 0)).objs.size := by rw [size_push']; exact Nat.lt_succ_self _
  obtain ⟨epo, he'⟩ := sortedHeap_at (out := out) hoL
  have hkeep : ∀ b u, h'.get? b = some u → (sortedHeap (h'.push (seqObj "list" (qs.map Value.ref).toArray 0)) h'.objs.size (qs.map Value.ref) out).get? b = some u := fun b u e => by
    rw [sortedHeap_old (Nat.ne_of_lt (Heap.lt_size e)) (Nat.lt_trans (Heap.lt_size e) hL)]
    exact Heap.get?_push_of_some _ e
  have hmem : ∀ v ∈ out.toList, ∃ q ∈ qs, v = .ref q := fun v hv => by
    obtain ⟨q, hq, rfl⟩ := List.mem_map.mp (b1 v hv)
    exact ⟨q, hq, rfl⟩
  have hTA : TupsAt H (out.toList.map adOf) (out.toList.map (natsOf (h'.push (seqObj "list" (qs.map Value.ref).toArray 0)))) := by
    refine paired_maps fun v hv => ?_
    obtain ⟨q, hq, rfl⟩ := hmem v hv
    obtain ⟨l, _, hl⟩ := paired_mem hT hq
    rw [(natT_of I2 hl).nats]
    exact hl
  have hvals : Vals ((out.toList.map adOf).map V.ref) out.toList := by
    rw [List.map_map]
    have : ∀ {l : List Value}, (∀ v ∈ l, ∃ q ∈ qs, v = .ref q) → Vals (l.map (V.ref ∘ adOf)) l := by
      intro l
      induction l with
      | nil => intro _; exact .nil
      | cons v l ih =>
        intro h
        obtain ⟨q, _, e⟩ := h v List.mem_cons_self
        subst e
        exact .cons rfl (ih fun v hv => h v (List.mem_cons_of_mem _ hv))
    exact this hmem
  refine wpAny_pure ⟨_, rfl, .ref h'.objs.size, upd H h'.objs.size (.lst ((out.toList.map adOf).map V.ref)), I1.laid (t' := tk) hkeep (Nat.le_refl _) ⟨?_, out.toList, epo, hvals, by simpa using he'⟩, rfl, ?_⟩
  · rw [List.length_map, List.length_map, b4, List.length_map, hql]
    exact hkl
  · refine q _ _ _ (I1.hok.fresh (Nat.le_refl _)) hTA b2 ?_
    have hnd' := (b2.nodup_iff).mpr hnd
    exact (b3.and hnd').imp fun ⟨h1, h2⟩ => by
      rcases less_total _ _ with e | e | e
      · exact e
      · exact (h2 e).elim
      · rw [e] at h1; cases h1
end Bw
set_option Elab.async false
set_option linter.all false
set_option maxRecDepth 100000
set_option maxHeartbeats 4000000
namespace Bw
open PySem PySem.Spec PyProof.Rows L2 Kct5
abbrev BD := List (Bytes × V)
def enc (l : BD) : List (List Key × V) := l.map fun p => (nk p.1, p.2)
def bd (l : BD) : HO := .dT (enc l)
theorem enc_length (l : BD) : (enc l).length = l.length := List.length_map ..
theorem enc_keys (l : BD) : (enc l).map (·.1) = (l.map (·.1)).map nk := by
  unfold enc
  rw [List.map_map, List.map_map]
  rfl
theorem valV_enc (k : Bytes) : ∀ l : BD, valV (enc l) (nk k) = valV l k
  | [] => rfl
  | p :: l => by
    show valV ((nk p.1, p.2) :: enc l) (nk k) = _
    by_cases h : p.1 = k
    · rw [valV_pos h, valV_pos (p := (nk p.1, p.2)) (by rw [h])]
    · rw [valV_neg h, valV_neg (p := (nk p.1, p.2)) (fun z => h (nk_inj z)), valV_enc k l]
theorem enc_map (l : BD) (k : Bytes) (v : V) : (enc l).map (fun kv => if kv.1 = nk k then (kv.1, v) else kv) = enc (l.map fun kv => if kv.1 = k then (kv.1, v) else kv) := by
  unfold enc
  rw [List.map_map, List.map_map]
  refine List.map_congr_left fun p _ => ?_
  show (if nk p.1 = nk k then (nk p.1, v) else (nk p.1, p.2)) = _
  by_cases h : p.1 = k
  · rw [if_pos (by rw [h])]
    show _ = (nk (if p.1 = k then (p.1, v) else p).1, (if p.1 = k then (p.1, v) else p).2)
    rw [if_pos h]
  · rw [if_neg (fun z => h (nk_inj z))]
    show _ = (nk (if p.1 = k then (p.1, v) else p).1, (if p.1 = k then (p.1, v) else p).2)
    rw [if_neg h]
theorem putK_enc (l : BD) (k : Bytes) (v : V) : putK (enc l) (nk k) v = enc (putK l k v) := by
  unfold putK
  rw [valV_any, valV_any, valV_enc]
  split
  · exact enc_map l k v
  · unfold enc
    rw [List.map_append]
    rfl
theorem dropK_enc (l : BD) (k : Bytes) : dropK (enc l) (nk k) = enc (dropK l k) := by
  unfold dropK enc
  rw [List.filter_map]
  congr 1
  refine List.filter_congr fun p _ => ?_
  show decide (nk p.1 ≠ nk k) = decide (p.1 ≠ k)
  by_cases h : p.1 = k
  · rw [h]
    simp
  · rw [decide_eq_true (show p.1 ≠ k from h), decide_eq_true (show nk p.1 ≠ nk k from fun z => h (nk_inj z))]
section
variable {κ : Type} [DecidableEq κ]
theorem valV_mem {l : List (κ × V)} {k : κ} : k ∈ l.map (·.1) ↔ (valV l k).isSome = true := by
  induction l with
  | nil => simp [valV_nil]
  | cons p l ih =>
    rw [List.map_cons, List.mem_cons]
    by_cases h : p.1 = k
    · rw [valV_pos h]
      simp [h]
    · rw [valV_neg h, ← ih]
      exact ⟨fun z => z.resolve_left (fun e => h e.symm), .inr⟩
theorem valV_none {l : List (κ × V)} {k : κ} : k ∉ l.map (·.1) ↔ valV l k = none := by
  rw [valV_mem]
  cases valV l k <;> simp
theorem valV_drop (k j : κ) : ∀ l : List (κ × V), valV (dropK l k) j = if j = k then none else valV l j
  | [] => by simp [dropK, valV_nil]
  | p :: l => by
    have ih := valV_drop k j l
    unfold dropK at ih ⊢
    rw [List.filter_cons]
    by_cases h : p.1 = k
    · rw [if_neg (by simp [h]), ih]
      by_cases e : j = k
      · rw [if_pos e, if_pos e]
      · rw [if_neg e, if_neg e, valV_neg (fun z => e (z.symm.trans h))]
    · rw [if_pos (by simp [h])]
      by_cases e : p.1 = j
      · rw [valV_pos e, valV_pos e, if_neg (fun z => h (e.trans z))]
      · rw [valV_neg e, valV_neg e, ih]
theorem keys_drop (l : List (κ × V)) (k : κ) : (dropK l k).map (·.1) = (l.map (·.1)).filter fun x => decide (x ≠ k) := by
  unfold dropK
  rw [List.filter_map]
  rfl
theorem nodup_drop {l : List (κ × V)} {k : κ} (h : (l.map (·.1)).Nodup) : ((dropK l k).map (·.1)).Nodup := by
  rw [keys_drop]
  exact h.filter _
theorem mem_drop {l : List (κ × V)} {k j : κ} : j ∈ (dropK l k).map (·.1) ↔ j ∈ l.map (·.1) ∧ j ≠ k := by
  rw [keys_drop, List.mem_filter, decide_eq_true_eq]
theorem keys_put_new {l : List (κ × V)} {k : κ} (v : V) (h : valV l k = none) : (putK l k v).map (·.1) = l.map (·.1) ++ [k] := by
  rw [putK_new v h, List.map_append]
  rfl
theorem keys_put_old {l : List (κ × V)} {k : κ} (v : V) (h : (valV l k).isSome = true) : (putK l k v).map (·.1) = l.map (·.1) := by
  unfold putK
  rw [valV_any, if_pos h, List.map_map]
  refine List.map_congr_left fun p _ => ?_
  show (if p.1 = k then (p.1, v) else p).1 = p.1
  split <;> rfl
theorem nodup_put {l : List (κ × V)} {k : κ} {v : V} (h : (l.map (·.1)).Nodup) : ((putK l k v).map (·.1)).Nodup := by
  cases e : valV l k with
  | none =>
    rw [keys_put_new v e, List.nodup_append]
    refine ⟨h, by simp, fun a ha b hb => ?_⟩
    rw [List.mem_singleton.mp hb]
    rintro rfl
    exact (valV_none.mpr e) ha
  | some y => rw [keys_put_old v (by rw [e]; rfl)]; exact h
theorem mem_put {l : List (κ × V)} {k j : κ} {v : V} : j ∈ (putK l k v).map (·.1) ↔ j = k ∨ j ∈ l.map (·.1) := by
  rw [valV_mem, valV_put, valV_mem]
  by_cases h : j = k
  · simp [h]
  · simp [h]
end
theorem nodup_le {α : Type} [DecidableEq α] : ∀ {l m : List α}, l.Nodup → (∀ x ∈ l, x ∈ m) → l.length ≤ m.length
  | [], _, _, _ => Nat.zero_le _
  | x :: l, m, hn, hs => by
    rw [List.nodup_cons] at hn
    have hx := hs x List.mem_cons_self
    have h1 := nodup_le (m := m.erase x) hn.2 fun y hy => by
      have hne : y ≠ x := fun e => hn.1 (e ▸ hy)
      exact (List.mem_erase_of_ne hne).mpr (hs y (List.mem_cons_of_mem _ hy))
    rw [List.length_erase_of_mem hx] at h1
    have := List.length_pos_of_mem hx
    rw [List.length_cons]
    omega
section
variable {H : Hp} {a b : Addr} {l : BD} {k : Bytes}
theorem bd_key (eb : H b = some (.tup (nv k))) : H b = some (.tup ((nk k).map kV)) := by rw [nk_kV]; exact eb
theorem bd_get (e : H a = some (bd l)) (eb : H b = some (.tup (nv k))) : DGet H a (.ref b) (valV l k) := by
  rw [← valV_enc]
  exact DGet.t e (bd_key eb)
theorem bd_put {v : V} (e : H a = some (bd l)) (eb : H b = some (.tup (nv k))) (hl : l.length < sizeLine) : DPut H a (.ref b) v (upd H a (bd (putK l k v))) := by
  unfold bd
  rw [← putK_enc]
  exact DPut.t e (bd_key eb) (by rw [enc_length]; exact hl)
theorem bd_is (e : H a = some (bd l)) : IsD H a := .inr ⟨_, .inl e⟩
end
def tBPop (td ty : TE) : TE := fun σ H Q => td σ H fun x H1 => ∃ a l, x = .ref a ∧ H1 a = some (bd l) ∧ ty σ H1 fun y H2 => ∃ l k b v, H2 a = some (bd l) ∧ y = .ref b ∧ H2 b = some (.tup (nv k)) ∧ valV l k = some v ∧ Q v (upd H2 a (bd (dropK l k)))
def tBSet (td ty tx : TE) : TE := fun σ H Q => td σ H fun x H1 => ∃ a l, x = .ref a ∧ H1 a = some (bd l) ∧ ty σ H1 fun y H2 => tx σ H2 fun z H3 => ∃ l k b, H3 a = some (bd l) ∧ y = .ref b ∧ H3 b = some (.tup (nv k)) ∧ l.length < sizeLine ∧
  ∃ Good : V → Hp → Prop, (∀ v, valV l k = some v → Good v H3) ∧ (valV l k = none → Good z (upd H3 a (bd (putK l k z)))) ∧ ∀ v H', Good v H' → Q v H'
section
variable {X : Cx} {o e f : Expr} {apos cpos : Pos} {td ty tx : TE}
theorem pe_bpop (hu : X.A.units + 1 < cLine) (ho : PE X o td) (he : PE X e ty) (m : M1 X o "pop" apos e cpos) : PE X (.Call (.Attribute o "pop" apos) [e] [] cpos) (tBPop td ty) := by
  intro pins s σ H Q I h
  refine wpAny_Call_method m.base m.few m.line PySem.F.plainAttrs_dict PySem.F.slot_dict_pop PySem.F.type_dict_pop (thn (ho pins s σ H _ I h) fun u s1 ⟨x, H1, I1, rx, a, l0, ex, d, q1⟩ => ?_)
  subst ex
  obtain rfl : u = Value.ref a := rx
  obtain ⟨t1, t2, _⟩ := isD_at I1 (bd_is d)
  refine ⟨t1, t2, ?_⟩
  rw [m.trees]
  refine Calls.callWith_builtin rfl (Calls.evalArgs_plain (Calls.spliced_cons (thn (he pins s1 σ H1 _ I1 q1) fun iv s2 ⟨y, H2, I2, ry, l, k, b, v, ea, ey, eb, lk, q2⟩ => Calls.spliced_nil ?_)))
  subst ey
  obtain rfl : iv = Value.ref b := ry
  refine d_popT hu I2 ea (bd_key eb) (by rw [valV_enc]; exact lk) fun w' s3 I3 rw' => ⟨v, _, I3, rw', ?_⟩
  rw [dropK_enc]
  exact q2
theorem pe_bset (hu : X.A.units + 1 < cLine) (ho : PE X o td) (he : PE X e ty) (hf : PE X f tx) (m : M2 X o "setdefault" apos e f cpos) : PE X (.Call (.Attribute o "setdefault" apos) [e, f] [] cpos) (tBSet td ty tx) := by
  intro pins s σ H Q I h
  refine wpAny_Call_method m.base m.few m.line PySem.F.plainAttrs_dict PySem.F.slot_dict_setdefault PySem.F.type_dict_setdefault (thn (ho pins s σ H _ I h) fun u s1 ⟨x, H1, I1, rx, a, l0, ex, d, q1⟩ => ?_)
  subst ex
  obtain rfl : u = Value.ref a := rx
  obtain ⟨t1, t2, _⟩ := isD_at I1 (bd_is d)
  refine ⟨t1, t2, ?_⟩
  rw [m.trees]
  refine Calls.callWith_builtin rfl (Calls.evalArgs_plain (Calls.spliced_cons (thn (he pins s1 σ H1 _ I1 q1) fun iv s2 ⟨y, H2, I2, ry, q2⟩ =>
    Calls.spliced_cons (thn (hf pins s2 σ H2 _ I2 q2) fun fv s3 ⟨z, H3, I3, rz, l, k, b, ea, ey, eb, hl, Good, g3, g4, g5⟩ => Calls.spliced_nil ?_))))
  have q3 := fun v e => g5 v H3 (g3 v e)
  have q4 := fun e => g5 z _ (g4 e)
  subst ey
  obtain rfl : iv = Value.ref b := ry
  refine d_setT hu I3 ea (bd_key eb) rz (by rw [enc_length]; exact hl) (fun v w' s4 lk I4 rw' => ⟨v, H3, I4, rw', q3 v (by rw [← valV_enc]; exact lk)⟩) fun lk s4 I4 => ⟨z, _, I4, rz, ?_⟩
  rw [putK_enc]
  exact q4 (by rw [← valV_enc]; exact lk)
theorem call_lenB : CallR X (.builtin "len") (fun xs H Q => ∃ a l, xs = [V.ref a] ∧ H a = some (bd l) ∧ Q (.int l.length) H) := by
  intro pins s σ H xs us Q I r h
  obtain ⟨a, l, e, ha, q⟩ := h
  exact call_lenT pins s σ H xs us Q I r ⟨a, _, e, ha, by rw [enc_length]; exact q⟩
def rSortedB : List V → Hp → VK → Prop := fun vs H Q => ∃ (a : Addr) (l : BD), vs = [V.ref a] ∧ H a = some (bd l) ∧ (∀ k ∈ l.map (·.1), k ≠ []) ∧
  ∀ (p : Addr) (as : List Addr) (ks : List Bytes), H p = none → TupsAt H as ks → ks.Perm (l.map (·.1)) → Rising ks → Q (.ref p) (upd H p (.lst (as.map V.ref)))
theorem cr_sortedB (hc : X.calm = true) : CallR X (.builtin "sorted") rSortedB := by
  intro pins s σ H vs us Q I r h
  obtain ⟨a, l, e, ha, hne, q⟩ := h
  exact cr_sortedT hc pins s σ H vs us Q I r ⟨a, enc l, l.map (·.1), e, .inl ha, enc_keys l, hne, q⟩
def tBNew : TE := fun _ H Q => ∀ p, H p = none → Q (.ref p) (upd H p (bd []))
theorem pe_bnew {pos : Pos} : PE X (.Dict [] [] pos) tBNew := pe_dnewT
end
end Bw
set_option Elab.async false
set_option linter.all false
set_option maxRecDepth 100000
set_option maxHeartbeats 4000000
namespace Bw
open PySem PySem.Spec PyProof.Rows L2 Kct5
def top (i : Nat) : Stmt := PySem.Challenge.pw_bentwords_s01_answers.main.body.getD i (.Pass ⟨0, 0, 0, 0⟩)
structure Glo (mg : Str → Option Value) : Prop where
  first : GI mg "FIRST_LETTER" 97
  last : GI mg "LAST_LETTER" 122
  blank : GI mg "BLANK" 32
  dot : GI mg "DOT" 46
  slash : GI mg "SLASH" 47
  opening : GI mg "OPENING" 91
  closing : GI mg "CLOSING" 93
  caret : GI mg "CARET" 94
  places : GI mg "MOST_PLACES" 16
  going : GI mg "MOST_GOING" 16
  coming : GI mg "MOST_COMING" 16
  len : mg "len" = none
  all : mg "all" = none
  tuple : mg "tuple" = none
  range : mg "range" = none
  great1 : GI mg "FIRST_GREAT_LETTER" 65
  great2 : GI mg "LAST_GREAT_LETTER" 90
  formMax : GI mg "MOST_FORM_LETTERS" 40
  noWord : GI mg "NO_SUCH_WORD" (-2)
  isThere : GI mg "ALREADY_THERE" (-17)
  notOk : GI mg "NOT_ALLOWED" (-22)
  full : GI mg "FULL" (-28)
  noRule : GI mg "NO_RULE" (-71)
  lastClass : GI mg "LAST_CLASS" 63
  lastSlot : GI mg "LAST_SLOT" 15
  mostRules : GI mg "MOST_RULES" 512
  ruleBytes : GI mg "MOST_RULE_BYTES" 96
  mostWords : GI mg "MOST_WORDS" 512
  wordLetters : GI mg "MOST_WORD_LETTERS" 24
  mostSaid : GI mg "MOST_SAID" 256
  textBytes : GI mg "MOST_TEXT_BYTES" 4096
  cBegin : GI mg "BEGIN" 0
  cRule : GI mg "RULE" 1
  cWord : GI mg "WORD" 2
  cOdd : GI mg "ODD" 3
  cForm : GI mg "FORM" 4
  cFound : GI mg "FOUND" 5
  cNear : GI mg "NEAR" 6
  zip : mg "zip" = none
  enum : mg "enumerate" = none
  sorted : mg "sorted" = none
  list : mg "list" = none
def spIsLetter : Sp := fun vs H Q _ => ∃ n : Nat, vs = [iv n] ∧ Q (.bl (letter n)) H
def spRow (K : PySem.W.Frag) : Sp := fun vs H Q _ => ∃ (a : Addr) (l : Bytes) (lo hi : Nat), vs = [.ref a, iv lo, iv hi] ∧ SqL K H a (nv l) ∧ l.length ≤ 30000 ∧ ∀ H', Same H H' → Q (.bl (isLetters lo hi l)) H'
def spWithout (K : PySem.W.Frag) : Sp := fun vs H Q _ => ∃ (a : Addr) (l : Bytes), vs = [.ref a] ∧ SqL K H a (nv l) ∧ ∀ (p : Addr) (H' : Hp), Same H H' → H' p = some (.tup (nv (without l))) → Q (.ref p) H'
section
variable {P : Program} {w : World} {K : PySem.W.Frag} {mg : Str → Option Value} {base : Heap}
theorem scIsLetter : FnScope ["sign"] ["sign"] (defScope (top 12)) := ⟨rfl, rfl, rfl, by decide +kernel, rfl, by decide +kernel, by decide +kernel⟩
theorem ok_isLetter {f : Addr} {fd : FuncData} (F : Fun K "is_letter" "is_letter" (top 12) f fd) (G : Glo mg) : FnOk P w K mg base CX0 1 f fd ["sign"] spIsLetter := by
  refine F.ok scIsLetter (fun vs H Q E h => ?_) (fun cdv A outer s H vs Q E hr h => ?_)
  · obtain ⟨n, rfl, _⟩ := h
    rfl
  · obtain ⟨n, rfl, k⟩ := h
    refine ⟨_, pss_one (ps_ret (pe_chain op_le op_le (pe_gi G.first) (pv 0) (pe_gi G.last))), ?_⟩
    refine ⟨_, rfl, _, _, rfl, rfl, _, rfl, ?_⟩
    have e : letter n = (decide (97 ≤ n) && decide (n ≤ 122)) := rfl
    refine ite2 (fun h1 => ?_) (fun h1 => ?_)
    · refine ⟨_, _, rfl, rfl, ?_⟩
      have h1' : 97 ≤ n := by have := of_decide_eq_true h1; omega
      have e2 : decide ((n : Int) ≤ 122) = letter n := by
        rw [e, decide_eq_true h1', Bool.true_and]
        by_cases h2 : n ≤ 122
        · rw [decide_eq_true h2, decide_eq_true (by omega)]
        · rw [decide_eq_false h2, decide_eq_false (by omega)]
      show Q (.bl (decide ((n : Int) ≤ 122))) H
      rw [e2]
      exact k
    · have h1' : ¬ 97 ≤ n := fun z => h1 (decide_eq_true (by omega))
      have e2 : letter n = false := by rw [e, decide_eq_false h1', Bool.false_and]
      rw [e2] at k
      exact k
theorem scRow : FnScope ["signs", "least", "most", "sign"] ["signs", "least", "most"] (defScope (top 13)) := ⟨rfl, rfl, rfl, by decide +kernel, rfl, by decide +kernel, by decide +kernel⟩
theorem boot_tuple1 : bootBuiltins "tuple" = some (.type "tuple") := by decide +kernel
theorem boot_all1 : bootBuiltins "all" = some (.builtin "all") := by decide +kernel
theorem ok_row {f : Addr} {fd : FuncData} (F : Fun K "is_row_of_letters" "is_row_of_letters" (top 13) f fd) (G : Glo mg) (C1 : Cal P w K mg base "is_letter" ["sign"] 1 spIsLetter) : FnOk P w K mg base CX0 2 f fd ["signs", "least", "most"] (spRow K) := by
  refine F.ok scRow (fun vs H Q E h => ?_) (fun cdv A outer s H vs Q E hr h => ?_)
  · obtain ⟨a, l, lo, hi, rfl, _⟩ := h
    rfl
  · obtain ⟨a, l, lo, hi, rfl, hS, hL, k⟩ := h
    refine ⟨_, pss_one (ps_ret (pe_and (pe_chain op_le op_le (pv 1) (pe_callB call_len_seq (by rfl) G.len PySem.boot_len (pa_cons (pv 0) pa_nil)) (pv 2))
      (pe_one (pe_callB (cr_all rfl) (by rfl) G.all boot_all1 (pa_cons (pe_lc rfl scRow.nd (pi_list (pv 0)) (own := [("sign", 3)]) (blkOk_by (by show blkC ["signs", "least", "most", "sign"] (defScope (top 13)) _ _ = true; decide +kernel))
        (fun _ _ _ _ _ => pg_name (i := 3) scRow.nd rfl (Or.inl rfl)) (fun _ _ _ _ _ => pts_nil) (fun _ _ _ _ _ => pe_cal C1 hr (pa_cons (pv 3) pa_nil))) pa_nil))))), ?_⟩
    have e : isLetters lo hi l = (decide (lo ≤ l.length) && decide (l.length ≤ hi) && l.all letter) := rfl
    refine ⟨_, rfl, _, rfl, a, _, rfl, .inl hS, _, _, rfl, rfl, _, rfl, ?_⟩
    refine ite2 (fun h1 => ?_) (fun h1 => ?_)
    · have h1' : lo ≤ l.length := by have := of_decide_eq_true h1; rw [nv_length] at this; omega
      refine ⟨_, rfl, _, _, rfl, rfl, _, rfl, ?_⟩
      refine ite2 (fun h2 => ?_) (fun h2 => ?_)
      · have h2' : l.length ≤ hi := by have := of_decide_eq_true h2; rw [nv_length] at this; omega
        rw [decide_eq_true h1', decide_eq_true h2', Bool.true_and] at e
        refine ⟨_, rfl, a, rfl, ⟨_, hS⟩, fun D hD => lc_list (K := K) (a := a) (xs := nv l) (fun i H' => H' D = some (.lst ((l.take i).map fun n => V.bl (letter n))) ∧ Same H H')
          ⟨upd_same, same_new (Same.refl H) hD⟩ (fun i H' _ h => h.2.seq hS) ?_ ?_⟩
        · rintro i x H' hi' ⟨g1, g2⟩
          obtain ⟨n, hn, rfl⟩ := nv_get hi'
          obtain ⟨hlt, _⟩ := List.getElem?_eq_some_iff.mp hn
          refine ⟨rfl, _, rfl, n, rfl, _, g1, ?_, ?_, ?_⟩
          · rw [List.length_map, List.length_take]
            exact size100 (by omega)
          · rw [upd_same, last_take hn, List.map_append]
            rfl
          · exact same_upd g2 hD
        · rintro H' ⟨g1, g2⟩
          rw [nv_length, List.take_length] at g1
          refine ⟨D, l.map letter, rfl, SqL.of (by rw [List.map_map]; exact g1), ?_⟩
          have e3 : (l.map letter).all id = l.all letter := by rw [List.all_map]; rfl
          rw [e3]
          rw [Bool.true_and] at e
          rw [e] at k
          exact k H' g2
      · have h2' : ¬ l.length ≤ hi := fun z => h2 (decide_eq_true (by rw [nv_length]; omega))
        rw [decide_eq_false h2', Bool.and_false, Bool.false_and] at e
        rw [e] at k
        exact k H (Same.refl H)
    · have h1' : ¬ lo ≤ l.length := fun z => h1 (decide_eq_true (by rw [nv_length]; omega))
      rw [decide_eq_false h1', Bool.false_and, Bool.false_and] at e
      rw [e] at k
      refine ⟨_, rfl, iteF ?_⟩
      exact k H (Same.refl H)
theorem scWithout : FnScope ["those", "letter"] ["those"] (defScope (top 14)) := ⟨rfl, rfl, rfl, by decide +kernel, rfl, by decide +kernel, by decide +kernel⟩
theorem inV_nv (n : Nat) : ∀ l : Bytes, inV (iv n) (nv l) = l.contains n
  | [] => rfl
  | a :: l => by
    show (((a : Int) == (n : Int)) || inV (iv n) (nv l)) = (a :: l).contains n
    rw [inV_nv n l, List.contains_cons]
    congr 1
    by_cases h : a = n
    · subst h
      rw [beq_self_eq_true, beq_self_eq_true]
    · rw [beq_eq_false_iff_ne.mpr (fun z => h (by omega)), beq_eq_false_iff_ne.mpr (fun z => h z.symm)]
theorem flat_nv : ∀ l : Bytes, (nv l).all flatV = true
  | [] => rfl
  | _ :: l => flat_nv l
theorem ok_without {f : Addr} {fd : FuncData} (F : Fun K "letters_without" "letters_without" (top 14) f fd) (G : Glo mg) : FnOk P w K mg base CX0 1 f fd ["those"] (spWithout K) := by
  refine F.ok scWithout (fun vs H Q E h => ?_) (fun cdv A outer s H vs Q E hr h => ?_)
  · obtain ⟨a, l, rfl, _⟩ := h
    rfl
  · obtain ⟨a, l, rfl, hS, k⟩ := h
    refine ⟨_, pss_one (ps_ret (pe_callTy call_tuple_of (by rfl) G.tuple boot_tuple1 (pa_cons (pe_lc rfl scWithout.nd (pi_range2 (by rfl) G.range (pa_cons (pe_gi G.first) (pa_cons (pe_op op_add (pe_gi G.last) pe_int) pa_nil))) (own := [("letter", 1)]) (blkOk_by (by show blkC ["those", "letter"] (defScope (top 14)) _ _ = true; decide +kernel))
        (fun _ _ _ _ _ => pg_name (i := 1) scWithout.nd rfl (Or.inl rfl)) (fun _ _ _ _ _ => pts_one (pt_cmpR (show OpR _ (compareOp .NotIn) (rIn K true) from op_notIn_seq) (pv 1) (pv 0) (by with_unfolding_all rfl))) (fun _ _ _ _ _ => pv 1)) pa_nil))), ?_⟩
    refine ⟨_, _, rfl, rfl, 97, 123, rfl, ⟨by decide, by decide, by decide, by decide⟩, fun D hD => lc_range (lo := 97) (n := 26) (fun i H' => H' D = some (.lst (nv (((List.range i).map (97 + ·)).filter fun c => !l.contains c))) ∧ Same H H')
      ⟨upd_same, same_new (Same.refl H) hD⟩ ?_ ?_⟩
    · rintro i H' hi ⟨g1, g2⟩
      refine ⟨rfl, _, rfl, _, rfl, a, nv l, rfl, .inl (g2.seq hS), rfl, flat_nv l, _, rfl, ?_⟩
      have ei : V.int (97 + (i : Int)) = iv (97 + i) := ceq (by omega)
      have ec : inV (V.int (97 + (i : Int))) (nv l) = l.contains (97 + i) := by rw [ei, inV_nv]
      have er : ((List.range (i + 1)).map (97 + ·)).filter (fun c => !l.contains c) = ((List.range i).map (97 + ·)).filter (fun c => !l.contains c) ++ (if (!l.contains (97 + i)) = true then [97 + i] else []) := by
        rw [List.range_succ, List.map_append, List.filter_append]
        congr 1
        show List.filter _ [97 + i] = _
        rw [List.filter_cons]
        split <;> rfl
      refine ite2 (fun h1 => ?_) (fun h1 => ?_)
      · have h1' : (!l.contains (97 + i)) = true := by rw [← ec]; exact h1
        rw [if_pos h1'] at er
        refine ⟨_, rfl, _, g1, ?_, ?_, same_upd g2 hD⟩
        · rw [nv_length]
          refine size100 (Nat.le_trans (List.length_filter_le _ _) ?_)
          rw [List.length_map, List.length_range]
          omega
        · rw [upd_same, er, nv_append, ei]
          rfl
      · have h1' : ¬ (!l.contains (97 + i)) = true := by rw [← ec]; exact h1
        rw [if_neg h1', List.append_nil] at er
        exact ⟨by rw [er]; exact g1, g2⟩
    · rintro H' ⟨g1, g2⟩
      exact ⟨D, _, rfl, .inl ⟨SqL.of g1, fun p hp => k p _ (same_new g2 hp) upd_same⟩⟩
end
end Bw
set_option Elab.async false
set_option linter.all false
set_option maxRecDepth 100000
set_option maxHeartbeats 4000000
namespace Bw
open PySem PySem.Spec PyProof.Rows L2 Kct5
def Rows (H : Hp) (as : List Addr) (rs : List Bytes) : Prop := Paired (fun b r => H b = some (.lst (nv r))) as rs
theorem Rows.mono {H H' : Hp} : ∀ {as : List Addr} {rs : List Bytes}, Rows H as rs → (∀ b ∈ as, ∀ o, H b = some o → H' b = some o) → Rows H' as rs
  | _, _, .nil, _ => .nil
  | _, _, .cons r t, k => .cons (k _ List.mem_cons_self _ r) (Rows.mono t fun b hb => k b (List.mem_cons_of_mem _ hb))
theorem Rows.snoc {H : Hp} {b : Addr} {r : Bytes} (hb : H b = some (.lst (nv r))) : ∀ {as : List Addr} {rs : List Bytes}, Rows H as rs → Rows H (as ++ [b]) (rs ++ [r])
  | _, _, .nil => .cons hb .nil
  | _, _, .cons q t => .cons q (Rows.snoc hb t)
theorem Rows.there {H : Hp} : ∀ {as : List Addr} {rs : List Bytes}, Rows H as rs → ∀ b ∈ as, ∃ r, H b = some (.lst (nv r))
  | _, _, .cons q t, b, hb => by
    rcases List.mem_cons.mp hb with rfl | hb
    · exact ⟨_, q⟩
    · exact Rows.there t b hb
def spSplit (K : PySem.W.Frag) : Sp := fun vs H Q _ => ∃ (a : Addr) (l : Bytes) (c : Nat), vs = [.ref a, iv c] ∧ SqL K H a (nv l) ∧ l.length ≤ 1000 ∧
  ∀ (p : Addr) (as : List Addr) (H' : Hp), Same H H' → H' p = some (.lst (as.map V.ref)) → Rows H' as (parted c l) → Q (.ref p) H'
section
variable {P : Program} {w : World} {K : PySem.W.Frag} {mg : Str → Option Value} {base : Heap}
theorem scSplit : FnScope ["signs", "mark", "rows", "row", "sign"] ["signs", "mark"] (defScope (top 36)) := ⟨rfl, rfl, rfl, by decide +kernel, rfl, by decide +kernel, by decide +kernel⟩
theorem ok_split {f : Addr} {fd : FuncData} (F : Fun K "split_at" "split_at" (top 36) f fd) : FnOk P w K mg base CX0 1 f fd ["signs", "mark"] (spSplit K) := by
  refine F.ok scSplit (fun vs H Q E h => ?_) (fun cdv A outer s H vs Q E hr h => ?_)
  · obtain ⟨a, l, c, rfl, _⟩ := h
    rfl
  · obtain ⟨a, l, c, rfl, hS, hL, k⟩ := h
    refine ⟨_, pss_cons (ps_set (i := 2) scSplit.nd rfl (Or.inl rfl) (pe_lst pa_nil)) (pss_cons (ps_set (i := 3) scSplit.nd rfl (Or.inl rfl) (pe_lst pa_nil))
      (pss_cons (ps_for PassesOwn.never rfl (pi_list (pv 0)) (pg_name (i := 4) scSplit.nd rfl (Or.inl rfl))
        (pss_one (ps_if (pt_cmpR op_eq (pv 4) (pv 1) (nomark _))
          (pss_cons (ps_expr (pe_app (pv 2) (pa_cons (pv 3) pa_nil))) (pss_one (ps_set (i := 3) scSplit.nd rfl (Or.inl rfl) (pe_lst pa_nil))))
          (pss_one (ps_expr (pe_app (pv 3) (pa_cons (pv 4) pa_nil)))))))
      (pss_cons (ps_expr (pe_app (pv 2) (pa_cons (pv 3) pa_nil))) (pss_one (ps_ret (pv 2)))))), ?_⟩
    refine ⟨Nat.zero_le _, fun p hp => ⟨Nat.zero_le _, fun q hq => ?_⟩⟩
    have npq : p ≠ q := ne_of_none (o := .lst []) upd_same hq
    have hq0 : H q = none := by rw [upd_ne npq.symm] at hq; exact hq
    have s0 : Same H (upd (upd H p (.lst [])) q (.lst [])) := same_new (same_new (Same.refl H) hp) hq
    refine ⟨_, rfl, a, rfl, ⟨_, s0.seq hS⟩, for_list (K := K) (a := a) (xs := nv l) (fun i σ H' => ∃ (as : List Addr) (done : List Bytes) (row : Bytes) (q : Addr) (v : Option V),
      σ = [some (.ref a), some (iv c), some (.ref p), some (.ref q), v] ∧ Same H H' ∧ H' p = some (.lst (as.map V.ref)) ∧ Rows H' as done ∧ H' q = some (.lst (nv row)) ∧ p ≠ q ∧ ¬ q ∈ as ∧ ¬ p ∈ as ∧ H q = none ∧
      parted c l = done ++ glue row (parted c (l.drop i)) ∧ as.length ≤ i ∧ row.length ≤ i) ?_ (fun i σ H' _ ⟨_, _, _, _, _, _, s1, _⟩ => s1.seq hS) ?_ ?_⟩
    · exact ⟨[], [], [], q, none, rfl, s0, by rw [upd_ne npq, upd_same]; rfl, .nil, upd_same, npq, by simp, by simp, hq0, by rw [List.drop_zero, glue_nil]; rfl, Nat.le_refl _, Nat.le_refl _⟩
    · rintro i x σ H' hi ⟨as, done, row, q, v, rfl, s1, hp', hR, hq', npq, nqa, npa, hq0, ep, la, lr⟩
      obtain ⟨n, hn, rfl⟩ := nv_get hi
      obtain ⟨hlt, en⟩ := List.getElem?_eq_some_iff.mp hn
      have ed : l.drop i = n :: l.drop (i + 1) := by rw [List.drop_eq_getElem_cons hlt, en]
      rw [ed] at ep
      refine ⟨_, rfl, _, rfl, rfl, _, rfl, ?_⟩
      refine ite2 (fun h1 => ?_) (fun h1 => ?_)
      · have h1' : n = c := by
          have := of_decide_eq_true h1
          injection this with z
          omega
        rw [glue_hit h1'] at ep
        refine ⟨_, rfl, .inl ⟨rfl, _, SqL.of hp'⟩, _, rfl, p, _, _, rfl, rfl, hp', ?_, ?_⟩
        · rw [List.length_map]
          exact size100 (by omega)
        refine ⟨Nat.zero_le _, fun r hr' => ?_⟩
        have npr : p ≠ r := ne_of_none (o := _) upd_same hr'
        have nqr : q ≠ r := ne_of_none (o := _) (by rw [upd_ne npq.symm]; exact hq') hr'
        have hr0 : H' r = none := by rw [upd_ne npr.symm] at hr'; exact hr'
        have nas : ∀ b ∈ as, b ≠ r := fun b hb => by
          obtain ⟨z, hz⟩ := hR.there b hb
          exact ne_of_none hz hr0
        have kp : ∀ b, b ≠ p → b ≠ r → ∀ o, H' b = some o → upd (upd H' p (.lst (as.map V.ref ++ [V.ref q]))) r (.lst []) b = some o := fun b b1 b2 o e => by
          rw [upd_ne b2, upd_ne b1]
          exact e
        refine ⟨as ++ [q], done ++ [row], [], r, _, rfl, fun b o e => ?_, ?_, ?_, upd_same, npr, ?_, ?_, ?_, ?_, ?_, Nat.zero_le _⟩
        · exact kp b (ne_of_none e hp) (fun z => by rw [z] at e; rw [s1 _ _ e] at hr0; cases hr0) o (s1 b o e)
        · rw [upd_ne npr, upd_same, List.map_append]
          rfl
        · refine Rows.snoc (kp q npq.symm nqr _ hq') (hR.mono fun b hb o e => kp b (fun z => npa (z ▸ hb)) (nas b hb) o e)
        · intro z
          rcases List.mem_append.mp z with z | z
          · exact nas r z rfl
          · exact nqr (List.mem_singleton.mp z).symm
        · intro z
          rcases List.mem_append.mp z with z | z
          · exact npa z
          · exact npq (List.mem_singleton.mp z)
        · cases e : H r with
          | none => rfl
          | some o => rw [s1 _ _ e] at hr0; cases hr0
        · rw [ep, List.append_assoc]
          rfl
        · rw [List.length_append]
          show as.length + 1 ≤ i + 1
          omega
      · have h1' : ¬ n = c := fun z => h1 (decide_eq_true (by rw [z]))
        rw [glue_miss h1'] at ep
        refine ⟨_, rfl, .inl ⟨rfl, _, SqL.of hq'⟩, _, rfl, q, _, _, rfl, rfl, hq', ?_, ?_⟩
        · rw [nv_length]
          exact size100 (by omega)
        refine ⟨as, done, row ++ [n], q, _, rfl, same_upd s1 hq0, by rw [upd_ne npq]; exact hp', hR.mono fun b hb o e => by rw [upd_ne (show b ≠ q from fun z => nqa (z ▸ hb))]; exact e, ?_, npq, nqa, npa, hq0, ep, by omega, ?_⟩
        · rw [upd_same, nv_append]
          rfl
        · rw [List.length_append]
          show row.length + 1 ≤ i + 1
          omega
    · rintro σ H' ⟨as, done, row, q, v, rfl, s1, hp', hR, hq', npq, nqa, npa, hq0, ep, la, lr⟩
      rw [nv_length, List.drop_length, glue_end] at ep
      rw [nv_length] at la
      refine ⟨_, rfl, .inl ⟨rfl, _, SqL.of hp'⟩, _, rfl, p, _, _, rfl, rfl, hp', ?_, ?_⟩
      · rw [List.length_map]
        exact size100 (by omega)
      refine ⟨_, rfl, ?_⟩
      refine k p (as ++ [q]) _ (same_upd s1 hp) (by rw [upd_same, List.map_append]; rfl) ?_
      rw [ep]
      exact Rows.snoc (by rw [upd_ne npq.symm]; exact hq') (hR.mono fun b hb o e => by rw [upd_ne (show b ≠ p from fun z => npa (z ▸ hb))]; exact e)
end
end Bw
set_option Elab.async false
set_option linter.all false
set_option maxRecDepth 100000
set_option maxHeartbeats 4000000
namespace Bw
open PySem PySem.Spec PyProof.Rows L2 Kct5
theorem upto_go {r : Bytes} {j : Nat} (h : j ≤ upto r) : (j < r.length ∧ (91 :: r)[j]? ≠ some 93) ↔ j < upto r := by
  rcases closes r with hn | ⟨k, hk, hf⟩
  · rw [upto_none hn]
    constructor
    · exact fun z => z.1
    · intro z
      refine ⟨z, fun q => ?_⟩
      rcases List.mem_cons.mp (List.mem_of_getElem? q) with z | z
      · cases z
      · exact hn 93 z rfl
  · rw [upto_at hk hf] at h ⊢
    obtain ⟨hlt, _⟩ := List.getElem?_eq_some_iff.mp hk
    constructor
    · rintro ⟨_, z⟩
      refine Nat.lt_of_le_of_ne h fun q => ?_
      rw [q] at z
      exact z hk
    · intro z
      refine ⟨by omega, fun q => ?_⟩
      cases j with
      | zero => cases q
      | succ j =>
        have q' : r[j]? = some 93 := q
        obtain ⟨g1, g2⟩ := List.getElem?_eq_some_iff.mp q'
        exact hf 93 (List.mem_take_iff_getElem.mpr ⟨j, by omega, g2⟩) rfl
def spSize (K : PySem.W.Frag) : Sp := fun vs H Q _ => ∃ (a : Addr) (l : Bytes) (i c : Nat) (r : Bytes), vs = [.ref a, iv i] ∧ SqL K H a (nv l) ∧ l.drop i = c :: r ∧ Q (iv (psize c r)) H
structure PlaceOut (H : Hp) (Q : VK) (r : Option Bytes) : Prop where
  no : r = none → ∀ H', Same H H' → Q .non H'
  yes : ∀ l, r = some l → ∀ (p : Addr) (H' : Hp), Same H H' → H' p = some (.tup (nv l)) → Q (.ref p) H'
def spBrack (K : PySem.W.Frag) : Sp := fun vs H Q _ => ∃ (a : Addr) (s : Bytes), vs = [.ref a] ∧ SqL K H a (nv s) ∧ s ≠ [] ∧ s.length ≤ 1000 ∧ PlaceOut H Q (rbrack s)
def spPlace (K : PySem.W.Frag) : Sp := fun vs H Q _ => ∃ (a : Addr) (s : Bytes), vs = [.ref a] ∧ SqL K H a (nv s) ∧ s ≠ [] ∧ s.length ≤ 1000 ∧ PlaceOut H Q (rplace s)
section
variable {P : Program} {w : World} {K : PySem.W.Frag} {mg : Str → Option Value} {base : Heap}
theorem scSize : FnScope ["signs", "at", "end"] ["signs", "at"] (defScope (top 33)) := ⟨rfl, rfl, rfl, by decide +kernel, rfl, by decide +kernel, by decide +kernel⟩
theorem ok_size {f : Addr} {fd : FuncData} (F : Fun K "place_size" "place_size" (top 33) f fd) (G : Glo mg) : FnOk P w K mg base CX0 1 f fd ["signs", "at"] (spSize K) := by
  refine F.ok scSize (fun vs H Q E h => ?_) (fun cdv A outer s H vs Q E hr h => ?_)
  · obtain ⟨a, l, i, c, r, rfl, _⟩ := h
    rfl
  · obtain ⟨a, l, i, c, r, rfl, hS, hd, k⟩ := h
    refine ⟨_, pss_cons (ps_if (pt_cmpR op_ne (pe_ix ix_list (pv 0) (pv 1) (fun _ _ => rfl)) (pe_gi G.opening) (nomark _)) (pss_one (ps_ret pe_int)) pss_nil)
      (pss_cons (ps_set (i := 2) scSize.nd rfl (Or.inl rfl) (pe_op op_add (pv 1) pe_int))
      (pss_cons (ps_while PassesOwn.never (pw_and (pt_cmpR op_lt (pv 2) (pe_callB call_len_seq (by rfl) G.len PySem.boot_len (pa_cons (pv 0) pa_nil)) (nomark _))
          (pw_and1 (pt_cmpR op_ne (pe_ix ix_list (pv 0) (pe_op op_sub (pv 2) pe_int) (fun _ _ => rfl)) (pe_gi G.closing) (nomark _)))).pt
        (pss_one (ps_aug (i := 2) scSize.nd rfl (Or.inl rfl) pe_int ip_add)))
      (pss_one (ps_ret (pe_op op_sub (pv 2) (pv 1)))))), ?_⟩
    have hc : l[i]? = some c := by rw [← List.head?_drop, hd]; rfl
    have hl : l.length = i + 1 + r.length := by
      have := congrArg List.length hd
      rw [List.length_drop, List.length_cons] at this
      have := (List.getElem?_eq_some_iff.mp hc).1
      omega
    have hat : ∀ j, l[i + j]? = (c :: r)[j]? := fun j => by rw [← List.getElem?_drop, hd]
    refine ⟨_, rfl, _, rfl, a, _, _, _, rfl, rfl, hS, atI_nat (nv_at hc), rfl, _, rfl, ?_⟩
    by_cases h91 : c = 91
    · subst h91
      refine iteNS rfl ?_
      have ep : psize 91 r = upto r + 1 := by unfold psize; rw [if_pos rfl]
      rw [ep] at k
      refine ⟨_, rfl, _, _, rfl, rfl, ?_⟩
      refine ⟨fun m σ H' => ∃ j : Nat, m + j = upto r ∧ σ = [some (.ref a), some (iv i), some (iv (i + 1 + j))] ∧ H' = H, ⟨upto r, 0, rfl, ?_, rfl⟩, ?_⟩
      · show [some (V.ref a), some (iv i), some (V.int ((i : Int) + 1))] = _
        rw [ceq (show (i : Int) + 1 = ((i + 1 + 0 : Nat) : Int) by omega)]
      · rintro m σ H' ⟨j, hj, rfl, rfl⟩
        have hj' : j ≤ upto r := by omega
        have go := upto_go hj'
        have hur := upto_le r
        refine ⟨_, rfl, _, rfl, a, _, rfl, .inl hS, _, _, rfl, rfl, _, rfl, ?_⟩
        have stop : ¬ j < upto r → Q (V.int (((i + 1 + j : Nat) : Int) - (i : Int))) H' := fun z => by
          have e : j = upto r := by omega
          rw [ceq (show ((i + 1 + j : Nat) : Int) - (i : Int) = ((upto r + 1 : Nat) : Int) by omega)]
          exact k
        refine ite2 (fun h1 => ?_) (fun h1 => ?_)
        · have h1' : j < r.length := by have := of_decide_eq_true h1; rw [nv_length] at this; omega
          obtain ⟨x, hx⟩ : ∃ x, (91 :: r)[j]? = some x := ⟨_, List.getElem?_eq_getElem (by rw [List.length_cons]; omega)⟩
          refine ⟨_, rfl, _, rfl, _, _, rfl, rfl, a, _, _, _, rfl, rfl, hS, at_of (j := i + j) (by omega) (nv_at (by rw [hat, hx])), rfl, _, rfl, ?_⟩
          by_cases h93 : x = 93
          · subst h93
            refine iteNS rfl ?_
            refine ⟨_, rfl, _, rfl, _, _, rfl, rfl, ?_⟩
            exact stop fun z => (go.mpr z).2 hx
          · have hgo : j < upto r := go.mp ⟨h1', by rw [hx]; exact fun z => h93 (Option.some.inj z)⟩
            refine iteNeq (iv_ne (by omega)) ?_
            refine ⟨fun σ' H2 => ∃ j', j' = j + 1 ∧ σ' = [some (V.ref a), some (iv i), some (iv (i + 1 + j'))] ∧ H2 = H', fun σ' H2 ⟨j', e, e2, e3⟩ => ⟨m - 1, by omega, j', by omega, e2, e3⟩, ?_⟩
            refine ⟨_, rfl, _, _, rfl, rfl, j + 1, rfl, ?_, rfl⟩
            show [some (V.ref a), some (iv i), some (V.int (((i + 1 + j : Nat) : Int) + 1))] = _
            rw [ceq (show ((i + 1 + j : Nat) : Int) + 1 = ((i + 1 + (j + 1) : Nat) : Int) by omega)]
        · have h1' : ¬ j < r.length := fun z => h1 (decide_eq_true (by rw [nv_length]; omega))
          refine iteF ?_
          refine ⟨_, rfl, _, rfl, _, _, rfl, rfl, ?_⟩
          exact stop fun z => h1' (go.mpr z).1
    · have ep : psize c r = 1 := by unfold psize; rw [if_neg h91]
      rw [ep] at k
      refine iteNeq (iv_ne (by omega)) ?_
      exact k
theorem cut_mid {s : Bytes} (h : s ≠ []) : cutV (nv s) (some 1) (some (-1)) = nv ((s.drop 1).dropLast) := by
  rw [nv_cut]
  congr 1
  cases s with
  | nil => exact absurd rfl h
  | cons a r =>
    have e1 : HT.sIx (a :: r).length 0 (some 1) = 1 := by
      show min 1 (r.length + 1) = 1
      omega
    have e2 : HT.sIx (a :: r).length (a :: r).length (some (-1)) = r.length := by
      show ((-1 : Int) + ((r.length + 1 : Nat) : Int)).toNat = r.length
      omega
    rw [e1, e2]
    show r.take (r.length - 1) = r.dropLast
    rw [List.dropLast_eq_take]
theorem cut_tail (s : Bytes) : cutV (nv s) (some 1) none = nv (s.drop 1) := cut_from s 1
theorem at_last {s : Bytes} {c : Nat} (h : s.getLast? = some c) : atI (nv s) (-1) = some (iv c) := by
  obtain ⟨r, rfl⟩ := List.getLast?_eq_some_iff.mp h
  rw [nv_append]
  exact atI_last _ _
theorem scBrack : FnScope ["signs", "named", "others"] ["signs"] (defScope (top 35)) := ⟨rfl, rfl, rfl, by decide +kernel, rfl, by decide +kernel, by decide +kernel⟩
theorem ok_brack {f : Addr} {fd : FuncData} (F : Fun K "read_brackets" "read_brackets" (top 35) f fd) (G : Glo mg) (C1 : Cal P w K mg base "is_row_of_letters" ["signs", "least", "most"] 2 (spRow K)) (C2 : Cal P w K mg base "letters_without" ["those"] 1 (spWithout K)) :
    FnOk P w K mg base CX0 3 f fd ["signs"] (spBrack K) := by
  refine F.ok scBrack (fun vs H Q E h => ?_) (fun cdv A outer s H vs Q E hr h => ?_)
  · obtain ⟨a, l, rfl, _⟩ := h
    rfl
  · obtain ⟨a, l, rfl, hS, hne, hL, k⟩ := h
    have hr1 : Room 1 _ := hr.mono (by decide)
    refine ⟨_, pss_cons (ps_if (pt_cmpR op_ne (pe_ix ix_list (pv 0) (pe_un un_neg pe_int) (fun _ _ => rfl)) (pe_gi G.closing) (nomark _)) (pss_one (ps_ret pe_non)) pss_nil)
      (pss_cons (ps_set (i := 1) scBrack.nd rfl (Or.inl rfl) (pe_slice sl_list (pv 0) (po_some pe_int) (po_some (pe_un un_neg pe_int))))
      (pss_cons (ps_if (pw_and (pt_cmpR op_gt (pe_callB call_len_seq (by rfl) G.len PySem.boot_len (pa_cons (pv 1) pa_nil)) pe_int (nomark _)) (pw_and1 (pt_cmpR op_eq (pe_ix ix_list (pv 1) pe_int (fun _ _ => rfl)) (pe_gi G.caret) (nomark _)))).pt
        (pss_cons (ps_set (i := 2) scBrack.nd rfl (Or.inl rfl) (pe_slice sl_list (pv 1) (po_some pe_int) po_none))
        (pss_one (ps_ret (pe_ifExp (pt_val (pe_cal C1 hr (pa_cons (pv 2) (pa_cons pe_int (pa_cons (pe_callB call_len_seq (by rfl) G.len PySem.boot_len (pa_cons (pv 0) pa_nil)) pa_nil))))) (pe_cal C2 hr1 (pa_cons (pv 2) pa_nil)) pe_non)))) pss_nil)
      (pss_one (ps_ret (pe_ifExp (pt_val (pe_cal C1 hr (pa_cons (pv 1) (pa_cons pe_int (pa_cons (pe_callB call_len_seq (by rfl) G.len PySem.boot_len (pa_cons (pv 0) pa_nil)) pa_nil))))) (pe_callTy call_tuple_of (by rfl) G.tuple boot_tuple1 (pa_cons (pv 1) pa_nil)) pe_non))))), ?_⟩
    obtain ⟨c, hc⟩ : ∃ c, l.getLast? = some c := ⟨_, List.getLast?_eq_some_getLast hne⟩
    refine ⟨_, rfl, _, rfl, a, _, _, _, rfl, rfl, hS, at_last hc, rfl, _, rfl, ?_⟩
    by_cases h93 : c = 93
    · subst h93
      refine iteNS rfl ?_
      refine ⟨_, rfl, _, rfl, _, rfl, _, rfl, a, _, rfl, hS, fun q hq => ?_⟩
      have s1 : Same H (upd H q (.lst (cutV (nv l) (some 1) (some (-1))))) := same_new (Same.refl H) hq
      have eq1 : upd H q (.lst (cutV (nv l) (some 1) (some (-1)))) q = some (.lst (nv ((l.drop 1).dropLast))) := by rw [upd_same, cut_mid hne]
      have hnl : ((l.drop 1).dropLast).length ≤ 1000 := by rw [List.length_dropLast, List.length_drop]; omega
      have ern : rbrack l = if ((l.drop 1).dropLast).head? = some 94 then (if isLetters 1 l.length (((l.drop 1).dropLast).drop 1) = true then some (without (((l.drop 1).dropLast).drop 1)) else none)
        else (if isLetters 1 l.length ((l.drop 1).dropLast) = true then some ((l.drop 1).dropLast) else none) := by
        unfold rbrack
        rw [if_neg (by rw [hc]; exact fun z => z rfl)]
      rw [ern] at k
      generalize upd H q (.lst (cutV (nv l) (some 1) (some (-1)))) = H1 at s1 eq1 ⊢
      generalize (l.drop 1).dropLast = nm at eq1 hnl k
      -- what both ways end with: not [^
      have plain : ¬ nm.head? = some 94 → tRet (tIf (tB (tCall (spRow K) [] E0 (tCons (tVar 1) (tCons (tC (V.int 1)) (tCons (tCB (fun xs H Q => ∃ p ys, xs = [V.ref p] ∧ (SqL K H p ys ∨ SqT K H p ys) ∧ Q (V.int ys.length) H) (tCons (tVar 0) tNil)) tNil))))) (tCB (fun xs H Q => ∃ p ys, xs = [V.ref p] ∧ ((SqL K H p ys ∧ ∀ l, H l = none → Q (.ref l) (upd H l (.tup ys))) ∨ (SqT K H p ys ∧ Q (.ref p) H))) (tCons (tVar 1) tNil)) (tC V.non)) { nx := fun _ H' => Q .non H', rt := Q } [some (V.ref a), some (V.ref q), none] H1 := fun h0 => by
        rw [if_neg h0] at k
        refine ⟨_, rfl, _, rfl, a, _, rfl, .inl (s1.seq hS), q, nm, 1, l.length, by rw [nv_length]; rfl, SqL.of eq1, by omega, fun H2 s2 => ⟨_, rfl, ?_⟩⟩
        cases e : isLetters 1 l.length nm with
        | true =>
          rw [e, if_pos rfl] at k
          exact iteT ⟨_, rfl, q, _, rfl, .inl ⟨SqL.of (s2 _ _ eq1), fun p hp => k.yes _ rfl p _ (same_new (s1.trans s2) hp) upd_same⟩⟩
        | false =>
          rw [e, if_neg Bool.false_ne_true] at k
          exact iteF (k.no rfl H2 (s1.trans s2))
      refine ⟨_, rfl, q, _, rfl, .inl (SqL.of eq1), _, _, rfl, rfl, _, rfl, ?_⟩
      cases nm with
      | nil =>
        refine iteF ?_
        exact plain (by simp)
      | cons x nm =>
        refine ite2 (fun _ => ?_) (fun z => absurd (decide_eq_true (by rw [nv_length, List.length_cons]; omega)) z)
        refine ⟨_, rfl, q, _, _, _, rfl, rfl, SqL.of eq1, at_of (j := 0) rfl rfl, rfl, _, rfl, ?_⟩
        by_cases h94 : x = 94
        · subst h94
          rw [if_pos (by rfl)] at k
          refine ite2 (fun _ => ?_) (fun z => absurd (decide_eq_true rfl) z)
          refine ⟨_, rfl, _, rfl, q, _, rfl, SqL.of eq1, fun o ho => ?_⟩
          have s2 : Same H1 (upd H1 o (.lst (cutV (nv (94 :: nm)) (some 1) none))) := same_new (Same.refl H1) ho
          have eo : upd H1 o (.lst (cutV (nv (94 :: nm)) (some 1) none)) o = some (.lst (nv nm)) := by rw [upd_same, cut_tail]; rfl
          generalize upd H1 o (.lst (cutV (nv (94 :: nm)) (some 1) none)) = H2 at s2 eo ⊢
          have k' : PlaceOut H Q (if isLetters 1 l.length nm = true then some (without nm) else none) := k
          have hnl' : nm.length ≤ 1000 := by rw [List.length_cons] at hnl; omega
          refine ⟨_, rfl, _, rfl, a, _, rfl, .inl ((s1.trans s2).seq hS), o, nm, 1, l.length, by rw [nv_length]; rfl, SqL.of eo, by omega, fun H3 s3 => ⟨_, rfl, ?_⟩⟩
          cases e : isLetters 1 l.length nm with
          | true =>
            rw [e, if_pos rfl] at k'
            exact iteT ⟨_, rfl, o, nm, rfl, SqL.of (s3 _ _ eo), fun p H4 s4 hp => k'.yes _ rfl p H4 (((s1.trans s2).trans s3).trans s4) hp⟩
          | false =>
            rw [e, if_neg Bool.false_ne_true] at k'
            exact iteF (k'.no rfl H3 ((s1.trans s2).trans s3))
        · refine iteEqN (iv_ne (by omega)) ?_
          exact plain (fun z => h94 (Option.some.inj z))
    · have ern : rbrack l = none := by
        unfold rbrack
        rw [if_pos (by rw [hc]; exact fun z => h93 (Option.some.inj z))]
      refine iteNeq (iv_ne (by omega)) ?_
      exact k.no ern H (Same.refl H)
theorem scPlace : FnScope ["signs"] ["signs"] (defScope (top 34)) := ⟨rfl, rfl, rfl, by decide +kernel, rfl, by decide +kernel, by decide +kernel⟩
theorem ok_place {f : Addr} {fd : FuncData} (F : Fun K "read_place" "read_place" (top 34) f fd) (G : Glo mg) (C1 : Cal P w K mg base "read_brackets" ["signs"] 3 (spBrack K)) (C2 : Cal P w K mg base "letters_without" ["those"] 1 (spWithout K)) (C3 : Cal P w K mg base "is_letter" ["sign"] 1 spIsLetter) :
    FnOk P w K mg base CX0 4 f fd ["signs"] (spPlace K) := by
  refine F.ok scPlace (fun vs H Q E h => ?_) (fun cdv A outer s H vs Q E hr h => ?_)
  · obtain ⟨a, l, rfl, _⟩ := h
    rfl
  · obtain ⟨a, l, rfl, hS, hne, hL, k⟩ := h
    have hr1 : Room 1 _ := hr.mono (by decide)
    refine ⟨_, pss_cons (ps_if (pt_cmpR op_eq (pe_ix ix_list (pv 0) pe_int (fun _ _ => rfl)) (pe_gi G.opening) (nomark _)) (pss_one (ps_ret (pe_cal C1 hr (pa_cons (pv 0) pa_nil)))) pss_nil)
      (pss_cons (ps_if (pt_cmpR op_eq (pe_ix ix_list (pv 0) pe_int (fun _ _ => rfl)) (pe_gi G.dot) (nomark _)) (pss_one (ps_ret (pe_cal C2 hr1 (pa_cons (pe_lst pa_nil) pa_nil)))) pss_nil)
      (pss_cons (ps_if (pt_val (pe_cal C3 hr1 (pa_cons (pe_ix ix_list (pv 0) pe_int (fun _ _ => rfl)) pa_nil))) (pss_one (ps_ret (pe_tup (pa_cons (pe_ix ix_list (pv 0) pe_int (fun _ _ => rfl)) pa_nil)))) pss_nil)
      (pss_one (ps_ret pe_non)))), ?_⟩
    cases l with
    | nil => exact absurd rfl hne
    | cons c r =>
      refine ⟨_, rfl, a, _, _, _, rfl, rfl, hS, at_of (j := 0) rfl rfl, rfl, _, rfl, ?_⟩
      by_cases h91 : c = 91
      · subst h91
        refine ite2 (fun _ => ?_) (fun z => absurd (decide_eq_true rfl) z)
        have e : rplace (91 :: r) = rbrack (91 :: r) := by unfold rplace; rw [if_pos (by rfl)]
        rw [e] at k
        exact ⟨_, rfl, a, _, rfl, hS, hne, hL, k⟩
      · refine iteEqN (iv_ne (by omega)) ?_
        refine ⟨_, rfl, a, _, _, _, rfl, rfl, hS, at_of (j := 0) rfl rfl, rfl, _, rfl, ?_⟩
        have e0 : rplace (c :: r) = if (c :: r).head? = some 46 then some (without []) else (if letter c = true then some [c] else none) := by
          unfold rplace
          rw [if_neg (show ¬ (c :: r).head? = some 91 from fun z => h91 (Option.some.inj z))]
          rfl
        by_cases h46 : c = 46
        · subst h46
          refine ite2 (fun _ => ?_) (fun z => absurd (decide_eq_true rfl) z)
          rw [if_pos (by rfl)] at e0
          rw [e0] at k
          refine ⟨Nat.zero_le _, fun q hq => ⟨q, [], rfl, SqL.of upd_same, fun p H' s1 hp => k.yes _ rfl p H' (Same.trans (same_new (Same.refl H) hq) s1) hp⟩⟩
        · refine iteEqN (iv_ne (by omega)) ?_
          rw [if_neg (show ¬ (c :: r).head? = some 46 from fun z => h46 (Option.some.inj z))] at e0
          refine ⟨_, rfl, a, _, _, _, rfl, rfl, hS, at_of (j := 0) rfl rfl, c, rfl, _, rfl, ?_⟩
          cases e : letter c with
          | true =>
            rw [e, if_pos rfl] at e0
            rw [e0] at k
            refine iteT ⟨_, rfl, a, _, _, _, rfl, rfl, hS, at_of (j := 0) rfl rfl, (by show 1 ≤ sizeLine; decide), fun p hp => k.yes _ rfl p _ (same_new (Same.refl H) hp) upd_same⟩
          | false =>
            rw [e, if_neg Bool.false_ne_true] at e0
            rw [e0] at k
            exact iteF (k.no rfl H (Same.refl H))
end
end Bw
set_option Elab.async false
set_option linter.all false
set_option maxRecDepth 100000
set_option maxHeartbeats 4000000
namespace Bw
open PySem PySem.Spec PyProof.Rows L2 Kct5
def Pats (H : Hp) (as : List Addr) (items : List Item) : Prop := Paired (fun b i => ∃ l : Bytes, H b = some (.tup (nv l)) ∧ Fits i l) as items
theorem Pats.mono {H H' : Hp} (s : Same H H') : ∀ {as : List Addr} {items : List Item}, Pats H as items → Pats H' as items
  | _, _, .nil => .nil
  | _, _, .cons ⟨l, h, f⟩ t => .cons ⟨l, s _ _ h, f⟩ (Pats.mono s t)
theorem Pats.upd {H : Hp} {p : Addr} {o : HO} {xs : List V} (hp : H p = some (.lst xs)) : ∀ {as : List Addr} {items : List Item}, Pats H as items → Pats (upd H p o) as items
  | _, _, .nil => .nil
  | _, _, .cons ⟨l, h, f⟩ t => .cons ⟨l, by rw [upd_ne (ne_of h hp (by intro z; cases z))]; exact h, f⟩ (Pats.upd hp t)
theorem Pats.snoc {H : Hp} {b : Addr} {i : Item} {l : Bytes} (hb : H b = some (.tup (nv l))) (f : Fits i l) : ∀ {as : List Addr} {items : List Item}, Pats H as items → Pats H (as ++ [b]) (items ++ [i])
  | _, _, .nil => .cons ⟨l, hb, f⟩ .nil
  | _, _, .cons q t => .cons q (Pats.snoc hb f t)
theorem Pats.length {H : Hp} {as : List Addr} {items : List Item} (h : Pats H as items) : as.length = items.length := Paired.length h
structure PatOut (H : Hp) (Q : VK) (l : Bytes) : Prop where
  no : (∀ items, patternOf l = some items → ¬ items.length ≤ 16) → ∀ H', Same H H' → Q .non H'
  yes : ∀ items, patternOf l = some items → items.length ≤ 16 → ∀ (p : Addr) (as : List Addr) (H' : Hp), Same H H' → H' p = some (.tup (as.map V.ref)) → Pats H' as items → Q (.ref p) H'
def spPattern (K : PySem.W.Frag) : Sp := fun vs H Q _ => ∃ (a : Addr) (l : Bytes), vs = [.ref a] ∧ SqL K H a (nv l) ∧ l.length ≤ 1000 ∧ PatOut H Q l
section
variable {P : Program} {w : World} {K : PySem.W.Frag} {mg : Str → Option Value} {base : Heap}
theorem scPattern : FnScope ["signs", "places", "at", "size", "place"] ["signs"] (defScope (top 32)) := ⟨rfl, rfl, rfl, by decide +kernel, rfl, by decide +kernel, by decide +kernel⟩
theorem ok_pattern {f : Addr} {fd : FuncData} (F : Fun K "read_pattern" "read_pattern" (top 32) f fd) (G : Glo mg) (C1 : Cal P w K mg base "place_size" ["signs", "at"] 1 (spSize K)) (C2 : Cal P w K mg base "read_place" ["signs"] 4 (spPlace K)) :
    FnOk P w K mg base CX0 5 f fd ["signs"] (spPattern K) := by
  refine F.ok scPattern (fun vs H Q E h => ?_) (fun cdv A outer s H vs Q E hr h => ?_)
  · obtain ⟨a, l, rfl, _⟩ := h
    rfl
  · obtain ⟨a, l, rfl, hS, hL, k⟩ := h
    have hr1 : Room 1 _ := hr.mono (by decide)
    refine ⟨_, pss_cons (ps_set (i := 1) scPattern.nd rfl (Or.inl rfl) (pe_lst pa_nil)) (pss_cons (ps_set (i := 2) scPattern.nd rfl (Or.inl rfl) pe_int)
      (pss_cons (ps_while PassesOwn.never (pt_cmpR op_lt (pv 2) (pe_callB call_len_seq (by rfl) G.len PySem.boot_len (pa_cons (pv 0) pa_nil)) (nomark _))
        (pss_cons (ps_set (i := 3) scPattern.nd rfl (Or.inl rfl) (pe_cal C1 hr1 (pa_cons (pv 0) (pa_cons (pv 2) pa_nil))))
        (pss_cons (ps_set (i := 4) scPattern.nd rfl (Or.inl rfl) (pe_cal C2 hr (pa_cons (pe_slice sl_list (pv 0) (po_some (pv 2)) (po_some (pe_op op_add (pv 2) (pv 3)))) pa_nil)))
        (pss_cons (ps_if (pt_cmp (pc_isN (pv 4))) (pss_one (ps_ret pe_non)) pss_nil)
        (pss_cons (ps_expr (pe_app (pv 1) (pa_cons (pv 4) pa_nil)))
        (pss_one (ps_aug (i := 2) scPattern.nd rfl (Or.inl rfl) (pv 3) ip_add)))))))
      (pss_cons (ps_if (pt_cmpR op_gt (pe_callB call_len_seq (by rfl) G.len PySem.boot_len (pa_cons (pv 1) pa_nil)) (pe_gi G.places) (nomark _)) (pss_one (ps_ret pe_non)) pss_nil)
      (pss_one (ps_ret (pe_callTy call_tuple_of (by rfl) G.tuple boot_tuple1 (pa_cons (pv 1) pa_nil))))))), ?_⟩
    refine ⟨Nat.zero_le _, fun p hp => ?_⟩
    refine ⟨fun m σ H' => ∃ (i : Nat) (as : List Addr) (items : List Item) (v3 v4 : Option V), m + i = l.length ∧ σ = [some (.ref a), some (.ref p), some (iv i), v3, v4] ∧ Same H H' ∧ H' p = some (.lst (as.map V.ref)) ∧
      Pats H' as items ∧ patternOf l = (patternOf (l.drop i)).map (items ++ ·) ∧ as.length ≤ i, ⟨l.length, 0, [], [], none, none, rfl, rfl, same_new (Same.refl H) hp, upd_same, .nil, ?_, Nat.le_refl _⟩, ?_⟩
    · rw [List.drop_zero]
      cases patternOf l <;> rfl
    · rintro m σ H' ⟨i, as, items, v3, v4, hm, rfl, s1, hp', hP, ep, la⟩
      refine ⟨_, rfl, _, rfl, a, _, rfl, .inl (s1.seq hS), _, _, rfl, rfl, _, rfl, ?_⟩
      refine ite2 (fun h1 => ?_) (fun h1 => ?_)
      · have hlt : i < l.length := by have := of_decide_eq_true h1; rw [nv_length] at this; omega
        have ed : l.drop i = l[i] :: l.drop (i + 1) := List.drop_eq_getElem_cons hlt
        generalize l[i] = c at ed
        generalize l.drop (i + 1) = r at ed
        obtain ⟨hz1, hz2⟩ := psize_le c r
        have hlr : l.length = i + 1 + r.length := by
          have := congrArg List.length ed
          rw [List.length_drop, List.length_cons] at this
          omega
        refine ⟨fun σ' H2 => ∃ (i' : Nat) (as : List Addr) (items : List Item) (v3 v4 : Option V), i < i' ∧ i' ≤ l.length ∧ σ' = [some (.ref a), some (.ref p), some (iv i'), v3, v4] ∧ Same H H2 ∧ H2 p = some (.lst (as.map V.ref)) ∧
          Pats H2 as items ∧ patternOf l = (patternOf (l.drop i')).map (items ++ ·) ∧ as.length ≤ i', fun σ' H2 ⟨i', as', items', w3, w4, g1, g2, g3⟩ => ⟨l.length - i', by omega, i', as', items', w3, w4, by omega, g3⟩, ?_⟩
        -- size = place_size(signs, at)
        refine ⟨_, rfl, _, rfl, a, l, i, c, r, rfl, s1.seq hS, ed, ?_⟩
        -- place = read_place(signs[at:at + size])
        refine ⟨_, rfl, _, rfl, _, rfl, _, rfl, _, rfl, _, _, rfl, rfl, _, rfl, a, _, rfl, s1.seq hS, fun n hn => ?_⟩
        have ecut : cutV (nv l) (some (i : Int)) (some ((i : Int) + (psize c r : Int))) = nv ((c :: r).take (psize c r)) := by
          have := cut_nat l i (i + psize c r) (by omega)
          rw [Int.natCast_add] at this
          rw [this, ed, Nat.add_sub_cancel_left]
        rw [ecut]
        have hlen : ((c :: r).take (psize c r)).length ≤ 1000 := by rw [List.length_take, List.length_cons]; omega
        have s2 : Same H (upd H' n (.lst (nv ((c :: r).take (psize c r))))) := same_new s1 hn
        have hp2 : upd H' n (.lst (nv ((c :: r).take (psize c r)))) p = some (.lst (as.map V.ref)) := by rw [upd_ne (ne_of_none hp' hn)]; exact hp'
        have hP2 : Pats (upd H' n (.lst (nv ((c :: r).take (psize c r))))) as items := hP.mono (same_new (Same.refl H') hn)
        have hn2 : upd H' n (.lst (nv ((c :: r).take (psize c r)))) n = some (.lst (nv ((c :: r).take (psize c r)))) := upd_same
        generalize upd H' n (.lst (nv ((c :: r).take (psize c r)))) = H2 at s2 hp2 hP2 hn2 ⊢
        refine ⟨n, _, rfl, SqL.of hn2, ?_, hlen, ⟨fun e H3 s3 => ?_, fun lt e q H3 s3 hq => ?_⟩⟩
        · intro z
          have := congrArg List.length z
          rw [List.length_take, List.length_cons] at this
          simp at this
          omega
        · -- None
          refine ⟨_, rfl, _, rfl, ?_⟩
          refine ite2 (fun _ => ?_) (fun z => absurd (decide_eq_true rfl) z)
          refine k.no (fun items' z => ?_) H3 (s2.trans s3)
          rw [ep, ed, patternOf_bad (place_none e)] at z
          cases z
        · obtain ⟨it, hit, hfit, _⟩ := place_some e
          refine ⟨_, rfl, _, rfl, ?_⟩
          refine iteEqN ref_non ?_
          refine ⟨_, rfl, .inl ⟨rfl, _, SqL.of (s3 _ _ hp2)⟩, _, rfl, p, _, _, rfl, rfl, s3 _ _ hp2, ?_, ?_⟩
          · rw [List.length_map]
            exact size100 (by omega)
          refine ⟨_, rfl, _, rfl, _, _, rfl, rfl, ?_⟩
          refine ⟨i + psize c r, as ++ [q], items ++ [it], some (iv (psize c r)), some (.ref q), by omega, by omega, ?_, ?_, ?_, ?_, ?_, ?_⟩
          · show [some (V.ref a), some (V.ref p), some (V.int ((i : Int) + (psize c r : Int))), _, _] = _
            rw [ceq (show (i : Int) + (psize c r : Int) = ((i + psize c r : Nat) : Int) by omega)]
          · exact same_upd (s2.trans s3) hp
          · rw [upd_same, List.map_append]
            rfl
          · exact Pats.upd (s3 _ _ hp2) (Pats.snoc hq hfit (hP2.mono s3))
          · rw [ep, ed, patternOf_good hit, Option.map_map]
            have e2 : l.drop (i + psize c r) = (c :: r).drop (psize c r) := by rw [← List.drop_drop, ed]
            rw [e2]
            congr 1
            funext z
            show items ++ (it :: z) = items ++ [it] ++ z
            rw [List.append_assoc]
            rfl
          · rw [List.length_append]
            show as.length + 1 ≤ _
            omega
      · have hge : l.length ≤ i := Nat.le_of_not_lt fun z => h1 (decide_eq_true (by rw [nv_length]; omega))
        rw [List.drop_of_length_le hge] at ep
        have ep' : patternOf l = some items := by rw [ep]; show some (items ++ []) = _; rw [List.append_nil]
        refine ⟨_, rfl, p, _, rfl, .inl (SqL.of hp'), _, _, rfl, rfl, _, rfl, ?_⟩
        have hle := hP.length
        refine ite2 (fun h2 => ?_) (fun h2 => ?_)
        · have := of_decide_eq_true h2
          rw [List.length_map] at this
          refine k.no (fun items' z => ?_) H' s1
          rw [ep'] at z
          cases Option.some.inj z
          omega
        · have : items.length ≤ 16 := Nat.le_of_not_lt fun z => h2 (decide_eq_true (by rw [List.length_map]; omega))
          refine ⟨_, rfl, p, _, rfl, .inl ⟨SqL.of hp', fun t ht => k.yes items ep' this t as _ (same_new s1 ht) upd_same (hP.mono (same_new (Same.refl H') ht))⟩⟩
end
end Bw
set_option Elab.async false
set_option linter.all false
set_option maxRecDepth 100000
set_option maxHeartbeats 4000000
namespace Bw
open PySem PySem.Spec PyProof.Rows L2 Kct5
theorem putF_hit (f : Str) (v u : V) (r : List (Str × V)) : putF f v ((f, u) :: r) = (f, v) :: r := by
  show (if f = f then (f, v) :: r else _) = _
  rw [if_pos rfl]
theorem putF_miss {f g : Str} (h : ¬ g = f) (v u : V) (r : List (Str × V)) : putF f v ((g, u) :: r) = (g, u) :: putF f v r := by
  show (if g = f then _ else (g, u) :: putF f v r) = _
  rw [if_neg h]
theorem lk_hit (f : Str) (v : V) (r : List (Str × V)) : ((f, v) :: r).lookup f = some v := by rw [List.lookup_cons]; simp
theorem lk_miss {f g : Str} (h : ¬ f = g) (v : V) (r : List (Str × V)) : ((g, v) :: r).lookup f = r.lookup f := by
  rw [List.lookup_cons, beq_eq_false_iff_ne.mpr h]
def partF (a b c : V) : List (Str × V) := [("pattern", a), ("goes", b), ("comes", c)]
def ruleF (a b : V) : List (Str × V) := [("front", a), ("end", b)]
structure PartCls (K : PySem.W.Frag) (C : Addr) : Prop where
  cl : Cls K C
  n1 : NoAttr K C "pattern"
  n2 : NoAttr K C "goes"
  n3 : NoAttr K C "comes"
structure RuleCls (K : PySem.W.Frag) (C : Addr) : Prop where
  cl : Cls K C
  n1 : NoAttr K C "front"
  n2 : NoAttr K C "end"
def PartAt (CP : Addr) (H : Hp) (a : Addr) (p : Part) : Prop := ∃ (dx pa pg pc : Addr) (as : List Addr), H a = some (.ins CP dx (partF (.ref pa) (.ref pg) (.ref pc))) ∧ H pa = some (.tup (as.map V.ref)) ∧ Pats H as p.pat ∧
  H pg = some (.tup (nv p.strip)) ∧ H pc = some (.tup (nv p.add))
def RuleAt (CR CP : Addr) (H : Hp) (a : Addr) (p : Part × Part) : Prop := ∃ (dx fa ea : Addr), H a = some (.ins CR dx (ruleF (.ref fa) (.ref ea))) ∧ PartAt CP H fa p.1 ∧ PartAt CP H ea p.2
theorem PartAt.mono {CP : Addr} {H H' : Hp} {a : Addr} {p : Part} (s : Same H H') (h : PartAt CP H a p) : PartAt CP H' a p := by
  obtain ⟨dx, pa, pg, pc, as, h1, h2, h3, h4, h5⟩ := h
  exact ⟨dx, pa, pg, pc, as, s _ _ h1, s _ _ h2, h3.mono s, s _ _ h4, s _ _ h5⟩
theorem RuleAt.mono {CR CP : Addr} {H H' : Hp} {a : Addr} {p : Part × Part} (s : Same H H') (h : RuleAt CR CP H a p) : RuleAt CR CP H' a p := by
  obtain ⟨dx, fa, ea, h1, h2, h3⟩ := h
  exact ⟨dx, fa, ea, s _ _ h1, h2.mono s, h3.mono s⟩
def spPartInit (C : Addr) : Sp := fun vs H Q _ => ∃ (p dx : Addr) (a b c : V), vs = [.ref p, a, b, c] ∧ H p = some (.ins C dx []) ∧
  ∀ H' : Hp, H' p = some (.ins C dx (partF a b c)) → (∀ b o, H b = some o → b ≠ p → H' b = some o) → Q .non H'
def spRuleInit (C : Addr) : Sp := fun vs H Q _ => ∃ (p dx : Addr) (a b : V), vs = [.ref p, a, b] ∧ H p = some (.ins C dx []) ∧
  ∀ H' : Hp, H' p = some (.ins C dx (ruleF a b)) → (∀ b o, H b = some o → b ≠ p → H' b = some o) → Q .non H'
structure PartOut (CP : Addr) (H : Hp) (Q : VK) (r : Option Part) : Prop where
  no : r = none → ∀ H', Same H H' → Q .non H'
  yes : ∀ p, r = some p → ∀ (a : Addr) (H' : Hp), Same H H' → PartAt CP H' a p → Q (.ref a) H'
theorem PartOut.of {CP : Addr} {H : Hp} {Q : VK} {r : Option Part} (h : ∀ (v : V) (H' : Hp), Same H H' → ((r = none ∧ v = .non) ∨ ∃ p a, r = some p ∧ v = .ref a ∧ PartAt CP H' a p) → Q v H') : PartOut CP H Q r :=
  ⟨fun e H' s => h _ H' s (.inl ⟨e, rfl⟩), fun p e a H' s g => h _ H' s (.inr ⟨p, a, e, rfl, g⟩)⟩
structure RuleOut (CR CP : Addr) (H : Hp) (Q : VK) (r : Option (Part × Part)) : Prop where
  no : r = none → ∀ H', Same H H' → Q .non H'
  yes : ∀ p, r = some p → ∀ (a : Addr) (H' : Hp), Same H H' → RuleAt CR CP H' a p → Q (.ref a) H'
def spPart (K : PySem.W.Frag) (CP : Addr) : Sp := fun vs H Q _ => ∃ (a : Addr) (l : Bytes), vs = [.ref a] ∧ SqL K H a (nv l) ∧ l.length ≤ 1000 ∧ PartOut CP H Q (partOf l)
def spRule (K : PySem.W.Frag) (CR CP : Addr) : Sp := fun vs H Q _ => ∃ (a : Addr) (l : Bytes), vs = [.ref a] ∧ SqL K H a (nv l) ∧ l.length ≤ 1000 ∧ RuleOut CR CP H Q (partsOf l)
section
variable {P : Program} {w : World} {K : PySem.W.Frag} {mg : Str → Option Value} {base : Heap}
theorem scPartInit : FnScope ["self", "pattern", "goes", "comes"] ["self", "pattern", "goes", "comes"] (defScope (inClass (top 28) 0)) := ⟨rfl, rfl, rfl, by decide +kernel, rfl, by decide +kernel, by decide +kernel⟩
theorem ok_partInit {f C : Addr} {fd : FuncData} (F : Fun K "__init__" "Part.__init__" (inClass (top 28) 0) f fd) (T : PartCls K C) : FnOk P w K mg base CX0 1 f fd ["self", "pattern", "goes", "comes"] (spPartInit C) := by
  refine F.ok scPartInit (fun vs H Q E h => ?_) (fun cdv A outer s H vs Q E hr h => ?_)
  · obtain ⟨p, dx, a, b, c, rfl, _⟩ := h
    rfl
  · obtain ⟨p, dx, a, b, c, rfl, hp, k⟩ := h
    refine ⟨_, pss_cons (ps_fld (pv 0) (pv 1) rfl) (pss_cons (ps_fld (pv 0) (pv 2) rfl) (pss_one (ps_fld (pv 0) (pv 3) rfl))), ?_⟩
    refine ⟨_, rfl, _, rfl, p, C, dx, _, rfl, hp, T.cl, T.n1, (by show 0 < 1000; decide), _, rfl, _, rfl, p, C, dx, _, rfl, upd_same, T.cl, T.n2, (by show 1 < 1000; decide), _, rfl, _, rfl, p, C, dx, _, rfl, upd_same, T.cl, T.n3, ?_, ?_⟩
    · exact Nat.lt_of_le_of_lt (length_putF _ _ _) (by show 1 + 1 < 1000; decide)
    · refine k _ ?_ fun b o e hb => by rw [upd_ne hb, upd_ne hb, upd_ne hb]; exact e
      rw [upd_same]
      have e1 : putF "comes" c (putF "goes" b (putF "pattern" a [])) = partF a b c := by
        show putF "comes" c (putF "goes" b [("pattern", a)]) = partF a b c
        rw [putF_miss (by decide +kernel)]
        show putF "comes" c [("pattern", a), ("goes", b)] = partF a b c
        rw [putF_miss (by decide +kernel), putF_miss (by decide +kernel)]
        rfl
      exact congrArg (fun z => some (HO.ins C dx z)) e1
theorem scRuleInit : FnScope ["self", "front", "end"] ["self", "front", "end"] (defScope (inClass (top 29) 0)) := ⟨rfl, rfl, rfl, by decide +kernel, rfl, by decide +kernel, by decide +kernel⟩
theorem ok_ruleInit {f C : Addr} {fd : FuncData} (F : Fun K "__init__" "Rule.__init__" (inClass (top 29) 0) f fd) (T : RuleCls K C) : FnOk P w K mg base CX0 1 f fd ["self", "front", "end"] (spRuleInit C) := by
  refine F.ok scRuleInit (fun vs H Q E h => ?_) (fun cdv A outer s H vs Q E hr h => ?_)
  · obtain ⟨p, dx, a, b, rfl, _⟩ := h
    rfl
  · obtain ⟨p, dx, a, b, rfl, hp, k⟩ := h
    refine ⟨_, pss_cons (ps_fld (pv 0) (pv 1) rfl) (pss_one (ps_fld (pv 0) (pv 2) rfl)), ?_⟩
    refine ⟨_, rfl, _, rfl, p, C, dx, _, rfl, hp, T.cl, T.n1, (by show 0 < 1000; decide), _, rfl, _, rfl, p, C, dx, _, rfl, upd_same, T.cl, T.n2, (by show 1 < 1000; decide), ?_⟩
    refine k _ ?_ fun b o e hb => by rw [upd_ne hb, upd_ne hb]; exact e
    rw [upd_same]
    have e1 : putF "end" b (putF "front" a []) = ruleF a b := by
      show putF "end" b [("front", a)] = ruleF a b
      rw [putF_miss (by decide +kernel)]
      rfl
    exact congrArg (fun z => some (HO.ins C dx z)) e1
theorem Rows.length {H : Hp} {as : List Addr} {rs : List Bytes} (h : Rows H as rs) : as.length = rs.length := Paired.length h
theorem scPart : FnScope ["signs", "pieces", "pattern"] ["signs"] (defScope (top 31)) := ⟨rfl, rfl, rfl, by decide +kernel, rfl, by decide +kernel, by decide +kernel⟩
theorem ok_part {f CP : Addr} {fd : FuncData} (F : Fun K "read_part" "read_part" (top 31) f fd) (G : Glo mg) (C1 : Cal P w K mg base "split_at" ["signs", "mark"] 1 (spSplit K)) (C2 : Cal P w K mg base "read_pattern" ["signs"] 5 (spPattern K))
    (C3 : Cal P w K mg base "is_row_of_letters" ["signs", "least", "most"] 2 (spRow K)) (M : Mke P w K mg base "Part" CP ["self", "pattern", "goes", "comes"] 1 (spPartInit CP)) : FnOk P w K mg base CX0 6 f fd ["signs"] (spPart K CP) := by
  refine F.ok scPart (fun vs H Q E h => ?_) (fun cdv A outer s H vs Q E hr h => ?_)
  · obtain ⟨a, l, rfl, _⟩ := h
    rfl
  · obtain ⟨a, l, rfl, hS, hL, k⟩ := h
    have hr1 : Room 1 _ := hr.mono (by decide)
    have hr2 : Room 2 _ := hr.mono (by decide)
    refine ⟨_, pss_cons (ps_set (i := 1) scPart.nd rfl (Or.inl rfl) (pe_cal C1 hr1 (pa_cons (pv 0) (pa_cons (pe_gi G.slash) pa_nil))))
      (pss_cons (ps_if (pt_cmpR op_ne (pe_callB call_len_seq (by rfl) G.len PySem.boot_len (pa_cons (pv 1) pa_nil)) pe_int (nomark _)) (pss_one (ps_ret pe_non)) pss_nil)
      (pss_cons (ps_set (i := 2) scPart.nd rfl (Or.inl rfl) (pe_cal C2 hr (pa_cons (pe_ix ix_list (pv 1) pe_int (fun _ _ => rfl)) pa_nil)))
      (pss_cons (ps_if (pt_cmp (pc_isN (pv 2))) (pss_one (ps_ret pe_non)) pss_nil)
      (pss_cons (ps_if (pw_or (pt_not (pt_val (pe_cal C3 hr2 (pa_cons (pe_ix ix_list (pv 1) pe_int (fun _ _ => rfl)) (pa_cons pe_int (pa_cons (pe_gi G.going) pa_nil))))))
          (pw_or1 (pt_not (pt_val (pe_cal C3 hr2 (pa_cons (pe_ix ix_list (pv 1) pe_int (fun _ _ => rfl)) (pa_cons pe_int (pa_cons (pe_gi G.coming) pa_nil)))))))).pt (pss_one (ps_ret pe_non)) pss_nil)
      (pss_one (ps_ret (pe_mke M hr2 (pa_cons (pv 2) (pa_cons (pe_callTy call_tuple_of (by rfl) G.tuple boot_tuple1 (pa_cons (pe_ix ix_list (pv 1) pe_int (fun _ _ => rfl)) pa_nil))
        (pa_cons (pe_callTy call_tuple_of (by rfl) G.tuple boot_tuple1 (pa_cons (pe_ix ix_list (pv 1) pe_int (fun _ _ => rfl)) pa_nil)) pa_nil)))))))))), ?_⟩
    refine ⟨_, rfl, a, l, 47, rfl, hS, hL, fun p as H1 s1 hp hR => ?_⟩
    refine ⟨_, rfl, p, _, rfl, .inl (SqL.of hp), rfl, _, rfl, ?_⟩
    have hle := hR.length
    by_cases h3 : (parted 47 l).length = 3
    · refine iteNS (by rw [List.length_map, hle, h3]; rfl) ?_
      -- three pieces
      have hmem : ∀ x ∈ parted 47 l, x.length ≤ 1000 := fun x hx => Nat.le_trans (parted_len hx) hL
      obtain ⟨x, y, z, exyz⟩ : ∃ x y z, parted 47 l = [x, y, z] := by
        match parted 47 l, h3 with
        | [x, y, z], _ => exact ⟨x, y, z, rfl⟩
      rw [exyz] at hR hmem
      cases hR with
      | @cons a0 _ _ _ r0 t0 =>
      cases t0 with
      | @cons a1 _ _ _ r1 t1 =>
      cases t1 with
      | @cons a2 _ _ _ r2 t2 =>
      cases t2
      have lx := hmem x (by simp)
      have ly := hmem y (by simp)
      have lz := hmem z (by simp)
      have epart : partOf l = (patternOf x).bind fun p => if isLetters 0 16 y = true ∧ isLetters 0 16 z = true ∧ p.length ≤ 16 then some ⟨p, y, z⟩ else none := by
        unfold partOf
        rw [exyz]
      rw [epart] at k
      refine ⟨_, rfl, p, _, _, _, rfl, rfl, SqL.of hp, at_of (j := 0) rfl rfl, a0, x, rfl, SqL.of r0, lx, ⟨fun e H2 s2 => ?_, fun items e hi q qs H2 s2 hq hqs => ?_⟩⟩
      · refine ⟨_, rfl, _, rfl, ?_⟩
        refine ite2 (fun _ => ?_) (fun z => absurd (decide_eq_true rfl) z)
        refine k.no ?_ H2 (s1.trans s2)
        cases ex : patternOf x with
        | none => rfl
        | some items =>
          show (if _ then _ else _) = none
          rw [if_neg (fun z => e items ex z.2.2)]
      · rw [e] at k
        have k' : PartOut CP H Q (if isLetters 0 16 y = true ∧ isLetters 0 16 z = true ∧ items.length ≤ 16 then some ⟨items, y, z⟩ else none) := k
        refine ⟨_, rfl, _, rfl, ?_⟩
        refine iteEqN ref_non ?_
        refine ⟨_, rfl, p, _, _, _, rfl, rfl, SqL.of (s2 _ _ hp), at_of (j := 1) rfl rfl, a1, y, 0, 16, rfl, SqL.of (s2 _ _ r1), by omega, fun H3 s3 => ⟨_, rfl, ?_⟩⟩
        cases ey : isLetters 0 16 y with
        | false =>
          refine iteT (iteT ?_)
          refine k'.no ?_ H3 ((s1.trans s2).trans s3)
          rw [if_neg (fun z => by rw [ey] at z; exact Bool.false_ne_true z.1)]
        | true =>
          refine iteF ?_
          have s13 := s2.trans s3
          refine ⟨_, rfl, p, _, _, _, rfl, rfl, SqL.of (s13 _ _ hp), at_of (j := 2) rfl rfl, a2, z, 0, 16, rfl, SqL.of (s13 _ _ r2), by omega, fun H4 s4 => ⟨_, rfl, ?_⟩⟩
          have s14 := s13.trans s4
          cases ez : isLetters 0 16 z with
          | false =>
            refine iteT ?_
            refine k'.no ?_ H4 (s1.trans s14)
            rw [if_neg (fun z => by rw [ez] at z; exact Bool.false_ne_true z.2.1)]
          | true =>
            refine iteF ?_
            rw [if_pos ⟨ey, ez, hi⟩] at k'
            refine ⟨_, rfl, _, rfl, p, _, _, _, rfl, rfl, SqL.of (s14 _ _ hp), at_of (j := 1) rfl rfl, a1, _, rfl, .inl ⟨SqL.of (s14 _ _ r1), fun t1 ht1 => ?_⟩⟩
            have s15 : Same H1 (upd H4 t1 (.tup (nv y))) := same_new s14 ht1
            refine ⟨_, rfl, p, _, _, _, rfl, rfl, SqL.of (s15 _ _ hp), at_of (j := 2) rfl rfl, a2, _, rfl, .inl ⟨SqL.of (s15 _ _ r2), fun t2 ht2 => ?_⟩⟩
            have s16 : Same H1 (upd (upd H4 t1 (.tup (nv y))) t2 (.tup (nv z))) := same_new s15 ht2
            have g1 : upd (upd H4 t1 (.tup (nv y))) t2 (.tup (nv z)) t1 = some (.tup (nv y)) := by rw [upd_ne (ne_of_none (o := .tup (nv y)) upd_same ht2), upd_same]
            have g2 : upd (upd H4 t1 (.tup (nv y))) t2 (.tup (nv z)) t2 = some (.tup (nv z)) := upd_same
            have s46 : Same H2 (upd (upd H4 t1 (.tup (nv y))) t2 (.tup (nv z))) := same_new (same_new (s3.trans s4) ht1) ht2
            generalize upd (upd H4 t1 (.tup (nv y))) t2 (.tup (nv z)) = H5 at s16 g1 g2 s46 ⊢
            intro o dx no nd ned
            refine ⟨o, dx, _, _, _, rfl, upd_same, fun H6 ho kp => ⟨rfl, ?_⟩⟩
            have s56 : Same H5 H6 := Same.made no nd kp
            exact k'.yes _ rfl o H6 (s1.trans (s16.trans s56)) ⟨dx, q, t1, t2, qs, ho, s56 _ _ (s46 _ _ hq), (hqs.mono s46).mono s56, s56 _ _ g1, s56 _ _ g2⟩
    · refine iteNeq (iv_ne (by rw [List.length_map, hle]; omega)) ?_
      refine k.no ?_ H1 s1
      unfold partOf
      split
      · rename_i e
        rw [e] at h3
        exact absurd rfl h3
      · rfl
theorem scRule : FnScope ["signs", "rows", "front", "end"] ["signs"] (defScope (top 30)) := ⟨rfl, rfl, rfl, by decide +kernel, rfl, by decide +kernel, by decide +kernel⟩
theorem ok_rule {f CP CR : Addr} {fd : FuncData} (F : Fun K "read_rule" "read_rule" (top 30) f fd) (G : Glo mg) (C1 : Cal P w K mg base "split_at" ["signs", "mark"] 1 (spSplit K)) (C2 : Cal P w K mg base "read_part" ["signs"] 6 (spPart K CP))
    (M : Mke P w K mg base "Rule" CR ["self", "front", "end"] 1 (spRuleInit CR)) : FnOk P w K mg base CX0 7 f fd ["signs"] (spRule K CR CP) := by
  refine F.ok scRule (fun vs H Q E h => ?_) (fun cdv A outer s H vs Q E hr h => ?_)
  · obtain ⟨a, l, rfl, _⟩ := h
    rfl
  · obtain ⟨a, l, rfl, hS, hL, k⟩ := h
    have hr1 : Room 1 _ := hr.mono (by decide)
    have hr2 : Room 2 _ := hr.mono (by decide)
    refine ⟨_, pss_cons (ps_set (i := 1) scRule.nd rfl (Or.inl rfl) (pe_cal C1 hr1 (pa_cons (pv 0) (pa_cons (pe_gi G.blank) pa_nil))))
      (pss_cons (ps_if (pt_cmpR op_ne (pe_callB call_len_seq (by rfl) G.len PySem.boot_len (pa_cons (pv 1) pa_nil)) pe_int (nomark _)) (pss_one (ps_ret pe_non)) pss_nil)
      (pss_cons (ps_set (i := 2) scRule.nd rfl (Or.inl rfl) (pe_cal C2 hr (pa_cons (pe_ix ix_list (pv 1) pe_int (fun _ _ => rfl)) pa_nil)))
      (pss_cons (ps_set (i := 3) scRule.nd rfl (Or.inl rfl) (pe_cal C2 hr (pa_cons (pe_ix ix_list (pv 1) pe_int (fun _ _ => rfl)) pa_nil)))
      (pss_cons (ps_if (pw_or (pt_cmp (pc_isN (pv 2))) (pw_or1 (pt_cmp (pc_isN (pv 3))))).pt (pss_one (ps_ret pe_non)) pss_nil)
      (pss_one (ps_ret (pe_mke M hr2 (pa_cons (pv 2) (pa_cons (pv 3) pa_nil))))))))), ?_⟩
    refine ⟨_, rfl, a, l, 32, rfl, hS, hL, fun p as H1 s1 hp hR => ?_⟩
    refine ⟨_, rfl, p, _, rfl, .inl (SqL.of hp), rfl, _, rfl, ?_⟩
    have hle := hR.length
    by_cases h2 : (parted 32 l).length = 2
    · refine iteNS (by rw [List.length_map, hle, h2]; rfl) ?_
      have hmem : ∀ x ∈ parted 32 l, x.length ≤ 1000 := fun x hx => Nat.le_trans (parted_len hx) hL
      obtain ⟨x, y, exy⟩ : ∃ x y, parted 32 l = [x, y] := by
        match parted 32 l, h2 with
        | [x, y], _ => exact ⟨x, y, rfl⟩
      rw [exy] at hR hmem
      cases hR with
      | @cons a0 _ _ _ r0 t0 =>
      cases t0 with
      | @cons a1 _ _ _ r1 t1 =>
      cases t1
      have lx := hmem x (by simp)
      have ly := hmem y (by simp)
      have epart : partsOf l = match partOf x, partOf y with
        | some f, some e => some (f, e)
        | _, _ => none := by
        unfold partsOf
        rw [exy]
        rfl
      rw [epart] at k
      refine ⟨_, rfl, p, _, _, _, rfl, rfl, SqL.of hp, at_of (j := 0) rfl rfl, a0, x, rfl, SqL.of r0, lx, .of fun v2 H2 s2 hv2 => ?_⟩
      refine ⟨_, rfl, p, _, _, _, rfl, rfl, SqL.of (s2 _ _ hp), at_of (j := 1) rfl rfl, a1, y, rfl, SqL.of (s2 _ _ r1), ly, .of fun v3 H3 s3 hv3 => ?_⟩
      refine ⟨_, rfl, _, rfl, ?_⟩
      rcases hv2 with ⟨ex, rfl⟩ | ⟨pf, fa, ex, rfl, hfa⟩
      · refine ite2 (fun _ => iteT ?_) (fun z => absurd (decide_eq_true rfl) z)
        exact k.no (by rw [ex]) H3 (s1.trans (s2.trans s3))
      · refine iteEqN ref_non ?_
        refine ⟨_, rfl, _, rfl, ?_⟩
        rcases hv3 with ⟨ey, rfl⟩ | ⟨pe, ea, ey, rfl, hea⟩
        · refine ite2 (fun _ => ?_) (fun z => absurd (decide_eq_true rfl) z)
          exact k.no (by rw [ex, ey]) H3 (s1.trans (s2.trans s3))
        · refine iteEqN ref_non ?_
          rw [ex, ey] at k
          refine ⟨_, rfl, _, rfl, fun o dx no nd ned => ?_⟩
          refine ⟨o, dx, _, _, rfl, upd_same, fun H6 ho kp => ⟨rfl, ?_⟩⟩
          have s36 : Same H3 H6 := Same.made no nd kp
          exact k.yes _ rfl o H6 (s1.trans (s2.trans (s3.trans s36))) ⟨dx, fa, ea, ho, (hfa.mono s3).mono s36, hea.mono s36⟩
    · refine iteNeq (iv_ne (by rw [List.length_map, hle]; omega)) ?_
      refine k.no ?_ H1 s1
      unfold partsOf
      split
      · rename_i e
        rw [e] at h2
        exact absurd rfl h2
      · rfl
end
end Bw
set_option Elab.async false
set_option linter.all false
set_option maxRecDepth 100000
set_option maxHeartbeats 4000000
namespace Bw
open PySem PySem.Spec PyProof.Rows L2 Kct5
def rowsFrom : Nat → Nat → Bytes → List (Nat × Nat)
  | 0, _, _ => []
  | _, _, [] => []
  | f + 1, a, c :: r => if letter c = true then (a, a + ((c :: r).takeWhile letter).length) :: rowsFrom f (a + ((c :: r).takeWhile letter).length) ((c :: r).drop ((c :: r).takeWhile letter).length) else rowsFrom f (a + 1) r
theorem rowsFrom_more : ∀ (n : Nat) (l : Bytes), l.length ≤ n → ∀ a f g, l.length ≤ f → l.length ≤ g → rowsFrom f a l = rowsFrom g a l
  | _, [], _, a, f, g, _, _ => by cases f <;> cases g <;> rfl
  | 0, _ :: _, h, _, _, _, _, _ => by simp at h
  | n + 1, c :: r, h, a, 0, g, hf, _ => by simp at hf
  | n + 1, c :: r, h, a, f + 1, 0, _, hg => by simp at hg
  | n + 1, c :: r, h, a, f + 1, g + 1, hf, hg => by
    rw [List.length_cons] at h hf hg
    unfold rowsFrom
    by_cases hc : letter c = true
    · rw [if_pos hc, if_pos hc]
      have h1 : 1 ≤ ((c :: r).takeWhile letter).length := tw_pos hc
      have h2 : ((c :: r).drop ((c :: r).takeWhile letter).length).length ≤ r.length := by rw [List.length_drop, List.length_cons]; omega
      rw [rowsFrom_more n _ (by omega) _ f g (by omega) (by omega)]
    · rw [if_neg hc, if_neg hc]
      exact rowsFrom_more n r (by omega) _ f g (by omega) (by omega)
def rws (a : Nat) (l : Bytes) : List (Nat × Nat) := rowsFrom l.length a l
theorem rws_nil (a : Nat) : rws a [] = [] := rfl
theorem rws_skip {a c : Nat} {r : Bytes} (h : ¬ letter c = true) : rws a (c :: r) = rws (a + 1) r := by
  show rowsFrom (r.length + 1) a (c :: r) = _
  unfold rowsFrom
  rw [if_neg h]
  rfl
theorem rws_row {a c : Nat} {r : Bytes} (h : letter c = true) : rws a (c :: r) = (a, a + ((c :: r).takeWhile letter).length) :: rws (a + ((c :: r).takeWhile letter).length) ((c :: r).drop ((c :: r).takeWhile letter).length) := by
  show rowsFrom (r.length + 1) a (c :: r) = _
  unfold rowsFrom
  rw [if_pos h]
  have h1 : 1 ≤ ((c :: r).takeWhile letter).length := tw_pos h
  congr 1
  refine rowsFrom_more r.length _ ?_ _ _ _ ?_ (Nat.le_refl _) <;> (rw [List.length_drop, List.length_cons]; omega)
def rowEnd (l : Bytes) (a : Nat) : Nat := a + ((l.drop a).takeWhile letter).length
theorem rowEnd_le {l : Bytes} {a : Nat} (h : a ≤ l.length) : rowEnd l a ≤ l.length := by
  have h1 : ((l.drop a).takeWhile letter).length ≤ (l.drop a).length := (List.takeWhile_sublist _).length_le
  rw [List.length_drop] at h1
  unfold rowEnd
  omega
theorem rowEnd_ge (l : Bytes) (a : Nat) : a ≤ rowEnd l a := Nat.le_add_right _ _
theorem rowEnd_go {l : Bytes} {a c : Nat} (h : l[a]? = some c) (hc : letter c = true) : rowEnd l a = rowEnd l (a + 1) := by
  obtain ⟨h1, h2⟩ := List.getElem?_eq_some_iff.mp h
  unfold rowEnd
  rw [List.drop_eq_getElem_cons h1, h2, List.takeWhile_cons, if_pos hc, List.length_cons]
  omega
theorem rowEnd_stop {l : Bytes} {a c : Nat} (h : l[a]? = some c) (hc : ¬ letter c = true) : rowEnd l a = a := by
  obtain ⟨h1, h2⟩ := List.getElem?_eq_some_iff.mp h
  unfold rowEnd
  rw [List.drop_eq_getElem_cons h1, h2, List.takeWhile_cons, if_neg hc]
  rfl
theorem rowEnd_out {l : Bytes} {a : Nat} (h : l.length ≤ a) : rowEnd l a = a := by
  unfold rowEnd
  rw [List.drop_of_length_le h]
  rfl
theorem tw_next {l : Bytes} {c : Nat} (h : (l.drop (l.takeWhile letter).length).head? = some c) : ¬ letter c = true := by
  induction l with
  | nil => cases h
  | cons x l ih =>
    rw [List.takeWhile_cons] at h
    by_cases hx : letter x = true
    · rw [if_pos hx, List.length_cons, List.drop_succ_cons] at h
      exact ih h
    · rw [if_neg hx] at h
      have : x = c := Option.some.inj h
      rw [← this]
      exact hx
theorem rws_at {l : Bytes} {a : Nat} (h : a < l.length) : rws a (l.drop a) = (if a < rowEnd l a then [(a, rowEnd l a)] else []) ++ rws (rowEnd l a + 1) (l.drop (rowEnd l a + 1)) := by
  have hd := List.drop_eq_getElem_cons h
  generalize l[a] = c at hd
  by_cases hc : letter c = true
  · have h1 : 1 ≤ ((l.drop a).takeWhile letter).length := by rw [hd]; exact tw_pos hc
    have hlt : a < rowEnd l a := by unfold rowEnd; omega
    rw [if_pos hlt]
    have e1 : rws a (l.drop a) = (a, rowEnd l a) :: rws (rowEnd l a) (l.drop (rowEnd l a)) := by
      have := rws_row (a := a) (c := c) (r := l.drop (a + 1)) hc
      rw [← hd, List.drop_drop] at this
      exact this
    rw [e1]
    show (a, rowEnd l a) :: _ = (a, rowEnd l a) :: rws (rowEnd l a + 1) (l.drop (rowEnd l a + 1))
    congr 1
    by_cases he : rowEnd l a < l.length
    · have hd2 := List.drop_eq_getElem_cons he
      have hn : ¬ letter l[rowEnd l a] = true := by
        refine tw_next (l := l.drop a) ?_
        rw [List.drop_drop]
        show (l.drop (rowEnd l a)).head? = _
        rw [hd2]
        rfl
      rw [hd2, rws_skip hn]
    · rw [List.drop_of_length_le (by omega), List.drop_of_length_le (by omega), rws_nil, rws_nil]
  · have e : rowEnd l a = a := by
      unfold rowEnd
      rw [hd, List.takeWhile_cons, if_neg hc]
      rfl
    rw [e, if_neg (Nat.lt_irrefl _), List.nil_append, hd, rws_skip hc]
def spSmall : Sp := fun vs H Q _ => ∃ n : Nat, vs = [iv n] ∧ Q (iv (small n)) H
def spRowEnd (K : PySem.W.Frag) : Sp := fun vs H Q _ => ∃ (a : Addr) (l : Bytes) (i : Nat), vs = [.ref a, iv i] ∧ SqL K H a (nv l) ∧ i ≤ l.length ∧ Q (iv (rowEnd l i)) H
abbrev Pairs2 (H : Hp) : List Addr → List (Nat × Nat) → Prop := Paired fun b p => H b = some (.tup [iv p.1, iv p.2])
def spRowsOf (K : PySem.W.Frag) : Sp := fun vs H Q _ => ∃ (a : Addr) (l : Bytes), vs = [.ref a] ∧ SqL K H a (nv l) ∧ l.length ≤ 30000 ∧
  ∀ (p : Addr) (as : List Addr) (H' : Hp), Same H H' → H' p = some (.lst (as.map V.ref)) → Pairs2 H' as (rws 0 l) → Q (.ref p) H'
section
variable {P : Program} {w : World} {K : PySem.W.Frag} {mg : Str → Option Value} {base : Heap}
theorem scSmall : FnScope ["sign"] ["sign"] (defScope (top 15)) := ⟨rfl, rfl, rfl, by decide +kernel, rfl, by decide +kernel, by decide +kernel⟩
theorem ok_small {f : Addr} {fd : FuncData} (F : Fun K "taken_as_small" "taken_as_small" (top 15) f fd) (G : Glo mg) : FnOk P w K mg base CX0 1 f fd ["sign"] spSmall := by
  refine F.ok scSmall (fun vs H Q E h => ?_) (fun cdv A outer s H vs Q E hr h => ?_)
  · obtain ⟨n, rfl, _⟩ := h
    rfl
  · obtain ⟨n, rfl, k⟩ := h
    refine ⟨_, pss_cons (ps_if (pt_chain op_le op_le (pe_gi G.great1) (pv 0) (pe_gi G.great2)) (pss_one (ps_ret (pe_op op_add (pe_op op_sub (pv 0) (pe_gi G.great1)) (pe_gi G.first)))) pss_nil) (pss_one (ps_ret (pv 0))), ?_⟩
    have e : small n = if great n then n + 32 else n := rfl
    have g : great n = (decide (65 ≤ n) && decide (n ≤ 90)) := rfl
    refine ⟨_, rfl, _, _, rfl, rfl, _, rfl, ?_⟩
    refine ite2 (fun h1 => ?_) (fun h1 => ?_)
    · have h1' : 65 ≤ n := by have := of_decide_eq_true h1; omega
      refine ⟨_, _, rfl, rfl, _, rfl, ?_⟩
      refine ite2 (fun h2 => ?_) (fun h2 => ?_)
      · have h2' : n ≤ 90 := by have := of_decide_eq_true h2; omega
        rw [g, decide_eq_true h1', decide_eq_true h2', Bool.true_and, if_pos rfl] at e
        refine ⟨_, rfl, _, _, rfl, rfl, _, _, rfl, rfl, ?_⟩
        rw [e] at k
        show Q (V.int ((n : Int) - 65 + 97)) H
        rw [ceq (show (n : Int) - 65 + 97 = ((n + 32 : Nat) : Int) by omega)]
        exact k
      · have h2' : ¬ n ≤ 90 := fun z => h2 (decide_eq_true (by omega))
        rw [g, decide_eq_false h2', Bool.and_false, if_neg (by decide)] at e
        rw [e] at k
        exact ⟨_, rfl, k⟩
    · have h1' : ¬ 65 ≤ n := fun z => h1 (decide_eq_true (by omega))
      rw [g, decide_eq_false h1', Bool.false_and, if_neg (by decide)] at e
      rw [e] at k
      refine ⟨_, rfl, iteF ?_⟩
      exact ⟨_, rfl, k⟩
theorem scRowEnd : FnScope ["signs", "at"] ["signs", "at"] (defScope (top 17)) := ⟨rfl, rfl, rfl, by decide +kernel, rfl, by decide +kernel, by decide +kernel⟩
theorem ok_rowEnd {f : Addr} {fd : FuncData} (F : Fun K "row_end" "row_end" (top 17) f fd) (G : Glo mg) (C1 : Cal P w K mg base "is_letter" ["sign"] 1 spIsLetter) : FnOk P w K mg base CX0 2 f fd ["signs", "at"] (spRowEnd K) := by
  refine F.ok scRowEnd (fun vs H Q E h => ?_) (fun cdv A outer s H vs Q E hr h => ?_)
  · obtain ⟨a, l, i, rfl, _⟩ := h
    rfl
  · obtain ⟨a, l, i, rfl, hS, hi, k⟩ := h
    refine ⟨_, pss_cons (ps_while PassesOwn.never (pw_and (pt_cmpR op_lt (pv 1) (pe_callB call_len_seq (by rfl) G.len PySem.boot_len (pa_cons (pv 0) pa_nil)) (nomark _))
          (pw_and1 (pt_val (pe_cal C1 hr (pa_cons (pe_ix ix_list (pv 0) (pv 1) (fun _ _ => rfl)) pa_nil))))).pt
        (pss_one (ps_aug (i := 1) scRowEnd.nd rfl (Or.inl rfl) pe_int ip_add)))
      (pss_one (ps_ret (pv 1))), ?_⟩
    refine ⟨fun m σ H' => ∃ j : Nat, m + j = l.length ∧ rowEnd l j = rowEnd l i ∧ σ = [some (.ref a), some (iv j)] ∧ H' = H, ⟨l.length - i, i, by omega, rfl, rfl, rfl⟩, ?_⟩
    rintro m σ H' ⟨j, hj, ej, rfl, rfl⟩
    refine ⟨_, rfl, _, rfl, a, _, rfl, .inl hS, _, _, rfl, rfl, _, rfl, ?_⟩
    refine ite2 (fun h1 => ?_) (fun h1 => ?_)
    · have h1' : j < l.length := by have := of_decide_eq_true h1; rw [nv_length] at this; omega
      obtain ⟨c, hc⟩ : ∃ c, l[j]? = some c := ⟨_, List.getElem?_eq_getElem h1'⟩
      refine ⟨_, rfl, _, rfl, a, _, _, _, rfl, rfl, hS, atI_nat (nv_at hc), c, rfl, _, rfl, ?_⟩
      by_cases hl : letter c = true
      · rw [hl]
        refine ⟨fun σ' H2 => ∃ j', j' = j + 1 ∧ σ' = [some (V.ref a), some (iv j')] ∧ H2 = H', fun σ' H2 ⟨j', e, e2, e3⟩ => ⟨m - 1, by omega, j', by omega, by rw [e, ← ej, rowEnd_go hc hl], e2, e3⟩, ?_⟩
        refine ⟨_, rfl, _, _, rfl, rfl, j + 1, rfl, ?_, rfl⟩
        show [some (V.ref a), some (V.int ((j : Int) + 1))] = _
        rw [ceq (show (j : Int) + 1 = ((j + 1 : Nat) : Int) by omega)]
      · have hf : letter c = false := by simpa using hl
        rw [hf]
        refine ⟨_, rfl, ?_⟩
        rw [← ej, rowEnd_stop hc hl] at k
        exact k
    · have h1' : ¬ j < l.length := fun z => h1 (decide_eq_true (by rw [nv_length]; omega))
      refine iteF ?_
      refine ⟨_, rfl, ?_⟩
      rw [← ej, rowEnd_out (by omega)] at k
      exact k
theorem Pairs2.mono {H H' : Hp} (s : Same H H') {as : List Addr} {ps : List (Nat × Nat)} (h : Pairs2 H as ps) : Pairs2 H' as ps := Paired.mapP h fun _ _ e => s _ _ e
theorem paired_snoc {α β : Type} {R : α → β → Prop} {a : α} {b : β} (r : R a b) : ∀ {l : List α} {m : List β}, Paired R l m → Paired R (l ++ [a]) (m ++ [b])
  | _, _, .nil => .cons r .nil
  | _, _, .cons q t => .cons q (paired_snoc r t)
theorem scRowsOf : FnScope ["signs", "rows", "at", "end"] ["signs"] (defScope (top 16)) := ⟨rfl, rfl, rfl, by decide +kernel, rfl, by decide +kernel, by decide +kernel⟩
theorem ok_rowsOf {f : Addr} {fd : FuncData} (F : Fun K "rows_of_letters" "rows_of_letters" (top 16) f fd) (G : Glo mg) (C1 : Cal P w K mg base "row_end" ["signs", "at"] 2 (spRowEnd K)) : FnOk P w K mg base CX0 3 f fd ["signs"] (spRowsOf K) := by
  refine F.ok scRowsOf (fun vs H Q E h => ?_) (fun cdv A outer s H vs Q E hr h => ?_)
  · obtain ⟨a, l, rfl, _⟩ := h
    rfl
  · obtain ⟨a, l, rfl, hS, hL, k⟩ := h
    refine ⟨_, pss_cons (ps_set (i := 1) scRowsOf.nd rfl (Or.inl rfl) (pe_lst pa_nil)) (pss_cons (ps_set (i := 2) scRowsOf.nd rfl (Or.inl rfl) pe_int)
      (pss_cons (ps_while PassesOwn.never (pt_cmpR op_lt (pv 2) (pe_callB call_len_seq (by rfl) G.len PySem.boot_len (pa_cons (pv 0) pa_nil)) (nomark _))
        (pss_cons (ps_set (i := 3) scRowsOf.nd rfl (Or.inl rfl) (pe_cal C1 hr (pa_cons (pv 0) (pa_cons (pv 2) pa_nil))))
        (pss_cons (ps_if (pt_cmpR op_gt (pv 3) (pv 2) (nomark _)) (pss_one (ps_expr (pe_app (pv 1) (pa_cons (pe_tup (pa_cons (pv 2) (pa_cons (pv 3) pa_nil))) pa_nil)))) pss_nil)
        (pss_one (ps_set (i := 2) scRowsOf.nd rfl (Or.inl rfl) (pe_op op_add (pv 3) pe_int))))))
      (pss_one (ps_ret (pv 1))))), ?_⟩
    refine ⟨Nat.zero_le _, fun p hp => ?_⟩
    have s0 : Same H (upd H p (.lst [])) := same_new (Same.refl H) hp
    refine ⟨fun m σ H' => ∃ (j : Nat) (as : List Addr) (done : List (Nat × Nat)) (v : Option V), m + j = l.length + 1 ∧ σ = [some (.ref a), some (.ref p), some (iv j), v] ∧ Same H H' ∧ H' p = some (.lst (as.map V.ref)) ∧ Pairs2 H' as done ∧
      rws 0 l = done ++ rws j (l.drop j) ∧ as.length ≤ j, ⟨l.length + 1, 0, [], [], none, rfl, rfl, s0, upd_same, .nil, rfl, Nat.le_refl _⟩, ?_⟩
    rintro m σ H' ⟨j, as, done, v, hj, rfl, s1, hp', hP, er, la⟩
    refine ⟨_, rfl, _, rfl, a, _, rfl, .inl (s1.seq hS), _, _, rfl, rfl, _, rfl, ?_⟩
    refine ite2 (fun h1 => ?_) (fun h1 => ?_)
    · have h1' : j < l.length := by have := of_decide_eq_true h1; rw [nv_length] at this; omega
      have hge := rowEnd_ge l j
      have hle := rowEnd_le (l := l) (a := j) (by omega)
      rw [rws_at h1'] at er
      refine ⟨fun σ' H2 => ∃ (j' : Nat) (as' : List Addr) (done' : List (Nat × Nat)) (v' : Option V), j' = rowEnd l j + 1 ∧ σ' = [some (V.ref a), some (V.ref p), some (iv j'), v'] ∧ Same H H2 ∧ H2 p = some (.lst (as'.map V.ref)) ∧ Pairs2 H2 as' done' ∧
        rws 0 l = done' ++ rws j' (l.drop j') ∧ as'.length ≤ j', fun σ' H2 ⟨j', as', done', v', e, e2, e3, e4, e5, e6, e7⟩ => ⟨l.length + 1 - j', by omega, j', as', done', v', by omega, e2, e3, e4, e5, e6, e7⟩, ?_⟩
      refine ⟨_, rfl, _, rfl, a, l, j, rfl, s1.seq hS, by omega, ?_⟩
      refine ⟨_, rfl, _, rfl, _, _, rfl, rfl, _, rfl, ?_⟩
      have ej : V.int (((rowEnd l j : Nat) : Int) + 1) = iv (rowEnd l j + 1) := ceq (by omega)
      refine ite2 (fun h2 => ?_) (fun h2 => ?_)
      · have h2' : j < rowEnd l j := by have := of_decide_eq_true h2; omega
        rw [if_pos h2', ← List.append_assoc] at er
        refine ⟨_, rfl, .inl ⟨rfl, _, SqL.of hp'⟩, _, rfl, _, rfl, (by show 2 ≤ sizeLine; decide), fun t ht => ?_⟩
        have npt : p ≠ t := ne_of_none hp' ht
        refine ⟨p, _, _, rfl, rfl, by rw [upd_ne npt]; exact hp', ?_, ?_⟩
        · rw [List.length_map]
          exact size100 (by omega)
        refine ⟨_, rfl, _, _, rfl, rfl, rowEnd l j + 1, as ++ [t], done ++ [(j, rowEnd l j)], some (iv (rowEnd l j)), rfl, ?_, same_upd (same_new s1 ht) hp, ?_, ?_, er, ?_⟩
        · show [some (V.ref a), some (V.ref p), some (V.int (((rowEnd l j : Nat) : Int) + 1)), some (iv (rowEnd l j))] = _
          rw [ej]
        · rw [upd_same, List.map_append]
          rfl
        · have st : ∀ b u, b ≠ p → H' b = some u → upd (upd H' t (.tup [iv j, iv (rowEnd l j)])) p (.lst (as.map V.ref ++ [V.ref t])) b = some u := fun b u hb e => by
            rw [upd_ne hb, upd_ne (ne_of_none e ht)]
            exact e
          refine paired_snoc (by rw [upd_ne npt.symm, upd_same]) (Paired.mapP hP fun b q e => st b _ ?_ e)
          rintro rfl
          rw [hp'] at e
          cases e
        · rw [List.length_append]
          show as.length + 1 ≤ _
          omega
      · have h2' : ¬ j < rowEnd l j := fun z => h2 (decide_eq_true (by omega))
        rw [if_neg h2', List.nil_append] at er
        refine ⟨_, rfl, _, _, rfl, rfl, rowEnd l j + 1, as, done, some (iv (rowEnd l j)), rfl, ?_, s1, hp', hP, er, by omega⟩
        show [some (V.ref a), some (V.ref p), some (V.int (((rowEnd l j : Nat) : Int) + 1)), some (iv (rowEnd l j))] = _
        rw [ej]
    · have h1' : ¬ j < l.length := fun z => h1 (decide_eq_true (by rw [nv_length]; omega))
      rw [List.drop_of_length_le (by omega), rws_nil, List.append_nil] at er
      refine ⟨_, rfl, ?_⟩
      refine k p as H' s1 hp' ?_
      rw [er]
      exact hP
end
end Bw
set_option Elab.async false
set_option linter.all false
set_option maxRecDepth 100000
set_option maxHeartbeats 4000000
namespace Bw
open PySem PySem.Spec PyProof.Rows L2 Kct5
def pd (l : Bytes) : List PyData := l.map fun n : Nat => PyData.int (n : Int)
theorem dp_all {K : PySem.W.Frag} {H : Hp} : ∀ l : Bytes, DpAll K H (nv l) (pd l)
  | [] => .nil
  | n :: l => .cons (.int _) (dp_all l)
theorem pd_eqv : ∀ l m : Bytes, PyData.eqvAll (pd l) (pd m) = decide (l = m)
  | [], [] => rfl
  | [], _ :: _ => rfl
  | _ :: _, [] => rfl
  | a :: l, b :: m => by
    show (((a : Int) == (b : Int)) && PyData.eqvAll (pd l) (pd m)) = _
    rw [pd_eqv l m]
    by_cases h : a = b
    · subst h
      simp
    · rw [beq_eq_false_iff_ne.mpr (fun z => h (by omega)), Bool.false_and, decide_eq_false (fun z => h (List.cons.inj z).1)]
theorem pd_lay : ∀ l : Bytes, PyData.canLayAll0 (pd l) = true
  | [] => rfl
  | n :: l => by
    show (true && PyData.canLayAll0 (pd l)) = true
    rw [pd_lay l]
    rfl
theorem pd_depth : ∀ l : Bytes, PyData.depthAll (pd l) ≤ PyData.depth (.int 0)
  | [] => Nat.zero_le _
  | n :: l => Nat.max_le.mpr ⟨Nat.le_refl _, pd_depth l⟩
theorem pd_shaped (l : Bytes) : SeqAt.shaped (.tuple (pd l)) = true := by
  unfold SeqAt.shaped
  rw [Bool.and_eq_true]
  refine ⟨pd_lay l, decide_eq_true ?_⟩
  have h := pd_depth l
  have e : PyData.depth (.int 0) ≤ 1 := by decide
  show PyData.depthAll (pd l) + 1 ≤ 64
  omega
def rNeT : R2 := fun x y H Q => ∃ a b l m, x = .ref a ∧ y = .ref b ∧ H a = some (.tup (nv l)) ∧ H b = some (.tup (nv m)) ∧ Q (.bl (!decide (l = m))) H
theorem op_neT {X : Cx} (hu : X.A.units + 64 < cLine) : OpR X (compareOp .NotEq) rNeT := by
  intro pins s σ H x y v u Q I rx ry h
  obtain ⟨a, b, l, m, rfl, rfl, ha, hb, q⟩ := h
  refine op_neD hu pins s σ H _ _ v u Q I rx ry ⟨.tuple (pd l), .tuple (pd m), .tup (SqT.of ha) (dp_all l), .tup (SqT.of hb) (dp_all m), pd_shaped l, pd_shaped m, ?_⟩
  have e : PyData.eqv (.tuple (pd l)) (.tuple (pd m)) = decide (l = m) := pd_eqv l m
  rw [e]
  exact q
theorem u64 {k : Nat} {A : Around} (hr : Room k A) : A.units + 64 < cLine := by have := hr.un; omega
def spFits : Sp := fun vs H Q _ => ∃ (a b : Addr) (as : List Addr) (pat : List Item) (u : Bytes), vs = [.ref a, .ref b] ∧ H a = some (.tup (as.map V.ref)) ∧ Pats H as pat ∧ H b = some (.tup (nv u)) ∧ u.length = pat.length ∧ (∀ c ∈ u, letter c = true) ∧
  ∀ H', Same H H' → Q (.bl (pairFits pat u)) H'
def spFitsAt (g : List Item → Bytes → Bool) : Sp := fun vs H Q _ => ∃ (a b : Addr) (as : List Addr) (pat : List Item) (w : Bytes), vs = [.ref a, .ref b] ∧ H a = some (.tup (as.map V.ref)) ∧ Pats H as pat ∧ H b = some (.tup (nv w)) ∧ (∀ c ∈ w, letter c = true) ∧
  ∀ H', Same H H' → Q (.bl (g pat w)) H'
structure WordAt (H : Hp) (b : Addr) (w : Bytes) : Prop where
  here : H b = some (.tup (nv w))
  all : ∀ c ∈ w, letter c = true
  len : w.length ≤ 24
theorem WordAt.mono {H H' : Hp} {b : Addr} {w : Bytes} (s : Same H H') (h : WordAt H b w) : WordAt H' b w := ⟨s _ _ h.here, h.all, h.len⟩
structure PartsOk (p : Part × Part) : Prop where
  f : PartOk p.1
  e : PartOk p.2
def spByRule (CR CP : Addr) : Sp := fun vs H Q _ => ∃ (a b : Addr) (p : Part × Part) (w : Bytes), vs = [.ref a, .ref b] ∧ RuleAt CR CP H a p ∧ PartsOk p ∧ WordAt H b w ∧ ∀ (q : Addr) (H' : Hp), Same H H' → H' q = some (.tup (nv (made p w))) → Q (.ref q) H'
abbrev RulesAt (CR CP : Addr) (H : Hp) : List Addr → List (Part × Part) → Prop := Paired fun a p => RuleAt CR CP H a p ∧ PartsOk p
def spFirst (K : PySem.W.Frag) (CR CP : Addr) : Sp := fun vs H Q _ => ∃ (a b : Addr) (as : List Addr) (ps : List (Part × Part)) (w : Bytes), vs = [.ref a, .ref b] ∧ SqL K H a (as.map V.ref) ∧ RulesAt CR CP H as ps ∧ WordAt H b w ∧
  ∀ (q : Addr) (H' : Hp), Same H H' → H' q = some (.tup (nv ((firstOf ps w).getD []))) → Q (.ref q) H'
theorem partF_1 (a b c : V) : (partF a b c).lookup ("pattern" : Str) = some a := lk_hit _ _ _
theorem partF_2 (a b c : V) : (partF a b c).lookup ("goes" : Str) = some b := by
  unfold partF
  rw [lk_miss (by decide +kernel), lk_hit]
theorem partF_3 (a b c : V) : (partF a b c).lookup ("comes" : Str) = some c := by
  unfold partF
  rw [lk_miss (by decide +kernel), lk_miss (by decide +kernel), lk_hit]
theorem ruleF_1 (a b : V) : (ruleF a b).lookup ("front" : Str) = some a := lk_hit _ _ _
theorem ruleF_2 (a b : V) : (ruleF a b).lookup ("end" : Str) = some b := by
  unfold ruleF
  rw [lk_miss (by decide +kernel), lk_hit]
theorem pairFits_take {pat : List Item} {u : Bytes} {i : Nat} {x : Item} {c : Nat} (hx : pat[i]? = some x) (hc : u[i]? = some c) : ((pat.zip u).take (i + 1)).all (fun p => fits p.1 p.2) = (((pat.zip u).take i).all (fun p => fits p.1 p.2) && fits x c) := by
  have h : (pat.zip u)[i]? = some (x, c) := by rw [List.getElem?_zip_eq_some]; exact ⟨hx, hc⟩
  rw [take_snoc h, List.all_append]
  simp
theorem all_take_false {α : Type} {l : List α} {f : α → Bool} {i : Nat} (h : (l.take i).all f = false) : l.all f = false := by
  rw [← List.take_append_drop i l, List.all_append, h, Bool.false_and]
section
variable {P : Program} {w : World} {K : PySem.W.Frag} {mg : Str → Option Value} {base : Heap}
theorem scFits : FnScope ["pattern", "letters", "place", "letter"] ["pattern", "letters"] (defScope (top 6)) := ⟨rfl, rfl, rfl, by decide +kernel, rfl, by decide +kernel, by decide +kernel⟩
theorem ok_fits {f : Addr} {fd : FuncData} (F : Fun K "fits" "fits" (top 6) f fd) (G : Glo mg) : FnOk P w K mg base CX0 1 f fd ["pattern", "letters"] spFits := by
  refine F.ok scFits (fun vs H Q E h => ?_) (fun cdv A outer s H vs Q E hr h => ?_)
  · obtain ⟨a, b, as, pat, u, rfl, _⟩ := h
    rfl
  · obtain ⟨a, b, as, pat, u, rfl, ha, hP, hb, hl, hu, k⟩ := h
    refine ⟨_, pss_cons (ps_for PassesOwn.never rfl (pi_zipT (by rfl) G.zip (pa_cons (pv 0) (pa_cons (pv 1) pa_nil))) (pg_tup rfl (pgs_cons (pg_name (i := 2) scFits.nd rfl (Or.inl rfl)) (pgs_cons (pg_name (i := 3) scFits.nd rfl (Or.inl rfl)) pgs_nil)))
        (pss_one (ps_if (pt_cmpR (show OpR _ (compareOp .NotIn) (rIn K true) from op_notIn_seq) (pv 3) (pv 2) (by with_unfolding_all rfl)) (pss_one (ps_ret pe_bl)) pss_nil)))
      (pss_one (ps_ret pe_bl)), ?_⟩
    have hla := hP.length
    refine ⟨_, rfl, _, rfl, a, b, _, _, rfl, ha, hb, for_zipT (fun i σ H' => ∃ v1 v2, σ = [some (.ref a), some (.ref b), v1, v2] ∧ Same H H' ∧ ((pat.zip u).take i).all (fun p => fits p.1 p.2) = true) ?_ ?_ ?_ ?_ ?_⟩
    · rw [List.length_map, nv_length]
      omega
    · exact ⟨none, none, rfl, Same.refl H, rfl⟩
    · rintro i σ H' ⟨v1, v2, rfl, s1, _⟩
      exact ⟨s1 _ _ ha, s1 _ _ hb⟩
    · rintro i x y T σ H' hx hy ⟨v1, v2, rfl, s1, hall⟩ hT
      obtain ⟨c, hc, rfl⟩ := nv_get hy
      rw [List.getElem?_map] at hx
      obtain ⟨q, hq, rfl⟩ := Option.map_eq_some_iff.mp hx
      obtain ⟨it, hit, l, hlq, hfit⟩ := paired_get hP hq
      have s2 : Same H (upd H' T (.tup [V.ref q, iv c])) := same_new s1 hT
      refine ⟨T, _, rfl, SqT.of upd_same, rfl, _, _, rfl, _, _, rfl, rfl, ?_⟩
      refine ⟨_, rfl, _, rfl, q, nv l, rfl, .inr (SqT.of (s2 _ _ hlq)), rfl, flat_nv l, _, rfl, ?_⟩
      have hlet := hu c (List.mem_of_getElem? hc)
      have ef : fits it c = l.contains c := by
        cases e : l.contains c with
        | true => exact (hfit c hlet).mpr (List.contains_iff_mem.mp e)
        | false =>
          cases e2 : fits it c with
          | false => rfl
          | true =>
            have := List.contains_iff_mem.mpr ((hfit c hlet).mp e2)
            rw [e] at this
            cases this
      have et := pairFits_take hit hc
      rw [hall, Bool.true_and, ef] at et
      rw [inV_nv]
      cases e : l.contains c with
      | true =>
        rw [e] at et
        refine iteF ?_
        exact ⟨_, _, rfl, s2, et⟩
      | false =>
        rw [e] at et
        refine iteT ?_
        have := all_take_false et
        have k' := k _ s2
        unfold pairFits at k'
        rw [this] at k'
        exact k'
    · rintro σ H' ⟨v1, v2, rfl, s1, hall⟩
      have k' := k _ s1
      have e : pairFits pat u = true := by
        unfold pairFits
        rw [List.length_map, hla, List.take_of_length_le (by rw [List.length_zip]; omega)] at hall
        exact hall
      rw [e] at k'
      exact k'
theorem scFF : FnScope ["pattern", "letters"] ["pattern", "letters"] (defScope (top 4)) := ⟨rfl, rfl, rfl, by decide +kernel, rfl, by decide +kernel, by decide +kernel⟩
theorem ok_fitsFront {f : Addr} {fd : FuncData} (F : Fun K "fits_front" "fits_front" (top 4) f fd) (G : Glo mg) (C1 : Cal P w K mg base "fits" ["pattern", "letters"] 1 spFits) : FnOk P w K mg base CX0 2 f fd ["pattern", "letters"] (spFitsAt fitsFront) := by
  refine F.ok scFF (fun vs H Q E h => ?_) (fun cdv A outer s H vs Q E hr h => ?_)
  · obtain ⟨a, b, as, pat, w, rfl, _⟩ := h
    rfl
  · obtain ⟨a, b, as, pat, w, rfl, ha, hP, hb, hu, k⟩ := h
    refine ⟨_, pss_one (ps_ret (pe_and (pe_cmpR op_le (pe_callB call_len_seq (by rfl) G.len PySem.boot_len (pa_cons (pv 0) pa_nil)) (pe_callB call_len_seq (by rfl) G.len PySem.boot_len (pa_cons (pv 1) pa_nil)) (nomark _))
      (pe_one (pe_cal C1 hr (pa_cons (pv 0) (pa_cons (pe_slice sl_cut (pv 1) po_none (po_some (pe_callB call_len_seq (by rfl) G.len PySem.boot_len (pa_cons (pv 0) pa_nil)))) pa_nil)))))), ?_⟩
    have hla := hP.length
    refine ⟨_, rfl, a, _, rfl, .inr (SqT.of ha), _, rfl, b, _, rfl, .inr (SqT.of hb), _, _, rfl, rfl, _, rfl, ?_⟩
    rw [List.length_map, nv_length, hla, dec_cast]
    have e := front_eq pat w
    refine ite2 (fun h1 => ?_) (fun h1 => ?_)
    · have h1' : pat.length ≤ w.length := of_decide_eq_true h1
      rw [h1, Bool.true_and] at e
      refine ⟨_, rfl, _, rfl, _, rfl, a, _, rfl, .inr (SqT.of ha), _, rfl, b, _, rfl, hb, fun p H' s1 hp => ?_⟩
      have ec : cutV (nv w) none (some (((as.map V.ref).length : Nat) : Int)) = nv (w.take pat.length) := by
        rw [List.length_map, hla, nv_cut, HT.sIx_none, HT.sIx_nat, Nat.min_eq_left h1', Nat.sub_zero, List.drop_zero]
      rw [ec] at hp
      refine ⟨a, p, as, pat, w.take pat.length, rfl, s1 _ _ ha, hP.mono s1, hp, by rw [List.length_take]; omega, fun c hc => hu c (List.mem_of_mem_take hc), fun H2 s2 => ?_⟩
      rw [← e]
      exact k H2 (s1.trans s2)
    · have h1' : decide (pat.length ≤ w.length) = false := by simpa using h1
      rw [h1', Bool.false_and] at e
      rw [← e]
      exact k H (Same.refl H)
theorem scFE : FnScope ["pattern", "letters"] ["pattern", "letters"] (defScope (top 5)) := ⟨rfl, rfl, rfl, by decide +kernel, rfl, by decide +kernel, by decide +kernel⟩
theorem ok_fitsEnd {f : Addr} {fd : FuncData} (F : Fun K "fits_end" "fits_end" (top 5) f fd) (G : Glo mg) (C1 : Cal P w K mg base "fits" ["pattern", "letters"] 1 spFits) : FnOk P w K mg base CX0 2 f fd ["pattern", "letters"] (spFitsAt fitsEnd) := by
  refine F.ok scFE (fun vs H Q E h => ?_) (fun cdv A outer s H vs Q E hr h => ?_)
  · obtain ⟨a, b, as, pat, w, rfl, _⟩ := h
    rfl
  · obtain ⟨a, b, as, pat, w, rfl, ha, hP, hb, hu, k⟩ := h
    refine ⟨_, pss_one (ps_ret (pe_and (pe_cmpR op_le (pe_callB call_len_seq (by rfl) G.len PySem.boot_len (pa_cons (pv 0) pa_nil)) (pe_callB call_len_seq (by rfl) G.len PySem.boot_len (pa_cons (pv 1) pa_nil)) (nomark _))
      (pe_one (pe_cal C1 hr (pa_cons (pv 0) (pa_cons (pe_slice sl_cut (pv 1) (po_some (pe_op op_sub (pe_callB call_len_seq (by rfl) G.len PySem.boot_len (pa_cons (pv 1) pa_nil)) (pe_callB call_len_seq (by rfl) G.len PySem.boot_len (pa_cons (pv 0) pa_nil)))) po_none) pa_nil)))))), ?_⟩
    have hla := hP.length
    refine ⟨_, rfl, a, _, rfl, .inr (SqT.of ha), _, rfl, b, _, rfl, .inr (SqT.of hb), _, _, rfl, rfl, _, rfl, ?_⟩
    rw [List.length_map, nv_length, hla, dec_cast]
    have e := end_eq pat w
    refine ite2 (fun h1 => ?_) (fun h1 => ?_)
    · have h1' : pat.length ≤ w.length := of_decide_eq_true h1
      rw [h1, Bool.true_and] at e
      refine ⟨_, rfl, _, rfl, _, rfl, b, _, rfl, .inr (SqT.of hb), _, rfl, a, _, rfl, .inr (SqT.of ha), _, _, rfl, rfl, _, rfl, b, _, rfl, hb, fun p H' s1 hp => ?_⟩
      have ec : cutV (nv w) (some (((nv w).length : Int) - (((as.map V.ref).length : Nat) : Int))) none = nv (w.drop (w.length - pat.length)) := by
        rw [List.length_map, hla, nv_length, show ((w.length : Int) - (pat.length : Int)) = ((w.length - pat.length : Nat) : Int) by omega, cut_from]
      rw [ec] at hp
      refine ⟨a, p, as, pat, w.drop (w.length - pat.length), rfl, s1 _ _ ha, hP.mono s1, hp, by rw [List.length_drop]; omega, fun c hc => hu c (List.mem_of_mem_drop hc), fun H2 s2 => ?_⟩
      rw [← e]
      exact k H2 (s1.trans s2)
    · have h1' : decide (pat.length ≤ w.length) = false := by simpa using h1
      rw [h1', Bool.false_and] at e
      rw [← e]
      exact k H (Same.refl H)
theorem scBy : FnScope ["rule", "letters", "stays_from", "stays_to", "form"] ["rule", "letters"] (defScope (top 3)) := ⟨rfl, rfl, rfl, by decide +kernel, rfl, by decide +kernel, by decide +kernel⟩
theorem ok_byRule {f CR CP : Addr} {fd : FuncData} (F : Fun K "form_by_rule" "form_by_rule" (top 3) f fd) (G : Glo mg) (TR : RuleCls K CR) (TP : PartCls K CP)
    (C1 : Cal P w K mg base "fits_front" ["pattern", "letters"] 2 (spFitsAt fitsFront)) (C2 : Cal P w K mg base "fits_end" ["pattern", "letters"] 2 (spFitsAt fitsEnd)) : FnOk P w K mg base CX0 3 f fd ["rule", "letters"] (spByRule CR CP) := by
  refine F.ok scBy (fun vs H Q E h => ?_) (fun cdv A outer s H vs Q E hr h => ?_)
  · obtain ⟨a, b, p, w, rfl, _⟩ := h
    rfl
  · obtain ⟨a, b, p, w, rfl, hR, hok, hW, k⟩ := h
    refine ⟨_, pss_cons (ps_set (i := 2) scBy.nd rfl (Or.inl rfl) (pe_callB call_len_seq (by rfl) G.len PySem.boot_len (pa_cons (pe_fld (pe_fld (pv 0) rfl) rfl) pa_nil)))
      (pss_cons (ps_set (i := 3) scBy.nd rfl (Or.inl rfl) (pe_op op_sub (pe_callB call_len_seq (by rfl) G.len PySem.boot_len (pa_cons (pv 1) pa_nil)) (pe_callB call_len_seq (by rfl) G.len PySem.boot_len (pa_cons (pe_fld (pe_fld (pv 0) rfl) rfl) pa_nil))))
      (pss_cons (ps_if (pt_cmpR op_gt (pv 2) (pv 3) (nomark _)) (pss_one (ps_ret (pe_tup pa_nil))) pss_nil)
      (pss_cons (ps_if (pw_or (pt_cmpR (op_neT (u64 hr)) (pe_slice sl_cut (pv 1) po_none (po_some (pv 2))) (pe_fld (pe_fld (pv 0) rfl) rfl) (nomark _)) (pw_or1 (pt_cmpR (op_neT (u64 hr)) (pe_slice sl_cut (pv 1) (po_some (pv 3)) po_none) (pe_fld (pe_fld (pv 0) rfl) rfl) (nomark _)))).pt (pss_one (ps_ret (pe_tup pa_nil))) pss_nil)
      (pss_cons (ps_if (pw_or (pt_not (pt_val (pe_cal C1 hr (pa_cons (pe_fld (pe_fld (pv 0) rfl) rfl) (pa_cons (pv 1) pa_nil))))) (pw_or1 (pt_not (pt_val (pe_cal C2 hr (pa_cons (pe_fld (pe_fld (pv 0) rfl) rfl) (pa_cons (pv 1) pa_nil))))))).pt (pss_one (ps_ret (pe_tup pa_nil))) pss_nil)
      (pss_cons (ps_set (i := 4) scBy.nd rfl (Or.inl rfl) (pe_op op_join (pe_op op_join (pe_fld (pe_fld (pv 0) rfl) rfl) (pe_slice sl_cut (pv 1) (po_some (pv 2)) (po_some (pv 3)))) (pe_fld (pe_fld (pv 0) rfl) rfl)))
      (pss_one (ps_ret (pe_ifExp (pt_cmpR op_le (pe_callB call_len_seq (by rfl) G.len PySem.boot_len (pa_cons (pv 4) pa_nil)) (pe_gi G.formMax) (nomark _)) (pv 4) (pe_tup pa_nil))))))))), ?_⟩
    obtain ⟨dx, fa, ea, hrule, ⟨dxf, pa, pg, pc, as, hf, hfp, hfP, hfg, hfc⟩, ⟨dxe, qa, qg, qc, bs, he, hep, heP, heg, hec⟩⟩ := hR
    -- no letters
    have none' : ∀ H', Same H H' → made p w = [] → ∀ t : Addr, H' t = none → Q (.ref t) (upd H' t (.tup [])) := fun H' s1 e t ht => by
      have k' := k t (upd H' t (.tup [])) (same_new s1 ht)
      rw [e] at k'
      exact k' upd_same
    refine ⟨_, rfl, a, CR, dx, _, _, rfl, hrule, TR.cl, TR.n1, ruleF_1 _ _, fa, CP, dxf, _, _, rfl, hf, TP.cl, TP.n2, partF_2 _ _ _, pg, _, rfl, .inr (SqT.of hfg), ?_⟩
    refine ⟨_, rfl, b, _, rfl, .inr (SqT.of hW.here), _, rfl, a, CR, dx, _, _, rfl, hrule, TR.cl, TR.n2, ruleF_2 _ _, ea, CP, dxe, _, _, rfl, he, TP.cl, TP.n2, partF_2 _ _ _, qg, _, rfl, .inr (SqT.of heg), _, _, rfl, rfl, ?_⟩
    rw [nv_length, nv_length, nv_length]
    refine ⟨_, rfl, _, rfl, _, _, rfl, rfl, _, rfl, ?_⟩
    refine ite2 (fun h1 => ?_) (fun h1 => ?_)
    · have h1' : w.length < p.1.strip.length + p.2.strip.length := by have := of_decide_eq_true h1; omega
      exact ⟨Nat.zero_le _, none' H (Same.refl H) (made_over h1')⟩
    · have h1' : p.1.strip.length + p.2.strip.length ≤ w.length := by
        refine Nat.le_of_not_lt fun z => h1 (decide_eq_true ?_)
        omega
      have em := made_eq h1'
      have e3 : (w.length : Int) - (p.2.strip.length : Int) = ((w.length - p.2.strip.length : Nat) : Int) := by omega
      refine ⟨_, rfl, _, rfl, _, rfl, b, _, rfl, hW.here, fun t1 H1 s1 ht1 => ?_⟩
      have c1 : cutV (nv w) none (some (p.1.strip.length : Int)) = nv (w.take p.1.strip.length) := by
        rw [nv_cut, HT.sIx_none, HT.sIx_nat, Nat.min_eq_left (by omega), Nat.sub_zero, List.drop_zero]
      have ht1 : H1 t1 = some (.tup (nv (w.take p.1.strip.length))) := by rw [← c1]; exact ht1
      refine ⟨_, rfl, a, CR, dx, _, _, rfl, s1 _ _ hrule, TR.cl, TR.n1, ruleF_1 _ _, fa, CP, dxf, _, _, rfl, s1 _ _ hf, TP.cl, TP.n2, partF_2 _ _ _, t1, pg, _, _, rfl, rfl, ht1, s1 _ _ hfg, _, rfl, ?_⟩
      by_cases g1 : w.take p.1.strip.length = p.1.strip
      · rw [decide_eq_true g1]
        refine iteF ?_
        refine ⟨_, rfl, _, rfl, _, rfl, b, _, rfl, s1 _ _ hW.here, fun t2 H2 s2 ht2 => ?_⟩
        have c2 : cutV (nv w) (some ((w.length : Int) - (p.2.strip.length : Int))) none = nv (w.drop (w.length - p.2.strip.length)) := by rw [e3, cut_from]
        have ht2 : H2 t2 = some (.tup (nv (w.drop (w.length - p.2.strip.length)))) := by rw [← c2]; exact ht2
        have s12 := s1.trans s2
        refine ⟨_, rfl, a, CR, dx, _, _, rfl, s12 _ _ hrule, TR.cl, TR.n2, ruleF_2 _ _, ea, CP, dxe, _, _, rfl, s12 _ _ he, TP.cl, TP.n2, partF_2 _ _ _, t2, qg, _, _, rfl, rfl, ht2, s12 _ _ heg, _, rfl, ?_⟩
        by_cases g2 : w.drop (w.length - p.2.strip.length) = p.2.strip
        · rw [decide_eq_true g2]
          refine iteF ?_
          refine ⟨_, rfl, a, CR, dx, _, _, rfl, s12 _ _ hrule, TR.cl, TR.n1, ruleF_1 _ _, fa, CP, dxf, _, _, rfl, s12 _ _ hf, TP.cl, TP.n1, partF_1 _ _ _, _, rfl, pa, b, as, p.1.pat, w, rfl, s12 _ _ hfp, hfP.mono s12, s12 _ _ hW.here, hW.all, fun H3 s3 => ⟨_, rfl, ?_⟩⟩
          have s13 := s12.trans s3
          cases g3 : fitsFront p.1.pat w with
          | false =>
            refine iteT ?_
            refine ⟨Nat.zero_le _, none' H3 s13 ?_⟩
            rw [em, if_neg (fun z => by rw [g3] at z; exact Bool.false_ne_true z.2.1)]
          | true =>
            refine iteF ?_
            refine ⟨_, rfl, a, CR, dx, _, _, rfl, s13 _ _ hrule, TR.cl, TR.n2, ruleF_2 _ _, ea, CP, dxe, _, _, rfl, s13 _ _ he, TP.cl, TP.n1, partF_1 _ _ _, _, rfl, qa, b, bs, p.2.pat, w, rfl, s13 _ _ hep, heP.mono s13, s13 _ _ hW.here, hW.all, fun H4 s4 => ⟨_, rfl, ?_⟩⟩
            have s14 := s13.trans s4
            cases g4 : fitsEnd p.2.pat w with
            | false =>
              refine iteT ?_
              refine ⟨Nat.zero_le _, none' H4 s14 ?_⟩
              rw [em, if_neg (fun z => by rw [g4] at z; exact Bool.false_ne_true z.2.2)]
            | true =>
              refine iteF ?_
              rw [if_pos ⟨⟨g1, g2⟩, g3, g4⟩] at em
              refine ⟨_, rfl, a, CR, dx, _, _, rfl, s14 _ _ hrule, TR.cl, TR.n1, ruleF_1 _ _, fa, CP, dxf, _, _, rfl, s14 _ _ hf, TP.cl, TP.n3, partF_3 _ _ _, _, rfl, _, rfl, _, rfl, _, rfl, _, rfl, b, _, rfl, s14 _ _ hW.here, fun t5 H5 s5 ht5 => ?_⟩
              have c5 : cutV (nv w) (some (p.1.strip.length : Int)) (some ((w.length : Int) - (p.2.strip.length : Int))) = nv ((w.drop p.1.strip.length).take (w.length - p.2.strip.length - p.1.strip.length)) := by rw [e3, cut_nat _ _ _ (by omega)]
              have ht5 : H5 t5 = some (.tup (nv ((w.drop p.1.strip.length).take (w.length - p.2.strip.length - p.1.strip.length)))) := by rw [← c5]; exact ht5
              have s15 := s14.trans s5
              have m1 := (isLetters_iff.mp hok.f.add).2.1
              have m2 := (isLetters_iff.mp hok.e.add).2.1
              have hwl := hW.len
              have hlt : ((w.drop p.1.strip.length).take (w.length - p.2.strip.length - p.1.strip.length)).length ≤ 24 := by
                rw [List.length_take, List.length_drop]
                omega
              have big : 100 ≤ sizeLine := by decide
              refine ⟨pc, t5, _, _, rfl, rfl, s15 _ _ hfc, ht5, ?_, fun t6 H6 s6 ht6 => ?_⟩
              · rw [nv_length, nv_length]
                omega
              have s16 := s15.trans s6
              rw [← nv_append] at ht6
              refine ⟨_, rfl, a, CR, dx, _, _, rfl, s16 _ _ hrule, TR.cl, TR.n2, ruleF_2 _ _, ea, CP, dxe, _, _, rfl, s16 _ _ he, TP.cl, TP.n3, partF_3 _ _ _, t6, qc, _, _, rfl, rfl, ht6, s16 _ _ hec, ?_, fun t7 H7 s7 ht7 => ?_⟩
              · rw [nv_length, nv_length, List.length_append]
                omega
              have s17 := s16.trans s7
              rw [← nv_append] at ht7
              refine ⟨_, rfl, t7, _, rfl, .inr (SqT.of ht7), _, _, rfl, rfl, _, rfl, ?_⟩
              rw [nv_length]
              refine ite2 (fun h5 => ?_) (fun h5 => ?_)
              · have h5' : (p.1.add ++ (w.drop p.1.strip.length).take (w.length - p.2.strip.length - p.1.strip.length) ++ p.2.add).length ≤ 40 := by have := of_decide_eq_true h5; omega
                rw [if_pos h5'] at em
                refine ⟨_, rfl, k t7 H7 s17 ?_⟩
                rw [em]
                exact ht7
              · have h5' : ¬ (p.1.add ++ (w.drop p.1.strip.length).take (w.length - p.2.strip.length - p.1.strip.length) ++ p.2.add).length ≤ 40 := fun z => h5 (decide_eq_true (by omega))
                rw [if_neg h5'] at em
                exact ⟨Nat.zero_le _, none' H7 s17 em⟩
        · rw [decide_eq_false g2]
          refine iteT ?_
          refine ⟨Nat.zero_le _, none' H2 s12 ?_⟩
          rw [em, if_neg (fun z => g2 z.1.2)]
      · rw [decide_eq_false g1]
        refine iteT (iteT ?_)
        refine ⟨Nat.zero_le _, none' H1 s1 ?_⟩
        rw [em, if_neg (fun z => g1 z.1.1)]
theorem RulesAt.mono {CR CP : Addr} {H H' : Hp} (s : Same H H') {as : List Addr} {ps : List (Part × Part)} (h : RulesAt CR CP H as ps) : RulesAt CR CP H' as ps := Paired.mapP h fun _ _ e => ⟨e.1.mono s, e.2⟩
theorem firstOf_take {ps : List (Part × Part)} {w : Bytes} {i : Nat} {p : Part × Part} (h : ps[i]? = some p) : firstOf (ps.take (i + 1)) w = (firstOf (ps.take i) w).or (appl p w) := by
  unfold firstOf
  rw [take_snoc h, List.findSome?_append]
  rw [List.findSome?_singleton]
theorem firstOf_some {ps : List (Part × Part)} {w x : Bytes} {i : Nat} (h : firstOf (ps.take i) w = some x) : firstOf ps w = some x := by
  have e : firstOf ps w = (firstOf (ps.take i) w).or (firstOf (ps.drop i) w) := by
    unfold firstOf
    rw [← List.findSome?_append, List.take_append_drop]
  rw [e, h]
  rfl
theorem scFirst : FnScope ["rules", "letters", "rule", "form"] ["rules", "letters"] (defScope (top 2)) := ⟨rfl, rfl, rfl, by decide +kernel, rfl, by decide +kernel, by decide +kernel⟩
theorem ok_first1 {f CR CP : Addr} {fd : FuncData} (F : Fun K "first_form" "first_form" (top 2) f fd) (G : Glo mg) (C1 : Cal P w K mg base "form_by_rule" ["rule", "letters"] 3 (spByRule CR CP)) : FnOk P w K mg base CX0 4 f fd ["rules", "letters"] (spFirst K CR CP) := by
  refine F.ok scFirst (fun vs H Q E h => ?_) (fun cdv A outer s H vs Q E hr h => ?_)
  · obtain ⟨a, b, as, ps, w, rfl, _⟩ := h
    rfl
  · obtain ⟨a, b, as, ps, w, rfl, hS, hR, hW, k⟩ := h
    refine ⟨_, pss_cons (ps_for PassesOwn.never rfl (pi_list (pv 0)) (pg_name (i := 2) scFirst.nd rfl (Or.inl rfl))
        (pss_cons (ps_set (i := 3) scFirst.nd rfl (Or.inl rfl) (pe_cal C1 hr (pa_cons (pv 2) (pa_cons (pv 1) pa_nil))))
        (pss_one (ps_if (pt_cmpR op_gt (pe_callB call_len_seq (by rfl) G.len PySem.boot_len (pa_cons (pv 3) pa_nil)) pe_int (nomark _)) (pss_one (ps_ret (pv 3))) pss_nil))))
      (pss_one (ps_ret (pe_tup pa_nil))), ?_⟩
    have hla : as.length = ps.length := Paired.length hR
    refine ⟨_, rfl, a, rfl, ⟨_, hS⟩, for_list (K := K) (a := a) (xs := as.map V.ref) (fun i σ H' => ∃ v1 v2, σ = [some (.ref a), some (.ref b), v1, v2] ∧ Same H H' ∧ firstOf (ps.take i) w = none) ?_ ?_ ?_ ?_⟩
    · exact ⟨none, none, rfl, Same.refl H, rfl⟩
    · rintro i σ H' _ ⟨v1, v2, rfl, s1, _⟩
      exact s1.seq hS
    · rintro i x σ H' hx ⟨v1, v2, rfl, s1, hnone⟩
      rw [List.getElem?_map] at hx
      obtain ⟨q, hq, rfl⟩ := Option.map_eq_some_iff.mp hx
      obtain ⟨p, hp, hRq, hokq⟩ := paired_get hR hq
      have ef := firstOf_take (w := w) hp
      rw [hnone, Option.none_or] at ef
      refine ⟨_, rfl, _, rfl, q, b, p, w, rfl, hRq.mono s1, hokq, hW.mono s1, fun t H2 s2 ht => ?_⟩
      refine ⟨_, rfl, t, _, rfl, .inr (SqT.of ht), _, _, rfl, rfl, _, rfl, ?_⟩
      rw [nv_length]
      refine ite2 (fun h1 => ?_) (fun h1 => ?_)
      · have h1' : 0 < (made p w).length := by have := of_decide_eq_true h1; omega
        cases em : appl p w with
        | none =>
          rw [made_nil.mpr em] at h1'
          exact absurd h1' (by decide)
        | some x =>
          rw [em] at ef
          refine ⟨_, rfl, k t H2 (s1.trans s2) ?_⟩
          rw [firstOf_some ef]
          have : made p w = x := by unfold made; rw [em]; rfl
          rw [this] at ht
          exact ht
      · have h1' : made p w = [] := by
          cases e : made p w with
          | nil => rfl
          | cons c l =>
            exact (h1 (decide_eq_true (by rw [e, List.length_cons]; omega))).elim
        rw [made_nil.mp h1'] at ef
        exact ⟨_, _, rfl, s1.trans s2, ef⟩
    · rintro σ H' ⟨v1, v2, rfl, s1, hnone⟩
      refine ⟨Nat.zero_le _, fun t ht => k t _ (same_new s1 ht) ?_⟩
      rw [List.length_map, hla, List.take_length] at hnone
      rw [hnone, upd_same]
      rfl
end
end Bw
set_option Elab.async false
set_option linter.all false
set_option maxRecDepth 100000
set_option maxHeartbeats 4000000
namespace Bw
open PySem PySem.Spec PyProof.Rows L2 Kct5
theorem TupsAt.mono {H H' : Hp} (s : Same H H') {as : List Addr} {ls : List Bytes} (h : TupsAt H as ls) : TupsAt H' as ls := Paired.mapP h fun _ _ e => s _ _ e
theorem TupsAt.append {H : Hp} : ∀ {as bs : List Addr} {ls ms : List Bytes}, TupsAt H as ls → TupsAt H bs ms → TupsAt H (as ++ bs) (ls ++ ms)
  | _, _, _, _, .nil, h => h
  | _, _, _, _, .cons r t, h => .cons r (TupsAt.append t h)
theorem TupsAt.upd {H : Hp} {p : Addr} {o : HO} {xs : List V} (hp : H p = some (.lst xs)) {as : List Addr} {ls : List Bytes} (h : TupsAt H as ls) : TupsAt (upd H p o) as ls :=
  Paired.mapP h fun _ _ e => by rw [upd_ne (ne_of e hp (fun z => nomatch z))]; exact e
def spBetween : Sp := fun vs H Q _ => ∃ (a b c : Addr) (x y : Bytes), vs = [.ref a, .ref b, .ref c] ∧ H a = some (.tup (nv x)) ∧ H b = some (.tup (nv y)) ∧ H c = some (.tup (nv alph)) ∧ x.length ≤ 100 ∧ y.length ≤ 100 ∧
  ∀ (p : Addr) (as : List Addr) (H' : Hp), Same H H' → H' p = some (.lst (as.map V.ref)) → TupsAt H' as (between x y) → Q (.ref p) H'
def spSteps (K : PySem.W.Frag) : Sp := fun vs H Q _ => ∃ (a : Addr) (l : Bytes), vs = [.ref a] ∧ H a = some (.tup (nv l)) ∧ l.length ≤ 100 ∧
  ∀ (p : Addr) (as : List Addr) (H' : Hp), Same H H' → H' p = some (.lst (as.map V.ref)) → TupsAt H' as (stepsOf l) → Q (.ref p) H'
theorem putIn_take {x y : Bytes} {i c : Nat} (h : alph[i]? = some c) : (putIn x y).take (i + 1) = (putIn x y).take i ++ [x ++ [c] ++ y] := by
  have : (putIn x y)[i]? = some (x ++ [c] ++ y) := by
    unfold putIn
    rw [List.getElem?_map, h]
    rfl
  exact take_snoc this
theorem pe_ext {X : Cx} {o e : Expr} {ta : TE} {t : TA} {apos pos : Pos} (ho : PE X o ta) (ha : PA X [e] t) (hbase : attributeBase o "extend" X.env (eval o X.env) = eval o X.env := by rfl)
    (hfew : ((backTo pos (starEach [e] X.env)).all (fun x => !x.1) && (backToKw pos (keywordEach [] X.env)).all (fun x => x.1.isSome)
      && decide ([e].length + ([] : List Keyword).length + (if ([] : List Keyword).isEmpty then 0 else 1) < 30)) = true := by rfl)
    (hline : (apos.endLine == pos.line) = true := by rfl) (hs : starEach [e] X.env = (false, eval e X.env) :: starEach [] X.env := by rfl) (hplain : (backTo pos (starEach [] X.env)).any (·.1) = false := by rfl) :
    PE X (.Call (.Attribute o "extend" apos) [e] [] pos) (tBM X.K "list" rExtend ta t) :=
  pe_bm PySem.F.plainAttrs_list PySem.F.slot_list_extend PySem.F.type_list_extend mt_extend ho ha hbase hfew hline hs hplain
theorem lc_put {K : PySem.W.Frag} {a b c D : Addr} {x y : Bytes} {σ : L2.St} {H : Hp} {Qd : Hp → Prop} (i0 i1 j : Nat) (ha : H a = some (.tup (nv x))) (hb : H b = some (.tup (nv y))) (hc : H c = some (.tup (nv alph))) (lx : x.length ≤ 100) (ly : y.length ≤ 100) (hD : H D = none)
    (h0 : ∀ v, ((wipe σ [j]).set j (some v))[i0]? = some (some (.ref a))) (h1 : ∀ v, ((wipe σ [j]).set j (some v))[i1]? = some (some (.ref b))) (hj : ∀ v, ((wipe σ [j]).set j (some v))[j]? = some (some v))
    (hw : ∀ v, wipe ((wipe σ [j]).set j (some v)) [j] = wipe σ [j]) (k : ∀ (as : List Addr) (H' : Hp), Same H H' → H' D = some (.lst (as.map V.ref)) → TupsAt H' as (putIn x y) → Qd H') :
    ∃ W : Nat → Nat → Hp → Prop, (∃ m, W 0 m (upd H D (.lst []))) ∧ ∀ i m H', W i m H' →
      ((Itt K c).stop i H' ∧ Qd H') ∨ ((Itt K c).go i H' ∧ ∃ Nx : Hp → Prop, (∀ H2, Nx H2 → ∃ m', m' < m ∧ W (i + 1) m' H2) ∧ ∀ z H2, (Itt K c).yld i H' z H2 → gName j z (wipe σ [j]) H2 fun σ2 H2 => wipe σ2 [j] = wipe σ [j] ∧ tYes σ2 H2 fun b H3 =>
        if b = true then tOp rJoin (tOp rJoin (tVar i0) (tTup (tCons (tVar j) tNil))) (tVar i1) σ2 H3 fun y H4 => ∃ acc, H4 D = some (.lst acc) ∧ acc.length < sizeLine ∧ Nx (upd H4 D (.lst (acc ++ [y]))) else Nx H3) := by
  refine lc_tup (K := K) (a := c) (xs := nv alph) (fun i H' => ∃ as : List Addr, H' D = some (.lst (as.map V.ref)) ∧ Same H H' ∧ TupsAt H' as ((putIn x y).take i)) ?_ ?_ ?_ ?_
  · exact ⟨[], upd_same, same_new (Same.refl H) hD, .nil⟩
  · rintro i H' _ ⟨as, _, s1, _⟩
    exact SqT.of (s1 _ _ hc)
  · rintro i z H' hz ⟨as, g1, s1, g2⟩
    obtain ⟨n, hn, rfl⟩ := nv_get hz
    have ei := putIn_take (x := x) (y := y) hn
    have hil : i < 26 := by
      have := (List.getElem?_eq_some_iff.mp hn).1
      rw [alph_len] at this
      exact this
    have big : 1000 ≤ sizeLine := by decide
    refine ⟨hw _, _, h0 _, _, hj _, (by show 1 ≤ sizeLine; decide), fun t ht => ?_⟩
    have nDt : D ≠ t := ne_of_none g1 ht
    have s2 : Same H (upd H' t (.tup [iv n])) := same_new s1 ht
    refine ⟨a, t, _, _, rfl, rfl, s2 _ _ ha, upd_same, ?_, fun t2 H2 s3 ht2 => ?_⟩
    · rw [nv_length]
      show x.length + 1 ≤ _
      omega
    have e2 : nv x ++ [iv n] = nv (x ++ [n]) := by rw [nv_append]; rfl
    rw [e2] at ht2
    have s13 : Same H H2 := s2.trans s3
    refine ⟨_, h1 _, t2, b, _, _, rfl, rfl, ht2, s13 _ _ hb, ?_, fun t3 H3 s4 ht3 => ?_⟩
    · rw [nv_length, nv_length, List.length_append]
      show x.length + 1 + y.length ≤ _
      omega
    rw [← nv_append] at ht3
    have s0 : Same H' (upd H' t (.tup [iv n])) := same_new (Same.refl H') ht
    have s03 : Same H' H3 := s0.trans (s3.trans s4)
    refine ⟨_, s03 _ _ g1, ?_, as ++ [t3], ?_, same_upd (s13.trans s4) hD, ?_⟩
    · have := Paired.length g2
      rw [List.length_take] at this
      rw [List.length_map]
      have := Nat.min_le_left i (putIn x y).length
      omega
    · rw [upd_same, List.map_append]
      rfl
    · rw [ei]
      exact TupsAt.upd (s03 _ _ g1) (TupsAt.append (g2.mono s03) (.cons ht3 .nil))
  · rintro H' ⟨as, g1, s1, g2⟩
    rw [nv_length, alph_len, List.take_of_length_le (by rw [putIn_len]; exact Nat.le_refl _)] at g2
    exact k as H' s1 g1 g2
section
variable {P : Program} {w : World} {K : PySem.W.Frag} {mg : Str → Option Value} {base : Heap}
theorem scBetween : FnScope ["before", "behind", "alphabet", "steps", "rest", "letter"] ["before", "behind", "alphabet"] (defScope (top 39)) := ⟨rfl, rfl, rfl, by decide +kernel, rfl, by decide +kernel, by decide +kernel⟩
theorem ok_between {f : Addr} {fd : FuncData} (F : Fun K "steps_between" "steps_between" (top 39) f fd) (G : Glo mg) : FnOk P w K mg base CX0 1 f fd ["before", "behind", "alphabet"] spBetween := by
  refine F.ok scBetween (fun vs H Q E h => ?_) (fun cdv A outer s H vs Q E hr h => ?_)
  · obtain ⟨a, b, c, x, y, rfl, _⟩ := h
    rfl
  · obtain ⟨a, b, c, x, y, rfl, ha, hb, hc, lx, ly, k⟩ := h
    refine ⟨_, pss_cons (ps_setLc rfl scBetween.nd (i := 3) rfl rfl (sw_true rfl rfl rfl (by decide +kernel)) (pi_tup (pv 2)) (own := [("letter", 5)]) (blkOk_by (by show blkC ["before", "behind", "alphabet", "steps", "rest", "letter"] (defScope (top 39)) _ _ = true; decide +kernel))
        (fun _ _ _ _ _ => pg_name (i := 5) scBetween.nd rfl (Or.inl rfl)) (fun _ _ _ _ _ => pts_nil) (fun _ _ _ _ _ => pe_op op_join (pe_op op_join (pv 0) (pe_tup (pa_cons (pv 5) pa_nil))) (pv 1)))
      (pss_cons (ps_if (pt_cmpR op_gt (pe_callB call_len_seq (by rfl) G.len PySem.boot_len (pa_cons (pv 1) pa_nil)) pe_int (nomark _))
        (pss_cons (ps_set (i := 4) scBetween.nd rfl (Or.inr rfl) (pe_slice sl_cut (pv 1) (po_some pe_int) po_none))
        (pss_cons (ps_expr (pe_app (pv 3) (pa_cons (pe_op op_join (pv 0) (pv 4)) pa_nil)))
        (pss_one (ps_expr (pe_ext (pv 3) (pa_cons (pe_lc rfl scBetween.nd (pi_tup (pv 2)) (own := [("letter", 5)]) (blkOk_by (by show blkC ["before", "behind", "alphabet", "steps", "rest", "letter"] (defScope (top 39)) _ _ = true; decide +kernel))
          (fun _ _ _ _ _ => pg_name (i := 5) scBetween.nd rfl (Or.inl rfl)) (fun _ _ _ _ _ => pts_nil) (fun _ _ _ _ _ => pe_op op_join (pe_op op_join (pv 0) (pe_tup (pa_cons (pv 5) pa_nil))) (pv 4))) pa_nil)))))) pss_nil)
      (pss_cons (ps_if (pt_cmpR op_gt (pe_callB call_len_seq (by rfl) G.len PySem.boot_len (pa_cons (pv 1) pa_nil)) pe_int (nomark _))
        (pss_one (ps_expr (pe_app (pv 3) (pa_cons (pe_op op_join (pe_op op_join (pv 0) (pe_tup (pa_cons (pe_ix ix_tup (pv 1) pe_int (fun _ _ => rfl)) (pa_cons (pe_ix ix_tup (pv 1) pe_int (fun _ _ => rfl)) pa_nil)))) (pe_slice sl_cut (pv 1) (po_some pe_int) po_none)) pa_nil)))) pss_nil)
      (pss_one (ps_ret (pv 3))))), ?_⟩
    have big : 1000 ≤ sizeLine := by decide
    refine ⟨_, rfl, c, rfl, ⟨_, SqT.of hc⟩, fun D hD => lc_put (K := K) (σ := [some (.ref a), some (.ref b), some (.ref c), none, none, none]) 0 1 5 ha hb hc lx ly hD (fun _ => rfl) (fun _ => rfl) (fun _ => rfl) (fun _ => rfl) fun as H1 s1 g1 g2 => ?_⟩
    have la1 : as.length = 26 := by rw [Paired.length g2, putIn_len]
    refine ⟨_, rfl, b, _, rfl, .inr (SqT.of (s1 _ _ hb)), _, _, rfl, rfl, _, rfl, ?_⟩
    rw [nv_length]
    by_cases hy : y = []
    · subst hy
      refine iteF ?_
      refine ⟨_, rfl, b, _, rfl, .inr (SqT.of (s1 _ _ hb)), _, _, rfl, rfl, _, rfl, ?_⟩
      refine iteF ?_
      refine ⟨_, rfl, k D as H1 s1 g1 ?_⟩
      have e : between x [] = putIn x [] := by
        unfold between
        rw [if_neg (by decide), if_neg (by decide), List.append_nil, List.append_nil]
      rw [e]
      exact g2
    · have hyl : 0 < y.length := List.length_pos_iff.mpr hy
      rw [decide_eq_true (show (0 : Int) < (y.length : Int) by omega)]
      refine iteT ?_
      -- rest = behind[1:]
      refine ⟨_, rfl, _, rfl, b, _, rfl, s1 _ _ hb, fun r H2 s2 hr2 => ?_⟩
      have ec : cutV (nv y) (some 1) none = nv (y.drop 1) := cut_from y 1
      rw [ec] at hr2
      have s12 := s1.trans s2
      have lr : (y.drop 1).length ≤ 100 := by rw [List.length_drop]; omega
      -- steps.append(before + rest)
      refine ⟨_, rfl, .inl ⟨rfl, _, SqL.of (s2 _ _ g1)⟩, _, rfl, _, rfl, a, r, _, _, rfl, rfl, s12 _ _ ha, hr2, ?_, fun t H3 s3 ht => ?_⟩
      · rw [nv_length, nv_length]
        omega
      rw [← nv_append] at ht
      have s23 := s2.trans s3
      have s13 := s1.trans s23
      refine ⟨D, _, _, rfl, rfl, s23 _ _ g1, ?_, ?_⟩
      · rw [List.length_map]
        omega
      have gD : upd H3 D (.lst (as.map V.ref ++ [V.ref t])) D = some (.lst ((as ++ [t]).map V.ref)) := by rw [upd_same, List.map_append]; rfl
      have gT : TupsAt (upd H3 D (.lst (as.map V.ref ++ [V.ref t]))) (as ++ [t]) (putIn x y ++ [x ++ y.drop 1]) := TupsAt.upd (s23 _ _ g1) (TupsAt.append (g2.mono s23) (.cons ht .nil))
      have s4 : Same H (upd H3 D (.lst (as.map V.ref ++ [V.ref t]))) := same_upd s13 hD
      have hr4 : upd H3 D (.lst (as.map V.ref ++ [V.ref t])) r = some (.tup (nv (y.drop 1))) := by rw [upd_ne (ne_of (s3 _ _ hr2) (s23 _ _ g1) (fun z => nomatch z))]; exact s3 _ _ hr2
      generalize upd H3 D (.lst (as.map V.ref ++ [V.ref t])) = H4 at gD gT s4 hr4
      -- steps.extend(..)
      refine ⟨_, rfl, .inl ⟨rfl, _, SqL.of gD⟩, _, rfl, c, rfl, ⟨_, SqT.of (s4 _ _ hc)⟩, fun D2 hD2 => lc_put (K := K) (σ := [some (.ref a), some (.ref b), some (.ref c), some (.ref D), some (.ref r), none]) 0 4 5 (s4 _ _ ha) hr4 (s4 _ _ hc) lx lr hD2 (fun _ => rfl) (fun _ => rfl) (fun _ => rfl) (fun _ => rfl) fun bs H5 s5 g5 g6 => ?_⟩
      have lb : bs.length = 26 := by rw [Paired.length g6, putIn_len]
      refine ⟨D, D2, _, _, rfl, rfl, s5 _ _ gD, g5, ?_, ?_⟩
      · rw [List.length_map, List.length_map, List.length_append]
        show as.length + 1 + bs.length ≤ _
        omega
      have gD6 : upd H5 D (.lst ((as ++ [t]).map V.ref ++ bs.map V.ref)) D = some (.lst ((as ++ [t] ++ bs).map V.ref)) := by rw [upd_same, List.map_append (l₁ := as ++ [t])]
      have gT6 : TupsAt (upd H5 D (.lst ((as ++ [t]).map V.ref ++ bs.map V.ref))) (as ++ [t] ++ bs) (putIn x y ++ [x ++ y.drop 1] ++ putIn x (y.drop 1)) := TupsAt.upd (s5 _ _ gD) (TupsAt.append (gT.mono s5) g6)
      have s6 : Same H (upd H5 D (.lst ((as ++ [t]).map V.ref ++ bs.map V.ref))) := same_upd (s4.trans s5) hD
      generalize upd H5 D (.lst ((as ++ [t]).map V.ref ++ bs.map V.ref)) = H6 at gD6 gT6 s6
      refine ⟨_, rfl, b, _, rfl, .inr (SqT.of (s6 _ _ hb)), _, _, rfl, rfl, _, rfl, ?_⟩
      rw [nv_length]
      have eb : between x y = putIn x y ++ [x ++ y.drop 1] ++ putIn x (y.drop 1) ++ (if 1 < y.length then [x ++ [y.getD 1 0, y.getD 0 0] ++ y.drop 2] else []) := by
        unfold between
        rw [if_pos hyl]
        simp only [List.append_assoc]
      match y, hyl, eb, hb, gT6, ly with
      | [u], _, eb, hb, gT6, _ =>
        refine iteF ?_
        refine ⟨_, rfl, k D _ H6 s6 gD6 ?_⟩
        rw [eb, if_neg (by simp), List.append_nil]
        exact gT6
      | u :: v :: r', _, eb, hb, gT6, ly =>
        rw [decide_eq_true (show (1 : Int) < ((u :: v :: r').length : Int) by rw [List.length_cons, List.length_cons]; omega)]
        refine iteT ?_
        refine ⟨_, rfl, .inl ⟨rfl, _, SqL.of gD6⟩, _, rfl, _, rfl, b, _, _, _, rfl, rfl, SqT.of (s6 _ _ hb), at_of (j := 1) rfl rfl, _, rfl, b, _, _, _, rfl, rfl, SqT.of (s6 _ _ hb), at_of (j := 0) rfl rfl, (by show 2 ≤ sizeLine; decide), fun q hq => ?_⟩
        have nDq : D ≠ q := ne_of_none gD6 hq
        have s7 : Same H6 (upd H6 q (.tup [iv v, iv u])) := same_new (Same.refl H6) hq
        refine ⟨a, q, _, _, rfl, rfl, s7 _ _ (s6 _ _ ha), upd_same, ?_, fun q2 H7 s8 hq2 => ?_⟩
        · rw [nv_length]
          show x.length + 2 ≤ _
          omega
        have e2 : nv x ++ [iv v, iv u] = nv (x ++ [v, u]) := by rw [nv_append]; rfl
        rw [e2] at hq2
        have s67 : Same H6 H7 := s7.trans s8
        refine ⟨_, rfl, _, rfl, b, _, rfl, s67 _ _ (s6 _ _ hb), fun q3 H8 s9 hq3 => ?_⟩
        have ec2 : cutV (nv (u :: v :: r')) (some 2) none = nv r' := cut_from (u :: v :: r') 2
        rw [ec2] at hq3
        have s68 := s67.trans s9
        have hl2 : r'.length ≤ 98 := by
          rw [List.length_cons, List.length_cons] at ly
          omega
        refine ⟨q2, q3, _, _, rfl, rfl, s9 _ _ hq2, hq3, ?_, fun q4 H9 s10 hq4 => ?_⟩
        · rw [nv_length, nv_length, List.length_append]
          show x.length + 2 + r'.length ≤ _
          omega
        rw [← nv_append] at hq4
        have s69 := s68.trans s10
        refine ⟨D, _, _, rfl, rfl, s69 _ _ gD6, ?_, ?_⟩
        · rw [List.length_map, List.length_append, List.length_append]
          show as.length + 1 + bs.length < _
          omega
        refine ⟨_, rfl, k D (as ++ [t] ++ bs ++ [q4]) _ (same_upd (s6.trans s69) hD) (by rw [upd_same, List.map_append (l₁ := as ++ [t] ++ bs)]; rfl) ?_⟩
        rw [eb, if_pos (by simp)]
        exact TupsAt.upd (s69 _ _ gD6) (TupsAt.append (gT6.mono s69) (.cons hq4 .nil))
theorem scSteps : FnScope ["letters", "alphabet", "steps", "at", "step"] ["letters"] (defScope (top 38)) := ⟨rfl, rfl, rfl, by decide +kernel, rfl, by decide +kernel, by decide +kernel⟩
theorem filter_take_snoc {α : Type} {l : List α} {f : α → Bool} {i : Nat} {x : α} (h : l[i]? = some x) : (l.take (i + 1)).filter f = (l.take i).filter f ++ (if f x = true then [x] else []) := by
  rw [take_snoc h, List.filter_append]
  congr 1
  rw [List.filter_cons]
  split <;> rfl
theorem ok_steps {f : Addr} {fd : FuncData} (F : Fun K "one_step_off" "one_step_off" (top 38) f fd) (G : Glo mg) (C1 : Cal P w K mg base "letters_without" ["those"] 1 (spWithout K)) (C2 : Cal P w K mg base "steps_between" ["before", "behind", "alphabet"] 1 spBetween) :
    FnOk P w K mg base CX0 2 f fd ["letters"] (spSteps K) := by
  refine F.ok scSteps (fun vs H Q E h => ?_) (fun cdv A outer s H vs Q E hr h => ?_)
  · obtain ⟨a, l, rfl, _⟩ := h
    rfl
  · obtain ⟨a, l, rfl, ha, hL, k⟩ := h
    refine ⟨_, pss_cons (ps_set (i := 1) scSteps.nd rfl (Or.inl rfl) (pe_cal C1 hr (pa_cons (pe_lst pa_nil) pa_nil)))
      (pss_cons (ps_set (i := 2) scSteps.nd rfl (Or.inl rfl) (pe_lst pa_nil))
      (pss_cons (ps_for PassesOwn.never rfl (pi_range1 (by rfl) G.range (pa_cons (pe_op op_add (pe_callB call_len_seq (by rfl) G.len PySem.boot_len (pa_cons (pv 0) pa_nil)) pe_int) pa_nil)) (pg_name (i := 3) scSteps.nd rfl (Or.inl rfl))
        (pss_one (ps_expr (pe_ext (pv 2) (pa_cons (pe_cal C2 hr (pa_cons (pe_slice sl_cut (pv 0) po_none (po_some (pv 3))) (pa_cons (pe_slice sl_cut (pv 0) (po_some (pv 3)) po_none) (pa_cons (pv 1) pa_nil)))) pa_nil)))))
      (pss_one (ps_ret (pe_lc rfl scSteps.nd (pi_list (pv 2)) (own := [("step", 4)]) (blkOk_by (by show blkC ["letters", "alphabet", "steps", "at", "step"] (defScope (top 38)) _ _ = true; decide +kernel))
        (fun _ _ _ _ _ => pg_name (i := 4) scSteps.nd rfl (Or.inl rfl)) (fun _ _ _ _ _ => pts_one (pt_cmpR (op_neT (u64 hr)) (pv 4) (pv 0) (nomark _))) (fun _ _ _ _ _ => pv 4)))))), ?_⟩
    have big : 10000 ≤ sizeLine := by decide
    refine ⟨Nat.zero_le _, fun q hq => ?_⟩
    refine ⟨q, [], rfl, SqL.of upd_same, fun c H1 s1 hc => ?_⟩
    have s01 : Same H H1 := (same_new (Same.refl H) hq).trans s1
    refine ⟨Nat.zero_le _, fun p hp => ?_⟩
    have s02 : Same H (upd H1 p (.lst [])) := same_new s01 hp
    have hp0 : H p = none := by
      cases e : H p with
      | none => rfl
      | some o => rw [s01 _ _ e] at hp; cases hp
    have ncp : c ≠ p := ne_of_none hc hp
    refine ⟨_, rfl, a, _, rfl, .inr (SqT.of (s02 _ _ ha)), _, _, rfl, rfl, _, rfl, ?_, ?_, ?_⟩
    · rw [nv_length]
      omega
    · rw [nv_length]
      omega
    have en : ((((nv l).length : Nat) : Int) + 1).toNat = l.length + 1 := by rw [nv_length]; omega
    rw [en]
    refine for_range (lo := 0) (n := l.length + 1) (fun i σ H' => ∃ (as : List Addr) (v : Option V), σ = [some (.ref a), some (.ref c), some (.ref p), v, none] ∧ Same H H' ∧ H' c = some (.tup (nv alph)) ∧ H' p = some (.lst (as.map V.ref)) ∧ TupsAt H' as (stepsTo l i)) ?_ ?_ ?_
    · exact ⟨[], none, rfl, s02, by rw [upd_ne ncp]; exact hc, upd_same, .nil⟩
    · rintro i σ H' hi ⟨as, v, rfl, s3, hc3, hp3, hT3⟩
      have la : as.length ≤ 54 * i := by rw [Paired.length hT3]; exact stepsTo_len l i
      have ei : V.int (0 + (i : Int)) = iv i := ceq (by omega)
      refine ⟨_, rfl, .inl ⟨rfl, _, SqL.of hp3⟩, _, rfl, _, rfl, _, rfl, a, _, rfl, s3 _ _ ha, fun t1 H4 s4 ht1 => ?_⟩
      have e1 : cutV (nv l) none (some (0 + (i : Int))) = nv (l.take i) := by
        rw [show (0 : Int) + (i : Int) = ((i : Nat) : Int) by omega, nv_cut, HT.sIx_none, HT.sIx_nat, Nat.min_eq_left (by omega), Nat.sub_zero, List.drop_zero]
      rw [e1] at ht1
      have s34 := s3.trans s4
      refine ⟨_, rfl, _, rfl, _, rfl, a, _, rfl, s34 _ _ ha, fun t2 H5 s5 ht2 => ?_⟩
      have e2 : cutV (nv l) (some (0 + (i : Int))) none = nv (l.drop i) := by
        rw [show (0 : Int) + (i : Int) = ((i : Nat) : Int) by omega, cut_from]
      rw [e2] at ht2
      have s45 := s4.trans s5
      refine ⟨_, rfl, t1, t2, c, l.take i, l.drop i, rfl, s5 _ _ ht1, ht2, s45 _ _ hc3, by rw [List.length_take]; omega, by rw [List.length_drop]; omega, fun D bs H6 s6 g6 g7 => ?_⟩
      have s46 := s45.trans s6
      have lb : bs.length ≤ 54 := by rw [Paired.length g7]; exact between_len _ _
      refine ⟨p, D, _, _, rfl, rfl, s46 _ _ hp3, g6, ?_, ?_⟩
      · rw [List.length_map, List.length_map]
        omega
      refine ⟨as ++ bs, _, rfl, same_upd (s3.trans s46) hp0, by rw [upd_ne (ne_of (s46 _ _ hc3) (s46 _ _ hp3) (fun z => nomatch z))]; exact s46 _ _ hc3, by rw [upd_same, List.map_append], ?_⟩
      rw [stepsTo_succ]
      exact TupsAt.upd (s46 _ _ hp3) (TupsAt.append (hT3.mono s46) g7)
    · rintro σ H' ⟨as, v, rfl, s3, hc3, hp3, hT3⟩
      refine ⟨_, rfl, p, rfl, ⟨_, SqL.of hp3⟩, fun D hD => lc_list (K := K) (a := p) (xs := as.map V.ref) (fun i H2 => ∃ bs : List Addr, H2 D = some (.lst (bs.map V.ref)) ∧ Same H' H2 ∧ TupsAt H2 bs (((stepsTo l (l.length + 1)).take i).filter fun y => !decide (y = l)) ∧ bs.length ≤ i) ?_ ?_ ?_ ?_⟩
      · exact ⟨[], upd_same, same_new (Same.refl H') hD, .nil, Nat.le_refl _⟩
      · rintro i H2 _ ⟨bs, _, s4, _⟩
        exact SqL.of (s4 _ _ hp3)
      · rintro i x H2 hx ⟨bs, g1, s4, g2, g3⟩
        rw [List.getElem?_map] at hx
        obtain ⟨q, hq', rfl⟩ := Option.map_eq_some_iff.mp hx
        obtain ⟨y, hy, hqy⟩ := paired_get hT3 hq'
        have hil : i < as.length := (List.getElem?_eq_some_iff.mp hq').1
        have las : as.length ≤ 54 * (l.length + 1) := by rw [Paired.length hT3]; exact stepsTo_len l _
        have ef := filter_take_snoc (f := fun y => !decide (y = l)) hy
        refine ⟨rfl, _, rfl, _, rfl, q, a, y, l, rfl, rfl, s4 _ _ hqy, s4 _ _ (s3 _ _ ha), _, rfl, ?_⟩
        refine ite2 (fun h1 => ?_) (fun h1 => ?_)
        · rw [if_pos h1] at ef
          refine ⟨_, rfl, _, g1, ?_, bs ++ [q], ?_, same_upd s4 hD, ?_, ?_⟩
          · rw [List.length_map]
            omega
          · rw [upd_same, List.map_append]
            rfl
          · rw [ef]
            exact TupsAt.upd g1 (TupsAt.append g2 (.cons (s4 _ _ hqy) .nil))
          · rw [List.length_append]
            show bs.length + 1 ≤ i + 1
            omega
        · rw [if_neg h1, List.append_nil] at ef
          exact ⟨bs, g1, s4, by rw [ef]; exact g2, by omega⟩
      · rintro H2 ⟨bs, g1, s4, g2, _⟩
        refine k D bs H2 (s3.trans s4) g1 ?_
        have e : (as.map V.ref).length = (stepsTo l (l.length + 1)).length := by rw [List.length_map]; exact Paired.length hT3
        rw [e, List.take_length] at g2
        exact g2
end
end Bw
set_option Elab.async false
set_option linter.all false
set_option maxRecDepth 100000
set_option maxHeartbeats 4000000
namespace Bw
open PySem PySem.Spec PyProof.Rows L2 Kct5
def solid : HO → Bool
  | .tup _ => true
  | .ins _ _ ((f, _) :: _) => decide (f = "front") || decide (f = "pattern")
  | _ => false
def Keep (M : Addr → Prop) (H H' : Hp) : Prop := ∀ b o, H b = some o → (¬ M b ∨ solid o = true) → H' b = some o
def Ext (M : Addr → Prop) (H : Hp) : Addr → Prop := fun b => M b ∨ H b = none
theorem Keep.refl (M : Addr → Prop) (H : Hp) : Keep M H H := fun _ _ e _ => e
theorem Same.keep {M : Addr → Prop} {H H' : Hp} (s : Same H H') : Keep M H H' := fun b o e _ => s b o e
theorem Keep.tup {M : Addr → Prop} {H H' : Hp} (k : Keep M H H') {b : Addr} {xs : List V} (e : H b = some (.tup xs)) : H' b = some (.tup xs) := k b _ e (.inr rfl)
theorem Keep.trans {M : Addr → Prop} {H H1 H2 : Hp} (k : Keep M H H1) (k2 : Keep (Ext M H) H1 H2) : Keep M H H2 := fun b o e h => by
  refine k2 b o (k b o e h) ?_
  rcases h with h | h
  · refine .inl fun z => ?_
    rcases z with z | z
    · exact h z
    · rw [e] at z
      cases z
  · exact .inr h
theorem Keep.upd {M : Addr → Prop} {H H' : Hp} {a : Addr} {o u : HO} (k : Keep M H H') (hm : M a) (ha : H' a = some u) (hu : solid u = false) : Keep M H (upd H' a o) := fun b q e h => by
  have hb := k b q e h
  rw [upd_ne]
  · exact hb
  · rintro rfl
    rw [ha] at hb
    cases hb
    rcases h with h | h
    · exact h hm
    · rw [hu] at h
      cases h
theorem Keep.new {M : Addr → Prop} {H H' : Hp} {a : Addr} {o : HO} (k : Keep M H H') (ha : H' a = none) : Keep M H (L2.upd H' a o) := fun b q e h => by
  have hb := k b q e h
  rw [upd_ne (ne_of_none hb ha)]
  exact hb
def tabF (a b : V) : List (Str × V) := [("form_at", a), ("places_with", b)]
structure TabCls (K : PySem.W.Frag) (C : Addr) : Prop where
  cl : Cls K C
  n1 : NoAttr K C "form_at"
  n2 : NoAttr K C "places_with"
theorem tabF_1 (a b : V) : (tabF a b).lookup ("form_at" : Str) = some a := lk_hit _ _ _
theorem tabF_2 (a b : V) : (tabF a b).lookup ("places_with" : Str) = some b := by
  unfold tabF
  rw [lk_miss (by decide +kernel), lk_hit]
structure Tab (CT : Addr) (H : Hp) (t dx fa pw : Addr) (A B : BD) (φ : Phi) (M : Addr → Prop) : Prop where
  obj : H t = some (.ins CT dx (tabF (.ref fa) (.ref pw)))
  hA : H fa = some (bd A)
  hB : H pw = some (bd B)
  ne : fa ≠ pw
  mt : M t
  ma : M fa
  mb : M pw
  na : (A.map (·.1)).Nodup
  nb : (B.map (·.1)).Nodup
  a0 : ∀ k, φ k = none → valV A k = none
  a1 : ∀ k x, φ k = some x → ∃ a, valV A k = some (.ref a) ∧ H a = some (.tup (nv x))
  b0 : ∀ x, (∀ k, φ k ≠ some x) → valV B x = none
  b1 : ∀ x k, φ k = some x → ∃ d l, valV B x = some (.ref d) ∧ H d = some (bd l) ∧ (l.map (·.1)).Nodup ∧ ∀ j, j ∈ l.map (·.1) ↔ φ j = some x
  b2 : ∀ x d, valV B x = some (.ref d) → M d ∧ d ≠ fa ∧ d ≠ pw
  b3 : ∀ x y d, valV B x = some (.ref d) → valV B y = some (.ref d) → x = y
  dom : ∀ k x, φ k = some x → k ∈ allPlaces ∧ x ≠ []
def TabAt (CT : Addr) (H : Hp) (t : Addr) (φ : Phi) (M : Addr → Prop) : Prop := ∃ dx fa pw A B, Tab CT H t dx fa pw A B φ M
section
variable {CT : Addr} {H : Hp} {t dx fa pw : Addr} {A B : BD} {φ : Phi} {M : Addr → Prop}
theorem Tab.lenA (T : Tab CT H t dx fa pw A B φ M) : A.length ≤ 8192 := by
  rw [← allPlaces_len, ← List.length_map (f := (·.1))]
  refine nodup_le T.na fun k hk => ?_
  cases e : φ k with
  | none => exact ((valV_none.mpr (T.a0 k e)) hk).elim
  | some x => exact (T.dom k x e).1
theorem Tab.lenB (T : Tab CT H t dx fa pw A B φ M) : B.length ≤ 8192 := by
  have h : B.length ≤ (allPlaces.filterMap φ).length := by
    rw [← List.length_map (f := (·.1))]
    refine nodup_le T.nb fun x hx => ?_
    rw [List.mem_filterMap]
    by_cases h : ∃ k, φ k = some x
    · obtain ⟨k, hk⟩ := h
      exact ⟨k, (T.dom k x hk).1, hk⟩
    · exact ((valV_none.mpr (T.b0 x fun k hk => h ⟨k, hk⟩)) hx).elim
  have := List.length_filterMap_le φ allPlaces
  rw [allPlaces_len] at this
  omega
theorem Tab.lenL (T : Tab CT H t dx fa pw A B φ M) {l : BD} {x : Bytes} (hn : (l.map (·.1)).Nodup) (hl : ∀ j, j ∈ l.map (·.1) ↔ φ j = some x) : l.length ≤ 8192 := by
  rw [← allPlaces_len, ← List.length_map (f := (·.1))]
  exact nodup_le hn fun k hk => (T.dom k x ((hl k).mp hk)).1
theorem Tab.mono (T : Tab CT H t dx fa pw A B φ M) {H' : Hp} {M' : Addr → Prop} (s : ∀ b o, H b = some o → (M b ∨ solid o = true) → H' b = some o) (hm : ∀ b, M b → M' b) : Tab CT H' t dx fa pw A B φ M' where
  obj := s _ _ T.obj (.inl T.mt)
  hA := s _ _ T.hA (.inl T.ma)
  hB := s _ _ T.hB (.inl T.mb)
  ne := T.ne
  mt := hm _ T.mt
  ma := hm _ T.ma
  mb := hm _ T.mb
  na := T.na
  nb := T.nb
  a0 := T.a0
  a1 := fun k x e => let ⟨a, h1, h2⟩ := T.a1 k x e; ⟨a, h1, s _ _ h2 (.inr rfl)⟩
  b0 := T.b0
  b1 := fun x k e => let ⟨d, l, h1, h2, h3⟩ := T.b1 x k e; ⟨d, l, h1, s _ _ h2 (.inl (T.b2 x d h1).1), h3⟩
  b2 := fun x d e => let ⟨h1, h2⟩ := T.b2 x d e; ⟨hm _ h1, h2⟩
  b3 := T.b3
  dom := T.dom
end
theorem TabAt.mono {CT : Addr} {H H' : Hp} {t : Addr} {φ : Phi} {M M' : Addr → Prop} (T : TabAt CT H t φ M) (s : ∀ b o, H b = some o → (M b ∨ solid o = true) → H' b = some o) (hm : ∀ b, M b → M' b) : TabAt CT H' t φ M' := by
  obtain ⟨dx, fa, pw, A, B, T⟩ := T
  exact ⟨dx, fa, pw, A, B, T.mono s hm⟩
def spTabInit (CT : Addr) : Sp := fun vs H Q _ => ∃ (p dx : Addr), vs = [.ref p] ∧ H p = some (.ins CT dx []) ∧ ∀ H' : Hp, TabAt CT H' p (fun _ => none) (fun b => b = p ∨ H b = none) → (∀ b o, H b = some o → b ≠ p → H' b = some o) → Q .non H'
def spFormOf (CT : Addr) : Sp := fun vs H Q _ => ∃ (t b : Addr) (φ : Phi) (M : Addr → Prop) (k : Bytes), vs = [.ref t, .ref b] ∧ TabAt CT H t φ M ∧ H b = some (.tup (nv k)) ∧ ∀ (q : Addr) (H' : Hp), Same H H' → H' q = some (.tup (nv ((φ k).getD []))) → Q (.ref q) H'
def spKnown (CT : Addr) : Sp := fun vs H Q _ => ∃ (t b : Addr) (φ : Phi) (M : Addr → Prop) (x : Bytes), vs = [.ref t, .ref b] ∧ TabAt CT H t φ M ∧ H b = some (.tup (nv x)) ∧ ∀ r : Bool, (r = true ↔ ∃ k, φ k = some x) → Q (.bl r) H
def spPlaces (CT : Addr) : Sp := fun vs H Q _ => ∃ (t b : Addr) (φ : Phi) (M : Addr → Prop) (x : Bytes), vs = [.ref t, .ref b] ∧ TabAt CT H t φ M ∧ H b = some (.tup (nv x)) ∧
  ∀ (p : Addr) (as : List Addr) (ks : List Bytes) (H' : Hp), Same H H' → H' p = some (.lst (as.map V.ref)) → TupsAt H' as ks → Rising ks → (∀ k, k ∈ ks ↔ φ k = some x) → Q (.ref p) H'
def spTake (CT : Addr) : Sp := fun vs H Q _ => ∃ (t b : Addr) (φ : Phi) (M : Addr → Prop) (k : Bytes), vs = [.ref t, .ref b] ∧ TabAt CT H t φ M ∧ H b = some (.tup (nv k)) ∧ ∀ H' : Hp, Keep M H H' → TabAt CT H' t (fset φ k none) M → Q .non H'
def spGive (CT : Addr) : Sp := fun vs H Q _ => ∃ (t b c : Addr) (φ : Phi) (M : Addr → Prop) (k x : Bytes), vs = [.ref t, .ref b, .ref c] ∧ TabAt CT H t φ M ∧ H b = some (.tup (nv k)) ∧ H c = some (.tup (nv x)) ∧ k ∈ allPlaces ∧
  ∀ H' : Hp, Keep M H H' → TabAt CT H' t (fset φ k (if x = [] then none else some x)) (Ext M H) → Q .non H'
section
variable {P : Program} {w : World} {K : PySem.W.Frag} {mg : Str → Option Value} {base : Heap}
theorem scTabInit : FnScope ["self"] ["self"] (defScope (inClass (top 41) 0)) := ⟨rfl, rfl, rfl, by decide +kernel, rfl, by decide +kernel, by decide +kernel⟩
theorem ok_tabInit {f C : Addr} {fd : FuncData} (F : Fun K "__init__" "FormTable.__init__" (inClass (top 41) 0) f fd) (T : TabCls K C) : FnOk P w K mg base CX0 1 f fd ["self"] (spTabInit C) := by
  refine F.ok scTabInit (fun vs H Q E h => ?_) (fun cdv A outer s H vs Q E hr h => ?_)
  · obtain ⟨p, dx, rfl, _⟩ := h
    rfl
  · obtain ⟨p, dx, rfl, hp, k⟩ := h
    refine ⟨_, pss_cons (ps_fld (pv 0) pe_bnew rfl) (pss_one (ps_fld (pv 0) pe_bnew rfl)), ?_⟩
    intro a ha
    have npa : p ≠ a := ne_of_none hp ha
    refine ⟨_, rfl, p, C, dx, _, rfl, by rw [upd_ne npa]; exact hp, T.cl, T.n1, (by show 0 < 1000; decide), ?_⟩
    intro b hb
    have nab : a ≠ b := ne_of_none (o := bd []) (by rw [upd_ne npa.symm, upd_same]) hb
    have npb : p ≠ b := ne_of_none (o := .ins C dx (putF "form_at" (.ref a) [])) upd_same hb
    have hb0 : H b = none := by rw [upd_ne npb.symm, upd_ne nab.symm] at hb; exact hb
    refine ⟨_, rfl, p, C, dx, _, rfl, by rw [upd_ne npb, upd_same], T.cl, T.n2, (by show 1 < 1000; decide), ?_⟩
    refine k _ ⟨dx, a, b, [], [], ?_⟩ fun c o e hc => ?_
    · have e1 : putF "places_with" (V.ref b) (putF "form_at" (V.ref a) []) = tabF (.ref a) (.ref b) := by
        show putF "places_with" (V.ref b) [("form_at", V.ref a)] = _
        rw [putF_miss (by decide +kernel)]
        rfl
      exact {
        obj := by rw [upd_same]; exact congrArg (fun z => some (HO.ins C dx z)) e1
        hA := by rw [upd_ne npa.symm, upd_ne nab, upd_ne npa.symm, upd_same]
        hB := by rw [upd_ne npb.symm, upd_same]
        ne := nab
        mt := .inl rfl
        ma := .inr ha
        mb := .inr hb0
        na := List.nodup_nil
        nb := List.nodup_nil
        a0 := fun _ _ => rfl
        a1 := fun _ _ e => nomatch e
        b0 := fun _ _ => rfl
        b1 := fun _ _ e => nomatch e
        b2 := fun _ _ e => nomatch e
        b3 := fun _ _ _ e => nomatch e
        dom := fun _ _ e => nomatch e }
    · rw [upd_ne hc, upd_ne (ne_of_none e hb0), upd_ne hc, upd_ne (ne_of_none e ha)]
      exact e
theorem scFormOf : FnScope ["self", "place"] ["self", "place"] (defScope (inClass (top 41) 1)) := ⟨rfl, rfl, rfl, by decide +kernel, rfl, by decide +kernel, by decide +kernel⟩
theorem ok_formOf {f C : Addr} {fd : FuncData} (F : Fun K "form_of" "FormTable.form_of" (inClass (top 41) 1) f fd) (T : TabCls K C) : FnOk P w K mg base CX0 1 f fd ["self", "place"] (spFormOf C) := by
  refine F.ok scFormOf (fun vs H Q E h => ?_) (fun cdv A outer s H vs Q E hr h => ?_)
  · obtain ⟨t, b, φ, M, k, rfl, _⟩ := h
    rfl
  · obtain ⟨t, b, φ, M, k, rfl, ⟨dx, fa, pw, A', B, Tb⟩, hb, kk⟩ := h
    refine ⟨_, pss_one (ps_ret (pe_dget2 (hu_of hr) (pe_fld (pv 0) rfl) (pv 1) (pe_tup pa_nil) ⟨rfl, rfl, rfl, rfl⟩)), ?_⟩
    refine ⟨_, rfl, t, C, dx, _, _, rfl, Tb.obj, T.cl, T.n1, tabF_1 _ _, fa, rfl, bd_is Tb.hA, _, rfl, Nat.zero_le _, fun q hq => ?_⟩
    have s1 : Same H (upd H q (.tup [])) := same_new (Same.refl H) hq
    refine ⟨valV A' k, bd_get (s1 _ _ Tb.hA) (s1 _ _ hb), ?_⟩
    cases e : φ k with
    | none =>
      rw [Tb.a0 k e]
      have k' := kk q _ s1
      rw [e] at k'
      exact k' upd_same
    | some x =>
      obtain ⟨a, h1, h2⟩ := Tb.a1 k x e
      rw [h1]
      have k' := kk a _ s1
      rw [e] at k'
      exact k' (s1 _ _ h2)
theorem scKnown : FnScope ["self", "form"] ["self", "form"] (defScope (inClass (top 41) 4)) := ⟨rfl, rfl, rfl, by decide +kernel, rfl, by decide +kernel, by decide +kernel⟩
theorem ok_known {f C : Addr} {fd : FuncData} (F : Fun K "is_known" "FormTable.is_known" (inClass (top 41) 4) f fd) (T : TabCls K C) : FnOk P w K mg base CX0 1 f fd ["self", "form"] (spKnown C) := by
  refine F.ok scKnown (fun vs H Q E h => ?_) (fun cdv A outer s H vs Q E hr h => ?_)
  · obtain ⟨t, b, φ, M, x, rfl, _⟩ := h
    rfl
  · obtain ⟨t, b, φ, M, x, rfl, ⟨dx, fa, pw, A', B, Tb⟩, hb, kk⟩ := h
    refine ⟨_, pss_one (ps_ret (pe_cmp (pc_din (hu_of hr) (pv 1) (pe_fld (pv 0) rfl)))), ?_⟩
    refine ⟨_, rfl, _, rfl, t, C, dx, _, _, rfl, Tb.obj, T.cl, T.n2, tabF_2 _ _, pw, valV B x, rfl, bd_get Tb.hB hb, kk _ ?_⟩
    constructor
    · intro h
      by_cases e : ∃ k, φ k = some x
      · exact e
      · rw [Tb.b0 x fun k hk => e ⟨k, hk⟩] at h
        cases h
    · rintro ⟨k, hk⟩
      obtain ⟨d, l, h1, _⟩ := Tb.b1 x k hk
      rw [h1]
      rfl
theorem boot_sorted1 : bootBuiltins "sorted" = some (.builtin "sorted") := by decide +kernel
theorem scPlaces : FnScope ["self", "form"] ["self", "form"] (defScope (inClass (top 41) 5)) := ⟨rfl, rfl, rfl, by decide +kernel, rfl, by decide +kernel, by decide +kernel⟩
theorem ok_places {f C : Addr} {fd : FuncData} (F : Fun K "places_of" "FormTable.places_of" (inClass (top 41) 5) f fd) (G : Glo mg) (T : TabCls K C) : FnOk P w K mg base CX0 1 f fd ["self", "form"] (spPlaces C) := by
  refine F.ok scPlaces (fun vs H Q E h => ?_) (fun cdv A outer s H vs Q E hr h => ?_)
  · obtain ⟨t, b, φ, M, x, rfl, _⟩ := h
    rfl
  · obtain ⟨t, b, φ, M, x, rfl, ⟨dx, fa, pw, A', B, Tb⟩, hb, kk⟩ := h
    refine ⟨_, pss_one (ps_ret (pe_callB (cr_sortedB rfl) (by rfl) G.sorted boot_sorted1 (pa_cons (pe_dget2 (hu_of hr) (pe_fld (pv 0) rfl) (pv 1) pe_bnew ⟨rfl, rfl, rfl, rfl⟩) pa_nil))), ?_⟩
    refine ⟨_, rfl, t, C, dx, _, _, rfl, Tb.obj, T.cl, T.n2, tabF_2 _ _, pw, rfl, bd_is Tb.hB, _, rfl, fun q hq => ?_⟩
    have s1 : Same H (upd H q (bd [])) := same_new (Same.refl H) hq
    refine ⟨valV B x, bd_get (s1 _ _ Tb.hB) (s1 _ _ hb), ?_⟩
    by_cases e : ∃ k, φ k = some x
    · obtain ⟨k, hk⟩ := e
      obtain ⟨d, l, h1, h2, h3, h4⟩ := Tb.b1 x k hk
      rw [h1]
      refine ⟨d, l, rfl, s1 _ _ h2, fun j hj => ?_, fun p as ks hp hT hP hR => ?_⟩
      · obtain ⟨n, i, rfl, _⟩ := mem_allPlaces.mp (Tb.dom j x ((h4 j).mp hj)).1
        exact fun z => nomatch z
      · have s2 := same_new (o := .lst (as.map V.ref)) s1 hp
        exact kk p as ks _ s2 upd_same (hT.mono (same_new (Same.refl _) hp)) hR fun j => by rw [hP.mem_iff]; exact h4 j
    · rw [Tb.b0 x fun k hk => e ⟨k, hk⟩]
      refine ⟨q, [], rfl, upd_same, (fun j hj => nomatch hj), fun p as ks hp hT hP hR => ?_⟩
      have s2 := same_new (o := .lst (as.map V.ref)) s1 hp
      refine kk p as ks _ s2 upd_same (hT.mono (same_new (Same.refl _) hp)) hR fun j => ?_
      rw [hP.mem_iff]
      exact ⟨(fun z => nomatch z), fun z => (e ⟨j, z⟩).elim⟩
theorem scTake : FnScope ["self", "place", "form"] ["self", "place"] (defScope (inClass (top 41) 3)) := ⟨rfl, rfl, rfl, by decide +kernel, rfl, by decide +kernel, by decide +kernel⟩
theorem ok_take {f C : Addr} {fd : FuncData} (F : Fun K "take_form" "FormTable.take_form" (inClass (top 41) 3) f fd) (G : Glo mg) (T : TabCls K C) : FnOk P w K mg base CX0 1 f fd ["self", "place"] (spTake C) := by
  refine F.ok scTake (fun vs H Q E h => ?_) (fun cdv A outer s H vs Q E hr h => ?_)
  · obtain ⟨t, b, φ, M, k, rfl, _⟩ := h
    rfl
  · obtain ⟨t, b, φ, M, k, rfl, ⟨dx, fa, pw, A', B, Tb⟩, hb, kk⟩ := h
    have hu := hu_of hr
    refine ⟨_, pss_cons (ps_if (pt_cmp (pc_dnotin hu (pv 1) (pe_fld (pv 0) rfl))) (pss_one ps_retN) pss_nil)
      (pss_cons (ps_set (i := 2) scTake.nd rfl (Or.inl rfl) (pe_bpop hu (pe_fld (pv 0) rfl) (pv 1) ⟨rfl, rfl, rfl, rfl⟩))
      (pss_cons (ps_expr (pe_bpop hu (pe_dget hu (pe_fld (pv 0) rfl) (pv 2) (fun _ _ => rfl)) (pv 1) ⟨rfl, rfl, rfl, rfl⟩))
      (pss_one (ps_if (pt_cmpR op_eq (pe_callB call_lenB (by rfl) G.len PySem.boot_len (pa_cons (pe_dget hu (pe_fld (pv 0) rfl) (pv 2) (fun _ _ => rfl)) pa_nil)) pe_int (nomark _))
        (pss_one (ps_expr (pe_bpop hu (pe_fld (pv 0) rfl) (pv 2) ⟨rfl, rfl, rfl, rfl⟩))) pss_nil)))), ?_⟩
    refine ⟨_, rfl, _, rfl, t, C, dx, _, _, rfl, Tb.obj, T.cl, T.n1, tabF_1 _ _, fa, valV A' k, rfl, bd_get Tb.hA hb, _, rfl, ?_⟩
    cases e : φ k with
    | none =>
      rw [Tb.a0 k e]
      refine iteT ?_
      refine kk H (Keep.refl M H) ⟨dx, fa, pw, A', B, ?_⟩
      have : fset φ k none = φ := by
        funext j
        by_cases h : j = k
        · rw [h, fset_same, e]
        · exact fset_ne _ h
      rw [this]
      exact Tb
    | some x =>
      obtain ⟨a, h1, h2⟩ := Tb.a1 k x e
      obtain ⟨d, l, g1, g2, g3, g4⟩ := Tb.b1 x k e
      obtain ⟨m1, m2, m3⟩ := Tb.b2 x d g1
      have hkl : (valV l k).isSome = true := valV_mem.mp ((g4 k).mpr e)
      obtain ⟨vk, hvk⟩ := Option.isSome_iff_exists.mp hkl
      rw [h1]
      refine iteF ?_
      refine ⟨_, rfl, t, C, dx, _, _, rfl, Tb.obj, T.cl, T.n1, tabF_1 _ _, fa, A', rfl, Tb.hA, _, rfl, A', k, b, _, Tb.hA, rfl, hb, h1, ?_⟩
      -- the heap behind the first
      have nt : t ≠ fa := ne_of Tb.obj Tb.hA (fun z => nomatch z)
      have nt2 : t ≠ pw := ne_of Tb.obj Tb.hB (fun z => nomatch z)
      have nt3 : t ≠ d := ne_of Tb.obj g2 (fun z => nomatch z)
      have up1 : ∀ c o, c ≠ fa → H c = some o → upd H fa (bd (dropK A' k)) c = some o := fun c o hc z => by rw [upd_ne hc]; exact z
      have tn : ∀ {c : Addr} {xs : List V}, H c = some (.tup xs) → c ≠ fa ∧ c ≠ pw ∧ c ≠ d := fun z => ⟨ne_of z Tb.hA (fun z => nomatch z), ne_of z Tb.hB (fun z => nomatch z), ne_of z g2 (fun z => nomatch z)⟩
      refine ⟨_, rfl, t, C, dx, _, _, rfl, up1 _ _ nt Tb.obj, T.cl, T.n2, tabF_2 _ _, _, rfl, pw, _, rfl, by rw [← g1]; exact bd_get (up1 _ _ (Ne.symm Tb.ne) Tb.hB) (up1 _ _ (tn h2).1 h2), d, l, rfl, up1 _ _ m2 g2, _, rfl, l, k, b, _, up1 _ _ m2 g2, rfl, up1 _ _ (tn hb).1 hb, hvk, ?_⟩
      have up2 : ∀ c o, c ≠ fa → c ≠ d → H c = some o → upd (upd H fa (bd (dropK A' k))) d (bd (dropK l k)) c = some o := fun c o hc hd z => by rw [upd_ne hd]; exact up1 c o hc z
      have q1 : upd (upd H fa (bd (dropK A' k))) d (bd (dropK l k)) fa = some (bd (dropK A' k)) := by rw [upd_ne (Ne.symm m2), upd_same]
      have q2 : upd (upd H fa (bd (dropK A' k))) d (bd (dropK l k)) d = some (bd (dropK l k)) := upd_same
      have q3 : upd (upd H fa (bd (dropK A' k))) d (bd (dropK l k)) pw = some (bd B) := up2 _ _ (Ne.symm Tb.ne) (Ne.symm m3) Tb.hB
      have keep2 : Keep M H (upd (upd H fa (bd (dropK A' k))) d (bd (dropK l k))) := ((Keep.refl M H).upd Tb.ma Tb.hA rfl).upd m1 (up1 _ _ m2 g2) rfl
      generalize upd (upd H fa (bd (dropK A' k))) d (bd (dropK l k)) = H2 at up2 q1 q2 q3 keep2
      refine ⟨_, rfl, t, C, dx, _, _, rfl, up2 _ _ nt nt3 Tb.obj, T.cl, T.n2, tabF_2 _ _, _, rfl, pw, _, rfl, by rw [← g1]; exact bd_get q3 (up2 _ _ (tn h2).1 (tn h2).2.2 h2), d, _, rfl, q2, rfl, _, rfl, ?_⟩
      -- the facts that both ways share
      have a0' : ∀ j, fset φ k none j = none → valV (dropK A' k) j = none := fun j hj => by
        rw [valV_drop]
        by_cases h : j = k
        · rw [if_pos h]
        · rw [if_neg h]
          rw [fset_ne _ h] at hj
          exact Tb.a0 j hj
      have a1' : ∀ j y, fset φ k none j = some y → ∃ c, valV (dropK A' k) j = some (.ref c) ∧ H c = some (.tup (nv y)) := fun j y hj => by
        by_cases h : j = k
        · rw [h, fset_same] at hj
          cases hj
        · rw [fset_ne _ h] at hj
          obtain ⟨c, z1, z2⟩ := Tb.a1 j y hj
          exact ⟨c, by rw [valV_drop, if_neg h]; exact z1, z2⟩
      have dom' : ∀ j y, fset φ k none j = some y → j ∈ allPlaces ∧ y ≠ [] := fun j y hj => by
        by_cases h : j = k
        · rw [h, fset_same] at hj
          cases hj
        · rw [fset_ne _ h] at hj
          exact Tb.dom j y hj
      have inl' : ∀ j, j ∈ (dropK l k).map (·.1) ↔ fset φ k none j = some x := fun j => by
        rw [mem_drop, g4]
        by_cases h : j = k
        · rw [h, fset_same]
          simp
        · rw [fset_ne _ h]
          simp [h]
      have other : ∀ y, y ≠ x → ∀ j, (fset φ k none j = some y ↔ φ j = some y) := fun y hy j => by
        by_cases h : j = k
        · rw [h, fset_same, e]
          exact ⟨(fun z => nomatch z), fun z => (hy (Option.some.inj z).symm).elim⟩
        · rw [fset_ne _ h]
      by_cases hl : (dropK l k) = []
      · have : decide (V.int (((dropK l k).length : Nat) : Int) = V.int 0) = true := decide_eq_true (by rw [hl]; rfl)
        rw [this]
        refine iteT ?_
        refine ⟨_, rfl, t, C, dx, _, _, rfl, up2 _ _ nt nt3 Tb.obj, T.cl, T.n2, tabF_2 _ _, pw, B, rfl, q3, _, rfl, B, x, a, _, q3, rfl, up2 _ _ (tn h2).1 (tn h2).2.2 h2, g1, ?_⟩
        have nox : ∀ j, fset φ k none j ≠ some x := fun j hj => by
          have := (inl' j).mpr hj
          rw [hl] at this
          cases this
        have up3 : ∀ c o, c ≠ fa → c ≠ d → c ≠ pw → H c = some o → upd H2 pw (bd (dropK B x)) c = some o := fun c o h1 h2 h3 z => by rw [upd_ne h3]; exact up2 c o h1 h2 z
        refine kk _ (keep2.upd Tb.mb q3 rfl) ⟨dx, fa, pw, dropK A' k, dropK B x, ?_⟩
        exact {
          obj := up3 _ _ nt nt3 nt2 Tb.obj
          hA := by rw [upd_ne Tb.ne]; exact q1
          hB := upd_same
          ne := Tb.ne
          mt := Tb.mt
          ma := Tb.ma
          mb := Tb.mb
          na := nodup_drop Tb.na
          nb := nodup_drop Tb.nb
          a0 := a0'
          a1 := fun j y hj => let ⟨c, z1, z2⟩ := a1' j y hj; ⟨c, z1, up3 _ _ (tn z2).1 (tn z2).2.2 (tn z2).2.1 z2⟩
          b0 := fun y hy => by
            rw [valV_drop]
            by_cases h : y = x
            · rw [if_pos h]
            · rw [if_neg h]
              exact Tb.b0 y fun j hj => hy j ((other y h j).mpr hj)
          b1 := fun y j hj => by
            have h : y ≠ x := fun z => nox j (by rw [hj, z])
            obtain ⟨d', l', z1, z2, z3, z4⟩ := Tb.b1 y j ((other y h j).mp hj)
            obtain ⟨w1, w2, w3⟩ := Tb.b2 y d' z1
            have nd : d' ≠ d := fun z => h (Tb.b3 y x d (by rw [← z]; exact z1) g1)
            exact ⟨d', l', by rw [valV_drop, if_neg h]; exact z1, up3 _ _ w2 nd w3 z2, z3, fun i => by rw [z4]; exact (other y h i).symm⟩
          b2 := fun y d' hy => by
            rw [valV_drop] at hy
            by_cases h : y = x
            · rw [if_pos h] at hy
              cases hy
            · rw [if_neg h] at hy
              exact Tb.b2 y d' hy
          b3 := fun y z d' hy hz => by
            rw [valV_drop] at hy hz
            by_cases h : y = x
            · rw [if_pos h] at hy
              cases hy
            · by_cases h' : z = x
              · rw [if_pos h'] at hz
                cases hz
              · rw [if_neg h] at hy
                rw [if_neg h'] at hz
                exact Tb.b3 y z d' hy hz
          dom := dom' }
      · have hlp : 0 < (dropK l k).length := List.length_pos_iff.mpr hl
        refine iteEqN (iv_ne (by omega)) ?_
        obtain ⟨j0, hj0⟩ : ∃ j, j ∈ (dropK l k).map (·.1) := by
          cases hq : dropK l k with
          | nil => exact (hl hq).elim
          | cons p r => exact ⟨p.1, List.mem_cons_self⟩
        refine kk _ keep2 ⟨dx, fa, pw, dropK A' k, B, ?_⟩
        exact {
          obj := up2 _ _ nt nt3 Tb.obj
          hA := q1
          hB := q3
          ne := Tb.ne
          mt := Tb.mt
          ma := Tb.ma
          mb := Tb.mb
          na := nodup_drop Tb.na
          nb := Tb.nb
          a0 := a0'
          a1 := fun j y hj => let ⟨c, z1, z2⟩ := a1' j y hj; ⟨c, z1, up2 _ _ (tn z2).1 (tn z2).2.2 z2⟩
          b0 := fun y hy => by
            by_cases h : y = x
            · exact (hy j0 (by rw [h]; exact (inl' j0).mp hj0)).elim
            · exact Tb.b0 y fun j hj => hy j ((other y h j).mpr hj)
          b1 := fun y j hj => by
            by_cases h : y = x
            · subst h
              exact ⟨d, dropK l k, g1, q2, nodup_drop g3, inl'⟩
            · obtain ⟨d', l', z1, z2, z3, z4⟩ := Tb.b1 y j ((other y h j).mp hj)
              obtain ⟨w1, w2, w3⟩ := Tb.b2 y d' z1
              have nd : d' ≠ d := fun z => h (Tb.b3 y x d (by rw [← z]; exact z1) g1)
              exact ⟨d', l', z1, up2 _ _ w2 nd z2, z3, fun i => by rw [z4]; exact (other y h i).symm⟩
          b2 := Tb.b2
          b3 := Tb.b3
          dom := dom' }
theorem scGive : FnScope ["self", "place", "form"] ["self", "place", "form"] (defScope (inClass (top 41) 2)) := ⟨rfl, rfl, rfl, by decide +kernel, rfl, by decide +kernel, by decide +kernel⟩
theorem ok_give {f C : Addr} {fd : FuncData} (F : Fun K "give_form" "FormTable.give_form" (inClass (top 41) 2) f fd) (G : Glo mg) (T : TabCls K C) (C1 : MCal P w K mg base C "take_form" ["self", "place"] 1 (spTake C)) :
    FnOk P w K mg base CX0 2 f fd ["self", "place", "form"] (spGive C) := by
  refine F.ok scGive (fun vs H Q E h => ?_) (fun cdv A outer s H vs Q E hr h => ?_)
  · obtain ⟨t, b, c, φ, M, k, x, rfl, _⟩ := h
    rfl
  · obtain ⟨t, b, c, φ, M, k, x, rfl, Tb0, hb, hc, hk, kk⟩ := h
    have hu := hu_of hr
    refine ⟨_, pss_cons (ps_expr (pe_mcal (pv 0) T.cl C1 hr (pa_cons (pv 1) pa_nil)))
      (pss_cons (ps_if (pt_cmpR op_eq (pe_callB call_len_seq (by rfl) G.len PySem.boot_len (pa_cons (pv 2) pa_nil)) pe_int (nomark _)) (pss_one ps_retN) pss_nil)
      (pss_cons (ps_dput hu (pe_fld (pv 0) rfl) (pv 1) (pv 2) rfl)
      (pss_cons (ps_if (pt_cmp (pc_dnotin hu (pv 2) (pe_fld (pv 0) rfl))) (pss_one (ps_dput hu (pe_fld (pv 0) rfl) (pv 2) pe_bnew rfl)) pss_nil)
      (pss_one (ps_dput hu (pe_dget hu (pe_fld (pv 0) rfl) (pv 2) (fun _ _ => rfl)) (pv 1) pe_bl rfl))))), ?_⟩
    obtain ⟨dx0, fa0, pw0, A0, B0, Tb00⟩ := id Tb0
    refine ⟨_, rfl, t, dx0, _, rfl, Tb00.obj, ?_, _, rfl, t, b, φ, M, k, rfl, Tb0, hb, fun H1 kp1 ⟨dx, fa, pw, A', B, Tb⟩ => ?_⟩
    · show (tabF _ _).lookup _ = none
      unfold tabF
      rw [lk_miss (by decide +kernel), lk_miss (by decide +kernel)]
      rfl
    have hb1 := kp1.tup hb
    have hc1 := kp1.tup hc
    have ff : ∀ o, fset (fset φ k none) k o = fset φ k o := fun o => by
      funext j
      by_cases h : j = k
      · rw [h, fset_same, fset_same]
      · rw [fset_ne _ h, fset_ne _ h, fset_ne _ h]
    have hm : ∀ c, M c → Ext M H c := fun c h => .inl h
    refine ⟨_, rfl, c, _, rfl, .inr (SqT.of hc1), rfl, _, rfl, ?_⟩
    rw [nv_length]
    by_cases hx : x = []
    · subst hx
      refine iteEq rfl ?_
      refine kk H1 kp1 ?_
      rw [if_pos rfl]
      exact ⟨dx, fa, pw, A', B, Tb.mono (fun _ _ e _ => e) hm⟩
    · have hxl : 0 < x.length := List.length_pos_iff.mpr hx
      refine iteEqN (iv_ne (by omega)) ?_
      rw [if_neg hx] at kk
      have big : 10000 ≤ sizeLine := by decide
      have lA := Tb.lenA
      have lB := Tb.lenB
      have nt : t ≠ fa := ne_of Tb.obj Tb.hA (fun z => nomatch z)
      have nt2 : t ≠ pw := ne_of Tb.obj Tb.hB (fun z => nomatch z)
      have tn : ∀ {c : Addr} {xs : List V}, H1 c = some (.tup xs) → c ≠ fa ∧ c ≠ pw := fun z => ⟨ne_of z Tb.hA (fun z => nomatch z), ne_of z Tb.hB (fun z => nomatch z)⟩
      have φk : fset φ k none k = none := fset_same _ _ _
      -- self.form_at[place] = form
      refine ⟨_, rfl, _, rfl, t, C, dx, _, _, rfl, Tb.obj, T.cl, T.n1, tabF_1 _ _, _, rfl, fa, _, rfl, bd_put Tb.hA hb1 (by omega), ?_⟩
      have up1 : ∀ c o, c ≠ fa → H1 c = some o → upd H1 fa (bd (putK A' k (.ref c))) c = some o := fun c o hc z => by rw [upd_ne hc]; exact z
      have u1 : ∀ q o, q ≠ fa → H1 q = some o → upd H1 fa (bd (putK A' k (.ref c))) q = some o := fun q o hq z => by rw [upd_ne hq]; exact z
      have q1 : upd H1 fa (bd (putK A' k (.ref c))) fa = some (bd (putK A' k (.ref c))) := upd_same
      have kp2 : Keep M H (upd H1 fa (bd (putK A' k (.ref c)))) := kp1.upd Tb.ma Tb.hA rfl
      have fr2 : ∀ q, upd H1 fa (bd (putK A' k (.ref c))) q = none → H1 q = none := fun q z => by
        by_cases h : q = fa
        · rw [h, upd_same] at z
          cases z
        · rw [upd_ne h] at z
          exact z
      generalize upd H1 fa (bd (putK A' k (.ref c))) = H2 at u1 q1 kp2 fr2
      have b2 := u1 _ _ (tn hb1).1 hb1
      have c2 := u1 _ _ (tn hc1).1 hc1
      have w2 := u1 _ _ (Ne.symm Tb.ne) Tb.hB
      have o2 := u1 _ _ nt Tb.obj
      refine ⟨_, rfl, _, rfl, t, C, dx, _, _, rfl, o2, T.cl, T.n2, tabF_2 _ _, pw, valV B x, rfl, bd_get w2 c2, _, rfl, ?_⟩
      -- the facts that both ways share
      have a0' : ∀ j, fset φ k (some x) j = none → valV (putK A' k (.ref c)) j = none := fun j hj => by
        rw [valV_put]
        by_cases h : j = k
        · rw [h, fset_same] at hj
          cases hj
        · rw [if_neg h]
          rw [fset_ne _ h] at hj
          exact Tb.a0 j (by rw [fset_ne _ h]; exact hj)
      have a1' : ∀ j y, fset φ k (some x) j = some y → ∃ q, valV (putK A' k (.ref c)) j = some (.ref q) ∧ H1 q = some (.tup (nv y)) := fun j y hj => by
        rw [valV_put]
        by_cases h : j = k
        · rw [h, fset_same] at hj
          rw [if_pos h]
          cases hj
          exact ⟨c, rfl, hc1⟩
        · rw [if_neg h]
          rw [fset_ne _ h] at hj
          exact Tb.a1 j y (by rw [fset_ne _ h]; exact hj)
      have dom' : ∀ j y, fset φ k (some x) j = some y → j ∈ allPlaces ∧ y ≠ [] := fun j y hj => by
        by_cases h : j = k
        · rw [h, fset_same] at hj
          cases hj
          rw [h]
          exact ⟨hk, hx⟩
        · rw [fset_ne _ h] at hj
          exact Tb.dom j y (by rw [fset_ne _ h]; exact hj)
      have other : ∀ y, y ≠ x → ∀ j, (fset φ k (some x) j = some y ↔ fset φ k none j = some y) := fun y hy j => by
        by_cases h : j = k
        · rw [h, fset_same, fset_same]
          exact ⟨fun z => (hy (Option.some.inj z).symm).elim, fun z => nomatch z⟩
        · rw [fset_ne _ h, fset_ne _ h]
      have mine : ∀ j, (fset φ k (some x) j = some x ↔ j = k ∨ fset φ k none j = some x) := fun j => by
        by_cases h : j = k
        · rw [h, fset_same]
          simp
        · rw [fset_ne _ h, fset_ne _ h]
          simp [h]
      by_cases e : ∃ j, fset φ k none j = some x
      · obtain ⟨j0, hj0⟩ := e
        obtain ⟨d, l, g1, g2, g3, g4⟩ := Tb.b1 x j0 hj0
        obtain ⟨m1, m2, m3⟩ := Tb.b2 x d g1
        have nt3 : t ≠ d := ne_of Tb.obj g2 (fun z => nomatch z)
        have lL := Tb.lenL g3 g4
        rw [g1]
        refine iteF ?_
        refine ⟨_, rfl, t, C, dx, _, _, rfl, o2, T.cl, T.n2, tabF_2 _ _, _, rfl, pw, _, rfl, by rw [← g1]; exact bd_get w2 c2, _, rfl, d, _, rfl, bd_put (u1 _ _ m2 g2) b2 (by omega), ?_⟩
        have tn3 : ∀ {q : Addr} {xs : List V}, H1 q = some (.tup xs) → q ≠ d := fun z => ne_of z g2 (fun z => nomatch z)
        have u3 : ∀ q o, q ≠ fa → q ≠ d → H1 q = some o → upd H2 d (bd (putK l k (.bl true))) q = some o := fun q o h1 h2 z => by rw [upd_ne h2]; exact u1 q o h1 z
        refine kk _ (kp2.upd m1 (u1 _ _ m2 g2) rfl) ⟨dx, fa, pw, putK A' k (.ref c), B, ?_⟩
        exact {
          obj := u3 _ _ nt nt3 Tb.obj
          hA := by rw [upd_ne (Ne.symm m2)]; exact q1
          hB := u3 _ _ (Ne.symm Tb.ne) (Ne.symm m3) Tb.hB
          ne := Tb.ne
          mt := .inl Tb.mt
          ma := .inl Tb.ma
          mb := .inl Tb.mb
          na := nodup_put Tb.na
          nb := Tb.nb
          a0 := a0'
          a1 := fun j y hj => let ⟨q, z1, z2⟩ := a1' j y hj; ⟨q, z1, u3 _ _ (tn z2).1 (tn3 z2) z2⟩
          b0 := fun y hy => by
            by_cases h : y = x
            · exact (hy k (by rw [h, fset_same])).elim
            · exact Tb.b0 y fun j hj => hy j ((other y h j).mpr hj)
          b1 := fun y j hj => by
            by_cases h : y = x
            · subst h
              refine ⟨d, putK l k (.bl true), g1, upd_same, nodup_put g3, fun i => ?_⟩
              rw [mem_put, g4, mine]
            · obtain ⟨d', l', z1, z2, z3, z4⟩ := Tb.b1 y j ((other y h j).mp hj)
              obtain ⟨w1, w2, w3⟩ := Tb.b2 y d' z1
              have nd : d' ≠ d := fun z => h (Tb.b3 y x d (by rw [← z]; exact z1) g1)
              exact ⟨d', l', z1, u3 _ _ w2 nd z2, z3, fun i => by rw [z4]; exact (other y h i).symm⟩
          b2 := fun y d' hy => let ⟨z1, z2⟩ := Tb.b2 y d' hy; ⟨.inl z1, z2⟩
          b3 := Tb.b3
          dom := dom' }
      · have hBx : valV B x = none := Tb.b0 x fun j hj => e ⟨j, hj⟩
        rw [hBx]
        refine iteT ?_
        intro d hd
        have hd1 : H1 d = none := fr2 d hd
        have hd0 : Ext M H d := by
          by_cases h : H d = none
          · exact .inr h
          · refine .inl ?_
            cases q : H d with
            | none => exact (h q).elim
            | some o =>
              by_cases hM : M d
              · exact hM
              · have := kp1 d o q (.inl hM)
                rw [hd1] at this
                cases this
        have ndf : d ≠ fa := fun z => by rw [z, Tb.hA] at hd1; cases hd1
        have ndp : d ≠ pw := fun z => by rw [z, Tb.hB] at hd1; cases hd1
        have ndt : d ≠ t := fun z => by rw [z, Tb.obj] at hd1; cases hd1
        have n2 : ∀ q o, H2 q = some o → q ≠ d := fun q o z => ne_of_none z hd
        refine ⟨_, rfl, t, C, dx, _, _, rfl, by rw [upd_ne (Ne.symm ndt)]; exact o2, T.cl, T.n2, tabF_2 _ _, _, rfl, pw, _, rfl, bd_put (by rw [upd_ne (Ne.symm ndp)]; exact w2) (by rw [upd_ne (n2 _ _ c2)]; exact c2) (by omega), ?_⟩
        have nnt : ∀ q, q ≠ pw → q ≠ d → ∀ o, H2 q = some o → upd (upd H2 d (bd [])) pw (bd (putK B x (.ref d))) q = some o := fun q h1 h2 o z => by rw [upd_ne h1, upd_ne h2]; exact z
        have p3 : upd (upd H2 d (bd [])) pw (bd (putK B x (.ref d))) pw = some (bd (putK B x (.ref d))) := upd_same
        have d3 : upd (upd H2 d (bd [])) pw (bd (putK B x (.ref d))) d = some (bd []) := by rw [upd_ne ndp, upd_same]
        have kp3 : Keep M H (upd (upd H2 d (bd [])) pw (bd (putK B x (.ref d)))) := (kp2.new hd).upd Tb.mb (by rw [upd_ne (Ne.symm ndp)]; exact w2) rfl
        generalize upd (upd H2 d (bd [])) pw (bd (putK B x (.ref d))) = H3 at nnt p3 d3 kp3
        have tn2 : ∀ {q : Addr} {xs : List V}, H2 q = some (.tup xs) → H3 q = some (.tup xs) := fun z => nnt _ (ne_of z w2 (fun z => nomatch z)) (n2 _ _ z) _ z
        have eBx : valV (putK B x (.ref d)) x = some (.ref d) := by rw [valV_put, if_pos rfl]
        refine ⟨_, rfl, t, C, dx, _, _, rfl, nnt _ nt2 (Ne.symm ndt) _ o2, T.cl, T.n2, tabF_2 _ _, _, rfl, pw, _, rfl, by rw [← eBx]; exact bd_get p3 (tn2 c2), _, rfl, d, _, rfl, bd_put d3 (tn2 b2) (by show 0 < sizeLine; decide), ?_⟩
        have u4 : ∀ q o, q ≠ fa → q ≠ pw → q ≠ d → H1 q = some o → upd H3 d (bd (putK [] k (.bl true))) q = some o := fun q o h1 h2 h3 z => by rw [upd_ne h3]; exact nnt q h2 h3 o (u1 q o h1 z)
        have keep4 : Keep M H (upd H3 d (bd (putK [] k (.bl true)))) := fun q o z h => by
          rw [upd_ne]
          · exact kp3 q o z h
          · rintro rfl
            have := kp1 q o z h
            rw [hd1] at this
            cases this
        refine kk _ keep4 ⟨dx, fa, pw, putK A' k (.ref c), putK B x (.ref d), ?_⟩
        have n1 : ∀ q o, H1 q = some o → q ≠ d := fun q o z => ne_of_none z hd1
        exact {
          obj := u4 _ _ nt nt2 (Ne.symm ndt) Tb.obj
          hA := by rw [upd_ne (Ne.symm ndf)]; exact nnt _ Tb.ne (Ne.symm ndf) _ q1
          hB := by rw [upd_ne (Ne.symm ndp)]; exact p3
          ne := Tb.ne
          mt := .inl Tb.mt
          ma := .inl Tb.ma
          mb := .inl Tb.mb
          na := nodup_put Tb.na
          nb := nodup_put Tb.nb
          a0 := a0'
          a1 := fun j y hj => let ⟨q, z1, z2⟩ := a1' j y hj; ⟨q, z1, u4 _ _ (tn z2).1 (tn z2).2 (n1 _ _ z2) z2⟩
          b0 := fun y hy => by
            have h : y ≠ x := fun z => hy k (by rw [z, fset_same])
            rw [valV_put, if_neg h]
            exact Tb.b0 y fun j hj => hy j ((other y h j).mpr hj)
          b1 := fun y j hj => by
            by_cases h : y = x
            · subst h
              refine ⟨d, putK [] k (.bl true), eBx, upd_same, nodup_put List.nodup_nil, fun i => ?_⟩
              rw [mem_put, mine]
              exact ⟨fun z => z.elim .inl (fun z => nomatch z), fun z => z.elim .inl (fun z => (e ⟨i, z⟩).elim)⟩
            · obtain ⟨d', l', z1, z2, z3, z4⟩ := Tb.b1 y j ((other y h j).mp hj)
              obtain ⟨w1, w2', w3⟩ := Tb.b2 y d' z1
              exact ⟨d', l', by rw [valV_put, if_neg h]; exact z1, u4 _ _ w2' w3 (n1 _ _ z2) z2, z3, fun i => by rw [z4]; exact (other y h i).symm⟩
          b2 := fun y d' hy => by
            rw [valV_put] at hy
            by_cases h : y = x
            · rw [if_pos h] at hy
              cases hy
              exact ⟨hd0, ndf, ndp⟩
            · rw [if_neg h] at hy
              obtain ⟨z1, z2⟩ := Tb.b2 y d' hy
              exact ⟨.inl z1, z2⟩
          b3 := fun y z d' hy hz => by
            have key : ∀ v, v ≠ x → valV B v = some (.ref d) → False := fun v hv hq => by
              by_cases h : ∃ j, fset φ k none j = some v
              · obtain ⟨j, hj⟩ := h
                obtain ⟨d2, l2, y1, y2, _⟩ := Tb.b1 v j hj
                rw [hq] at y1
                cases y1
                rw [hd1] at y2
                cases y2
              · rw [Tb.b0 v fun j hj => h ⟨j, hj⟩] at hq
                cases hq
            rw [valV_put] at hy hz
            by_cases h : y = x
            · by_cases h' : z = x
              · rw [h, h']
              · rw [if_pos h] at hy
                rw [if_neg h'] at hz
                cases hy
                exact (key z h' hz).elim
            · by_cases h' : z = x
              · rw [if_neg h] at hy
                rw [if_pos h'] at hz
                cases hz
                exact (key y h hy).elim
              · rw [if_neg h] at hy
                rw [if_neg h'] at hz
                exact Tb.b3 y z d' hy hz
          dom := dom' }
end
end Bw
set_option Elab.async false
set_option linter.all false
set_option maxRecDepth 100000
set_option maxHeartbeats 4000000
namespace Bw
open PySem PySem.Spec PyProof.Rows L2 Kct5
def lexF (n : V) (rf ws wn sd tb : V) : List (Str × V) := [("rule_total", n), ("rules_for", rf), ("words", ws), ("word_numbers", wn), ("said", sd), ("table", tb)]
theorem lexF_1 (n a b c d e : V) : (lexF n a b c d e).lookup ("rule_total" : Str) = some n := lk_hit _ _ _
theorem lexF_2 (n a b c d e : V) : (lexF n a b c d e).lookup ("rules_for" : Str) = some a := by
  unfold lexF
  rw [lk_miss (by decide +kernel), lk_hit]
theorem lexF_3 (n a b c d e : V) : (lexF n a b c d e).lookup ("words" : Str) = some b := by
  unfold lexF
  rw [lk_miss (by decide +kernel), lk_miss (by decide +kernel), lk_hit]
theorem lexF_4 (n a b c d e : V) : (lexF n a b c d e).lookup ("word_numbers" : Str) = some c := by
  unfold lexF
  rw [lk_miss (by decide +kernel), lk_miss (by decide +kernel), lk_miss (by decide +kernel), lk_hit]
theorem lexF_5 (n a b c d e : V) : (lexF n a b c d e).lookup ("said" : Str) = some d := by
  unfold lexF
  rw [lk_miss (by decide +kernel), lk_miss (by decide +kernel), lk_miss (by decide +kernel), lk_miss (by decide +kernel), lk_hit]
theorem lexF_6 (n a b c d e : V) : (lexF n a b c d e).lookup ("table" : Str) = some e := by
  unfold lexF
  rw [lk_miss (by decide +kernel), lk_miss (by decide +kernel), lk_miss (by decide +kernel), lk_miss (by decide +kernel), lk_miss (by decide +kernel), lk_hit]
theorem lexF_no {m : Str} (n a b c d e : V) (h1 : ¬ m = "rule_total" := by decide +kernel) (h2 : ¬ m = "rules_for" := by decide +kernel) (h3 : ¬ m = "words" := by decide +kernel) (h4 : ¬ m = "word_numbers" := by decide +kernel)
    (h5 : ¬ m = "said" := by decide +kernel) (h6 : ¬ m = "table" := by decide +kernel) : (lexF n a b c d e).lookup m = none := by
  unfold lexF
  rw [lk_miss h1, lk_miss h2, lk_miss h3, lk_miss h4, lk_miss h5, lk_miss h6]
  rfl
theorem tabF_no {m : Str} (a b : V) (h1 : ¬ m = "form_at" := by decide +kernel) (h2 : ¬ m = "places_with" := by decide +kernel) : (tabF a b).lookup m = none := by
  unfold tabF
  rw [lk_miss h1, lk_miss h2]
  rfl
theorem putF_lex1 (v n a b c d e : V) : putF "rule_total" v (lexF n a b c d e) = lexF v a b c d e := putF_hit _ _ _ _
theorem putF_lex2 (v n a b c d e : V) : putF "rules_for" v (lexF n a b c d e) = lexF n v b c d e := by
  unfold lexF
  rw [putF_miss (by decide +kernel), putF_hit]
theorem putF_lex3 (v n a b c d e : V) : putF "words" v (lexF n a b c d e) = lexF n a v c d e := by
  unfold lexF
  rw [putF_miss (by decide +kernel), putF_miss (by decide +kernel), putF_hit]
theorem putF_lex4 (v n a b c d e : V) : putF "word_numbers" v (lexF n a b c d e) = lexF n a b v d e := by
  unfold lexF
  rw [putF_miss (by decide +kernel), putF_miss (by decide +kernel), putF_miss (by decide +kernel), putF_hit]
theorem putF_lex5 (v n a b c d e : V) : putF "said" v (lexF n a b c d e) = lexF n a b c v e := by
  unfold lexF
  rw [putF_miss (by decide +kernel), putF_miss (by decide +kernel), putF_miss (by decide +kernel), putF_miss (by decide +kernel), putF_hit]
theorem putF_lex6 (v n a b c d e : V) : putF "table" v (lexF n a b c d e) = lexF n a b c d v := by
  unfold lexF
  rw [putF_miss (by decide +kernel), putF_miss (by decide +kernel), putF_miss (by decide +kernel), putF_miss (by decide +kernel), putF_miss (by decide +kernel), putF_hit]
def LexFs (fs : List (Str × V)) : Prop := fs = [] ∨ ∃ n a b c d e, fs = lexF n a b c d e
theorem putF_all {fs : List (Str × V)} (h : LexFs fs) (n a b c d e : V) : putF "table" e (putF "said" d (putF "word_numbers" c (putF "words" b (putF "rules_for" a (putF "rule_total" n fs))))) = lexF n a b c d e := by
  rcases h with rfl | ⟨n', a', b', c', d', e', rfl⟩
  · have e1 : putF "rule_total" n [] = ([("rule_total", n)] : List (Str × V)) := rfl
    have e2 : putF "rules_for" a ([("rule_total", n)] : List (Str × V)) = ([("rule_total", n), ("rules_for", a)] : List (Str × V)) := by rw [putF_miss (by decide +kernel)]; rfl
    have e3 : putF "words" b ([("rule_total", n), ("rules_for", a)] : List (Str × V)) = ([("rule_total", n), ("rules_for", a), ("words", b)] : List (Str × V)) := by rw [putF_miss (by decide +kernel), putF_miss (by decide +kernel)]; rfl
    have e4 : putF "word_numbers" c ([("rule_total", n), ("rules_for", a), ("words", b)] : List (Str × V)) = ([("rule_total", n), ("rules_for", a), ("words", b), ("word_numbers", c)] : List (Str × V)) := by rw [putF_miss (by decide +kernel), putF_miss (by decide +kernel), putF_miss (by decide +kernel)]; rfl
    have e5 : putF "said" d ([("rule_total", n), ("rules_for", a), ("words", b), ("word_numbers", c)] : List (Str × V)) = ([("rule_total", n), ("rules_for", a), ("words", b), ("word_numbers", c), ("said", d)] : List (Str × V)) := by
      rw [putF_miss (by decide +kernel), putF_miss (by decide +kernel), putF_miss (by decide +kernel), putF_miss (by decide +kernel)]; rfl
    have e6 : putF "table" e ([("rule_total", n), ("rules_for", a), ("words", b), ("word_numbers", c), ("said", d)] : List (Str × V)) = lexF n a b c d e := by
      rw [putF_miss (by decide +kernel), putF_miss (by decide +kernel), putF_miss (by decide +kernel), putF_miss (by decide +kernel), putF_miss (by decide +kernel)]; rfl
    rw [e1, e2, e3, e4, e5, e6]
  · rw [putF_lex1, putF_lex2, putF_lex3, putF_lex4, putF_lex5, putF_lex6]
theorem LexFs.le {fs : List (Str × V)} (h : LexFs fs) : fs.length ≤ 6 := by
  rcases h with rfl | ⟨n', a', b', c', d', e', rfl⟩
  · exact Nat.zero_le _
  · exact Nat.le_refl _
structure LexCls (K : PySem.W.Frag) (C : Addr) : Prop where
  cl : Cls K C
  n1 : NoAttr K C "rule_total"
  n2 : NoAttr K C "rules_for"
  n3 : NoAttr K C "words"
  n4 : NoAttr K C "word_numbers"
  n5 : NoAttr K C "said"
  n6 : NoAttr K C "table"
structure Cs where
  L : Addr
  T : Addr
  R : Addr
  P : Addr
def EntryAt (H : Hp) (a : Addr) (v : Word) : Prop := ∃ c, H a = some (.tup [iv v.class_, .ref c]) ∧ H c = some (.tup (nv v.lemma_))
structure Lex (P : Program) (w : World) (cs : Cs) (H : Hp) (p dx rf ws wn sd tb : Addr) (RF : BD) (was : List Addr) (XS : PEs) (SD : BD) (s : Abs) (M MT : Addr → Prop) : Prop where
  obj : H p = some (.ins cs.L dx (lexF (iv s.rules.length) (.ref rf) (.ref ws) (.ref wn) (.ref sd) (.ref tb)))
  hrf : H rf = some (bd RF)
  hws : H ws = some (.lst (was.map V.ref))
  hwn : H wn = some (PDict P w wn XS)
  hsd : H sd = some (bd SD)
  r0 : ∀ c j, rulesOf s c j = [] → valV RF [c, j] = none
  r1 : ∀ c j, rulesOf s c j ≠ [] → ∃ la as, valV RF [c, j] = some (.ref la) ∧ H la = some (.lst (as.map V.ref)) ∧ RulesAt cs.R cs.P H as ((rulesOf s c j).map partsR)
  r2 : ∀ k la, valV RF k = some (.ref la) → M la ∧ ¬ MT la ∧ la ≠ ws ∧ ∃ xs, H la = some (.lst xs)
  r3 : ∀ k k' la, valV RF k = some (.ref la) → valV RF k' = some (.ref la) → k = k'
  rl : RF.length ≤ s.rules.length
  w1 : Paired (EntryAt H) was s.words
  x1 : XS.map (·.1) = s.words.map fun v => ((v.class_ : Int), nk v.lemma_)
  x2 : ∀ x ∈ XS, PairAt H x.1 x.2.1
  d1 : SD.map (·.1) = s.odd.map fun o => [o.word, o.slot]
  mp : M p
  mrf : M rf
  mws : M ws
  mwn : M wn
  msd : M sd
  sub : ∀ b, MT b → M b
  np : ¬ MT p
  nrf : ¬ MT rf
  nws : ¬ MT ws
  nwn : ¬ MT wn
  nsd : ¬ MT sd
  ne : rf ≠ sd
theorem solid_part {C dx : Addr} {a b c : V} : solid (.ins C dx (partF a b c)) = true := by
  show (decide (("pattern" : Str) = "front") || decide (("pattern" : Str) = "pattern")) = true
  decide +kernel
theorem solid_rule {C dx : Addr} {a b : V} : solid (.ins C dx (ruleF a b)) = true := by
  show (decide (("front" : Str) = "front") || decide (("front" : Str) = "pattern")) = true
  decide +kernel
theorem solid_lex {C dx : Addr} {a b c d e f : V} : solid (.ins C dx (lexF a b c d e f)) = false := by
  show (decide (("rule_total" : Str) = "front") || decide (("rule_total" : Str) = "pattern")) = false
  decide +kernel
theorem RuleAt.keep {CR CP : Addr} {H H' : Hp} (s : ∀ b o, H b = some o → solid o = true → H' b = some o) {a : Addr} {p : Part × Part} (h : RuleAt CR CP H a p) : RuleAt CR CP H' a p := by
  have pk : ∀ {b : Addr} {q : Part}, PartAt CP H b q → PartAt CP H' b q := by
    rintro b q ⟨dx, pa, pg, pc, as, h1, h2, h3, h4, h5⟩
    exact ⟨dx, pa, pg, pc, as, s _ _ h1 solid_part, s _ _ h2 rfl, Paired.mapP h3 fun _ _ ⟨l, z1, z2⟩ => ⟨l, s _ _ z1 rfl, z2⟩, s _ _ h4 rfl, s _ _ h5 rfl⟩
  obtain ⟨dx, fa, ea, h1, h2, h3⟩ := h
  exact ⟨dx, fa, ea, s _ _ h1 solid_rule, pk h2, pk h3⟩
theorem RulesAt.keep {CR CP : Addr} {H H' : Hp} (s : ∀ b o, H b = some o → solid o = true → H' b = some o) {as : List Addr} {ps : List (Part × Part)} (h : RulesAt CR CP H as ps) : RulesAt CR CP H' as ps := Paired.mapP h fun _ _ e => ⟨e.1.keep s, e.2⟩
theorem EntryAt.keep {H H' : Hp} (s : ∀ b o, H b = some o → solid o = true → H' b = some o) {a : Addr} {v : Word} (h : EntryAt H a v) : EntryAt H' a v := by
  obtain ⟨c, h1, h2⟩ := h
  exact ⟨c, s _ _ h1 rfl, s _ _ h2 rfl⟩
theorem PairAt.keep {H H' : Hp} (s : ∀ b o, H b = some o → solid o = true → H' b = some o) {k : PKey} {b : Addr} (h : PairAt H k b) : PairAt H' k b := by
  obtain ⟨c, h1, h2⟩ := h
  exact ⟨c, s _ _ h1 rfl, s _ _ h2 rfl⟩
section
variable {P : Program} {w : World} {cs : Cs} {H H' : Hp} {p dx rf ws wn sd tb : Addr} {RF : BD} {was : List Addr} {XS : PEs} {SD : BD} {s : Abs} {M MT M' MT' : Addr → Prop}
theorem Lex.mono (L : Lex P w cs H p dx rf ws wn sd tb RF was XS SD s M MT) (k : ∀ b o, H b = some o → ((M b ∧ ¬ MT b) ∨ solid o = true) → H' b = some o) (hm : ∀ b, M b → M' b) (hs : ∀ b, MT' b → M' b)
    (ht : ∀ b o, H b = some o → ¬ MT b → ¬ MT' b) : Lex P w cs H' p dx rf ws wn sd tb RF was XS SD s M' MT' := by
  have ks : ∀ b o, H b = some o → solid o = true → H' b = some o := fun b o e h => k b o e (.inr h)
  exact {
    obj := k _ _ L.obj (.inl ⟨L.mp, L.np⟩)
    hrf := k _ _ L.hrf (.inl ⟨L.mrf, L.nrf⟩)
    hws := k _ _ L.hws (.inl ⟨L.mws, L.nws⟩)
    hwn := k _ _ L.hwn (.inl ⟨L.mwn, L.nwn⟩)
    hsd := k _ _ L.hsd (.inl ⟨L.msd, L.nsd⟩)
    r0 := L.r0
    r1 := fun c j h => let ⟨la, as, z1, z2, z3⟩ := L.r1 c j h; ⟨la, as, z1, k _ _ z2 (.inl ⟨(L.r2 _ _ z1).1, (L.r2 _ _ z1).2.1⟩), z3.keep ks⟩
    r2 := fun kk la h => by
      obtain ⟨z1, z2, z3, xs, z4⟩ := L.r2 kk la h
      exact ⟨hm _ z1, ht _ _ z4 z2, z3, xs, k _ _ z4 (.inl ⟨z1, z2⟩)⟩
    r3 := L.r3
    rl := L.rl
    w1 := Paired.mapP L.w1 fun _ _ e => e.keep ks
    x1 := L.x1
    x2 := fun x hx => (L.x2 x hx).keep ks
    d1 := L.d1
    mp := hm _ L.mp
    mrf := hm _ L.mrf
    mws := hm _ L.mws
    mwn := hm _ L.mwn
    msd := hm _ L.msd
    sub := hs
    np := ht _ _ L.obj L.np
    nrf := ht _ _ L.hrf L.nrf
    nws := ht _ _ L.hws L.nws
    nwn := ht _ _ L.hwn L.nwn
    nsd := ht _ _ L.hsd L.nsd
    ne := L.ne }
end
def LexAt (P : Program) (w : World) (cs : Cs) (H : Hp) (p : Addr) (s : Abs) (M : Addr → Prop) : Prop :=
  ∃ dx rf ws wn sd tb RF was XS SD MT, Lex P w cs H p dx rf ws wn sd tb RF was XS SD s M MT ∧ TabAt cs.T H tb (phi s) MT
section
variable {P : Program} {w : World} {cs : Cs} {H H' : Hp} {p : Addr} {s : Abs} {M : Addr → Prop}
theorem LexAt.mono (L : LexAt P w cs H p s M) {M' : Addr → Prop} (k : ∀ b o, H b = some o → (M b ∨ solid o = true) → H' b = some o) (hm : ∀ b, M b → M' b) : LexAt P w cs H' p s M' := by
  obtain ⟨dx, rf, ws, wn, sd, tb, RF, was, XS, SD, MT, L, T⟩ := L
  exact ⟨dx, rf, ws, wn, sd, tb, RF, was, XS, SD, MT, L.mono (fun b o e h => k b o e (h.imp (fun z => z.1) id)) hm (fun b h => hm b (L.sub b h)) (fun _ _ _ h => h), T.mono (fun b o e h => k b o e (h.imp (L.sub b) id)) fun _ h => h⟩
theorem LexAt.same (L : LexAt P w cs H p s M) (k : Same H H') : LexAt P w cs H' p s (Ext M H) := L.mono (fun b o e _ => k b o e) fun _ h => .inl h
theorem ext_of {H1 : Hp} (k : Keep M H H1) {b : Addr} (h : H1 b = none) : Ext M H b := by
  by_cases hm : M b
  · exact .inl hm
  · cases e : H b with
    | none => exact .inr e
    | some o =>
      rw [k b o e (.inl hm)] at h
      cases h
theorem keep_step {N : Addr → Prop} {H1 H2 : Hp} (k : Keep M H H1) (hn : ∀ b, N b → Ext M H b) (k2 : Keep N H1 H2) : Keep M H H2 := fun b o e h => by
  refine k2 b o (k b o e h) (h.imp (fun z y => ?_) id)
  rcases hn b y with q | q
  · exact z q
  · rw [e] at q
    cases q
end
def outOf (s : Abs) (c : Call) : List V := (Kct5Neutral.told (step s c).2).map V.int
def Post (P : Program) (w : World) (cs : Cs) (H : Hp) (p : Addr) (M : Addr → Prop) (s : Abs) (c : Call) (Q : VK) : Prop :=
  ∀ (q : Addr) (H' : Hp), Ext M H q → Keep M H H' → LexAt P w cs H' p (step s c).1 (Ext M H) → H' q = some (.lst (outOf s c)) → Q (.ref q) H'
theorem nums_nv (l : Bytes) : (Kct5Neutral.nums l).map V.int = nv l := by
  unfold Kct5Neutral.nums nv
  rw [List.map_map]
  rfl
section
variable {P : Program} {w : World} {cs : Cs} {H H1 : Hp} {p : Addr} {s : Abs} {M : Addr → Prop} {c : Call} {Q : VK}
theorem Post.ret (h : Post P w cs H p M s c Q) (L : LexAt P w cs H p s M) {a : Ans} (e : step s c = (s, a)) (s1 : Same H H1) {q : Addr} (hq : H1 q = none) {out : List V} (ho : (Kct5Neutral.told a).map V.int = out) : Q (.ref q) (upd H1 q (.lst out)) := by
  have s2 : Same H (upd H1 q (.lst out)) := same_new s1 hq
  refine h q _ (.inr ?_) (Same.keep s2) ?_ ?_
  · cases e2 : H q with
    | none => rfl
    | some o =>
      rw [s1 _ _ e2] at hq
      cases hq
  · rw [e]
    exact L.same s2
  · unfold outOf
    rw [upd_same, e, ← ho]
theorem Post.at (h : Post P w cs H p M s c Q) (L : LexAt P w cs H p s M) {a : Ans} (e : step s c = (s, a)) (s1 : Same H H1) {q : Addr} (hq0 : H q = none) {out : List V} (hq : H1 q = some (.lst out)) (ho : (Kct5Neutral.told a).map V.int = out) : Q (.ref q) H1 := by
  refine h q _ (.inr hq0) (Same.keep s1) ?_ ?_
  · rw [e]
    exact L.same s1
  · unfold outOf
    rw [e, hq, ← ho]
end
end Bw
set_option Elab.async false
set_option linter.all false
set_option maxRecDepth 100000
set_option maxHeartbeats 4000000
namespace Bw
open PySem PySem.Spec PyProof.Rows L2 Kct5
theorem phi_first : phi first = fun _ => none := by
  have : form first = fun _ _ => none := by
    funext n j
    rfl
  unfold phi
  rw [this]
  funext k
  match k with
  | [] => rfl
  | [a] => rfl
  | [a, b] => rfl
  | a :: b :: c :: r => rfl
def spBegin (P : Program) (w : World) (cs : Cs) : Sp := fun vs H Q _ => ∃ (p dx : Addr) (fs : List (Str × V)), vs = [.ref p] ∧ H p = some (.ins cs.L dx fs) ∧ LexFs fs ∧
  ∀ (q : Addr) (H' : Hp), H q = none → (∀ b o, H b = some o → b ≠ p → H' b = some o) → LexAt P w cs H' p first (fun b => b = p ∨ H b = none) → H' q = some (.lst [.int 0]) → Q (.ref q) H'
def spLexInit (P : Program) (w : World) (cs : Cs) : Sp := fun vs H Q _ => ∃ (p dx : Addr), vs = [.ref p] ∧ H p = some (.ins cs.L dx []) ∧
  ∀ H' : Hp, (∀ b o, H b = some o → b ≠ p → H' b = some o) → LexAt P w cs H' p first (fun b => b = p ∨ H b = none) → Q .non H'
section
variable {P : Program} {w : World} {K : PySem.W.Frag} {mg : Str → Option Value} {base : Heap}
theorem scBegin : FnScope ["self"] ["self"] (defScope (inClass (top 56) 1)) := ⟨rfl, rfl, rfl, by decide +kernel, rfl, by decide +kernel, by decide +kernel⟩
theorem ok_begin {f : Addr} {fd : FuncData} {cs : Cs} (F : Fun K "begin" "Lexicon.begin" (inClass (top 56) 1) f fd) (T : LexCls K cs.L) (Mk : Mke P w K mg base "FormTable" cs.T ["self"] 1 (spTabInit cs.T)) : FnOk P w K mg base CX0 3 f fd ["self"] (spBegin P w cs) := by
  refine F.ok scBegin (fun vs H Q E h => ?_) (fun cdv A outer s H vs Q E hr h => ?_)
  · obtain ⟨p, dx, fs, rfl, _⟩ := h
    rfl
  · obtain ⟨p, dx, fs, rfl, hp, hfs, k⟩ := h
    refine ⟨_, pss_cons (ps_fld (pv 0) pe_int rfl) (pss_cons (ps_fld (pv 0) pe_bnew rfl) (pss_cons (ps_fld (pv 0) (pe_lst pa_nil) rfl) (pss_cons (ps_fld (pv 0) pe_pnew rfl) (pss_cons (ps_fld (pv 0) pe_bnew rfl)
      (pss_cons (ps_fld (pv 0) (pe_mke0 Mk hr) rfl) (pss_one (ps_ret (pe_lst (pa_cons pe_int pa_nil))))))))), ?_⟩
    have lf := hfs.le
    -- rule_total
    refine ⟨_, rfl, p, cs.L, dx, _, rfl, hp, T.cl, T.n1, (by omega), ?_⟩
    have l1 := length_putF "rule_total" (V.int 0) fs
    have a1 : upd H p (.ins cs.L dx (putF "rule_total" (.int 0) fs)) p = some (.ins cs.L dx (putF "rule_total" (.int 0) fs)) := upd_same
    have f1 : ∀ b o, H b = some o → b ≠ p → upd H p (.ins cs.L dx (putF "rule_total" (.int 0) fs)) b = some o := fun b o e hb => by rw [upd_ne hb]; exact e
    have n1 : ∀ b, upd H p (.ins cs.L dx (putF "rule_total" (.int 0) fs)) b = none → H b = none := fun b e => by
      by_cases h : b = p
      · rw [h, upd_same] at e
        cases e
      · rw [upd_ne h] at e
        exact e
    generalize upd H p (.ins cs.L dx (putF "rule_total" (.int 0) fs)) = H1 at a1 f1 n1
    -- rules_for
    intro rf hrf
    have c1 : p ≠ rf := ne_of_none a1 hrf
    refine ⟨_, rfl, p, cs.L, dx, _, rfl, by rw [upd_ne c1]; exact a1, T.cl, T.n2, (by omega), ?_⟩
    have l2 := length_putF "rules_for" (V.ref rf) (putF "rule_total" (V.int 0) fs)
    obtain ⟨H2, eH2⟩ : ∃ H2, H2 = upd (upd H1 rf (bd [])) p (.ins cs.L dx (putF "rules_for" (.ref rf) (putF "rule_total" (.int 0) fs))) := ⟨_, rfl⟩
    rw [← eH2]
    have a2 : H2 p = some (.ins cs.L dx (putF "rules_for" (.ref rf) (putF "rule_total" (.int 0) fs))) := by rw [eH2, upd_same]
    have b2 : H2 rf = some (bd []) := by rw [eH2, upd_ne c1.symm, upd_same]
    have k2 : ∀ b o, H1 b = some o → b ≠ p → H2 b = some o := fun b o e hb => by rw [eH2, upd_ne hb, upd_ne (ne_of_none e hrf)]; exact e
    have n2 : ∀ b, H2 b = none → H1 b = none := fun b e => by
      cases q : H1 b with
      | none => rfl
      | some o =>
        by_cases h : b = p
        · rw [h, a2] at e
          cases e
        · rw [k2 b o q h] at e
          cases e
    -- words
    refine ⟨Nat.zero_le _, fun ws hws => ?_⟩
    have c2 : p ≠ ws := ne_of_none a2 hws
    refine ⟨_, rfl, p, cs.L, dx, _, rfl, by rw [upd_ne c2]; exact a2, T.cl, T.n3, (by omega), ?_⟩
    have l3 := length_putF "words" (V.ref ws) (putF "rules_for" (V.ref rf) (putF "rule_total" (V.int 0) fs))
    obtain ⟨H3, eH3⟩ : ∃ H3, H3 = upd (upd H2 ws (.lst [])) p (.ins cs.L dx (putF "words" (.ref ws) (putF "rules_for" (.ref rf) (putF "rule_total" (.int 0) fs)))) := ⟨_, rfl⟩
    rw [← eH3]
    have a3 : H3 p = some (.ins cs.L dx (putF "words" (.ref ws) (putF "rules_for" (.ref rf) (putF "rule_total" (.int 0) fs)))) := by rw [eH3, upd_same]
    have b3 : H3 ws = some (.lst []) := by rw [eH3, upd_ne c2.symm, upd_same]
    have k3 : ∀ b o, H2 b = some o → b ≠ p → H3 b = some o := fun b o e hb => by rw [eH3, upd_ne hb, upd_ne (ne_of_none e hws)]; exact e
    have n3 : ∀ b, H3 b = none → H2 b = none := fun b e => by
      cases q : H2 b with
      | none => rfl
      | some o =>
        by_cases h : b = p
        · rw [h, a3] at e
          cases e
        · rw [k3 b o q h] at e
          cases e
    -- word_numbers
    intro wn hwn
    have c3 : p ≠ wn := ne_of_none a3 hwn
    refine ⟨_, rfl, p, cs.L, dx, _, rfl, by rw [upd_ne c3]; exact a3, T.cl, T.n4, (by omega), ?_⟩
    have l4 := length_putF "word_numbers" (V.ref wn) (putF "words" (V.ref ws) (putF "rules_for" (V.ref rf) (putF "rule_total" (V.int 0) fs)))
    obtain ⟨H4, eH4⟩ : ∃ H4, H4 = upd (upd H3 wn (PDict P w wn [])) p (.ins cs.L dx (putF "word_numbers" (.ref wn) (putF "words" (.ref ws) (putF "rules_for" (.ref rf) (putF "rule_total" (.int 0) fs))))) := ⟨_, rfl⟩
    show tSeq _ _ _ _ (upd (upd H3 wn (PDict P w wn [])) p (.ins cs.L dx (putF "word_numbers" (.ref wn) (putF "words" (.ref ws) (putF "rules_for" (.ref rf) (putF "rule_total" (.int 0) fs))))))
    rw [← eH4]
    have a4 : H4 p = some (.ins cs.L dx (putF "word_numbers" (.ref wn) (putF "words" (.ref ws) (putF "rules_for" (.ref rf) (putF "rule_total" (.int 0) fs))))) := by rw [eH4, upd_same]
    have b4 : H4 wn = some (PDict P w wn []) := by rw [eH4, upd_ne c3.symm, upd_same]
    have k4 : ∀ b o, H3 b = some o → b ≠ p → H4 b = some o := fun b o e hb => by rw [eH4, upd_ne hb, upd_ne (ne_of_none e hwn)]; exact e
    have n4 : ∀ b, H4 b = none → H3 b = none := fun b e => by
      cases q : H3 b with
      | none => rfl
      | some o =>
        by_cases h : b = p
        · rw [h, a4] at e
          cases e
        · rw [k4 b o q h] at e
          cases e
    -- said
    intro sd hsd
    have c4 : p ≠ sd := ne_of_none a4 hsd
    refine ⟨_, rfl, p, cs.L, dx, _, rfl, by rw [upd_ne c4]; exact a4, T.cl, T.n5, (by omega), ?_⟩
    have l5 := length_putF "said" (V.ref sd) (putF "word_numbers" (V.ref wn) (putF "words" (V.ref ws) (putF "rules_for" (V.ref rf) (putF "rule_total" (V.int 0) fs))))
    obtain ⟨H5, eH5⟩ : ∃ H5, H5 = upd (upd H4 sd (bd [])) p (.ins cs.L dx (putF "said" (.ref sd) (putF "word_numbers" (.ref wn) (putF "words" (.ref ws) (putF "rules_for" (.ref rf) (putF "rule_total" (.int 0) fs)))))) := ⟨_, rfl⟩
    rw [← eH5]
    have a5 : H5 p = some (.ins cs.L dx (putF "said" (.ref sd) (putF "word_numbers" (.ref wn) (putF "words" (.ref ws) (putF "rules_for" (.ref rf) (putF "rule_total" (.int 0) fs)))))) := by rw [eH5, upd_same]
    have b5 : H5 sd = some (bd []) := by rw [eH5, upd_ne c4.symm, upd_same]
    have k5 : ∀ b o, H4 b = some o → b ≠ p → H5 b = some o := fun b o e hb => by rw [eH5, upd_ne hb, upd_ne (ne_of_none e hsd)]; exact e
    have n5 : ∀ b, H5 b = none → H4 b = none := fun b e => by
      cases q : H4 b with
      | none => rfl
      | some o =>
        by_cases h : b = p
        · rw [h, a5] at e
          cases e
        · rw [k5 b o q h] at e
          cases e
    -- table
    intro tb tdx htb htd ntd
    refine ⟨tb, tdx, rfl, upd_same, fun H6 TB kp => ⟨rfl, ?_⟩⟩
    have c5 : p ≠ tb := ne_of_none a5 htb
    have s56 : Same H5 H6 := Same.made htb htd kp
    have TB6 : TabAt cs.T H6 tb (fun _ => none) (fun b => b = tb ∨ H5 b = none) := TB.mono (fun _ _ e _ => e) fun b h => by
      rcases h with h | h
      · exact .inl h
      · refine .inr ?_
        cases e : H5 b with
        | none => rfl
        | some o =>
          rw [upd_ne (ne_of_none e htb), upd_ne (ne_of_none e htd), e] at h
          cases h
    refine ⟨_, rfl, p, cs.L, dx, _, rfl, s56 _ _ a5, T.cl, T.n6, (by omega), ?_⟩
    rw [putF_all hfs]
    obtain ⟨H7, eH7⟩ : ∃ H7, H7 = upd H6 p (.ins cs.L dx (lexF (.int 0) (.ref rf) (.ref ws) (.ref wn) (.ref sd) (.ref tb))) := ⟨_, rfl⟩
    rw [← eH7]
    have k7 : ∀ b o, H6 b = some o → b ≠ p → H7 b = some o := fun b o e hb => by rw [eH7, upd_ne hb]; exact e
    refine ⟨(by show 1 ≤ sizeLine; decide), fun q hq => ?_⟩
    have up : ∀ b o, H7 b = some o → upd H7 q (.lst [.int 0]) b = some o := fun b o e => by rw [upd_ne (ne_of_none e hq)]; exact e
    have old : ∀ b, H5 b = none → H b = none := fun b e => n1 b (n2 b (n3 b (n4 b (n5 b e))))
    have all : ∀ b o, H b = some o → b ≠ p → upd H7 q (.lst [.int 0]) b = some o := fun b o e hb => up _ _ (k7 _ _ (s56 _ _ (k5 _ _ (k4 _ _ (k3 _ _ (k2 _ _ (f1 _ _ e hb) hb) hb) hb) hb)) hb)
    have hqp : q ≠ p := fun z => by rw [z, eH7, upd_same] at hq; cases hq
    refine k q _ ?_ all ?_ upd_same
    · cases e : H q with
      | none => rfl
      | some o =>
        have := k7 _ _ (s56 _ _ (k5 _ _ (k4 _ _ (k3 _ _ (k2 _ _ (f1 _ _ e hqp) hqp) hqp) hqp) hqp)) hqp
        rw [hq] at this
        cases this
    · have g : ∀ b o, H5 b = some o → b ≠ p → upd H7 q (.lst [.int 0]) b = some o := fun b o e hb => up _ _ (k7 _ _ (s56 _ _ e) hb)
      have rf5 := k5 _ _ (k4 _ _ (k3 _ _ b2 c1.symm) c1.symm) c1.symm
      have ws5 := k5 _ _ (k4 _ _ b3 c2.symm) c2.symm
      have wn5 := k5 _ _ b4 c3.symm
      have nt : ∀ {b : Addr} {o : HO}, H5 b = some o → ¬ (b = tb ∨ H5 b = none) := fun e z => by
        rcases z with z | z
        · rw [z, htb] at e
          cases e
        · rw [e] at z
          cases z
      refine ⟨dx, rf, ws, wn, sd, tb, [], [], [], [], fun b => b = tb ∨ H5 b = none, ?_, ?_⟩
      · exact {
          obj := up _ _ (by rw [eH7, upd_same]; rfl)
          hrf := g _ _ rf5 c1.symm
          hws := g _ _ ws5 c2.symm
          hwn := g _ _ wn5 c3.symm
          hsd := g _ _ b5 c4.symm
          r0 := fun _ _ _ => rfl
          r1 := fun _ _ h => (h rfl).elim
          r2 := fun _ _ h => nomatch h
          r3 := fun _ _ _ h => nomatch h
          rl := Nat.le_refl _
          w1 := .nil
          x1 := rfl
          x2 := fun _ h => nomatch h
          d1 := rfl
          mp := .inl rfl
          mrf := .inr (n1 _ hrf)
          mws := .inr (n1 _ (n2 _ hws))
          mwn := .inr (n1 _ (n2 _ (n3 _ hwn)))
          msd := .inr (n1 _ (n2 _ (n3 _ (n4 _ hsd))))
          sub := fun b h => by
            rcases h with h | h
            · rw [h]
              exact .inr (old _ htb)
            · exact .inr (old _ h)
          np := nt a5
          nrf := nt rf5
          nws := nt ws5
          nwn := nt wn5
          nsd := nt b5
          ne := fun z => by rw [← z, k4 _ _ (k3 _ _ b2 c1.symm) c1.symm] at hsd; cases hsd }
      · rw [phi_first]
        refine TB6.mono (fun b o e h => up _ _ (k7 _ _ e fun z => ?_)) fun _ h => h
        rw [z] at e h
        have e5 := s56 _ _ a5
        rw [e] at e5
        cases e5
        rcases h with h | h
        · exact nt a5 h
        · have : solid (.ins cs.L dx (putF "said" (.ref sd) (putF "word_numbers" (.ref wn) (putF "words" (.ref ws) (putF "rules_for" (.ref rf) (putF "rule_total" (.int 0) fs)))))) = false := by
            rcases hfs with rfl | ⟨n', x1, x2, x3, x4, x5, rfl⟩
            · show (decide (("rule_total" : Str) = "front") || decide (("rule_total" : Str) = "pattern")) = false
              decide +kernel
            · rw [putF_lex1, putF_lex2, putF_lex3, putF_lex4, putF_lex5]
              exact solid_lex
          rw [this] at h
          cases h
theorem scLexInit : FnScope ["self"] ["self"] (defScope (inClass (top 56) 0)) := ⟨rfl, rfl, rfl, by decide +kernel, rfl, by decide +kernel, by decide +kernel⟩
theorem ok_lexInit {f : Addr} {fd : FuncData} {cs : Cs} (F : Fun K "__init__" "Lexicon.__init__" (inClass (top 56) 0) f fd) (T : LexCls K cs.L) (C1 : MCal P w K mg base cs.L "begin" ["self"] 3 (spBegin P w cs)) : FnOk P w K mg base CX0 4 f fd ["self"] (spLexInit P w cs) := by
  refine F.ok scLexInit (fun vs H Q E h => ?_) (fun cdv A outer s H vs Q E hr h => ?_)
  · obtain ⟨p, dx, rfl, _⟩ := h
    rfl
  · obtain ⟨p, dx, rfl, hp, k⟩ := h
    refine ⟨_, pss_one (ps_expr (pe_mcal0 (pv 0) T.cl C1 hr)), ?_⟩
    exact ⟨_, rfl, p, dx, _, rfl, hp, rfl, p, dx, [], rfl, hp, .inl rfl, fun q H' _ kp L _ => k H' kp L⟩
end
end Bw
set_option Elab.async false
set_option linter.all false
set_option maxRecDepth 100000
set_option maxHeartbeats 4000000
namespace Bw
open PySem PySem.Spec PyProof.Rows L2 Kct5
theorem boot_list1 : bootBuiltins "list" = some (.type "list") := by decide +kernel
theorem known_phi {s : Abs} {x : Bytes} : (∃ k, phi s k = some x) ↔ Known s x := by
  constructor
  · rintro ⟨k, h⟩
    obtain ⟨n, j, rfl, h⟩ := tabOf_some h
    obtain ⟨h1, h2⟩ := form_in h
    exact ⟨n, j, h1, h2, h⟩
  · rintro ⟨n, j, h1, h2, h⟩
    exact ⟨[n, j], h⟩
def pk (p : Nat × Nat) : Bytes := [p.1, p.2]
theorem less_pk {a b c d : Nat} : less [a, b] [c, d] = true ↔ a < c ∨ (a = c ∧ b < d) := by
  rw [less_cons, less_cons]
  simp [less_nil]
theorem places_rising (s : Abs) : Rising ((places s).map pk) := by
  unfold places Rising
  rw [List.pairwise_map, List.pairwise_flatMap]
  refine ⟨fun n _ => ?_, ?_⟩
  · rw [List.pairwise_map]
    exact List.pairwise_lt_range.imp fun h => less_pk.mpr (.inr ⟨rfl, h⟩)
  · refine List.pairwise_lt_range.imp fun h a ha b hb => ?_
    obtain ⟨i, _, rfl⟩ := List.mem_map.mp ha
    obtain ⟨j, _, rfl⟩ := List.mem_map.mp hb
    exact less_pk.mpr (.inl h)
theorem found_eq {s : Abs} {x : Bytes} {ks : List Bytes} (hR : Rising ks) (hm : ∀ k, k ∈ ks ↔ phi s k = some x) : ks = (found s x).map pk := by
  refine rising_one hR ?_ fun k => ?_
  · unfold found
    exact (places_rising s).sublist (List.Sublist.map _ (List.filter_sublist ..))
  · rw [hm, List.mem_map]
    unfold found
    constructor
    · intro h
      obtain ⟨n, j, rfl, h⟩ := tabOf_some h
      obtain ⟨h1, h2⟩ := form_in h
      refine ⟨(n, j), List.mem_filter.mpr ⟨mem_places.mpr ⟨h1, h2⟩, ?_⟩, rfl⟩
      show (form s n j == some x) = true
      have h' : form s n j = some x := h
      rw [h']
      exact beq_self_eq_true _
    · rintro ⟨⟨n, j⟩, h, rfl⟩
      have := (List.mem_filter.mp h).2
      exact eq_of_beq this
def oneOut (o : Option Bytes) : List V := match o with
  | none => [.int 0]
  | some x => .int 1 :: nv x
def spOneOf : Sp := fun vs H Q _ => ∃ (r : Addr) (as : List Addr) (ks : List Bytes) (k : Nat), vs = [.ref r, iv k] ∧ H r = some (.lst (as.map V.ref)) ∧ TupsAt H as ks ∧ (∀ x ∈ ks, x.length ≤ 1000) ∧
  ∀ (q : Addr) (H' : Hp), H q = none → Same H H' → H' q = some (.lst (oneOut ks[k]?)) → Q (.ref q) H'
def spForm (P : Program) (w : World) (cs : Cs) : Sp := fun vs H Q _ => ∃ (p : Addr) (s : Abs) (M : Addr → Prop) (n j : Nat), vs = [.ref p, iv n, iv j] ∧ LexAt P w cs H p s M ∧ Ok s ∧ Post P w cs H p M s (.form n j) Q
def spFound (P : Program) (w : World) (K : PySem.W.Frag) (cs : Cs) : Sp := fun vs H Q _ => ∃ (p a : Addr) (s : Abs) (M : Addr → Prop) (l : Bytes) (k : Nat), vs = [.ref p, .ref a, iv k] ∧ LexAt P w cs H p s M ∧ Ok s ∧ SqL K H a (nv l) ∧ l.length ≤ 30000 ∧ Post P w cs H p M s (.found l k) Q
section
variable {P : Program} {w : World} {K : PySem.W.Frag} {mg : Str → Option Value} {base : Heap}
theorem scOneOf : FnScope ["rows", "k"] ["rows", "k"] (defScope (top 57)) := ⟨rfl, rfl, rfl, by decide +kernel, rfl, by decide +kernel, by decide +kernel⟩
theorem ok_oneOf {f : Addr} {fd : FuncData} (F : Fun K "one_of" "one_of" (top 57) f fd) (G : Glo mg) : FnOk P w K mg base CX0 1 f fd ["rows", "k"] spOneOf := by
  refine F.ok scOneOf (fun vs H Q E h => ?_) (fun cdv A outer s H vs Q E hr h => ?_)
  · obtain ⟨r, as, ks, k, rfl, _⟩ := h
    rfl
  · obtain ⟨r, as, ks, k, rfl, hr0, hT, hlen, kk⟩ := h
    refine ⟨_, pss_cons (ps_if (pt_cmpR op_ge (pv 1) (pe_callB call_len_seq (by rfl) G.len PySem.boot_len (pa_cons (pv 0) pa_nil)) (nomark _)) (pss_one (ps_ret (pe_lst (pa_cons pe_int pa_nil)))) pss_nil)
      (pss_one (ps_ret (pe_op op_cat (pe_lst (pa_cons pe_int pa_nil)) (pe_callTy call_list_of (by rfl) G.list boot_list1 (pa_cons (pe_ix ix_list (pv 0) (pv 1) (fun _ _ => rfl)) pa_nil))))), ?_⟩
    have hla : as.length = ks.length := Paired.length hT
    refine ⟨_, rfl, _, rfl, r, _, rfl, .inl (SqL.of hr0), _, _, rfl, rfl, _, rfl, ?_⟩
    refine ite2 (fun h1 => ?_) (fun h1 => ?_)
    · have h1' : ks.length ≤ k := by
        have := of_decide_eq_true h1
        rw [List.length_map] at this
        omega
      refine ⟨(by show 1 ≤ sizeLine; decide), fun q hq => kk q _ hq (same_new (Same.refl H) hq) ?_⟩
      rw [List.getElem?_eq_none h1', upd_same]
      rfl
    · have h1' : k < ks.length := by
        refine Nat.lt_of_not_le fun z => h1 (decide_eq_true ?_)
        rw [List.length_map]
        omega
      obtain ⟨x, hx⟩ : ∃ x, ks[k]? = some x := ⟨_, List.getElem?_eq_getElem h1'⟩
      obtain ⟨a, ha⟩ : ∃ a, as[k]? = some a := ⟨_, List.getElem?_eq_getElem (by omega)⟩
      obtain ⟨x', hx', hax⟩ := paired_get hT ha
      rw [hx] at hx'
      cases hx'
      have lx := hlen x (List.mem_of_getElem? hx)
      have big : 10000 ≤ sizeLine := by decide
      refine ⟨(by show 1 ≤ sizeLine; decide), fun q hq => ?_⟩
      have s1 : Same H (upd H q (.lst [.int 1])) := same_new (Same.refl H) hq
      refine ⟨_, rfl, _, rfl, r, _, _, _, rfl, rfl, SqL.of (s1 _ _ hr0), atI_nat (by rw [List.getElem?_map, ha]; rfl), a, _, rfl, .inr (SqT.of (s1 _ _ hax)), fun q2 hq2 => ?_⟩
      have s2 : Same H (upd (upd H q (.lst [.int 1])) q2 (.lst (nv x))) := same_new s1 hq2
      have nq : q ≠ q2 := ne_of_none (o := .lst [.int 1]) upd_same hq2
      refine ⟨q, q2, _, _, rfl, rfl, by rw [upd_ne nq, upd_same], upd_same, ?_, fun q3 hq3 => ?_⟩
      · rw [nv_length]
        show 1 + x.length ≤ _
        omega
      · have hq30 : H q3 = none := by
          cases e : H q3 with
          | none => rfl
          | some o =>
            rw [s2 _ _ e] at hq3
            cases hq3
        refine kk q3 _ hq30 (same_new s2 hq3) ?_
        rw [hx, upd_same]
        rfl
theorem stepForm1 {s : Abs} {n j : Nat} (h : 16 ≤ j) : step s (.form n j) = (s, .num (-22)) := by
  show (if SLOTS ≤ j then _ else _) = _
  rw [if_pos (show SLOTS ≤ j from h)]
theorem stepForm2 {s : Abs} {n j : Nat} (h : j < 16) (h2 : s.words.length ≤ n) : step s (.form n j) = (s, .num (-2)) := by
  show (if SLOTS ≤ j then _ else _) = _
  rw [if_neg (show ¬ SLOTS ≤ j from Nat.not_le.mpr h), if_pos h2]
theorem stepForm3 {s : Abs} {n j : Nat} (h : j < 16) (h2 : n < s.words.length) : step s (.form n j) = (s, told (form s n j)) := by
  show (if SLOTS ≤ j then _ else _) = _
  rw [if_neg (show ¬ SLOTS ≤ j from Nat.not_le.mpr h), if_neg (Nat.not_le.mpr h2)]
theorem scForm : FnScope ["self", "number", "slot", "letters"] ["self", "number", "slot"] (defScope (inClass (top 56) 6)) := ⟨rfl, rfl, rfl, by decide +kernel, rfl, by decide +kernel, by decide +kernel⟩
theorem ok_form {f : Addr} {fd : FuncData} {cs : Cs} (F : Fun K "form" "Lexicon.form" (inClass (top 56) 6) f fd) (G : Glo mg) (T : LexCls K cs.L) (TT : TabCls K cs.T) (C1 : MCal P w K mg base cs.T "form_of" ["self", "place"] 1 (spFormOf cs.T)) :
    FnOk P w K mg base CX0 2 f fd ["self", "number", "slot"] (spForm P w cs) := by
  refine F.ok scForm (fun vs H Q E h => ?_) (fun cdv A outer s H vs Q E hr h => ?_)
  · obtain ⟨p, s, M, n, j, rfl, _⟩ := h
    rfl
  · obtain ⟨p, s, M, n, j, rfl, L0, ok, post⟩ := h
    refine ⟨_, pss_cons (ps_if (pt_cmpR op_gt (pv 2) (pe_gi G.lastSlot) (nomark _)) (pss_one (ps_ret (pe_lst (pa_cons (pe_gi G.notOk) pa_nil)))) pss_nil)
      (pss_cons (ps_if (pt_cmpR op_ge (pv 1) (pe_callB call_len_seq (by rfl) G.len PySem.boot_len (pa_cons (pe_fld (pv 0) rfl) pa_nil)) (nomark _)) (pss_one (ps_ret (pe_lst (pa_cons (pe_gi G.noWord) pa_nil)))) pss_nil)
      (pss_cons (ps_set (i := 3) scForm.nd rfl (Or.inl rfl) (pe_mcal (pe_fld (pv 0) rfl) TT.cl C1 hr (pa_cons (pe_tup (pa_cons (pv 1) (pa_cons (pv 2) pa_nil))) pa_nil)))
      (pss_cons (ps_if (pt_cmpR op_eq (pe_callB call_len_seq (by rfl) G.len PySem.boot_len (pa_cons (pv 3) pa_nil)) pe_int (nomark _)) (pss_one (ps_ret (pe_lst (pa_cons pe_int pa_nil)))) pss_nil)
      (pss_one (ps_ret (pe_op op_cat (pe_lst (pa_cons pe_int pa_nil)) (pe_callTy call_list_of (by rfl) G.list boot_list1 (pa_cons (pv 3) pa_nil)))))))), ?_⟩
    obtain ⟨dx, rf, ws, wn, sd, tb, RF, was, XS, SD, MT, L, TB⟩ := id L0
    have hla : was.length = s.words.length := Paired.length L.w1
    refine ⟨_, rfl, _, _, rfl, rfl, _, rfl, ?_⟩
    refine ite2 (fun h1 => ?_) (fun h1 => ?_)
    · have h1' : 16 ≤ j := by have := of_decide_eq_true h1; omega
      exact ⟨(by show 1 ≤ sizeLine; decide), fun q hq => post.ret L0 (stepForm1 h1') (Same.refl H) hq rfl⟩
    · have h1' : j < 16 := by
        refine Nat.lt_of_not_le fun z => h1 (decide_eq_true ?_)
        omega
      refine ⟨_, rfl, _, rfl, p, cs.L, dx, _, _, rfl, L.obj, T.cl, T.n3, lexF_3 _ _ _ _ _ _, ws, _, rfl, .inl (SqL.of L.hws), _, _, rfl, rfl, _, rfl, ?_⟩
      refine ite2 (fun h2 => ?_) (fun h2 => ?_)
      · have h2' : s.words.length ≤ n := by
          have := of_decide_eq_true h2
          rw [List.length_map, hla] at this
          omega
        exact ⟨(by show 1 ≤ sizeLine; decide), fun q hq => post.ret L0 (stepForm2 h1' h2') (Same.refl H) hq rfl⟩
      · have h2' : n < s.words.length := by
          refine Nat.lt_of_not_le fun z => h2 (decide_eq_true ?_)
          rw [List.length_map, hla]
          omega
        have es := stepForm3 h1' h2'
        obtain ⟨tdx, fa, pw, A', B, TB'⟩ := id TB
        refine ⟨_, rfl, p, cs.L, dx, _, _, rfl, L.obj, T.cl, T.n6, lexF_6 _ _ _ _ _ _, tb, tdx, _, rfl, TB'.obj, tabF_no _ _, _, rfl, _, rfl, (by show 2 ≤ sizeLine; decide), fun t ht => ?_⟩
        have s1 : Same H (upd H t (.tup [iv n, iv j])) := same_new (Same.refl H) ht
        refine ⟨tb, t, phi s, MT, [n, j], rfl, TB.mono (fun b o e _ => s1 b o e) (fun _ h => h), upd_same, fun q H2 s2 hq => ?_⟩
        have s12 := s1.trans s2
        have ep : phi s [n, j] = form s n j := rfl
        rw [ep] at hq
        refine ⟨_, rfl, q, _, rfl, .inr (SqT.of hq), rfl, _, rfl, ?_⟩
        rw [nv_length]
        cases ef : form s n j with
        | none =>
          refine iteEq rfl ?_
          refine ⟨(by show 1 ≤ sizeLine; decide), fun q2 hq2 => post.ret L0 es s12 hq2 ?_⟩
          rw [ef]
          rfl
        | some x =>
          rw [ef] at hq
          have hx := isLetters_iff.mp (form_ok ok ef)
          have big : 10000 ≤ sizeLine := by decide
          refine iteEqN (iv_ne (by show ¬ ((x.length : Nat) : Int) = 0; omega)) ?_
          refine ⟨(by show 1 ≤ sizeLine; decide), fun q2 hq2 => ?_⟩
          have s3 : Same H2 (upd H2 q2 (.lst [.int 1])) := same_new (Same.refl H2) hq2
          refine ⟨_, rfl, q, _, rfl, .inr (SqT.of (s3 _ _ hq)), fun q3 hq3 => ?_⟩
          have nq : q2 ≠ q3 := ne_of_none (o := .lst [.int 1]) upd_same hq3
          refine ⟨q2, q3, _, _, rfl, rfl, by rw [upd_ne nq, upd_same], upd_same, ?_, fun q4 hq4 => ?_⟩
          · show 1 + (nv x).length ≤ _
            rw [nv_length]
            omega
          · refine post.ret L0 es (s12.trans (same_new s3 hq3)) hq4 ?_
            rw [ef]
            show (V.int 1 :: (Kct5Neutral.nums x).map V.int) = _
            rw [nums_nv]
            rfl
theorem stepFound1 {s : Abs} {l : Bytes} {k : Nat} (h : isLetters 1 40 l = false) : step s (.found l k) = (s, .num (-22)) := by
  show (if isLetters 1 FORM l = false then _ else _) = _
  rw [if_pos (show isLetters 1 FORM l = false from h)]
theorem stepFound2 {s : Abs} {l : Bytes} {k : Nat} (h : isLetters 1 40 l = true) : step s (.found l k) = (s, match (found s l)[k]? with | none => .num 0 | some p => .some_ [p.1, p.2]) := by
  show (if isLetters 1 FORM l = false then _ else _) = _
  rw [if_neg (show ¬ isLetters 1 FORM l = false from fun z => by rw [show isLetters 1 FORM l = true from h] at z; cases z)]
  cases (found s l)[k]? <;> rfl
theorem scFound : FnScope ["self", "signs", "k"] ["self", "signs", "k"] (defScope (inClass (top 56) 7)) := ⟨rfl, rfl, rfl, by decide +kernel, rfl, by decide +kernel, by decide +kernel⟩
theorem ok_found {f : Addr} {fd : FuncData} {cs : Cs} (F : Fun K "found" "Lexicon.found" (inClass (top 56) 7) f fd) (G : Glo mg) (T : LexCls K cs.L) (TT : TabCls K cs.T) (C1 : MCal P w K mg base cs.T "places_of" ["self", "form"] 1 (spPlaces cs.T))
    (C2 : Cal P w K mg base "is_row_of_letters" ["signs", "least", "most"] 2 (spRow K)) (C3 : Cal P w K mg base "one_of" ["rows", "k"] 1 spOneOf) : FnOk P w K mg base CX0 3 f fd ["self", "signs", "k"] (spFound P w K cs) := by
  refine F.ok scFound (fun vs H Q E h => ?_) (fun cdv A outer s H vs Q E hr h => ?_)
  · obtain ⟨p, a, s, M, l, k, rfl, _⟩ := h
    rfl
  · obtain ⟨p, a, s, M, l, k, rfl, L0, ok, hS, hL, post⟩ := h
    have hr1 : Room 1 _ := hr.mono (by decide)
    refine ⟨_, pss_cons (ps_if (pt_not (pt_val (pe_cal C2 hr (pa_cons (pv 1) (pa_cons pe_int (pa_cons (pe_gi G.formMax) pa_nil)))))) (pss_one (ps_ret (pe_lst (pa_cons (pe_gi G.notOk) pa_nil)))) pss_nil)
      (pss_one (ps_ret (pe_cal C3 hr1 (pa_cons (pe_mcal (pe_fld (pv 0) rfl) TT.cl C1 hr1 (pa_cons (pe_callTy call_tuple_of (by rfl) G.tuple boot_tuple1 (pa_cons (pv 1) pa_nil)) pa_nil)) (pa_cons (pv 2) pa_nil))))), ?_⟩
    obtain ⟨dx, rf, ws, wn, sd, tb, RF, was, XS, SD, MT, L, TB⟩ := id L0
    refine ⟨_, rfl, a, l, 1, 40, rfl, hS, hL, fun H1 s1 => ⟨_, rfl, ?_⟩⟩
    cases e : isLetters 1 40 l with
    | false =>
      refine iteT ?_
      exact ⟨(by show 1 ≤ sizeLine; decide), fun q hq => post.ret L0 (stepFound1 e) s1 hq rfl⟩
    | true =>
      refine iteF ?_
      obtain ⟨tdx, fa, pw, A', B, TB'⟩ := id TB
      refine ⟨_, rfl, p, cs.L, dx, _, _, rfl, s1 _ _ L.obj, T.cl, T.n6, lexF_6 _ _ _ _ _ _, tb, tdx, _, rfl, s1 _ _ TB'.obj, tabF_no _ _, _, rfl, a, _, rfl, .inl ⟨s1.seq hS, fun t ht => ?_⟩⟩
      have s2 : Same H (upd H1 t (.tup (nv l))) := same_new s1 ht
      refine ⟨tb, t, phi s, MT, l, rfl, TB.mono (fun b o z _ => s2 b o z) (fun _ h => h), upd_same, fun r as ks H3 s3 hr3 hT3 hR3 hm3 => ?_⟩
      have s13 := s2.trans s3
      have ef := found_eq hR3 hm3
      refine ⟨_, rfl, r, as, ks, k, rfl, hr3, hT3, fun x hx => ?_, fun q H4 hq s4 hq4 => ?_⟩
      · rw [ef] at hx
        obtain ⟨y, _, rfl⟩ := List.mem_map.mp hx
        show 2 ≤ 1000
        decide
      · have hq0 : H q = none := by
          cases z : H q with
          | none => rfl
          | some o =>
            rw [s13 _ _ z] at hq
            cases hq
        refine post.at L0 (stepFound2 e) (s13.trans s4) hq0 hq4 ?_
        rw [ef, List.getElem?_map]
        cases (found s l)[k]? with
        | none => rfl
        | some y =>
          show (V.int 1 :: (Kct5Neutral.nums [y.1, y.2]).map V.int) = V.int 1 :: nv [y.1, y.2]
          rw [nums_nv]
end
end Bw
set_option Elab.async false
set_option linter.all false
set_option maxRecDepth 100000
set_option maxHeartbeats 4000000
namespace Bw
open PySem PySem.Spec PyProof.Rows L2 Kct5
theorem letter_small (c : Nat) : letter (small c) = isWordByte c := by
  unfold isWordByte small great letter
  by_cases h1 : 65 ≤ c
  · by_cases h2 : c ≤ 90
    · rw [decide_eq_true h1, decide_eq_true h2]
      show (decide (97 ≤ c + 32) && decide (c + 32 ≤ 122)) = _
      rw [decide_eq_true (show 97 ≤ c + 32 by omega), decide_eq_true (show c + 32 ≤ 122 by omega)]
      simp
    · rw [decide_eq_false h2, Bool.and_false]
      show (decide (97 ≤ c) && decide (c ≤ 122)) = _
      rw [Bool.or_false]
  · rw [decide_eq_false h1, Bool.false_and]
    show (decide (97 ≤ c) && decide (c ≤ 122)) = _
    rw [Bool.or_false]
theorem tw_small (l : Bytes) : (l.map small).takeWhile letter = (l.takeWhile isWordByte).map small := by
  rw [List.takeWhile_map]
  congr 1
  exact congrArg (fun g => l.takeWhile g) (funext fun c => letter_small c)
def rowOf (text : Bytes) (p : Nat × Nat) : Bytes := (text.drop p.1).take (p.2 - p.1)
theorem unk_rows (s : Abs) (text : Bytes) (k : Nat) : ∀ (n : Nat) (l : Bytes) (a : Nat), l.length ≤ n → text.drop a = l.map small →
    unk s (k + a) l = ((rws a (l.map small)).find? fun p => !known s (rowOf text p)).map fun p => (k + p.1, p.2 - p.1)
  | _, [], a, _, _ => by
    rw [unk_nil]
    rfl
  | 0, _ :: _, _, h, _ => by simp at h
  | n + 1, c :: r, a, h, ht => by
    rw [List.length_cons] at h
    have hm : (c :: r).map small = small c :: r.map small := rfl
    cases hc : isWordByte c with
    | false =>
      rw [unk_skip hc, hm, rws_skip (by rw [letter_small, hc]; exact Bool.false_ne_true)]
      have hd : text.drop (a + 1) = r.map small := by
        rw [← List.drop_drop, ht]
        rfl
      have := unk_rows s text k n r (a + 1) (by omega) hd
      rw [← this]
      rfl
    | true =>
      have hl : letter (small c) = true := by rw [letter_small, hc]
      obtain ⟨w, hw⟩ : ∃ w, (c :: r).takeWhile isWordByte = w := ⟨_, rfl⟩
      have ew : (small c :: r.map small).takeWhile letter = w.map small := by rw [← hm, tw_small, hw]
      rw [unk_word hc hw, hm, rws_row hl, ew, List.length_map, List.find?_cons]
      have h1 : 1 ≤ w.length := by
        rw [← hw]
        exact tw_pos hc
      have hpre : w <+: c :: r := by
        rw [← hw]
        exact List.takeWhile_prefix _
      have er : rowOf text (a, a + w.length) = w.map small := by
        unfold rowOf
        show (text.drop a).take (a + w.length - a) = _
        rw [ht, Nat.add_sub_cancel_left, ← List.map_take, ← List.prefix_iff_eq_take.mp hpre]
      rw [er]
      cases hk : known s (w.map small) with
      | true =>
        rw [if_pos rfl]
        have hd : text.drop (a + w.length) = ((c :: r).drop w.length).map small := by
          rw [← List.drop_drop, ht, List.map_drop]
        have := unk_rows s text k n ((c :: r).drop w.length) (a + w.length) (by rw [List.length_drop, List.length_cons]; omega) hd
        rw [Nat.add_assoc, this, List.map_drop]
        rfl
      | false =>
        rw [if_neg (by exact Bool.false_ne_true)]
        show _ = some (k + a, a + w.length - a)
        rw [Nat.add_sub_cancel_left]
theorem unk_all (s : Abs) (t : Bytes) (k : Nat) : unk s k (t.drop k) = ((rws 0 ((t.drop k).map small)).find? fun p => !known s (rowOf ((t.drop k).map small) p)).map fun p => (k + p.1, p.2 - p.1) :=
  unk_rows s ((t.drop k).map small) k _ (t.drop k) 0 (Nat.le_refl _) rfl
theorem rws_in : ∀ (n : Nat) (l : Bytes) (a : Nat), l.length ≤ n → ∀ p ∈ rws a l, p.1 ≤ p.2 ∧ p.2 ≤ a + l.length
  | _, [], a, _, p, hp => by
    rw [rws_nil] at hp
    cases hp
  | 0, _ :: _, _, h, _, _ => by simp at h
  | n + 1, c :: r, a, h, p, hp => by
    rw [List.length_cons] at h
    by_cases hc : letter c = true
    · rw [rws_row hc] at hp
      have hle : ((c :: r).takeWhile letter).length ≤ (c :: r).length := (List.takeWhile_sublist _).length_le
      have hpos : 1 ≤ ((c :: r).takeWhile letter).length := tw_pos hc
      rcases List.mem_cons.mp hp with e | hp
      · rw [e]
        exact ⟨Nat.le_add_right _ _, Nat.add_le_add_left hle _⟩
      · have := rws_in n _ _ (by rw [List.length_drop, List.length_cons]; omega) p hp
        rw [List.length_drop] at this
        refine ⟨this.1, ?_⟩
        have := this.2
        omega
    · rw [rws_skip hc] at hp
      have := rws_in n r (a + 1) (by omega) p hp
      rw [List.length_cons]
      refine ⟨this.1, ?_⟩
      have := this.2
      omega
def spNear (P : Program) (w : World) (K : PySem.W.Frag) (cs : Cs) : Sp := fun vs H Q _ => ∃ (p a : Addr) (s : Abs) (M : Addr → Prop) (l : Bytes) (k : Nat), vs = [.ref p, .ref a, iv k] ∧ LexAt P w cs H p s M ∧ Ok s ∧ SqL K H a (nv l) ∧ l.length ≤ 30000 ∧ Post P w cs H p M s (.near l k) Q
def spCheck (P : Program) (w : World) (K : PySem.W.Frag) (cs : Cs) : Sp := fun vs H Q _ => ∃ (p a : Addr) (s : Abs) (M : Addr → Prop) (l : Bytes) (k : Nat), vs = [.ref p, .ref a, iv k] ∧ LexAt P w cs H p s M ∧ Ok s ∧ SqL K H a (nv l) ∧ l.length ≤ 30000 ∧ Post P w cs H p M s (.check l k) Q
theorem stepNear1 {s : Abs} {l : Bytes} {k : Nat} (h : isLetters 1 40 l = false) : step s (.near l k) = (s, .num (-22)) := by
  show (if isLetters 1 FORM l = false then _ else _) = _
  rw [if_pos (show isLetters 1 FORM l = false from h)]
theorem stepNear2 {s : Abs} {l : Bytes} {k : Nat} (h : isLetters 1 40 l = true) : step s (.near l k) = (s, told (near s l)[k]?) := by
  show (if isLetters 1 FORM l = false then _ else _) = _
  rw [if_neg (show ¬ isLetters 1 FORM l = false from fun z => by rw [show isLetters 1 FORM l = true from h] at z; cases z)]
theorem stepCheck1 {s : Abs} {l : Bytes} {k : Nat} (h : 4096 < l.length ∨ l.length < k) : step s (.check l k) = (s, .num (-22)) := by
  show (if TEXT < l.length ∨ l.length < k then _ else _) = _
  rw [if_pos (show TEXT < l.length ∨ l.length < k from h)]
theorem stepCheck2 {s : Abs} {l : Bytes} {k : Nat} (h : ¬ (4096 < l.length ∨ l.length < k)) : step s (.check l k) = (s, match unk s k (l.drop k) with | none => .num 0 | some p => .some_ [p.1, p.2]) := by
  show (if TEXT < l.length ∨ l.length < k then _ else _) = _
  rw [if_neg (show ¬ (TEXT < l.length ∨ l.length < k) from h), unk_eq (by rw [List.length_drop]; omega)]
  cases unk s k (l.drop k) <;> rfl
theorem find_take {α : Type} {l : List α} {f : α → Bool} {i : Nat} {x : α} (h : (l.take i).find? f = none) (hx : l[i]? = some x) (hf : f x = true) : l.find? f = some x := by
  obtain ⟨h1, h2⟩ := List.getElem?_eq_some_iff.mp hx
  have e : l = l.take i ++ x :: l.drop (i + 1) := by
    rw [← h2, ← List.drop_eq_getElem_cons h1, List.take_append_drop]
  rw [e, List.find?_append, h, List.find?_cons, hf]
  rfl
theorem find_more {α : Type} {l : List α} {f : α → Bool} {i : Nat} {x : α} (h : (l.take i).find? f = none) (hx : l[i]? = some x) (hf : f x = false) : (l.take (i + 1)).find? f = none := by
  rw [take_snoc hx, List.find?_append, h, List.find?_cons, hf]
  rfl
section
variable {P : Program} {w : World} {K : PySem.W.Frag} {mg : Str → Option Value} {base : Heap}
theorem scNear : FnScope ["self", "signs", "k", "known", "step"] ["self", "signs", "k"] (defScope (inClass (top 56) 8)) := ⟨rfl, rfl, rfl, by decide +kernel, rfl, by decide +kernel, by decide +kernel⟩
theorem ok_near {f : Addr} {fd : FuncData} {cs : Cs} (F : Fun K "near" "Lexicon.near" (inClass (top 56) 8) f fd) (G : Glo mg) (T : LexCls K cs.L) (TT : TabCls K cs.T) (C1 : MCal P w K mg base cs.T "is_known" ["self", "form"] 1 (spKnown cs.T))
    (C2 : Cal P w K mg base "is_row_of_letters" ["signs", "least", "most"] 2 (spRow K)) (C3 : Cal P w K mg base "one_of" ["rows", "k"] 1 spOneOf) (C4 : Cal P w K mg base "one_step_off" ["letters"] 2 (spSteps K)) : FnOk P w K mg base CX0 3 f fd ["self", "signs", "k"] (spNear P w K cs) := by
  refine F.ok scNear (fun vs H Q E h => ?_) (fun cdv A outer s H vs Q E hr h => ?_)
  · obtain ⟨p, a, s, M, l, k, rfl, _⟩ := h
    rfl
  · obtain ⟨p, a, s, M, l, k, rfl, L0, ok, hS, hL, post⟩ := h
    have hr1 : Room 1 _ := hr.mono (by decide)
    have hu := hu_of hr
    refine ⟨_, pss_cons (ps_if (pt_not (pt_val (pe_cal C2 hr (pa_cons (pv 1) (pa_cons pe_int (pa_cons (pe_gi G.formMax) pa_nil)))))) (pss_one (ps_ret (pe_lst (pa_cons (pe_gi G.notOk) pa_nil)))) pss_nil)
      (pss_cons (ps_set (i := 3) scNear.nd rfl (Or.inl rfl) pe_bnew)
      (pss_cons (ps_for PassesOwn.never rfl (pi_list (pe_cal C4 hr (pa_cons (pe_callTy call_tuple_of (by rfl) G.tuple boot_tuple1 (pa_cons (pv 1) pa_nil)) pa_nil))) (pg_name (i := 4) scNear.nd rfl (Or.inl rfl))
        (pss_one (ps_if (pt_val (pe_mcal (pe_fld (pv 0) rfl) TT.cl C1 hr1 (pa_cons (pv 4) pa_nil))) (pss_one (ps_dput hu (pv 3) (pv 4) pe_bl rfl)) pss_nil)))
      (pss_one (ps_ret (pe_cal C3 hr1 (pa_cons (pe_callB (cr_sortedB rfl) (by rfl) G.sorted boot_sorted1 (pa_cons (pv 3) pa_nil)) (pa_cons (pv 2) pa_nil))))))), ?_⟩
    obtain ⟨dx, rf, ws, wn, sd, tb, RF, was, XS, SD, MT, L, TB⟩ := id L0
    refine ⟨_, rfl, a, l, 1, 40, rfl, hS, hL, fun H1 s1 => ⟨_, rfl, ?_⟩⟩
    cases e : isLetters 1 40 l with
    | false =>
      refine iteT ?_
      exact ⟨(by show 1 ≤ sizeLine; decide), fun q hq => post.ret L0 (stepNear1 e) s1 hq rfl⟩
    | true =>
      refine iteF ?_
      have he := isLetters_iff.mp e
      intro kn hkn
      have hkn0 : H kn = none := by
        cases z : H kn with
        | none => rfl
        | some o =>
          rw [s1 _ _ z] at hkn
          cases hkn
      have s2 : Same H (upd H1 kn (bd [])) := same_new s1 hkn
      refine ⟨_, rfl, a, _, rfl, .inl ⟨s2.seq hS, fun t ht => ?_⟩⟩
      have s3 : Same (upd H1 kn (bd [])) (upd (upd H1 kn (bd [])) t (.tup (nv l))) := same_new (Same.refl _) ht
      refine ⟨t, l, rfl, upd_same, by omega, fun r as H4 s4 hr4 hT4 => ?_⟩
      have s24 : Same H H4 := s2.trans (s3.trans s4)
      have hkn4 : H4 kn = some (bd []) := s4 _ _ (s3 _ _ upd_same)
      have lst : as.length ≤ 54 * 41 := by
        rw [Paired.length hT4]
        have h1 : (stepsOf l).length ≤ (stepsTo l (l.length + 1)).length := List.length_filter_le _ _
        have h2 := stepsTo_len l (l.length + 1)
        have h3 : 54 * (l.length + 1) ≤ 54 * 41 := Nat.mul_le_mul_left _ (by omega)
        omega
      obtain ⟨tdx, fa, pw, A', B, TB'⟩ := id TB
      refine ⟨r, rfl, ⟨_, SqL.of hr4⟩, for_list (K := K) (a := r) (xs := as.map V.ref) (fun i σ H' => ∃ (l' : BD) (v : Option V), σ = [some (.ref p), some (.ref a), some (iv k), some (.ref kn), v] ∧ Same H H' ∧ H' r = some (.lst (as.map V.ref)) ∧ TupsAt H' as (stepsOf l) ∧ H' kn = some (bd l') ∧
        (l'.map (·.1)).Nodup ∧ (∀ x, x ∈ l'.map (·.1) ↔ x ∈ (stepsOf l).take i ∧ Known s x) ∧ l'.length ≤ i) ?_ ?_ ?_ ?_⟩
      · refine ⟨[], none, rfl, s24, hr4, hT4, hkn4, List.nodup_nil, fun x => ?_, Nat.le_refl _⟩
        rw [List.take_zero]
        exact ⟨fun z => (nomatch z), fun z => (nomatch z.1)⟩
      · rintro i σ H' _ ⟨l', v, rfl, _, z, _⟩
        exact SqL.of z
      · rintro i x σ H' hx ⟨l', v, rfl, s5, hr5, hT5, hkn5, nd5, hm5, ll5⟩
        rw [List.getElem?_map] at hx
        obtain ⟨q, hq, rfl⟩ := Option.map_eq_some_iff.mp hx
        obtain ⟨y, hy, hqy⟩ := paired_get hT5 hq
        have hil : i < as.length := (List.getElem?_eq_some_iff.mp hq).1
        refine ⟨_, rfl, p, cs.L, dx, _, _, rfl, s5 _ _ L.obj, T.cl, T.n6, lexF_6 _ _ _ _ _ _, tb, tdx, _, rfl, s5 _ _ TB'.obj, tabF_no _ _, _, rfl, tb, q, phi s, MT, y, rfl, TB.mono (fun b o z _ => s5 b o z) (fun _ h => h), hqy, fun res hres => ⟨_, rfl, ?_⟩⟩
        rw [known_phi] at hres
        have tk := take_snoc hy
        cases res with
        | true =>
          refine iteT ?_
          have big : 10000 ≤ sizeLine := by decide
          refine ⟨_, rfl, _, rfl, kn, _, rfl, bd_put hkn5 hqy (by omega), ?_⟩
          have nrk : r ≠ kn := ne_of hr5 hkn5 (fun z => nomatch z)
          refine ⟨putK l' y (.bl true), _, rfl, same_upd s5 hkn0, by rw [upd_ne nrk]; exact hr5, Paired.mapP hT5 fun b z zz => by rw [upd_ne (ne_of zz hkn5 (fun z => nomatch z))]; exact zz, upd_same, nodup_put nd5, fun x => ?_, ?_⟩
          · rw [mem_put, hm5, tk, List.mem_append, List.mem_singleton]
            constructor
            · rintro (z | z)
              · rw [z]
                exact ⟨.inr rfl, hres.mp rfl⟩
              · exact ⟨.inl z.1, z.2⟩
            · rintro ⟨z | z, z2⟩
              · exact .inr ⟨z, z2⟩
              · exact .inl z
          · have := length_putK l' y (.bl true)
            omega
        | false =>
          refine iteF ?_
          refine ⟨l', _, rfl, s5, hr5, hT5, hkn5, nd5, fun x => ?_, by omega⟩
          rw [hm5, tk, List.mem_append, List.mem_singleton]
          constructor
          · exact fun z => ⟨.inl z.1, z.2⟩
          · rintro ⟨z | z, z2⟩
            · exact ⟨z, z2⟩
            · rw [z] at z2
              exact absurd (hres.mpr z2) Bool.false_ne_true
      · rintro σ H' ⟨l', v, rfl, s5, hr5, hT5, hkn5, nd5, hm5, ll5⟩
        have elen : (as.map V.ref).length = (stepsOf l).length := by rw [List.length_map]; exact Paired.length hT5
        rw [elen, List.take_length] at hm5
        have kl : ∀ {x : Bytes}, Known s x → isLetters 1 40 x = true := fun ⟨n, j, _, _, z⟩ => form_ok ok z
        refine ⟨_, rfl, kn, l', rfl, hkn5, fun x hx z => ?_, fun q2 bs ks hq2 hT6 hP6 hR6 => ?_⟩
        · have := (isLetters_iff.mp (kl ((hm5 x).mp hx).2)).1
          rw [z] at this
          exact absurd this (by decide)
        have s6 : Same H (upd H' q2 (.lst (bs.map V.ref))) := same_new s5 hq2
        have en : near s l = ks := near_eq hR6 fun y => by
          rw [hP6.mem_iff, hm5]
          constructor
          · rintro ⟨z1, z2⟩
            exact ⟨z2, (mem_steps (isLetters_iff.mp (kl z2)).2.2).mp z1⟩
          · rintro ⟨z1, z2⟩
            exact ⟨(mem_steps (isLetters_iff.mp (kl z1)).2.2).mpr z2, z1⟩
        refine ⟨_, rfl, q2, bs, ks, k, rfl, upd_same, hT6.mono (same_new (Same.refl _) hq2), fun x hx => ?_, fun q3 H7 hq3 s7 hq7 => ?_⟩
        · have := (isLetters_iff.mp (kl ((hm5 x).mp (hP6.mem_iff.mp hx)).2)).2.1
          omega
        · have hq0 : H q3 = none := by
            cases z : H q3 with
            | none => rfl
            | some o =>
              rw [s6 _ _ z] at hq3
              cases hq3
          refine post.at L0 (stepNear2 e) (s6.trans s7) hq0 hq7 ?_
          rw [en]
          cases ks[k]? with
          | none => rfl
          | some y =>
            show (V.int 1 :: (Kct5Neutral.nums y).map V.int) = V.int 1 :: nv y
            rw [nums_nv]
theorem scCheck : FnScope ["self", "signs", "start", "text", "row", "sign"] ["self", "signs", "start"] (defScope (inClass (top 56) 9)) := ⟨rfl, rfl, rfl, by decide +kernel, rfl, by decide +kernel, by decide +kernel⟩
theorem ok_check {f : Addr} {fd : FuncData} {cs : Cs} (F : Fun K "check" "Lexicon.check" (inClass (top 56) 9) f fd) (G : Glo mg) (T : LexCls K cs.L) (TT : TabCls K cs.T) (C1 : MCal P w K mg base cs.T "is_known" ["self", "form"] 1 (spKnown cs.T))
    (C2 : Cal P w K mg base "taken_as_small" ["sign"] 1 spSmall) (C3 : Cal P w K mg base "rows_of_letters" ["signs"] 3 (spRowsOf K)) : FnOk P w K mg base CX0 4 f fd ["self", "signs", "start"] (spCheck P w K cs) := by
  refine F.ok scCheck (fun vs H Q E h => ?_) (fun cdv A outer s H vs Q E hr h => ?_)
  · obtain ⟨p, a, s, M, l, k, rfl, _⟩ := h
    rfl
  · obtain ⟨p, a, s, M, l, k, rfl, L0, ok, hS, hL, post⟩ := h
    have hr1 : Room 1 _ := hr.mono (by decide)
    refine ⟨_, pss_cons (ps_if (pw_or (pt_cmpR op_gt (pe_callB call_len_seq (by rfl) G.len PySem.boot_len (pa_cons (pv 1) pa_nil)) (pe_gi G.textBytes) (nomark _)) (pw_or1 (pt_cmpR op_gt (pv 2) (pe_callB call_len_seq (by rfl) G.len PySem.boot_len (pa_cons (pv 1) pa_nil)) (nomark _)))).pt
        (pss_one (ps_ret (pe_lst (pa_cons (pe_gi G.notOk) pa_nil)))) pss_nil)
      (pss_cons (ps_setLc rfl scCheck.nd (i := 3) rfl rfl (sw_true rfl rfl rfl (by decide +kernel)) (pi_list (pe_slice sl_list (pv 1) (po_some (pv 2)) po_none)) (own := [("sign", 5)]) (blkOk_by (by show blkC ["self", "signs", "start", "text", "row", "sign"] (defScope (inClass (top 56) 9)) _ _ = true; decide +kernel))
        (fun _ _ _ _ _ => pg_name (i := 5) scCheck.nd rfl (Or.inl rfl)) (fun _ _ _ _ _ => pts_nil) (fun _ _ _ _ _ => pe_cal C2 hr1 (pa_cons (pv 5) pa_nil)))
      (pss_cons (ps_for PassesOwn.never rfl (pi_list (pe_cal C3 hr (pa_cons (pv 3) pa_nil))) (pg_name (i := 4) scCheck.nd rfl (Or.inl rfl))
        (pss_one (ps_if (pt_not (pt_val (pe_mcal (pe_fld (pv 0) rfl) TT.cl C1 hr1 (pa_cons (pe_callTy call_tuple_of (by rfl) G.tuple boot_tuple1 (pa_cons (pe_slice sl_list (pv 3) (po_some (pe_ix ix_tup (pv 4) pe_int (fun _ _ => rfl))) (po_some (pe_ix ix_tup (pv 4) pe_int (fun _ _ => rfl)))) pa_nil)) pa_nil))))
          (pss_one (ps_ret (pe_lst (pa_cons pe_int (pa_cons (pe_op op_add (pv 2) (pe_ix ix_tup (pv 4) pe_int (fun _ _ => rfl))) (pa_cons (pe_op op_sub (pe_ix ix_tup (pv 4) pe_int (fun _ _ => rfl)) (pe_ix ix_tup (pv 4) pe_int (fun _ _ => rfl))) pa_nil)))))) pss_nil)))
      (pss_one (ps_ret (pe_lst (pa_cons pe_int pa_nil)))))), ?_⟩
    obtain ⟨dx, rf, ws, wn, sd, tb, RF, was, XS, SD, MT, L, TB⟩ := id L0
    refine ⟨_, rfl, a, _, rfl, .inl hS, _, _, rfl, rfl, _, rfl, ?_⟩
    rw [nv_length]
    by_cases h1 : 4096 < l.length
    · rw [decide_eq_true (show (4096 : Int) < (l.length : Int) by omega)]
      refine iteT (iteT ?_)
      exact ⟨(by show 1 ≤ sizeLine; decide), fun q hq => post.ret L0 (stepCheck1 (.inl h1)) (Same.refl H) hq rfl⟩
    rw [decide_eq_false (show ¬ (4096 : Int) < (l.length : Int) by omega)]
    refine iteF ?_
    refine ⟨_, rfl, _, rfl, a, _, rfl, .inl hS, _, _, rfl, rfl, _, rfl, ?_⟩
    rw [nv_length]
    by_cases h2 : l.length < k
    · rw [decide_eq_true (show (l.length : Int) < (k : Int) by omega)]
      refine iteT ?_
      exact ⟨(by show 1 ≤ sizeLine; decide), fun q hq => post.ret L0 (stepCheck1 (.inr h2)) (Same.refl H) hq rfl⟩
    rw [decide_eq_false (show ¬ (l.length : Int) < (k : Int) by omega)]
    refine iteF ?_
    have es := stepCheck2 (s := s) (l := l) (k := k) (fun z => z.elim h1 h2)
    rw [unk_all] at es
    obtain ⟨text, et⟩ : ∃ text, text = (l.drop k).map small := ⟨_, rfl⟩
    rw [← et] at es
    have tl : text.length ≤ 4096 := by
      rw [et, List.length_map, List.length_drop]
      omega
    have big : 10000 ≤ sizeLine := by decide
    -- text
    refine ⟨_, rfl, _, rfl, _, rfl, a, _, rfl, hS, fun b hb => ?_⟩
    rw [cut_from]
    have s1 : Same H (upd H b (.lst (nv (l.drop k)))) := same_new (Same.refl H) hb
    have b1 : upd H b (.lst (nv (l.drop k))) b = some (.lst (nv (l.drop k))) := upd_same
    generalize upd H b (.lst (nv (l.drop k))) = H1 at s1 b1
    refine ⟨b, rfl, ⟨_, SqL.of b1⟩, fun D hD => lc_list (K := K) (a := b) (xs := nv (l.drop k)) (fun i H' => H' D = some (.lst (nv (((l.drop k).take i).map small))) ∧ Same H1 H') ⟨upd_same, same_new (Same.refl H1) hD⟩ (fun i H' _ h => SqL.of (h.2 _ _ b1)) ?_ ?_⟩
    · rintro i x H' hx ⟨g1, g2⟩
      obtain ⟨n, hn, rfl⟩ := nv_get hx
      have hil : i < (l.drop k).length := (List.getElem?_eq_some_iff.mp hn).1
      rw [List.length_drop] at hil
      refine ⟨rfl, _, rfl, n, rfl, _, g1, ?_, ?_, same_upd g2 hD⟩
      · rw [nv_length, List.length_map, List.length_take]
        omega
      · rw [upd_same, take_snoc hn, List.map_append, nv_append]
        rfl
    · rintro H2 ⟨g1, g2⟩
      rw [nv_length, List.take_length, ← et] at g1
      have s2 : Same H H2 := s1.trans g2
      -- for row in rows_of_letters(text)
      refine ⟨_, rfl, D, text, rfl, SqL.of g1, by omega, fun r as H3 s3 hr3 hP3 => ?_⟩
      have s23 := s2.trans s3
      obtain ⟨tdx, fa, pw, A', B, TB'⟩ := id TB
      have rin := rws_in text.length text 0 (Nat.le_refl _)
      refine ⟨r, rfl, ⟨_, SqL.of hr3⟩, for_list (K := K) (a := r) (xs := as.map V.ref) (fun i σ H' => ∃ (v : Option V), σ = [some (.ref p), some (.ref a), some (iv k), some (.ref D), v, none] ∧ Same H3 H' ∧ ((rws 0 text).take i).find? (fun p => !known s (rowOf text p)) = none) ?_ ?_ ?_ ?_⟩
      · exact ⟨none, rfl, Same.refl H3, rfl⟩
      · rintro i σ H' _ ⟨v, rfl, s4, _⟩
        exact SqL.of (s4 _ _ hr3)
      · rintro i x σ H' hx ⟨v, rfl, s4, hnone⟩
        rw [List.getElem?_map] at hx
        obtain ⟨q, hq, rfl⟩ := Option.map_eq_some_iff.mp hx
        obtain ⟨y, hy, hqy⟩ := paired_get hP3 hq
        obtain ⟨y1, y2⟩ := rin y (List.mem_of_getElem? hy)
        have s24 := s23.trans s4
        have hq4 := s4 _ _ hqy
        refine ⟨_, rfl, p, cs.L, dx, _, _, rfl, s24 _ _ L.obj, T.cl, T.n6, lexF_6 _ _ _ _ _ _, tb, tdx, _, rfl, s24 _ _ TB'.obj, tabF_no _ _, ?_⟩
        refine ⟨_, rfl, _, rfl, q, _, _, _, rfl, rfl, SqT.of hq4, at_of (j := 0) rfl rfl, _, rfl, _, rfl, q, _, _, _, rfl, rfl, SqT.of hq4, at_of (j := 1) rfl rfl, _, rfl, D, _, rfl, SqL.of (s4 _ _ (s3 _ _ g1)), fun c hc => ?_⟩
        rw [cut_nat _ _ _ y1]
        have s5 : Same H' (upd H' c (.lst (nv ((text.drop y.1).take (y.2 - y.1))))) := same_new (Same.refl H') hc
        refine ⟨c, _, rfl, .inl ⟨SqL.of upd_same, fun t ht => ?_⟩⟩
        have s6 : Same H' (upd (upd H' c (.lst (nv ((text.drop y.1).take (y.2 - y.1))))) t (.tup (nv ((text.drop y.1).take (y.2 - y.1))))) := same_new s5 ht
        have s26 := s24.trans s6
        have t6 : upd (upd H' c (.lst (nv ((text.drop y.1).take (y.2 - y.1))))) t (.tup (nv ((text.drop y.1).take (y.2 - y.1)))) t = some (.tup (nv (rowOf text y))) := upd_same
        generalize upd (upd H' c (.lst (nv ((text.drop y.1).take (y.2 - y.1))))) t (.tup (nv ((text.drop y.1).take (y.2 - y.1)))) = H6 at s6 s26 t6
        refine ⟨tb, t, phi s, MT, rowOf text y, rfl, TB.mono (fun b o z _ => s26 b o z) (fun _ h => h), t6, fun res hres => ⟨_, rfl, ?_⟩⟩
        rw [known_phi, ← known_iff] at hres
        have hk : known s (rowOf text y) = res := by
          cases res with
          | true => exact hres.mp rfl
          | false =>
            cases z : known s (rowOf text y) with
            | false => rfl
            | true => exact absurd (hres.mpr z) Bool.false_ne_true
        have hq6 := s6 _ _ hq4
        cases res with
        | true =>
          refine iteF ?_
          exact ⟨_, rfl, s4.trans s6, find_more hnone hy (by rw [hk]; rfl)⟩
        | false =>
          refine iteT ?_
          have ef := find_take hnone hy (by rw [hk]; rfl)
          rw [ef] at es
          refine ⟨_, rfl, _, rfl, q, _, _, _, rfl, rfl, SqT.of hq6, at_of (j := 0) rfl rfl, _, _, rfl, rfl, _, rfl, q, _, _, _, rfl, rfl, SqT.of hq6, at_of (j := 1) rfl rfl, _, rfl, q, _, _, _, rfl, rfl, SqT.of hq6, at_of (j := 0) rfl rfl, _, _, rfl, rfl, (by show 3 ≤ sizeLine; decide), fun q2 hq2 => ?_⟩
          refine post.ret L0 es s26 hq2 ?_
          show [V.int 1, V.int ((k + y.1 : Nat) : Int), V.int ((y.2 - y.1 : Nat) : Int)] = [V.int 1, V.int ((k : Int) + (y.1 : Int)), V.int ((y.2 : Int) - (y.1 : Int))]
          rw [ceq (show ((k + y.1 : Nat) : Int) = (k : Int) + (y.1 : Int) by omega), ceq (show ((y.2 - y.1 : Nat) : Int) = (y.2 : Int) - (y.1 : Int) by omega)]
      · rintro σ H' ⟨v, rfl, s4, hnone⟩
        have elen : (as.map V.ref).length = (rws 0 text).length := by rw [List.length_map]; exact Paired.length hP3
        rw [elen, List.take_length] at hnone
        rw [hnone] at es
        exact ⟨(by show 1 ≤ sizeLine; decide), fun q hq => post.ret L0 es (s23.trans s4) hq rfl⟩
end
end Bw
set_option Elab.async false
set_option linter.all false
set_option maxRecDepth 100000
set_option maxHeartbeats 4000000
namespace Bw
open PySem PySem.Spec PyProof.Rows L2 Kct5
theorem firstOf_ne {ps : List (Part × Part)} {w x : Bytes} (h : firstOf ps w = some x) : x ≠ [] := by
  unfold firstOf at h
  obtain ⟨p, _, hp⟩ := List.exists_of_findSome?_eq_some h
  exact made_some hp
theorem firstOf_back (ps : List (Part × Part)) (w : Bytes) : (if (firstOf ps w).getD [] = [] then none else some ((firstOf ps w).getD [])) = firstOf ps w := by
  cases h : firstOf ps w with
  | none => rfl
  | some x => exact if_neg (firstOf_ne h)
theorem mem_said {s : Abs} {n j : Nat} : [n, j] ∈ (s.odd.map fun o => [o.word, o.slot]) ↔ saidAt s n j = true := by
  unfold saidAt
  rw [List.mem_map, List.any_eq_true]
  constructor
  · rintro ⟨o, ho, e⟩
    injection e with e1 e2
    injection e2 with e2 _
    exact ⟨o, ho, by rw [e1, e2]; simp⟩
  · rintro ⟨o, ho, e⟩
    rw [Bool.and_eq_true, beq_iff_eq, beq_iff_eq] at e
    exact ⟨o, ho, by rw [e.1, e.2]⟩
theorem said_val {P : Program} {w : World} {cs : Cs} {H : Hp} {p dx rf ws wn sd tb : Addr} {RF : BD} {was : List Addr} {XS : PEs} {SD : BD} {s : Abs} {M MT : Addr → Prop} (L : Lex P w cs H p dx rf ws wn sd tb RF was XS SD s M MT) (n j : Nat) : (valV SD [n, j]).isSome = saidAt s n j := by
  rw [Bool.eq_iff_iff, ← valV_mem, L.d1, mem_said]
theorem ext_ext {MT : Addr → Prop} {H H3 : Hp} (s : Same H H3) {b : Addr} (h : Ext MT H3 b) : Ext MT H b := by
  rcases h with h | h
  · exact .inl h
  · refine .inr ?_
    cases e : H b with
    | none => rfl
    | some o =>
      rw [s _ _ e] at h
      cases h
def spTry (P : Program) (w : World) (K : PySem.W.Frag) (cs : Cs) : Sp := fun vs H Q _ => ∃ (p rl : Addr) (n j : Nat) (s : Abs) (M MT : Addr → Prop) (dx rf ws wn sd tb : Addr) (RF : BD) (was : List Addr) (XS : PEs) (SD : BD) (φ : Phi) (as : List Addr) (ps : List (Part × Part)) (v : Word),
  vs = [.ref p, .ref rl, iv n, iv j] ∧ Lex P w cs H p dx rf ws wn sd tb RF was XS SD s M MT ∧ TabAt cs.T H tb φ MT ∧ SqL K H rl (as.map V.ref) ∧ RulesAt cs.R cs.P H as ps ∧ s.words[n]? = some v ∧ isLetters 1 24 v.lemma_ = true ∧ n < 512 ∧ j < 16 ∧
  ∀ H' : Hp, Keep MT H H' → TabAt cs.T H' tb (tried φ (saidAt s n j) [n, j] (firstOf ps v.lemma_)) (Ext MT H) → Q .non H'
def spOdd (P : Program) (w : World) (K : PySem.W.Frag) (cs : Cs) : Sp := fun vs H Q _ => ∃ (p a : Addr) (s : Abs) (M : Addr → Prop) (l : Bytes) (n j : Nat), vs = [.ref p, iv n, iv j, .ref a] ∧ LexAt P w cs H p s M ∧ Ok s ∧ SqL K H a (nv l) ∧ l.length ≤ 30000 ∧ Post P w cs H p M s (.odd n j l) Q
section
variable {P : Program} {w : World} {K : PySem.W.Frag} {mg : Str → Option Value} {base : Heap}
theorem scTry : FnScope ["self", "rules", "number", "slot", "place"] ["self", "rules", "number", "slot"] (defScope (inClass (top 56) 4)) := ⟨rfl, rfl, rfl, by decide +kernel, rfl, by decide +kernel, by decide +kernel⟩
theorem ok_try {f : Addr} {fd : FuncData} {cs : Cs} (F : Fun K "try_rules" "Lexicon.try_rules" (inClass (top 56) 4) f fd) (G : Glo mg) (T : LexCls K cs.L) (TT : TabCls K cs.T) (C1 : MCal P w K mg base cs.T "form_of" ["self", "place"] 1 (spFormOf cs.T))
    (C2 : MCal P w K mg base cs.T "give_form" ["self", "place", "form"] 2 (spGive cs.T)) (C3 : Cal P w K mg base "first_form" ["rules", "letters"] 4 (spFirst K cs.R cs.P)) : FnOk P w K mg base CX0 5 f fd ["self", "rules", "number", "slot"] (spTry P w K cs) := by
  refine F.ok scTry (fun vs H Q E h => ?_) (fun cdv A outer s H vs Q E hr h => ?_)
  · obtain ⟨p, rl, n, j, s, M, MT, dx, rf, ws, wn, sd, tb, RF, was, XS, SD, φ, as, ps, v, rfl, _⟩ := h
    rfl
  · obtain ⟨p, rl, n, j, s, M, MT, dx, rf, ws, wn, sd, tb, RF, was, XS, SD, φ, as, ps, v, rfl, L, TB, hS, hR, hv, hvl, hn, hj, k⟩ := h
    have hr1 : Room 1 _ := hr.mono (by decide)
    have hr2 : Room 2 _ := hr.mono (by decide)
    have hu := hu_of hr
    refine ⟨_, pss_cons (ps_set (i := 4) scTry.nd rfl (Or.inl rfl) (pe_tup (pa_cons (pv 2) (pa_cons (pv 3) pa_nil))))
      (pss_one (ps_if (pw_and (pt_cmp (pc_dnotin hu (pv 4) (pe_fld (pv 0) rfl))) (pw_and1 (pt_cmpR op_eq (pe_callB call_len_seq (by rfl) G.len PySem.boot_len (pa_cons (pe_mcal (pe_fld (pv 0) rfl) TT.cl C1 hr1 (pa_cons (pv 4) pa_nil)) pa_nil)) pe_int (nomark _)))).pt
        (pss_one (ps_expr (pe_mcal (pe_fld (pv 0) rfl) TT.cl C2 hr2 (pa_cons (pv 4) (pa_cons (pe_cal C3 hr (pa_cons (pv 1) (pa_cons (pe_ix ix_tup (pe_ix ix_list (pe_fld (pv 0) rfl) (pv 2) (fun _ _ => rfl)) pe_int (fun _ _ => rfl)) pa_nil))) pa_nil))))) pss_nil)), ?_⟩
    refine ⟨_, rfl, _, rfl, (by show 2 ≤ sizeLine; decide), fun t ht => ?_⟩
    have s1 : Same H (upd H t (.tup [iv n, iv j])) := same_new (Same.refl H) ht
    have t1 : upd H t (.tup [iv n, iv j]) t = some (.tup (nv [n, j])) := upd_same
    generalize upd H t (.tup [iv n, iv j]) = H1 at s1 t1
    obtain ⟨tdx, fa, pw, A', B, TB'⟩ := id TB
    have stay : tried φ (saidAt s n j) [n, j] (firstOf ps v.lemma_) = φ → ∀ H2, Same H H2 → Q .non H2 := fun e H2 s2 => k H2 (Same.keep s2) (by rw [e]; exact TB.mono (fun b o z _ => s2 b o z) fun _ h => .inl h)
    refine ⟨_, rfl, _, rfl, p, cs.L, dx, _, _, rfl, s1 _ _ L.obj, T.cl, T.n5, lexF_5 _ _ _ _ _ _, sd, valV SD [n, j], rfl, bd_get (s1 _ _ L.hsd) t1, _, rfl, ?_⟩
    rw [said_val L]
    cases es : saidAt s n j with
    | true =>
      refine iteF (iteF ?_)
      exact stay (by unfold tried; rw [es, if_pos (.inl rfl)]) H1 s1
    | false =>
      refine iteT ?_
      refine ⟨_, rfl, p, cs.L, dx, _, _, rfl, s1 _ _ L.obj, T.cl, T.n6, lexF_6 _ _ _ _ _ _, tb, tdx, _, rfl, s1 _ _ TB'.obj, tabF_no _ _, _, rfl, tb, t, φ, MT, [n, j], rfl, TB.mono (fun b o z _ => s1 b o z) (fun _ h => h), t1, fun q H2 s2 hq => ?_⟩
      refine ⟨q, _, rfl, .inr (SqT.of hq), rfl, _, rfl, ?_⟩
      rw [nv_length]
      have s12 := s1.trans s2
      cases ef : φ [n, j] with
      | some x =>
        have hx : x ≠ [] := (TB'.dom _ _ ef).2
        have hxl : 0 < x.length := List.length_pos_iff.mpr hx
        refine iteEqN (iv_ne (by show ¬ ((x.length : Nat) : Int) = 0; omega)) ?_
        exact stay (by unfold tried; rw [if_pos (.inr (by rw [ef]; exact fun z => nomatch z))]) H2 s12
      | none =>
        refine iteEq rfl ?_
        have et : tried φ (saidAt s n j) [n, j] (firstOf ps v.lemma_) = fset φ [n, j] (firstOf ps v.lemma_) := by
          unfold tried
          rw [if_neg (by rw [es, ef]; simp)]
        rw [et] at k
        have hlt : n < s.words.length := (List.getElem?_eq_some_iff.mp hv).1
        have hla : was.length = s.words.length := Paired.length L.w1
        obtain ⟨ea, hea⟩ : ∃ ea, was[n]? = some ea := ⟨_, List.getElem?_eq_getElem (by omega)⟩
        obtain ⟨v', hv', c, hc1, hc2⟩ := paired_get L.w1 hea
        rw [hv] at hv'
        cases hv'
        refine ⟨_, rfl, p, cs.L, dx, _, _, rfl, s12 _ _ L.obj, T.cl, T.n6, lexF_6 _ _ _ _ _ _, tb, tdx, _, rfl, s12 _ _ TB'.obj, tabF_no _ _, _, rfl, _, rfl, ?_⟩
        refine ⟨_, rfl, p, cs.L, dx, _, _, rfl, s12 _ _ L.obj, T.cl, T.n3, lexF_3 _ _ _ _ _ _, _, rfl, ws, _, _, _, rfl, rfl, SqL.of (s12 _ _ L.hws), atI_nat (by rw [List.getElem?_map, hea]; rfl), ea, _, _, _, rfl, rfl, SqT.of (s12 _ _ hc1), at_of (j := 1) rfl rfl, ?_⟩
        have hvi := isLetters_iff.mp hvl
        refine ⟨rl, c, as, ps, v.lemma_, rfl, s12.seq hS, hR.mono s12, ⟨s12 _ _ hc2, hvi.2.2, hvi.2.1⟩, fun q3 H3 s3 hq3 => ?_⟩
        have s13 := s12.trans s3
        refine ⟨tb, t, q3, φ, MT, [n, j], (firstOf ps v.lemma_).getD [], rfl, TB.mono (fun b o z _ => s13 b o z) (fun _ h => h), s3 _ _ (s2 _ _ t1), hq3, mem_allPlaces.mpr ⟨n, j, rfl, hn, hj⟩, fun H4 kp4 TB4 => ?_⟩
        rw [firstOf_back] at TB4
        exact k H4 (fun b o z h => kp4 b o (s13 b o z) h) (TB4.mono (fun _ _ z _ => z) fun b h => ext_ext s13 h)
theorem stepOdd1 {s : Abs} {n j : Nat} {l : Bytes} (h : 16 ≤ j ∨ isLetters 0 40 l = false) : step s (.odd n j l) = (s, .num (-22)) := by
  show (if SLOTS ≤ j ∨ isLetters 0 FORM l = false then _ else _) = _
  rw [if_pos (show SLOTS ≤ j ∨ isLetters 0 FORM l = false from h)]
theorem stepOdd2 {s : Abs} {n j : Nat} {l : Bytes} (h : ¬ (16 ≤ j ∨ isLetters 0 40 l = false)) (h2 : s.words.length ≤ n) : step s (.odd n j l) = (s, .num (-2)) := by
  show (if SLOTS ≤ j ∨ isLetters 0 FORM l = false then _ else _) = _
  rw [if_neg (show ¬ (SLOTS ≤ j ∨ isLetters 0 FORM l = false) from h), if_pos h2]
theorem stepOdd3 {s : Abs} {n j : Nat} {l : Bytes} (h : ¬ (16 ≤ j ∨ isLetters 0 40 l = false)) (h2 : ¬ s.words.length ≤ n) (h3 : saidAt s n j = true) : step s (.odd n j l) = (s, .num (-17)) := by
  show (if SLOTS ≤ j ∨ isLetters 0 FORM l = false then _ else _) = _
  rw [if_neg (show ¬ (SLOTS ≤ j ∨ isLetters 0 FORM l = false) from h), if_neg h2]
  show (if saidAt s n j = true then _ else _) = _
  rw [if_pos h3]
theorem stepOdd4 {s : Abs} {n j : Nat} {l : Bytes} (h : ¬ (16 ≤ j ∨ isLetters 0 40 l = false)) (h2 : ¬ s.words.length ≤ n) (h3 : saidAt s n j = false) (h4 : 256 ≤ s.odd.length) : step s (.odd n j l) = (s, .num (-28)) := by
  show (if SLOTS ≤ j ∨ isLetters 0 FORM l = false then _ else _) = _
  rw [if_neg (show ¬ (SLOTS ≤ j ∨ isLetters 0 FORM l = false) from h), if_neg h2]
  show (if saidAt s n j = true then _ else _) = _
  rw [if_neg (by rw [h3]; exact Bool.false_ne_true), if_pos (show ODD ≤ s.odd.length from h4)]
theorem stepOdd5 {s : Abs} {n j : Nat} {l : Bytes} (h : ¬ (16 ≤ j ∨ isLetters 0 40 l = false)) (h2 : ¬ s.words.length ≤ n) (h3 : saidAt s n j = false) (h4 : ¬ 256 ≤ s.odd.length) : step s (.odd n j l) = (moreOdd s n j l, .num 0) := by
  show (if SLOTS ≤ j ∨ isLetters 0 FORM l = false then _ else _) = _
  rw [if_neg (show ¬ (SLOTS ≤ j ∨ isLetters 0 FORM l = false) from h), if_neg h2]
  show (if saidAt s n j = true then _ else _) = _
  rw [if_neg (by rw [h3]; exact Bool.false_ne_true), if_neg (show ¬ ODD ≤ s.odd.length from h4)]
  rfl
theorem scOdd : FnScope ["self", "number", "slot", "signs"] ["self", "number", "slot", "signs"] (defScope (inClass (top 56) 5)) := ⟨rfl, rfl, rfl, by decide +kernel, rfl, by decide +kernel, by decide +kernel⟩
theorem ok_odd {f : Addr} {fd : FuncData} {cs : Cs} (F : Fun K "odd" "Lexicon.odd" (inClass (top 56) 5) f fd) (G : Glo mg) (T : LexCls K cs.L) (TT : TabCls K cs.T) (C1 : MCal P w K mg base cs.T "give_form" ["self", "place", "form"] 2 (spGive cs.T))
    (C2 : Cal P w K mg base "is_row_of_letters" ["signs", "least", "most"] 2 (spRow K)) : FnOk P w K mg base CX0 3 f fd ["self", "number", "slot", "signs"] (spOdd P w K cs) := by
  refine F.ok scOdd (fun vs H Q E h => ?_) (fun cdv A outer s H vs Q E hr h => ?_)
  · obtain ⟨p, a, s, M, l, n, j, rfl, _⟩ := h
    rfl
  · obtain ⟨p, a, s, M, l, n, j, rfl, L0, ok, hS, hL, post⟩ := h
    have hu := hu_of hr
    refine ⟨_, pss_cons (ps_if (pw_or (pt_cmpR op_gt (pv 2) (pe_gi G.lastSlot) (nomark _)) (pw_or1 (pt_not (pt_val (pe_cal C2 hr (pa_cons (pv 3) (pa_cons pe_int (pa_cons (pe_gi G.formMax) pa_nil)))))))).pt (pss_one (ps_ret (pe_lst (pa_cons (pe_gi G.notOk) pa_nil)))) pss_nil)
      (pss_cons (ps_if (pt_cmpR op_ge (pv 1) (pe_callB call_len_seq (by rfl) G.len PySem.boot_len (pa_cons (pe_fld (pv 0) rfl) pa_nil)) (nomark _)) (pss_one (ps_ret (pe_lst (pa_cons (pe_gi G.noWord) pa_nil)))) pss_nil)
      (pss_cons (ps_if (pt_cmp (pc_din hu (pe_tup (pa_cons (pv 1) (pa_cons (pv 2) pa_nil))) (pe_fld (pv 0) rfl))) (pss_one (ps_ret (pe_lst (pa_cons (pe_gi G.isThere) pa_nil)))) pss_nil)
      (pss_cons (ps_if (pt_cmpR op_eq (pe_callB call_lenB (by rfl) G.len PySem.boot_len (pa_cons (pe_fld (pv 0) rfl) pa_nil)) (pe_gi G.mostSaid) (nomark _)) (pss_one (ps_ret (pe_lst (pa_cons (pe_gi G.full) pa_nil)))) pss_nil)
      (pss_cons (ps_dput hu (pe_fld (pv 0) rfl) (pe_tup (pa_cons (pv 1) (pa_cons (pv 2) pa_nil))) (pe_callTy call_tuple_of (by rfl) G.tuple boot_tuple1 (pa_cons (pv 3) pa_nil)) rfl)
      (pss_cons (ps_expr (pe_mcal (pe_fld (pv 0) rfl) TT.cl C1 hr (pa_cons (pe_tup (pa_cons (pv 1) (pa_cons (pv 2) pa_nil))) (pa_cons (pe_callTy call_tuple_of (by rfl) G.tuple boot_tuple1 (pa_cons (pv 3) pa_nil)) pa_nil))))
      (pss_one (ps_ret (pe_lst (pa_cons pe_int pa_nil))))))))), ?_⟩
    obtain ⟨dx, rf, ws, wn, sd, tb, RF, was, XS, SD, MT, L, TB⟩ := id L0
    have hla : was.length = s.words.length := Paired.length L.w1
    have one : (1 : Nat) ≤ sizeLine := by decide
    refine ⟨_, rfl, _, _, rfl, rfl, _, rfl, ?_⟩
    by_cases h1 : 16 ≤ j
    · rw [decide_eq_true (show (15 : Int) < (j : Int) by omega)]
      refine iteT (iteT ?_)
      exact ⟨one, fun q hq => post.ret L0 (stepOdd1 (.inl h1)) (Same.refl H) hq rfl⟩
    rw [decide_eq_false (show ¬ (15 : Int) < (j : Int) by omega)]
    refine iteF ?_
    refine ⟨_, rfl, a, l, 0, 40, rfl, hS, hL, fun H1 s1 => ⟨_, rfl, ?_⟩⟩
    cases e : isLetters 0 40 l with
    | false =>
      refine iteT ?_
      exact ⟨one, fun q hq => post.ret L0 (stepOdd1 (.inr e)) s1 hq rfl⟩
    | true =>
    refine iteF ?_
    have hno : ¬ (16 ≤ j ∨ isLetters 0 40 l = false) := fun z => z.elim h1 (fun z => by rw [e] at z; cases z)
    refine ⟨_, rfl, _, rfl, p, cs.L, dx, _, _, rfl, s1 _ _ L.obj, T.cl, T.n3, lexF_3 _ _ _ _ _ _, ws, _, rfl, .inl (SqL.of (s1 _ _ L.hws)), _, _, rfl, rfl, _, rfl, ?_⟩
    rw [List.length_map, hla]
    by_cases h2 : s.words.length ≤ n
    · rw [decide_eq_true (show (s.words.length : Int) ≤ (n : Int) by omega)]
      refine iteT ?_
      exact ⟨one, fun q hq => post.ret L0 (stepOdd2 hno h2) s1 hq rfl⟩
    rw [decide_eq_false (show ¬ (s.words.length : Int) ≤ (n : Int) by omega)]
    refine iteF ?_
    refine ⟨_, rfl, _, rfl, (by show 2 ≤ sizeLine; decide), fun t ht => ?_⟩
    have s2 : Same H (upd H1 t (.tup [iv n, iv j])) := same_new s1 ht
    have t2 : upd H1 t (.tup [iv n, iv j]) t = some (.tup (nv [n, j])) := upd_same
    generalize upd H1 t (.tup [iv n, iv j]) = H2 at s2 t2
    refine ⟨_, rfl, p, cs.L, dx, _, _, rfl, s2 _ _ L.obj, T.cl, T.n5, lexF_5 _ _ _ _ _ _, sd, valV SD [n, j], rfl, bd_get (s2 _ _ L.hsd) t2, _, rfl, ?_⟩
    rw [said_val L]
    cases es : saidAt s n j with
    | true =>
      refine iteT ?_
      exact ⟨one, fun q hq => post.ret L0 (stepOdd3 hno h2 es) s2 hq rfl⟩
    | false =>
    refine iteF ?_
    refine ⟨_, rfl, p, cs.L, dx, _, _, rfl, s2 _ _ L.obj, T.cl, T.n5, lexF_5 _ _ _ _ _ _, sd, SD, rfl, s2 _ _ L.hsd, rfl, _, rfl, ?_⟩
    have lsd : SD.length = s.odd.length := by
      have := congrArg List.length L.d1
      simpa using this
    rw [lsd]
    have hno' := ok.no
    by_cases h4 : 256 ≤ s.odd.length
    · refine iteEq (ceq (by omega)) ?_
      exact ⟨one, fun q hq => post.ret L0 (stepOdd4 hno h2 es h4) s2 hq rfl⟩
    refine iteEqN (iv_ne (by omega)) ?_
    have est := stepOdd5 hno h2 es h4
    -- self.said[(number, slot)] = tuple(signs)
    refine ⟨_, rfl, a, _, rfl, .inl ⟨s2.seq hS, fun t3 ht3 => ?_⟩⟩
    have s3 : Same H (upd H2 t3 (.tup (nv l))) := same_new s2 ht3
    refine ⟨_, rfl, p, cs.L, dx, _, _, rfl, s3 _ _ L.obj, T.cl, T.n5, lexF_5 _ _ _ _ _ _, _, rfl, _, rfl, (by show 2 ≤ sizeLine; decide), fun t4 ht4 => ?_⟩
    have s4 : Same H (upd (upd H2 t3 (.tup (nv l))) t4 (.tup [iv n, iv j])) := same_new s3 ht4
    have t4' : upd (upd H2 t3 (.tup (nv l))) t4 (.tup [iv n, iv j]) t4 = some (.tup (nv [n, j])) := upd_same
    generalize upd (upd H2 t3 (.tup (nv l))) t4 (.tup [iv n, iv j]) = H4 at s4 t4'
    have big : 10000 ≤ sizeLine := by decide
    refine ⟨sd, _, rfl, bd_put (s4 _ _ L.hsd) t4' (by omega), ?_⟩
    -- the state with one more saying, the table as it was
    have kp5 : Keep M H (upd H4 sd (bd (putK SD [n, j] (.ref t3)))) := Keep.upd (Same.keep s4) L.msd (s4 _ _ L.hsd) rfl
    have up : ∀ b o, H b = some o → b ≠ sd → upd H4 sd (bd (putK SD [n, j] (.ref t3))) b = some o := fun b o z hb => by rw [upd_ne hb]; exact s4 _ _ z
    have sd5 : upd H4 sd (bd (putK SD [n, j] (.ref t3))) sd = some (bd (putK SD [n, j] (.ref t3))) := upd_same
    have hsd_ne : ∀ {b : Addr} {o : HO}, H b = some o → o ≠ bd SD → b ≠ sd := fun z hne zz => by rw [zz, L.hsd] at z; exact hne (Option.some.inj z).symm
    have sol : ∀ b o, H b = some o → solid o = true → upd H4 sd (bd (putK SD [n, j] (.ref t3))) b = some o := fun b o z h => up b o z (hsd_ne z (fun q => by rw [q] at h; cases h))
    have fr5 : ∀ b, upd H4 sd (bd (putK SD [n, j] (.ref t3))) b = none → H b = none := fun b z => by
      cases q : H b with
      | none => rfl
      | some o =>
        by_cases hb : b = sd
        · rw [hb, sd5] at z
          cases z
        · rw [up b o q hb] at z
          cases z
    generalize upd H4 sd (bd (putK SD [n, j] (.ref t3))) = H5 at kp5 up sd5 sol fr5
    have hvn : valV SD [n, j] = none := by
      have := said_val L n j
      rw [es] at this
      cases q : valV SD [n, j] with
      | none => rfl
      | some y => rw [q] at this; cases this
    have L5 : Lex P w cs H5 p dx rf ws wn sd tb RF was XS (putK SD [n, j] (.ref t3)) (moreOdd s n j l) (Ext M H) MT := {
      obj := up _ _ L.obj (hsd_ne L.obj (fun z => nomatch z))
      hrf := up _ _ L.hrf L.ne
      hws := up _ _ L.hws (hsd_ne L.hws (fun z => nomatch z))
      hwn := up _ _ L.hwn (hsd_ne L.hwn (fun z => nomatch z))
      hsd := sd5
      r0 := L.r0
      r1 := fun c i h => let ⟨la, as, z1, z2, z3⟩ := L.r1 c i h; ⟨la, as, z1, up _ _ z2 (hsd_ne z2 (fun z => nomatch z)), z3.keep sol⟩
      r2 := fun kk la h => let ⟨z1, z2, z3, xs, z4⟩ := L.r2 kk la h; ⟨.inl z1, z2, z3, xs, up _ _ z4 (hsd_ne z4 (fun z => nomatch z))⟩
      r3 := L.r3
      rl := L.rl
      w1 := Paired.mapP L.w1 fun _ _ z => z.keep sol
      x1 := L.x1
      x2 := fun x hx => (L.x2 x hx).keep sol
      d1 := by
        rw [keys_put_new _ hvn, L.d1]
        show _ = (s.odd ++ [_]).map _
        rw [List.map_append]
        rfl
      mp := .inl L.mp
      mrf := .inl L.mrf
      mws := .inl L.mws
      mwn := .inl L.mwn
      msd := .inl L.msd
      sub := fun b h => .inl (L.sub b h)
      np := L.np
      nrf := L.nrf
      nws := L.nws
      nwn := L.nwn
      nsd := L.nsd
      ne := L.ne }
    have TB5 : TabAt cs.T H5 tb (phi s) MT := TB.mono (fun b o z h => by
      by_cases hb : b = sd
      · rcases h with h | h
        · rw [hb] at h
          exact (L.nsd h).elim
        · exact sol b o z h
      · exact up b o z hb) fun _ h => h
    have hS5 : SqL K H5 a (nv l) := by
      rcases hS with (hS | ⟨o, hS⟩) | hS
      · exact .inl (.inl (up _ _ hS (hsd_ne hS (fun z => nomatch z))))
      · exact .inl (.inr ⟨o, up _ _ hS (hsd_ne hS (fun z => nomatch z))⟩)
      · exact .inr hS
    obtain ⟨tdx, fa, pw, A', B, TB'⟩ := id TB5
    refine ⟨_, rfl, p, cs.L, dx, _, _, rfl, L5.obj, T.cl, T.n6, lexF_6 _ _ _ _ _ _, tb, tdx, _, rfl, TB'.obj, tabF_no _ _, _, rfl, _, rfl, (by show 2 ≤ sizeLine; decide), fun t6 ht6 => ?_⟩
    have s6 : Same H5 (upd H5 t6 (.tup [iv n, iv j])) := same_new (Same.refl H5) ht6
    refine ⟨_, rfl, a, _, rfl, .inl ⟨s6.seq hS5, fun t7 ht7 => ?_⟩⟩
    have s7 : Same H5 (upd (upd H5 t6 (.tup [iv n, iv j])) t7 (.tup (nv l))) := same_new s6 ht7
    have t6' : upd (upd H5 t6 (.tup [iv n, iv j])) t7 (.tup (nv l)) t6 = some (.tup (nv [n, j])) := by rw [upd_ne (ne_of_none (o := .tup [iv n, iv j]) upd_same ht7), upd_same]; rfl
    have t7' : upd (upd H5 t6 (.tup [iv n, iv j])) t7 (.tup (nv l)) t7 = some (.tup (nv l)) := upd_same
    generalize upd (upd H5 t6 (.tup [iv n, iv j])) t7 (.tup (nv l)) = H7 at s7 t6' t7'
    have hn512 : n < 512 := by have := ok.nw; omega
    refine ⟨tb, t6, t7, phi s, MT, [n, j], l, rfl, TB5.mono (fun b o z _ => s7 b o z) (fun _ h => h), t6', t7', mem_allPlaces.mpr ⟨n, j, rfl, hn512, by omega⟩, fun H8 kp8 TB8 => ?_⟩
    rw [← phi_odd (by omega) (by omega) es] at TB8
    have kp7 : Keep M H H7 := fun b o z h => s7 b o (kp5 b o z h)
    have sub8 : ∀ b, Ext MT H7 b → Ext M H b := fun b h => by
      rcases h with h | h
      · exact .inl (L.sub b h)
      · exact ext_of kp7 h
    have kpall : Keep M H H8 := keep_step kp7 (fun b h => .inl (L.sub b h)) kp8
    have L8 : Lex P w cs H8 p dx rf ws wn sd tb RF was XS (putK SD [n, j] (.ref t3)) (moreOdd s n j l) (Ext M H) (Ext MT H7) := L5.mono (fun b o z h => kp8 b o (s7 b o z) (h.imp (fun q => q.2) id)) (fun _ h => h) sub8 (fun b o z h q => by
      rcases q with q | q
      · exact h q
      · rw [s7 b o z] at q
        cases q)
    refine ⟨one, fun q hq => ?_⟩
    have s9 : Same H8 (upd H8 q (.lst [.int 0])) := same_new (Same.refl H8) hq
    have hq0 : Ext M H q := ext_of kpall hq
    refine post q _ hq0 (fun b o z h => s9 b o (kpall b o z h)) ?_ ?_
    · rw [est]
      exact ⟨dx, rf, ws, wn, sd, tb, RF, was, XS, _, _, L8.mono (fun b o z _ => s9 b o z) (fun _ h => h) sub8 (fun _ _ _ h => h), TB8.mono (fun b o z _ => s9 b o z) fun _ h => h⟩
    · unfold outOf
      rw [upd_same, est]
      rfl
end
end Bw
set_option Elab.async false
set_option linter.all false
set_option maxRecDepth 100000
set_option maxHeartbeats 4000000
namespace Bw
open PySem PySem.Spec PyProof.Rows L2 Kct5
theorem TabAt.trim {CT : Addr} {H : Hp} {t : Addr} {φ : Phi} {M : Addr → Prop} (T : TabAt CT H t φ M) : TabAt CT H t φ (fun b => M b ∧ H b ≠ none) := by
  obtain ⟨dx, fa, pw, A, B, T⟩ := T
  have some_ne : ∀ {b : Addr} {o : HO}, H b = some o → H b ≠ none := fun e z => by rw [e] at z; cases z
  exact ⟨dx, fa, pw, A, B, {
    obj := T.obj
    hA := T.hA
    hB := T.hB
    ne := T.ne
    mt := ⟨T.mt, some_ne T.obj⟩
    ma := ⟨T.ma, some_ne T.hA⟩
    mb := ⟨T.mb, some_ne T.hB⟩
    na := T.na
    nb := T.nb
    a0 := T.a0
    a1 := T.a1
    b0 := T.b0
    b1 := T.b1
    b2 := fun x d e => by
      obtain ⟨z1, z2⟩ := T.b2 x d e
      refine ⟨⟨z1, ?_⟩, z2⟩
      by_cases h : ∃ k, φ k = some x
      · obtain ⟨k, hk⟩ := h
        obtain ⟨d', l, w1, w2, _⟩ := T.b1 x k hk
        rw [e] at w1
        cases w1
        exact some_ne w2
      · rw [T.b0 x fun k hk => h ⟨k, hk⟩] at e
        cases e
    b3 := T.b3
    dom := T.dom }⟩
theorem LexAt.trim {P : Program} {w : World} {cs : Cs} {H : Hp} {p : Addr} {s : Abs} {M : Addr → Prop} (L : LexAt P w cs H p s M) : LexAt P w cs H p s (fun b => M b ∧ H b ≠ none) := by
  obtain ⟨dx, rf, ws, wn, sd, tb, RF, was, XS, SD, MT, L, T⟩ := L
  have some_ne : ∀ {b : Addr} {o : HO}, H b = some o → H b ≠ none := fun e z => by rw [e] at z; cases z
  refine ⟨dx, rf, ws, wn, sd, tb, RF, was, XS, SD, fun b => MT b ∧ H b ≠ none, ?_, T.trim⟩
  exact {
    obj := L.obj
    hrf := L.hrf
    hws := L.hws
    hwn := L.hwn
    hsd := L.hsd
    r0 := L.r0
    r1 := L.r1
    r2 := fun kk la h => let ⟨z1, z2, z3, xs, z4⟩ := L.r2 kk la h; ⟨⟨z1, some_ne z4⟩, fun z => z2 z.1, z3, xs, z4⟩
    r3 := L.r3
    rl := L.rl
    w1 := L.w1
    x1 := L.x1
    x2 := L.x2
    d1 := L.d1
    mp := ⟨L.mp, some_ne L.obj⟩
    mrf := ⟨L.mrf, some_ne L.hrf⟩
    mws := ⟨L.mws, some_ne L.hws⟩
    mwn := ⟨L.mwn, some_ne L.hwn⟩
    msd := ⟨L.msd, some_ne L.hsd⟩
    sub := fun b h => ⟨L.sub b h.1, h.2⟩
    np := fun z => L.np z.1
    nrf := fun z => L.nrf z.1
    nws := fun z => L.nws z.1
    nwn := fun z => L.nwn z.1
    nsd := fun z => L.nsd z.1
    ne := L.ne }
theorem for_enum {K : PySem.W.Frag} {a : Addr} {xs : List V} {g : TG} {tb : TS} {D : Ends} {σ : L2.St} {H : Hp} (Pv : Nat → L2.St → Hp → Prop) (h0 : Pv 0 σ H) (hl : ∀ i σ H, Pv i σ H → SqL K H a xs)
    (hs : ∀ i x T σ H, xs[i]? = some x → Pv i σ H → H T = none → g (.ref T) σ (upd H T (.tup [iv i, x])) fun σ2 H2 => tb { D with nx := Pv (i + 1), ct := Pv (i + 1), bk := D.nx } σ2 H2) (hd : ∀ σ H, Pv xs.length σ H → D.nx σ H) :
    ∃ W : Nat → Nat → L2.St → Hp → Prop, (∃ m, W 0 m σ H) ∧ ∀ i m σ H, W i m σ H →
      ((Ite K a).stop i H ∧ D.nx σ H) ∨ ((Ite K a).go i H ∧ ∃ N : L2.St → Hp → Prop, (∀ σ' H', N σ' H' → ∃ m', m' < m ∧ W (i + 1) m' σ' H') ∧ ∀ x H', (Ite K a).yld i H x H' → g x σ H' fun σ2 H2 => tb { D with nx := N, ct := N, bk := D.nx } σ2 H2) := by
  refine ⟨fun i m σ H => m = xs.length - i ∧ i ≤ xs.length ∧ Pv i σ H, ⟨xs.length, by simp, Nat.zero_le _, h0⟩, ?_⟩
  rintro i m σ H ⟨rfl, hi, p⟩
  have q := hl i σ H p
  by_cases hlt : i < xs.length
  · refine .inr ⟨⟨xs, xs[i], q, List.getElem?_eq_getElem hlt⟩, Pv (i + 1), fun σ' H' p' => ⟨xs.length - (i + 1), by omega, rfl, hlt, p'⟩, fun x H' y => ?_⟩
    obtain ⟨T, u, rfl, hT, rfl, e⟩ := y
    exact hs i u T σ _ (e xs q) p hT
  · have e : i = xs.length := by omega
    subst e
    exact .inl ⟨⟨xs, q, Nat.le_refl _⟩, hd σ H p⟩
theorem Post.fin {P : Program} {w : World} {cs : Cs} {H H1 : Hp} {p : Addr} {s s' : Abs} {M : Addr → Prop} {c : Call} {Q : VK} (h : Post P w cs H p M s c Q) {a : Ans} (e : step s c = (s', a)) (kp : Keep M H H1) (L : LexAt P w cs H1 p s' (Ext M H)) {q : Addr} (hq : H1 q = none) {out : List V}
    (ho : (Kct5Neutral.told a).map V.int = out) : Q (.ref q) (upd H1 q (.lst out)) := by
  have s2 : Same H1 (upd H1 q (.lst out)) := same_new (Same.refl H1) hq
  refine h q _ (ext_of kp hq) (fun b o z z2 => s2 b o (kp b o z z2)) ?_ ?_
  · rw [e]
    exact L.mono (fun b o z _ => s2 b o z) fun _ h => h
  · unfold outOf
    rw [upd_same, e, ← ho]
def spRuleC (P : Program) (w : World) (K : PySem.W.Frag) (cs : Cs) : Sp := fun vs H Q _ => ∃ (p a : Addr) (s : Abs) (M : Addr → Prop) (l : Bytes) (c j : Nat), vs = [.ref p, iv c, iv j, .ref a] ∧ LexAt P w cs H p s M ∧ Ok s ∧ SqL K H a (nv l) ∧ l.length ≤ 30000 ∧ Post P w cs H p M s (.rule c j l) Q
theorem stepRule1 {s : Abs} {c j : Nat} {l : Bytes} (h : 64 ≤ c ∨ 16 ≤ j ∨ 96 < l.length) : step s (.rule c j l) = (s, .num (-22)) := by
  show (if CLASSES ≤ c ∨ SLOTS ≤ j ∨ RULE < l.length then _ else _) = _
  rw [if_pos (show CLASSES ≤ c ∨ SLOTS ≤ j ∨ RULE < l.length from h)]
theorem stepRule2 {s : Abs} {c j : Nat} {l : Bytes} (h : ¬ (64 ≤ c ∨ 16 ≤ j ∨ 96 < l.length)) (h2 : partsOf l = none) : step s (.rule c j l) = (s, .num (-71)) := by
  show (if CLASSES ≤ c ∨ SLOTS ≤ j ∨ RULE < l.length then _ else _) = _
  rw [if_neg (show ¬ (CLASSES ≤ c ∨ SLOTS ≤ j ∨ RULE < l.length) from h), h2]
theorem stepRule3 {s : Abs} {c j : Nat} {l : Bytes} {p : Part × Part} (h : ¬ (64 ≤ c ∨ 16 ≤ j ∨ 96 < l.length)) (h2 : partsOf l = some p) (h3 : 512 ≤ s.rules.length) : step s (.rule c j l) = (s, .num (-28)) := by
  show (if CLASSES ≤ c ∨ SLOTS ≤ j ∨ RULE < l.length then _ else _) = _
  rw [if_neg (show ¬ (CLASSES ≤ c ∨ SLOTS ≤ j ∨ RULE < l.length) from h), h2]
  show (if RULES ≤ s.rules.length then _ else _) = _
  rw [if_pos (show RULES ≤ s.rules.length from h3)]
theorem stepRule4 {s : Abs} {c j : Nat} {l : Bytes} {p : Part × Part} (h : ¬ (64 ≤ c ∨ 16 ≤ j ∨ 96 < l.length)) (h2 : partsOf l = some p) (h3 : ¬ 512 ≤ s.rules.length) : step s (.rule c j l) = (moreRule s ⟨c, j, p.1, p.2⟩, .num s.rules.length) := by
  show (if CLASSES ≤ c ∨ SLOTS ≤ j ∨ RULE < l.length then _ else _) = _
  rw [if_neg (show ¬ (CLASSES ≤ c ∨ SLOTS ≤ j ∨ RULE < l.length) from h), h2]
  show (if RULES ≤ s.rules.length then _ else _) = _
  rw [if_neg (show ¬ RULES ≤ s.rules.length from h3)]
  rfl
section
variable {P : Program} {w : World} {K : PySem.W.Frag} {mg : Str → Option Value} {base : Heap}
theorem scRuleC : FnScope ["self", "kind", "slot", "signs", "new_rule", "number", "entry"] ["self", "kind", "slot", "signs"] (defScope (inClass (top 56) 2)) := ⟨rfl, rfl, rfl, by decide +kernel, rfl, by decide +kernel, by decide +kernel⟩
theorem ok_ruleC {f : Addr} {fd : FuncData} {cs : Cs} (F : Fun K "rule" "Lexicon.rule" (inClass (top 56) 2) f fd) (G : Glo mg) (T : LexCls K cs.L) (C1 : MCal P w K mg base cs.L "try_rules" ["self", "rules", "number", "slot"] 5 (spTry P w K cs))
    (C2 : Cal P w K mg base "read_rule" ["signs"] 7 (spRule K cs.R cs.P)) : FnOk P w K mg base CX0 8 f fd ["self", "kind", "slot", "signs"] (spRuleC P w K cs) := by
  refine F.ok scRuleC (fun vs H Q E h => ?_) (fun cdv A outer s H vs Q E hr h => ?_)
  · obtain ⟨p, a, s, M, l, c, j, rfl, _⟩ := h
    rfl
  · obtain ⟨p, a, s, M, l, c, j, rfl, L0, ok, hS, hL, post⟩ := h
    have hu := hu_of hr
    have hr5 : Room 5 _ := hr.mono (by decide)
    refine ⟨_, pss_cons (ps_if (pw_or (pt_cmpR op_gt (pv 1) (pe_gi G.lastClass) (nomark _)) (pw_or (pt_cmpR op_gt (pv 2) (pe_gi G.lastSlot) (nomark _)) (pw_or1 (pt_cmpR op_gt (pe_callB call_len_seq (by rfl) G.len PySem.boot_len (pa_cons (pv 3) pa_nil)) (pe_gi G.ruleBytes) (nomark _))))).pt (pss_one (ps_ret (pe_lst (pa_cons (pe_gi G.notOk) pa_nil)))) pss_nil)
      (pss_cons (ps_set (i := 4) scRuleC.nd rfl (Or.inl rfl) (pe_cal C2 hr (pa_cons (pv 3) pa_nil)))
      (pss_cons (ps_if (pt_cmp (pc_isN (pv 4))) (pss_one (ps_ret (pe_lst (pa_cons (pe_gi G.noRule) pa_nil)))) pss_nil)
      (pss_cons (ps_if (pt_cmpR op_eq (pe_fld (pv 0) rfl) (pe_gi G.mostRules) (nomark _)) (pss_one (ps_ret (pe_lst (pa_cons (pe_gi G.full) pa_nil)))) pss_nil)
      (pss_cons (ps_expr (pe_app (pe_bset hu (pe_fld (pv 0) rfl) (pe_tup (pa_cons (pv 1) (pa_cons (pv 2) pa_nil))) (pe_lst pa_nil) ⟨rfl, rfl, rfl, rfl⟩) (pa_cons (pv 4) pa_nil)))
      (pss_cons (ps_fldaug (pv 0) pe_int in_add)
      (pss_cons (ps_for PassesOwn.never rfl (pi_enum (by rfl) G.enum (pa_cons (pe_fld (pv 0) rfl) pa_nil)) (pg_tup rfl (pgs_cons (pg_name (i := 5) scRuleC.nd rfl (Or.inl rfl)) (pgs_cons (pg_name (i := 6) scRuleC.nd rfl (Or.inl rfl)) pgs_nil)))
        (pss_one (ps_if (pt_cmpR op_eq (pe_ix ix_tup (pv 6) pe_int (fun _ _ => rfl)) (pv 1) (nomark _)) (pss_one (ps_expr (pe_mcal (pv 0) T.cl C1 hr5 (pa_cons (pe_lst (pa_cons (pv 4) pa_nil)) (pa_cons (pv 5) (pa_cons (pv 2) pa_nil)))))) pss_nil)))
      (pss_one (ps_ret (pe_lst (pa_cons (pe_op op_sub (pe_fld (pv 0) rfl) pe_int) pa_nil)))))))))), ?_⟩
    have L0t := L0.trim
    obtain ⟨dx, rf, ws, wn, sd, tb, RF, was, XS, SD, MT0, L1, TB1⟩ := id L0
    obtain ⟨MT, L, TB, fresh⟩ : ∃ MT, Lex P w cs H p dx rf ws wn sd tb RF was XS SD s M MT ∧ TabAt cs.T H tb (phi s) MT ∧ ∀ b, H b = none → ¬ MT b :=
      ⟨fun b => MT0 b ∧ H b ≠ none, L1.mono (fun b o z _ => z) (fun _ h => h) (fun b h => L1.sub b h.1) (fun _ _ _ h z => h z.1), TB1.trim, fun b e z => z.2 e⟩
    have hla : was.length = s.words.length := Paired.length L.w1
    have one : (1 : Nat) ≤ sizeLine := by decide
    have big : 10000 ≤ sizeLine := by decide
    refine ⟨_, rfl, _, _, rfl, rfl, _, rfl, ?_⟩
    by_cases h1 : 64 ≤ c
    · rw [decide_eq_true (show (63 : Int) < (c : Int) by omega)]
      refine iteT (iteT ?_)
      exact ⟨one, fun q hq => post.ret L0 (stepRule1 (.inl h1)) (Same.refl H) hq rfl⟩
    rw [decide_eq_false (show ¬ (63 : Int) < (c : Int) by omega)]
    refine iteF ?_
    refine ⟨_, rfl, _, _, rfl, rfl, _, rfl, ?_⟩
    by_cases h2 : 16 ≤ j
    · rw [decide_eq_true (show (15 : Int) < (j : Int) by omega)]
      refine iteT (iteT ?_)
      exact ⟨one, fun q hq => post.ret L0 (stepRule1 (.inr (.inl h2))) (Same.refl H) hq rfl⟩
    rw [decide_eq_false (show ¬ (15 : Int) < (j : Int) by omega)]
    refine iteF ?_
    refine ⟨_, rfl, a, _, rfl, .inl hS, _, _, rfl, rfl, _, rfl, ?_⟩
    rw [nv_length]
    by_cases h3 : 96 < l.length
    · rw [decide_eq_true (show (96 : Int) < (l.length : Int) by omega)]
      refine iteT ?_
      exact ⟨one, fun q hq => post.ret L0 (stepRule1 (.inr (.inr h3))) (Same.refl H) hq rfl⟩
    rw [decide_eq_false (show ¬ (96 : Int) < (l.length : Int) by omega)]
    refine iteF ?_
    have hno : ¬ (64 ≤ c ∨ 16 ≤ j ∨ 96 < l.length) := fun z => z.elim h1 (fun z => z.elim h2 h3)
    refine ⟨_, rfl, a, l, rfl, hS, by omega, ⟨fun e H1 s1 => ?_, fun pp e a0 H1 s1 hR1 => ?_⟩⟩
    · refine ⟨_, rfl, _, rfl, ?_⟩
      refine ite2 (fun _ => ?_) (fun z => absurd (decide_eq_true rfl) z)
      exact ⟨one, fun q hq => post.ret L0 (stepRule2 hno e) s1 hq rfl⟩
    refine ⟨_, rfl, _, rfl, ?_⟩
    refine iteEqN ref_non ?_
    refine ⟨_, rfl, p, cs.L, dx, _, _, rfl, s1 _ _ L.obj, T.cl, T.n1, lexF_1 _ _ _ _ _ _, rfl, _, rfl, ?_⟩
    have hnr := ok.nr
    by_cases h4 : 512 ≤ s.rules.length
    · refine iteEq (ceq (by omega)) ?_
      exact ⟨one, fun q hq => post.ret L0 (stepRule3 hno e h4) s1 hq rfl⟩
    refine iteEqN (iv_ne (by omega)) ?_
    have est := stepRule4 hno e h4
    have okp : PartsOk pp := ⟨(partsOf_ok e).1, (partsOf_ok e).2⟩
    obtain ⟨r, er⟩ : ∃ r : Rule, r = ⟨c, j, pp.1, pp.2⟩ := ⟨_, rfl⟩
    rw [← er] at est
    have erp : partsR r = pp := by rw [er]; rfl
    -- setdefault
    refine ⟨_, rfl, p, cs.L, dx, _, _, rfl, s1 _ _ L.obj, T.cl, T.n2, lexF_2 _ _ _ _ _ _, rf, RF, rfl, s1 _ _ L.hrf, _, rfl, _, rfl, (by show 2 ≤ sizeLine; decide), fun t ht => ?_⟩
    have s2 : Same H (upd H1 t (.tup [iv c, iv j])) := same_new s1 ht
    have s2' : Same H1 (upd H1 t (.tup [iv c, iv j])) := same_new (Same.refl H1) ht
    have t2 : upd H1 t (.tup [iv c, iv j]) t = some (.tup (nv [c, j])) := upd_same
    generalize upd H1 t (.tup [iv c, iv j]) = H2 at s2 s2' t2
    refine ⟨Nat.zero_le _, fun q0 hq0 => ?_⟩
    have s3 : Same H (upd H2 q0 (.lst [])) := same_new s2 hq0
    have s3' : Same H1 (upd H2 q0 (.lst [])) := same_new s2' hq0
    have t3 : upd H2 q0 (.lst []) t = some (.tup (nv [c, j])) := by rw [upd_ne (ne_of_none t2 hq0)]; exact t2
    have q3 : upd H2 q0 (.lst []) q0 = some (.lst []) := upd_same
    generalize upd H2 q0 (.lst []) = H3 at s3 s3' t3 q3
    have hq00 : H q0 = none := by
      cases z : H q0 with
      | none => rfl
      | some o =>
        rw [s2 _ _ z] at hq0
        cases hq0
    have nq : ∀ {b : Addr} {o : HO}, H b = some o → b ≠ q0 := fun z => ne_of_none z hq00
    have lRF : RF.length ≤ 512 := Nat.le_trans L.rl hnr
    have qrf : q0 ≠ rf := fun z => nq L.hrf z.symm
    refine ⟨RF, [c, j], t, s3 _ _ L.hrf, rfl, t3, by omega, (fun v H' => ∃ (la : Addr) (as0 : List Addr) (RF' : BD), v = .ref la ∧ H' la = some (.lst (as0.map V.ref)) ∧ RulesAt cs.R cs.P H' as0 ((rulesOf s c j).map partsR) ∧ H' rf = some (bd RF') ∧ (∀ b o, H3 b = some o → b ≠ rf → H' b = some o) ∧ Keep M H H' ∧
      valV RF' [c, j] = some (.ref la) ∧ (∀ k, k ≠ [c, j] → valV RF' k = valV RF k) ∧ RF'.length ≤ RF.length + 1 ∧ (∀ k, valV RF k = some (.ref la) → k = [c, j]) ∧ Ext M H la ∧ ¬ MT la ∧ la ≠ ws ∧ as0.length ≤ 512), ?_, ?_, ?_⟩
    · intro v hv
      have hne : rulesOf s c j ≠ [] := fun z => by rw [L.r0 c j z] at hv; cases hv
      obtain ⟨la, as0, z1, z2, z3⟩ := L.r1 c j hne
      rw [hv] at z1
      cases z1
      obtain ⟨y1, y2, y3, _⟩ := L.r2 _ _ hv
      refine ⟨la, as0, RF, rfl, s3 _ _ z2, z3.mono s3, s3 _ _ L.hrf, fun b o z _ => z, Same.keep s3, hv, fun _ _ => rfl, Nat.le_succ _, fun k hk => L.r3 _ _ _ hk hv, .inl y1, y2, y3, ?_⟩
      rw [Paired.length z3, List.length_map]
      exact Nat.le_trans (List.length_filter_le _ _) hnr
    · intro hv
      have he : rulesOf s c j = [] := Classical.byContradiction fun hne => by
        obtain ⟨la, as0, z1, _⟩ := L.r1 c j hne
        rw [hv] at z1
        cases z1
      refine ⟨q0, [], putK RF [c, j] (.ref q0), rfl, by rw [upd_ne qrf]; exact q3, by rw [he]; exact .nil, upd_same, fun b o z hb => by rw [upd_ne hb]; exact z, Keep.upd (Same.keep s3) L.mrf (s3 _ _ L.hrf) rfl, by rw [valV_put, if_pos rfl], fun k hk => by rw [valV_put, if_neg hk], length_putK _ _ _, fun k hk => ?_, .inr hq00, fresh _ hq00, fun z => nq L.hws z.symm, Nat.zero_le _⟩
      obtain ⟨_, _, _, xs, z4⟩ := L.r2 _ _ hk
      rw [hq00] at z4
      cases z4
    rintro v H4 ⟨la, as0, RF', rfl, g1, g2, g3, g4, g5, g6, g7, g8, g9, g10, g11, g12, g13⟩
    refine ⟨.inl ⟨rfl, _, SqL.of g1⟩, _, rfl, la, _, _, rfl, rfl, g1, by rw [List.length_map]; omega, ?_⟩
    have nla : ∀ {b : Addr} {o : HO}, H4 b = some o → (∀ xs, o ≠ .lst xs) → b ≠ la := fun z hne zz => by rw [zz, g1] at z; exact hne _ (Option.some.inj z).symm
    have rfla : rf ≠ la := nla g3 (fun _ z => nomatch z)
    have up5 : ∀ b o, H4 b = some o → b ≠ la → upd H4 la (.lst (as0.map V.ref ++ [.ref a0])) b = some o := fun b o z hb => by rw [upd_ne hb]; exact z
    have la5 : upd H4 la (.lst (as0.map V.ref ++ [.ref a0])) la = some (.lst ((as0 ++ [a0]).map V.ref)) := by rw [upd_same, List.map_append]; rfl
    have kp5 : Keep M H (upd H4 la (.lst (as0.map V.ref ++ [.ref a0]))) := by
      intro b o z h
      rw [upd_ne]
      · exact g5 b o z h
      · intro zz
        have z4 := g5 b o z h
        rw [zz, g1] at z4
        cases z4
        rcases h with h | h
        · rcases g10 with y | y
          · exact h (zz ▸ y)
          · rw [← zz, z] at y
            cases y
        · cases h
    generalize upd H4 la (.lst (as0.map V.ref ++ [.ref a0])) = H5 at up5 la5 kp5
    -- what is solid has stayed so far
    have sol5 : ∀ b o, H b = some o → solid o = true → H5 b = some o := fun b o z h => kp5 b o z (.inr h)
    have h15 : ∀ b o, H1 b = some o → solid o = true → H5 b = some o := fun b o z h => by
      have z3 := s3' _ _ z
      refine up5 _ _ (g4 _ _ z3 fun q => ?_) fun q => ?_
      · rw [q, s3 _ _ L.hrf] at z3
        cases z3
        cases h
      · have z4 := g4 _ _ z3 (fun q => by rw [q, s3 _ _ L.hrf] at z3; cases z3; cases h)
        rw [q, g1] at z4
        cases z4
        cases h
    have obj5 : H5 p = some (.ins cs.L dx (lexF (iv s.rules.length) (.ref rf) (.ref ws) (.ref wn) (.ref sd) (.ref tb))) := by
      have z4 := g4 _ _ (s3 _ _ L.obj) (ne_of L.obj L.hrf (fun z => nomatch z))
      exact up5 _ _ z4 (nla z4 (fun _ z => nomatch z))
    refine ⟨_, rfl, p, cs.L, dx, _, _, rfl, obj5, T.cl, T.n1, lexF_1 _ _ _ _ _ _, _, _, rfl, rfl, dx, _, obj5, (by show 6 < 1000; decide), ?_⟩
    rw [putF_lex1]
    have en : V.int ((s.rules.length : Int) + 1) = iv (moreRule s r).rules.length := by
      refine ceq ?_
      show (s.rules.length : Int) + 1 = (((s.rules ++ [r]).length : Nat) : Int)
      rw [List.length_append]
      show (s.rules.length : Int) + 1 = ((s.rules.length + 1 : Nat) : Int)
      omega
    have obj6 : upd H5 p (.ins cs.L dx (lexF (.int ((s.rules.length : Int) + 1)) (.ref rf) (.ref ws) (.ref wn) (.ref sd) (.ref tb))) p = some (.ins cs.L dx (lexF (iv (moreRule s r).rules.length) (.ref rf) (.ref ws) (.ref wn) (.ref sd) (.ref tb))) := by rw [upd_same, en]
    have up6 : ∀ b o, H5 b = some o → b ≠ p → upd H5 p (.ins cs.L dx (lexF (.int ((s.rules.length : Int) + 1)) (.ref rf) (.ref ws) (.ref wn) (.ref sd) (.ref tb))) b = some o := fun b o z hb => by rw [upd_ne hb]; exact z
    have kp6 : Keep M H (upd H5 p (.ins cs.L dx (lexF (.int ((s.rules.length : Int) + 1)) (.ref rf) (.ref ws) (.ref wn) (.ref sd) (.ref tb)))) := kp5.upd L.mp obj5 solid_lex
    show tSeq _ _ _ _ (upd H5 p (.ins cs.L dx (lexF (.int ((s.rules.length : Int) + 1)) (.ref rf) (.ref ws) (.ref wn) (.ref sd) (.ref tb))))
    generalize upd H5 p (.ins cs.L dx (lexF (.int ((s.rules.length : Int) + 1)) (.ref rf) (.ref ws) (.ref wn) (.ref sd) (.ref tb))) = H6 at obj6 up6 kp6
    have pne : ∀ {b : Addr} {o : HO}, H5 b = some o → (∀ C d fs, o ≠ .ins C d fs) → b ≠ p := fun z hne zz => by rw [zz, obj5] at z; exact hne _ _ _ (Option.some.inj z).symm
    -- an old thing of the object that is neither rf, la nor p
    have old : ∀ {b : Addr} {o : HO}, H b = some o → b ≠ rf → b ≠ la → b ≠ p → H6 b = some o := fun z z1 z2 z3 => up6 _ _ (up5 _ _ (g4 _ _ (s3 _ _ z) z1) z2) z3
    have sol6 : ∀ b o, H b = some o → solid o = true → H6 b = some o := fun b o z h => kp6 b o z (.inr h)
    have h16 : ∀ b o, H1 b = some o → solid o = true → H6 b = some o := fun b o z h => up6 _ _ (h15 b o z h) fun q => by
      have := h15 b o z h
      rw [q, obj5] at this
      cases this
      rw [solid_lex] at h
      cases h
    have la6 : H6 la = some (.lst ((as0 ++ [a0]).map V.ref)) := up6 _ _ la5 (pne la5 (fun _ _ _ z => nomatch z))
    have lap : la ≠ p := pne la5 (fun _ _ _ z => nomatch z)
    have notla : ∀ {b : Addr} {o : HO}, H b = some o → b ≠ rf → (∀ xs, o ≠ .lst xs) → b ≠ la := fun z z1 hne => nla (g4 _ _ (s3 _ _ z) z1) hne
    have L6 : Lex P w cs H6 p dx rf ws wn sd tb RF' was XS SD (moreRule s r) (Ext M H) MT := by
      have rk : ∀ k l', valV RF' k = some (.ref l') → (k = [c, j] ∧ l' = la) ∨ (k ≠ [c, j] ∧ l' ≠ la ∧ valV RF k = some (.ref l')) := fun k l' hk => by
        by_cases h : k = [c, j]
        · rw [h, g6] at hk
          cases hk
          exact .inl ⟨h, rfl⟩
        · rw [g7 k h] at hk
          exact .inr ⟨h, fun z => h (g9 k (by rw [← z]; exact hk)), hk⟩
      exact {
        obj := obj6
        hrf := up6 _ _ (up5 _ _ g3 rfla) (pne (up5 _ _ g3 rfla) (fun _ _ _ z => nomatch z))
        hws := old L.hws (ne_of L.hws L.hrf (fun z => nomatch z)) (Ne.symm g12) (ne_of L.hws L.obj (fun z => nomatch z))
        hwn := old L.hwn (ne_of L.hwn L.hrf (fun z => nomatch z)) (notla L.hwn (ne_of L.hwn L.hrf (fun z => nomatch z)) (fun _ z => nomatch z)) (ne_of L.hwn L.obj (fun z => nomatch z))
        hsd := old L.hsd (Ne.symm L.ne) (notla L.hsd (Ne.symm L.ne) (fun _ z => nomatch z)) (ne_of L.hsd L.obj (fun z => nomatch z))
        r0 := fun c' j' h => by
          rw [rulesOf_more] at h
          have hne : [c', j'] ≠ [c, j] := fun z => by
            injection z with z1 z2
            injection z2 with z2 _
            rw [if_pos (by rw [er]; exact ⟨z1.symm, z2.symm⟩)] at h
            simp at h
          rw [g7 _ hne]
          exact L.r0 c' j' (List.append_eq_nil_iff.mp h).1
        r1 := fun c' j' h => by
          rw [rulesOf_more] at h ⊢
          by_cases hcj : c = c' ∧ j = j'
          · obtain ⟨rfl, rfl⟩ := hcj
            rw [if_pos (by rw [er]; exact ⟨rfl, rfl⟩), List.map_append]
            refine ⟨la, as0 ++ [a0], g6, la6, ?_⟩
            have g2' : RulesAt cs.R cs.P H6 as0 ((rulesOf s c j).map partsR) := g2.keep fun b o z hs => by
              have z5 : H5 b = some o := up5 b o z (fun q => by rw [q, g1] at z; cases z; cases hs)
              exact up6 _ _ z5 fun q => by rw [q, obj5] at z5; cases z5; rw [solid_lex] at hs; cases hs
            refine paired_snoc ⟨?_, by rw [erp]; exact okp⟩ g2'
            rw [erp]
            exact hR1.keep h16
          · have hne : [c', j'] ≠ [c, j] := fun z => by
              injection z with z1 z2
              injection z2 with z2 _
              exact hcj ⟨z1.symm, z2.symm⟩
            rw [if_neg (by rw [er]; exact hcj), List.append_nil] at h ⊢
            obtain ⟨l', as', z1, z2, z3⟩ := L.r1 c' j' h
            have zz : l' ≠ la := fun q => hne (g9 _ (by rw [← q]; exact z1))
            exact ⟨l', as', by rw [g7 _ hne]; exact z1, old z2 (ne_of z2 L.hrf (fun z => nomatch z)) zz (ne_of z2 L.obj (fun z => nomatch z)), z3.keep sol6⟩
        r2 := fun k l' hk => by
          rcases rk k l' hk with ⟨_, rfl⟩ | ⟨_, hne, hk'⟩
          · exact ⟨g10, g11, g12, _, la6⟩
          · obtain ⟨z1, z2, z3, xs, z4⟩ := L.r2 _ _ hk'
            exact ⟨.inl z1, z2, z3, xs, old z4 (ne_of z4 L.hrf (fun z => nomatch z)) hne (ne_of z4 L.obj (fun z => nomatch z))⟩
        r3 := fun k k' l' hk hk' => by
          rcases rk k l' hk with ⟨e1, e2⟩ | ⟨_, hne, e1⟩
          · rcases rk k' l' hk' with ⟨e3, _⟩ | ⟨_, hne', _⟩
            · rw [e1, e3]
            · exact (hne' e2).elim
          · rcases rk k' l' hk' with ⟨_, e4⟩ | ⟨_, _, e3⟩
            · exact (hne e4).elim
            · exact L.r3 _ _ _ e1 e3
        rl := by
          show RF'.length ≤ (s.rules ++ [r]).length
          rw [List.length_append]
          show RF'.length ≤ s.rules.length + 1
          have := L.rl
          omega
        w1 := Paired.mapP L.w1 fun _ _ z => z.keep sol6
        x1 := L.x1
        x2 := fun x hx => (L.x2 x hx).keep sol6
        d1 := L.d1
        mp := .inl L.mp
        mrf := .inl L.mrf
        mws := .inl L.mws
        mwn := .inl L.mwn
        msd := .inl L.msd
        sub := fun b h => .inl (L.sub b h)
        np := L.np
        nrf := L.nrf
        nws := L.nws
        nwn := L.nwn
        nsd := L.nsd
        ne := L.ne }
    have TB6 : TabAt cs.T H6 tb (phi s) MT := TB.mono (fun b o z h => by
      rcases h with h | h
      · exact old z (fun q => L.nrf (q ▸ h)) (fun q => g11 (q ▸ h)) (fun q => L.np (q ▸ h))
      · exact sol6 b o z h) fun _ h => h
    have R6 : RuleAt cs.R cs.P H6 a0 pp := hR1.keep h16
    -- the walk over the words
    refine ⟨_, rfl, p, cs.L, dx, _, _, rfl, obj6, T.cl, T.n3, lexF_3 _ _ _ _ _ _, ws, _, rfl, SqL.of L6.hws, for_enum (K := K) (a := ws) (xs := was.map V.ref) (fun i σ H' => ∃ (v5 v6 : Option V) (MTi : Addr → Prop), σ = [some (.ref p), some (iv c), some (iv j), some (.ref a), some (.ref a0), v5, v6] ∧ Keep M H H' ∧
      Lex P w cs H' p dx rf ws wn sd tb RF' was XS SD (moreRule s r) (Ext M H) MTi ∧ TabAt cs.T H' tb (midRule s r i) MTi ∧ RuleAt cs.R cs.P H' a0 pp) ?_ ?_ ?_ ?_⟩
    · exact ⟨none, none, MT, rfl, kp6, L6, by rw [midRule_zero]; exact TB6, R6⟩
    · rintro i σ H' ⟨v5, v6, MTi, rfl, _, Li, _⟩
      exact SqL.of Li.hws
    · rintro i x t7 σ H' hx ⟨v5, v6, MTi, rfl, kpi, Li, Ti, Ri⟩ ht7
      rw [List.getElem?_map] at hx
      obtain ⟨ea, hea, rfl⟩ := Option.map_eq_some_iff.mp hx
      obtain ⟨wd, hwd, ec, hec1, hec2⟩ := paired_get Li.w1 hea
      have hwd' : s.words[i]? = some wd := hwd
      have s7 : Same H' (upd H' t7 (.tup [iv i, .ref ea])) := same_new (Same.refl H') ht7
      have t7' : upd H' t7 (.tup [iv i, .ref ea]) t7 = some (.tup [iv i, .ref ea]) := upd_same
      refine ⟨t7, _, rfl, SqT.of t7', rfl, _, _, rfl, _, _, rfl, rfl, ?_⟩
      generalize upd H' t7 (.tup [iv i, .ref ea]) = H7 at s7 t7'
      have kp7 : Keep M H H7 := fun b o z h => s7 b o (kpi b o z h)
      refine ⟨_, rfl, ea, _, _, _, rfl, rfl, SqT.of (s7 _ _ hec1), at_of (j := 0) rfl rfl, _, rfl, rfl, _, rfl, ?_⟩
      by_cases hcl : c = wd.class_
      · refine iteEq (ceq (by omega)) ?_
        refine ⟨_, rfl, p, dx, _, rfl, s7 _ _ Li.obj, lexF_no _ _ _ _ _ _, _, rfl, one, fun q8 hq8 => ?_⟩
        have s8 : Same H' (upd H7 q8 (.lst [.ref a0])) := same_new s7 hq8
        have q8' : upd H7 q8 (.lst [.ref a0]) q8 = some (.lst ([a0].map V.ref)) := upd_same
        generalize upd H7 q8 (.lst [.ref a0]) = H8 at s8 q8'
        have kp8 : Keep M H H8 := fun b o z h => s8 b o (kpi b o z h)
        have L8 : Lex P w cs H8 p dx rf ws wn sd tb RF' was XS SD (moreRule s r) (Ext M H) MTi := Li.mono (fun b o z _ => s8 b o z) (fun _ h => h) Li.sub (fun _ _ _ h => h)
        have hil : i < s.words.length := (List.getElem?_eq_some_iff.mp hwd').1
        have hnw := ok.nw
        refine ⟨_, rfl, _, rfl, p, q8, i, j, moreRule s r, Ext M H, MTi, dx, rf, ws, wn, sd, tb, RF', was, XS, SD, midRule s r i, [a0], [partsR r], wd, rfl, L8, Ti.mono (fun b o z _ => s8 b o z) (fun _ h => h), SqL.of q8', .cons ⟨by rw [erp]; exact Ri.mono s8, by rw [erp]; exact okp⟩ .nil, hwd, (ok.wd wd (List.mem_of_getElem? hwd')).2, by omega, by omega, fun H9 kp9 T9 => ?_⟩
        have e9 : tried (midRule s r i) (saidAt (moreRule s r) i j) [i, j] (firstOf [partsR r] wd.lemma_) = midRule s r (i + 1) := by
          have hrs : r.slot = j := by rw [er]
          rw [midRule_try hwd' (by rw [er]; exact hcl) (by rw [hrs]; omega), hrs]
          have : firstOf [partsR r] wd.lemma_ = appl (partsR r) wd.lemma_ := by
            unfold firstOf
            rw [List.findSome?_singleton]
          rw [this]
          rfl
        rw [e9] at T9
        have sub9 : ∀ b, Ext MTi H8 b → Ext M H b := fun b h => by
          rcases h with h | h
          · exact Li.sub b h
          · exact ext_of kp8 h
        refine ⟨_, _, Ext MTi H8, rfl, keep_step kp8 Li.sub kp9, L8.mono (fun b o z h => kp9 b o z (h.imp (fun q => q.2) id)) (fun _ h => h) sub9 (fun b o z h q => ?_), T9, (Ri.mono s8).keep fun b o z h => kp9 b o z (.inr h)⟩
        rcases q with q | q
        · exact h q
        · rw [z] at q
          cases q
      · refine iteEqN (iv_ne (by omega)) ?_
        exact ⟨_, _, MTi, rfl, kp7, Li.mono (fun b o z _ => s7 b o z) (fun _ h => h) Li.sub (fun _ _ _ h => h), by rw [midRule_skip hwd' (by rw [er]; exact hcl)]; exact Ti.mono (fun b o z _ => s7 b o z) (fun _ h => h), Ri.mono s7⟩
    · rintro σ H' ⟨v5, v6, MTi, rfl, kpi, Li, Ti, Ri⟩
      rw [List.length_map, hla, midRule_all] at Ti
      refine ⟨_, rfl, p, cs.L, dx, _, _, rfl, Li.obj, T.cl, T.n1, lexF_1 _ _ _ _ _ _, _, _, rfl, rfl, one, fun q hq => ?_⟩
      refine post.fin est kpi ⟨dx, rf, ws, wn, sd, tb, RF', was, XS, SD, MTi, Li, Ti⟩ hq ?_
      have e9 : (((moreRule s r).rules.length : Nat) : Int) = (s.rules.length : Int) + 1 := by
        show (((s.rules ++ [r]).length : Nat) : Int) = _
        rw [List.length_append]
        show ((s.rules.length + 1 : Nat) : Int) = _
        omega
      show [V.int (s.rules.length : Int)] = [V.int ((((moreRule s r).rules.length : Nat) : Int) - 1)]
      rw [e9, ceq (show (s.rules.length : Int) + 1 - 1 = (s.rules.length : Int) by omega)]
end
end Bw
set_option Elab.async false
set_option linter.all false
set_option maxRecDepth 100000
set_option maxHeartbeats 4000000
namespace Bw
open PySem PySem.Spec PyProof.Rows L2 Kct5
theorem u9 {k : Nat} {A : Around} (hr : Room k A) : A.units + 9 < cLine := by have := hr.un; omega
theorem atKey_mem {κ : Type} [DecidableEq κ] {xs : List (κ × Addr × Value)} {k : κ} : (atKey xs k).isSome = true ↔ k ∈ xs.map (·.1) := by
  unfold atKey
  rw [Option.isSome_map, List.find?_isSome, List.mem_map]
  constructor
  · rintro ⟨x, hx, e⟩
    exact ⟨x, hx, of_decide_eq_true e⟩
  · rintro ⟨x, hx, e⟩
    exact ⟨x, hx, decide_eq_true e⟩
def wordIn (s : Abs) (c : Nat) (l : Bytes) : Bool := s.words.any fun x => x.lemma_ == l && x.class_ == c
theorem mem_word {s : Abs} {c : Nat} {l : Bytes} : (((c : Int), nk l) : PKey) ∈ (s.words.map fun v => (((v.class_ : Int), nk v.lemma_) : PKey)) ↔ wordIn s c l = true := by
  unfold wordIn
  rw [List.mem_map, List.any_eq_true]
  constructor
  · rintro ⟨v, hv, e⟩
    injection e with e1 e2
    refine ⟨v, hv, ?_⟩
    rw [nk_inj e2, show v.class_ = c by omega]
    simp
  · rintro ⟨v, hv, e⟩
    rw [Bool.and_eq_true, beq_iff_eq, beq_iff_eq] at e
    exact ⟨v, hv, by rw [e.1, e.2]⟩
def spWord (P : Program) (w : World) (K : PySem.W.Frag) (cs : Cs) : Sp := fun vs H Q _ => ∃ (p a : Addr) (s : Abs) (M : Addr → Prop) (l : Bytes) (c : Nat), vs = [.ref p, iv c, .ref a] ∧ LexAt P w cs H p s M ∧ Ok s ∧ SqL K H a (nv l) ∧ l.length ≤ 30000 ∧ Post P w cs H p M s (.word c l) Q
theorem stepWord1 {s : Abs} {c : Nat} {l : Bytes} (h : 64 ≤ c ∨ isLetters 1 24 l = false) : step s (.word c l) = (s, .num (-22)) := by
  show (if CLASSES ≤ c ∨ isLetters 1 LEMMA l = false then _ else _) = _
  rw [if_pos (show CLASSES ≤ c ∨ isLetters 1 LEMMA l = false from h)]
theorem stepWord2 {s : Abs} {c : Nat} {l : Bytes} (h : ¬ (64 ≤ c ∨ isLetters 1 24 l = false)) (h2 : wordIn s c l = true) : step s (.word c l) = (s, .num (-17)) := by
  show (if CLASSES ≤ c ∨ isLetters 1 LEMMA l = false then _ else _) = _
  rw [if_neg (show ¬ (CLASSES ≤ c ∨ isLetters 1 LEMMA l = false) from h)]
  show (if wordIn s c l = true then _ else _) = _
  rw [if_pos h2]
theorem stepWord3 {s : Abs} {c : Nat} {l : Bytes} (h : ¬ (64 ≤ c ∨ isLetters 1 24 l = false)) (h2 : wordIn s c l = false) (h3 : 512 ≤ s.words.length) : step s (.word c l) = (s, .num (-28)) := by
  show (if CLASSES ≤ c ∨ isLetters 1 LEMMA l = false then _ else _) = _
  rw [if_neg (show ¬ (CLASSES ≤ c ∨ isLetters 1 LEMMA l = false) from h)]
  show (if wordIn s c l = true then _ else _) = _
  rw [if_neg (by rw [h2]; exact Bool.false_ne_true), if_pos (show WORDS ≤ s.words.length from h3)]
theorem stepWord4 {s : Abs} {c : Nat} {l : Bytes} (h : ¬ (64 ≤ c ∨ isLetters 1 24 l = false)) (h2 : wordIn s c l = false) (h3 : ¬ 512 ≤ s.words.length) : step s (.word c l) = (moreWord s ⟨l, c⟩, .num s.words.length) := by
  show (if CLASSES ≤ c ∨ isLetters 1 LEMMA l = false then _ else _) = _
  rw [if_neg (show ¬ (CLASSES ≤ c ∨ isLetters 1 LEMMA l = false) from h)]
  show (if wordIn s c l = true then _ else _) = _
  rw [if_neg (by rw [h2]; exact Bool.false_ne_true), if_neg (show ¬ WORDS ≤ s.words.length from h3)]
  rfl
section
variable {P : Program} {w : World} {K : PySem.W.Frag} {mg : Str → Option Value} {base : Heap}
theorem scWord : FnScope ["self", "kind", "signs", "entry", "number", "slot"] ["self", "kind", "signs"] (defScope (inClass (top 56) 3)) := ⟨rfl, rfl, rfl, by decide +kernel, rfl, by decide +kernel, by decide +kernel⟩
theorem ok_word {f : Addr} {fd : FuncData} {cs : Cs} (F : Fun K "word" "Lexicon.word" (inClass (top 56) 3) f fd) (G : Glo mg) (T : LexCls K cs.L) (C1 : MCal P w K mg base cs.L "try_rules" ["self", "rules", "number", "slot"] 5 (spTry P w K cs))
    (C2 : Cal P w K mg base "is_row_of_letters" ["signs", "least", "most"] 2 (spRow K)) : FnOk P w K mg base CX0 6 f fd ["self", "kind", "signs"] (spWord P w K cs) := by
  refine F.ok scWord (fun vs H Q E h => ?_) (fun cdv A outer s H vs Q E hr h => ?_)
  · obtain ⟨p, a, s, M, l, c, rfl, _⟩ := h
    rfl
  · obtain ⟨p, a, s, M, l, c, rfl, L0, ok, hS, hL, post⟩ := h
    have hu := hu_of hr
    have hu9 := u9 hr
    have hr2 : Room 2 _ := hr.mono (by decide)
    refine ⟨_, pss_cons (ps_if (pw_or (pt_cmpR op_gt (pv 1) (pe_gi G.lastClass) (nomark _)) (pw_or1 (pt_not (pt_val (pe_cal C2 hr2 (pa_cons (pv 2) (pa_cons pe_int (pa_cons (pe_gi G.wordLetters) pa_nil)))))))).pt (pss_one (ps_ret (pe_lst (pa_cons (pe_gi G.notOk) pa_nil)))) pss_nil)
      (pss_cons (ps_set (i := 3) scWord.nd rfl (Or.inl rfl) (pe_tup (pa_cons (pv 1) (pa_cons (pe_callTy call_tuple_of (by rfl) G.tuple boot_tuple1 (pa_cons (pv 2) pa_nil)) pa_nil))))
      (pss_cons (ps_if (pt_cmp (pc_pin hu9 (pv 3) (pe_fld (pv 0) rfl))) (pss_one (ps_ret (pe_lst (pa_cons (pe_gi G.isThere) pa_nil)))) pss_nil)
      (pss_cons (ps_set (i := 4) scWord.nd rfl (Or.inl rfl) (pe_callB call_len_seq (by rfl) G.len PySem.boot_len (pa_cons (pe_fld (pv 0) rfl) pa_nil)))
      (pss_cons (ps_if (pt_cmpR op_eq (pv 4) (pe_gi G.mostWords) (nomark _)) (pss_one (ps_ret (pe_lst (pa_cons (pe_gi G.full) pa_nil)))) pss_nil)
      (pss_cons (ps_expr (pe_app (pe_fld (pv 0) rfl) (pa_cons (pv 3) pa_nil)))
      (pss_cons (ps_pput hu9 (pe_fld (pv 0) rfl) (pv 3) (pv 4) rfl)
      (pss_cons (ps_for PassesOwn.never rfl (pi_range1 (by rfl) G.range (pa_cons (pe_op op_add (pe_gi G.lastSlot) pe_int) pa_nil)) (pg_name (i := 5) scWord.nd rfl (Or.inl rfl))
        (pss_one (ps_expr (pe_mcal (pv 0) T.cl C1 hr (pa_cons (pe_dget2 hu (pe_fld (pv 0) rfl) (pe_tup (pa_cons (pv 1) (pa_cons (pv 5) pa_nil))) (pe_lst pa_nil) ⟨rfl, rfl, rfl, rfl⟩) (pa_cons (pv 4) (pa_cons (pv 5) pa_nil)))))))
      (pss_one (ps_ret (pe_lst (pa_cons (pv 4) pa_nil))))))))))), ?_⟩
    obtain ⟨dx, rf, ws, wn, sd, tb, RF, was, XS, SD, MT, L, TB⟩ := id L0
    have hla : was.length = s.words.length := Paired.length L.w1
    have one : (1 : Nat) ≤ sizeLine := by decide
    have big : 10000 ≤ sizeLine := by decide
    refine ⟨_, rfl, _, _, rfl, rfl, _, rfl, ?_⟩
    by_cases h1 : 64 ≤ c
    · rw [decide_eq_true (show (63 : Int) < (c : Int) by omega)]
      refine iteT (iteT ?_)
      exact ⟨one, fun q hq => post.ret L0 (stepWord1 (.inl h1)) (Same.refl H) hq rfl⟩
    rw [decide_eq_false (show ¬ (63 : Int) < (c : Int) by omega)]
    refine iteF ?_
    refine ⟨_, rfl, a, l, 1, 24, rfl, hS, hL, fun H1 s1 => ⟨_, rfl, ?_⟩⟩
    cases e : isLetters 1 24 l with
    | false =>
      refine iteT ?_
      exact ⟨one, fun q hq => post.ret L0 (stepWord1 (.inr e)) s1 hq rfl⟩
    | true =>
    refine iteF ?_
    have hno : ¬ (64 ≤ c ∨ isLetters 1 24 l = false) := fun z => z.elim h1 (fun z => by rw [e] at z; cases z)
    -- entry
    refine ⟨_, rfl, _, rfl, a, _, rfl, .inl ⟨s1.seq hS, fun t ht => ?_⟩⟩
    have s2 : Same H (upd H1 t (.tup (nv l))) := same_new s1 ht
    have t2 : upd H1 t (.tup (nv l)) t = some (.tup (nv l)) := upd_same
    generalize upd H1 t (.tup (nv l)) = H2 at s2 t2
    refine ⟨(by show 2 ≤ sizeLine; decide), fun ea hea => ?_⟩
    have s3 : Same H (upd H2 ea (.tup [iv c, .ref t])) := same_new s2 hea
    have e3 : upd H2 ea (.tup [iv c, .ref t]) ea = some (.tup [iv c, .ref t]) := upd_same
    have t3 : upd H2 ea (.tup [iv c, .ref t]) t = some (.tup (nv l)) := by rw [upd_ne (ne_of_none t2 hea)]; exact t2
    generalize upd H2 ea (.tup [iv c, .ref t]) = H3 at s3 e3 t3
    have pa3 : PairAt H3 ((c : Int), nk l) ea := ⟨t, e3, by rw [nk_kV]; exact t3⟩
    have ks : ∀ {H' : Hp}, Same H H' → ∀ x ∈ XS, PairAt H' x.1 x.2.1 := fun s' x hx => (L.x2 x hx).keep fun b o z _ => s' b o z
    refine ⟨_, rfl, _, rfl, p, cs.L, dx, _, _, rfl, s3 _ _ L.obj, T.cl, T.n4, lexF_4 _ _ _ _ _ _, wn, ea, XS, ((c : Int), nk l), rfl, rfl, s3 _ _ L.hwn, ks s3, pa3, _, rfl, ?_⟩
    have ein : (atKey XS (((c : Int), nk l) : PKey)).isSome = wordIn s c l := by
      rw [Bool.eq_iff_iff, atKey_mem, L.x1, mem_word]
    rw [ein]
    cases ew : wordIn s c l with
    | true =>
      refine iteT ?_
      exact ⟨one, fun q hq => post.ret L0 (stepWord2 hno ew) s3 hq rfl⟩
    | false =>
    refine iteF ?_
    have hnone : atKey XS (((c : Int), nk l) : PKey) = none := by
      rw [ew] at ein
      cases q : atKey XS (((c : Int), nk l) : PKey) with
      | none => rfl
      | some y => rw [q] at ein; cases ein
    refine ⟨_, rfl, p, cs.L, dx, _, _, rfl, s3 _ _ L.obj, T.cl, T.n3, lexF_3 _ _ _ _ _ _, ws, _, rfl, .inl (SqL.of (s3 _ _ L.hws)), ?_⟩
    rw [List.length_map, hla]
    refine ⟨_, rfl, rfl, _, rfl, ?_⟩
    have hnw := ok.nw
    by_cases h4 : 512 ≤ s.words.length
    · refine iteEq (ceq (by omega)) ?_
      exact ⟨one, fun q hq => post.ret L0 (stepWord3 hno ew h4) s3 hq rfl⟩
    refine iteEqN (iv_ne (by omega)) ?_
    have est := stepWord4 hno ew h4
    obtain ⟨wd, ewd⟩ : ∃ wd : Word, wd = ⟨l, c⟩ := ⟨_, rfl⟩
    rw [← ewd] at est
    -- self.words.append(entry)
    refine ⟨_, rfl, p, cs.L, dx, _, _, rfl, s3 _ _ L.obj, T.cl, T.n3, lexF_3 _ _ _ _ _ _, .inl ⟨rfl, _, SqL.of (s3 _ _ L.hws)⟩, _, rfl, ws, _, _, rfl, rfl, s3 _ _ L.hws, by rw [List.length_map]; omega, ?_⟩
    have ws4 : upd H3 ws (.lst (was.map V.ref ++ [.ref ea])) ws = some (.lst ((was ++ [ea]).map V.ref)) := by rw [upd_same, List.map_append]; rfl
    have up4 : ∀ b o, H3 b = some o → b ≠ ws → upd H3 ws (.lst (was.map V.ref ++ [.ref ea])) b = some o := fun b o z hb => by rw [upd_ne hb]; exact z
    have kp4 : Keep M H (upd H3 ws (.lst (was.map V.ref ++ [.ref ea]))) := Keep.upd (Same.keep s3) L.mws (s3 _ _ L.hws) rfl
    generalize upd H3 ws (.lst (was.map V.ref ++ [.ref ea])) = H4 at ws4 up4 kp4
    have nws : ∀ {b : Addr} {o : HO}, H3 b = some o → (∀ xs, o ≠ .lst xs) → b ≠ ws := fun z hne zz => by rw [zz, s3 _ _ L.hws] at z; exact hne _ (Option.some.inj z).symm
    have sol4 : ∀ b o, H3 b = some o → solid o = true → H4 b = some o := fun b o z h => up4 b o z (nws z (fun xs q => by rw [q] at h; cases h))
    have wn4 := up4 _ _ (s3 _ _ L.hwn) (nws (s3 _ _ L.hwn) (fun _ z => nomatch z))
    have obj4 := up4 _ _ (s3 _ _ L.obj) (nws (s3 _ _ L.obj) (fun _ z => nomatch z))
    have pa4 : PairAt H4 ((c : Int), nk l) ea := pa3.keep sol4
    have ks4 : ∀ x ∈ XS, PairAt H4 x.1 x.2.1 := fun x hx => (ks s3 x hx).keep sol4
    have lXS : XS.length = s.words.length := by
      have := congrArg List.length L.x1
      simpa using this
    -- self.word_numbers[entry] = number
    refine ⟨_, rfl, _, rfl, p, cs.L, dx, _, _, rfl, obj4, T.cl, T.n4, lexF_4 _ _ _ _ _ _, _, rfl, wn, ea, XS, ((c : Int), nk l), rfl, rfl, wn4, ks4, pa4, by omega, hnone, fun u => ?_⟩
    have wn5 : upd H4 wn (PDict P w wn (XS ++ [(((c : Int), nk l), ea, u)])) wn = some (PDict P w wn (XS ++ [(((c : Int), nk l), ea, u)])) := upd_same
    have up5 : ∀ b o, H4 b = some o → b ≠ wn → upd H4 wn (PDict P w wn (XS ++ [(((c : Int), nk l), ea, u)])) b = some o := fun b o z hb => by rw [upd_ne hb]; exact z
    have kp5 : Keep M H (upd H4 wn (PDict P w wn (XS ++ [(((c : Int), nk l), ea, u)]))) := kp4.upd L.mwn wn4 rfl
    show tSeq _ _ _ _ (upd H4 wn (PDict P w wn (XS ++ [(((c : Int), nk l), ea, u)])))
    generalize upd H4 wn (PDict P w wn (XS ++ [(((c : Int), nk l), ea, u)])) = H5 at wn5 up5 kp5
    have nwn : ∀ {b : Addr} {o : HO}, H4 b = some o → (∀ φ, o ≠ .ext φ) → b ≠ wn := fun z hne zz => by rw [zz, wn4] at z; exact hne _ (Option.some.inj z).symm
    have sol5 : ∀ b o, H3 b = some o → solid o = true → H5 b = some o := fun b o z h => up5 b o (sol4 b o z h) (nwn (sol4 b o z h) (fun φ q => by rw [q] at h; cases h))
    have sol : ∀ b o, H b = some o → solid o = true → H5 b = some o := fun b o z h => sol5 b o (s3 b o z) h
    -- an old thing that is neither ws nor wn
    have old : ∀ {b : Addr} {o : HO}, H b = some o → b ≠ ws → b ≠ wn → H5 b = some o := fun z z1 z2 => up5 _ _ (up4 _ _ (s3 _ _ z) z1) z2
    have neW : ∀ {b : Addr} {o : HO}, H b = some o → (∀ xs, o ≠ .lst xs) → b ≠ ws := fun z h => nws (s3 _ _ z) h
    have neN : ∀ {b : Addr} {o : HO}, H b = some o → (∀ φ, o ≠ .ext φ) → b ≠ wn := fun z hne zz => by rw [zz, L.hwn] at z; exact hne _ (Option.some.inj z).symm
    have L5 : Lex P w cs H5 p dx rf ws wn sd tb RF (was ++ [ea]) (XS ++ [(((c : Int), nk l), ea, u)]) SD (moreWord s wd) (Ext M H) MT := {
      obj := old L.obj (neW L.obj (fun _ z => nomatch z)) (neN L.obj (fun _ z => nomatch z))
      hrf := old L.hrf (neW L.hrf (fun _ z => nomatch z)) (neN L.hrf (fun _ z => nomatch z))
      hws := up5 _ _ ws4 (nwn ws4 (fun _ z => nomatch z))
      hwn := wn5
      hsd := old L.hsd (neW L.hsd (fun _ z => nomatch z)) (neN L.hsd (fun _ z => nomatch z))
      r0 := L.r0
      r1 := fun c' j' h => let ⟨la, as, z1, z2, z3⟩ := L.r1 c' j' h; ⟨la, as, z1, old z2 (L.r2 _ _ z1).2.2.1 (neN z2 (fun _ z => nomatch z)), z3.keep sol⟩
      r2 := fun k la h => let ⟨z1, z2, z3, xs, z4⟩ := L.r2 k la h; ⟨.inl z1, z2, z3, xs, old z4 z3 (neN z4 (fun _ z => nomatch z))⟩
      r3 := L.r3
      rl := L.rl
      w1 := paired_snoc (by rw [ewd]; exact ⟨t, sol5 _ _ e3 rfl, sol5 _ _ t3 rfl⟩) (Paired.mapP L.w1 fun _ _ z => z.keep sol)
      x1 := by
        rw [List.map_append, L.x1]
        show _ = (s.words ++ [wd]).map _
        rw [List.map_append, ewd]
        rfl
      x2 := fun x hx => by
        rcases List.mem_append.mp hx with hx | hx
        · exact (L.x2 x hx).keep sol
        · rw [List.mem_singleton.mp hx]
          exact pa3.keep sol5
      d1 := L.d1
      mp := .inl L.mp
      mrf := .inl L.mrf
      mws := .inl L.mws
      mwn := .inl L.mwn
      msd := .inl L.msd
      sub := fun b h => .inl (L.sub b h)
      np := L.np
      nrf := L.nrf
      nws := L.nws
      nwn := L.nwn
      nsd := L.nsd
      ne := L.ne }
    have TB5 : TabAt cs.T H5 tb (phi s) MT := TB.mono (fun b o z h => by
      rcases h with h | h
      · exact old z (fun q => L.nws (q ▸ h)) (fun q => L.nwn (q ▸ h))
      · exact sol b o z h) fun _ h => h
    -- the slots
    refine ⟨_, _, rfl, rfl, _, rfl, (by decide), (by decide), ?_⟩
    refine for_range (lo := 0) (n := 16) (fun i σ H' => ∃ (v5 : Option V) (MTi : Addr → Prop), σ = [some (.ref p), some (iv c), some (.ref a), some (.ref ea), some (iv s.words.length), v5] ∧ Keep M H H' ∧
      Lex P w cs H' p dx rf ws wn sd tb RF (was ++ [ea]) (XS ++ [(((c : Int), nk l), ea, u)]) SD (moreWord s wd) (Ext M H) MTi ∧ TabAt cs.T H' tb (midWord s wd i) MTi) ?_ ?_ ?_
    · exact ⟨none, MT, rfl, kp5, L5, by rw [midWord_zero]; exact TB5⟩
    · rintro i σ H' hi ⟨v5, MTi, rfl, kpi, Li, Ti⟩
      rw [show V.int (0 + (i : Int)) = iv i from ceq (by omega)]
      refine ⟨_, rfl, p, dx, _, rfl, Li.obj, lexF_no _ _ _ _ _ _, _, rfl, p, cs.L, dx, _, _, rfl, Li.obj, T.cl, T.n2, lexF_2 _ _ _ _ _ _, rf, rfl, bd_is Li.hrf, _, rfl, _, rfl, (by show 2 ≤ sizeLine; decide), fun t6 ht6 => ?_⟩
      have s6 : Same H' (upd H' t6 (.tup [iv c, iv i])) := same_new (Same.refl H') ht6
      have t6' : upd H' t6 (.tup [iv c, iv i]) t6 = some (.tup (nv [c, i])) := upd_same
      generalize upd H' t6 (.tup [iv c, iv i]) = H6 at s6 t6'
      refine ⟨Nat.zero_le _, fun q0 hq0 => ?_⟩
      have s7 : Same H' (upd H6 q0 (.lst [])) := same_new s6 hq0
      have t7 : upd H6 q0 (.lst []) t6 = some (.tup (nv [c, i])) := by rw [upd_ne (ne_of_none t6' hq0)]; exact t6'
      have q7 : upd H6 q0 (.lst []) q0 = some (.lst []) := upd_same
      generalize upd H6 q0 (.lst []) = H7 at s7 t7 q7
      refine ⟨valV RF [c, i], bd_get (s7 _ _ Li.hrf) t7, ?_⟩
      have kp7 : Keep M H H7 := fun b o z h => s7 b o (kpi b o z h)
      have L7 : Lex P w cs H7 p dx rf ws wn sd tb RF (was ++ [ea]) (XS ++ [(((c : Int), nk l), ea, u)]) SD (moreWord s wd) (Ext M H) MTi := Li.mono (fun b o z _ => s7 b o z) (fun _ h => h) Li.sub (fun _ _ _ h => h)
      obtain ⟨rl, as, hrl, hlst, hRs⟩ : ∃ (rl : Addr) (as : List Addr), (valV RF [c, i]).getD (.ref q0) = .ref rl ∧ H7 rl = some (.lst (as.map V.ref)) ∧ RulesAt cs.R cs.P H7 as ((rulesOf s c i).map partsR) := by
        by_cases hru : rulesOf s c i = []
        · have z := L7.r0 c i hru
          rw [z, hru]
          exact ⟨q0, [], rfl, q7, .nil⟩
        · obtain ⟨la, as, z1, z2, z3⟩ := L7.r1 c i hru
          rw [z1]
          exact ⟨la, as, rfl, z2, z3⟩
      rw [hrl]
      have hget : (moreWord s wd).words[s.words.length]? = some wd := by
        show (s.words ++ [wd])[s.words.length]? = some wd
        rw [List.getElem?_append_right (Nat.le_refl _), Nat.sub_self]
        rfl
      refine ⟨_, rfl, _, rfl, p, rl, s.words.length, i, moreWord s wd, Ext M H, MTi, dx, rf, ws, wn, sd, tb, RF, was ++ [ea], XS ++ [(((c : Int), nk l), ea, u)], SD, midWord s wd i, as, (rulesOf s c i).map partsR, wd, rfl, L7, Ti.mono (fun b o z _ => s7 b o z) (fun _ h => h), SqL.of hlst, hRs, hget, by rw [ewd]; exact e, by omega, hi, fun H9 kp9 T9 => ?_⟩
      have e9 : tried (midWord s wd i) (saidAt (moreWord s wd) s.words.length i) [s.words.length, i] (firstOf ((rulesOf s c i).map partsR) wd.lemma_) = midWord s wd (i + 1) := by
        rw [midWord_try ok hi]
        have : wd.class_ = c := by rw [ewd]
        rw [this]
        rfl
      rw [e9] at T9
      have sub9 : ∀ b, Ext MTi H7 b → Ext M H b := fun b h => by
        rcases h with h | h
        · exact Li.sub b h
        · exact ext_of kp7 h
      refine ⟨_, Ext MTi H7, rfl, keep_step kp7 Li.sub kp9, L7.mono (fun b o z h => kp9 b o z (h.imp (fun q => q.2) id)) (fun _ h => h) sub9 (fun b o z h q => ?_), T9⟩
      rcases q with q | q
      · exact h q
      · rw [z] at q
        cases q
    · rintro σ H' ⟨v5, MTi, rfl, kpi, Li, Ti⟩
      rw [midWord_all] at Ti
      exact ⟨_, rfl, one, fun q hq => post.fin est kpi ⟨dx, rf, ws, wn, sd, tb, RF, _, _, SD, MTi, Li, Ti⟩ hq rfl⟩
end
end Bw
set_option Elab.async false
set_option linter.all false
set_option maxRecDepth 100000
set_option maxHeartbeats 4000000
namespace Bw
open PySem PySem.Spec PyProof.Rows L2 Kct5
def enc1 : Call → Bytes
  | .begin_ => [0]
  | .rule a b t => 1 :: a :: b :: t.length :: t
  | .word a t => 2 :: a :: t.length :: t
  | .odd a b t => 3 :: a :: b :: t.length :: t
  | .form a b => [4, a, b]
  | .found t a => 5 :: a :: t.length :: t
  | .near t a => 6 :: a :: t.length :: t
  | .check t a => 7 :: a :: t.length :: t
def heads : Bytes := [1, 4, 3, 4, 3, 3, 3, 3]
def flat (ds : List Call) : Bytes := ds.flatMap enc1
theorem enc1_pos (d : Call) : 1 ≤ (enc1 d).length := by cases d <;> simp [enc1]
theorem kind_put {c : List (List Int)} {d : Call} (h : Kind c d) : PyFlat.put1 c = (enc1 d).map Int.ofNat := by
  cases h <;> simp [PyFlat.put1, PyFlat.putRows, PyFlat.putRow, enc1]
theorem line_calls {l : List Int} (h : PyKct5.answers_asked l = true) : ∃ ds : List Call, l = (flat ds).map Int.ofNat ∧ ds.length ≤ 1200 ∧ PyKct5.answers l = PyFlat.told (run first ds) := by
  obtain ⟨cs, e, hl, hk, ha⟩ := line_of h
  refine ⟨cs.map Kct5Neutral.call, ?_, by rw [List.length_map]; exact hl, ha⟩
  rw [e]
  clear e ha hl h
  induction cs with
  | nil => rfl
  | cons c cs ih =>
    show PyFlat.put1 c ++ PyFlat.put cs = _
    rw [ih fun x hx => hk x (List.mem_cons_of_mem _ hx), kind_put (hk c List.mem_cons_self)]
    show _ = ((Kct5Neutral.call c :: cs.map Kct5Neutral.call).flatMap enc1).map Int.ofNat
    rw [List.flatMap_cons, List.map_append]
    rfl
theorem ofNat_V (l : Bytes) : (l.map Int.ofNat).map V.int = nv l := by
  rw [List.map_map]
  rfl
theorem flat_snoc {ds : List Call} {i : Nat} {d : Call} (h : ds[i]? = some d) : flat (ds.take (i + 1)) = flat (ds.take i) ++ enc1 d := by
  unfold flat
  rw [take_snoc h, List.flatMap_append]
  simp
theorem flat_drop {ds : List Call} {i : Nat} {d : Call} (h : ds[i]? = some d) : (flat ds).drop (flat (ds.take i)).length = enc1 d ++ flat (ds.drop (i + 1)) := by
  obtain ⟨h1, h2⟩ := List.getElem?_eq_some_iff.mp h
  have e : flat ds = flat (ds.take i) ++ (enc1 d ++ flat (ds.drop (i + 1))) := by
    have e1 : ds = ds.take i ++ d :: ds.drop (i + 1) := by
      rw [← h2, ← List.drop_eq_getElem_cons h1, List.take_append_drop]
    unfold flat
    conv => lhs; rw [e1]
    rw [List.flatMap_append, List.flatMap_cons]
  rw [e, List.drop_left]
theorem told_len (o : Option Bytes) (h : ∀ x, o = some x → x.length ≤ 40) : (Kct5Neutral.told (told o)).length ≤ 41 := by
  cases o with
  | none => exact (by decide : 1 ≤ 41)
  | some x =>
    show (1 :: Kct5Neutral.nums x).length ≤ 41
    unfold Kct5Neutral.nums
    rw [List.length_cons, List.length_map]
    have := h x rfl
    omega
theorem ans_len {s : Abs} (ok : Ok s) (c : Call) : (Kct5Neutral.told (step s c).2).length ≤ 41 := by
  have n1 : ∀ k : Int, (Kct5Neutral.told (.num k)).length ≤ 41 := fun k => (by show 1 ≤ 41; decide)
  have n3 : ∀ a b : Nat, (Kct5Neutral.told (.some_ [a, b])).length ≤ 41 := fun a b => (by show 3 ≤ 41; decide)
  cases c with
  | begin_ => exact n1 0
  | rule k j t =>
    by_cases h : 64 ≤ k ∨ 16 ≤ j ∨ 96 < t.length
    · rw [stepRule1 h]; exact n1 _
    · cases h2 : partsOf t with
      | none => rw [stepRule2 h h2]; exact n1 _
      | some p =>
        by_cases h3 : 512 ≤ s.rules.length
        · rw [stepRule3 h h2 h3]; exact n1 _
        · rw [stepRule4 h h2 h3]; exact n1 _
  | word k t =>
    by_cases h : 64 ≤ k ∨ isLetters 1 24 t = false
    · rw [stepWord1 h]; exact n1 _
    · cases h2 : wordIn s k t with
      | true => rw [stepWord2 h h2]; exact n1 _
      | false =>
        by_cases h3 : 512 ≤ s.words.length
        · rw [stepWord3 h h2 h3]; exact n1 _
        · rw [stepWord4 h h2 h3]; exact n1 _
  | odd n j x =>
    by_cases h : 16 ≤ j ∨ isLetters 0 40 x = false
    · rw [stepOdd1 h]; exact n1 _
    · by_cases h2 : s.words.length ≤ n
      · rw [stepOdd2 h h2]; exact n1 _
      · cases h3 : saidAt s n j with
        | true => rw [stepOdd3 h h2 h3]; exact n1 _
        | false =>
          by_cases h4 : 256 ≤ s.odd.length
          · rw [stepOdd4 h h2 h3 h4]; exact n1 _
          · rw [stepOdd5 h h2 h3 h4]; exact n1 _
  | form n j =>
    by_cases h : 16 ≤ j
    · rw [stepForm1 h]; exact n1 _
    · by_cases h2 : s.words.length ≤ n
      · rw [stepForm2 (by omega) h2]; exact n1 _
      · rw [stepForm3 (by omega) (by omega)]
        exact told_len _ fun x e => (isLetters_iff.mp (form_ok ok e)).2.1
  | found x k =>
    cases h : isLetters 1 40 x with
    | false => rw [stepFound1 h]; exact n1 _
    | true =>
      rw [stepFound2 h]
      cases (found s x)[k]? with
      | none => exact n1 _
      | some p => exact n3 _ _
  | near x k =>
    cases h : isLetters 1 40 x with
    | false => rw [stepNear1 h]; exact n1 _
    | true =>
      rw [stepNear2 h]
      refine told_len _ fun y e => ?_
      obtain ⟨⟨n, j, _, _, z⟩, _⟩ := mem_near.mp (List.mem_of_getElem? e)
      exact (isLetters_iff.mp (form_ok ok z)).2.1
  | check t k =>
    by_cases h : 4096 < t.length ∨ t.length < k
    · rw [stepCheck1 h]; exact n1 _
    · rw [stepCheck2 h]
      cases unk s k (t.drop k) with
      | none => exact n1 _
      | some p => exact n3 _ _
structure HS (K : PySem.W.Frag) (mg : Str → Option Value) (hs : Addr) : Prop where
  mgH : mg "HEAD_SIZES" = some (.ref hs)
  tup : ∀ H, SqT K H hs (nv heads)
def spSizeC (K : PySem.W.Frag) : Sp := fun vs H Q _ => ∃ (a : Addr) (l : Bytes) (i : Nat) (d : Call) (r : Bytes), vs = [.ref a, iv i] ∧ SqL K H a (nv l) ∧ l.drop i = enc1 d ++ r ∧ Q (iv (enc1 d).length) H
def spAnswer (P : Program) (w : World) (K : PySem.W.Frag) (cs : Cs) : Sp := fun vs H Q _ => ∃ (p b : Addr) (s : Abs) (M : Addr → Prop) (d : Call), vs = [.ref p, .ref b] ∧ LexAt P w cs H p s M ∧ Ok s ∧ SqL K H b (nv (enc1 d)) ∧ (enc1 d).length ≤ 30000 ∧ Post P w cs H p M s d Q
def spAns (K : PySem.W.Frag) : Sp := fun vs H Q _ => ∃ (a : Addr) (ns : List Int), vs = [.ref a] ∧ SqL K H a (ns.map V.int) ∧ ns.length ≤ 30000 ∧ PyKct5.answers_asked ns = true ∧ ∀ (H' : Hp) (p : Addr), H' p = some (.lst ((PyKct5.answers ns).map V.int)) → Q (.ref p) H'
theorem Post.same {P : Program} {w : World} {cs : Cs} {H H1 : Hp} {p : Addr} {s : Abs} {M : Addr → Prop} {c : Call} {Q : VK} (h : Post P w cs H p M s c Q) (s1 : Same H H1) : Post P w cs H1 p M s c Q :=
  fun q H' hq kp L ho => h q H' (ext_ext s1 hq) (fun b o z z2 => kp b o (s1 b o z) z2) (L.mono (fun _ _ z _ => z) fun b h => ext_ext s1 h) ho
section
variable {P : Program} {w : World} {K : PySem.W.Frag} {mg : Str → Option Value} {base : Heap}
theorem scSizeC : FnScope ["calls", "at", "head"] ["calls", "at"] (defScope (top 68)) := ⟨rfl, rfl, rfl, by decide +kernel, rfl, by decide +kernel, by decide +kernel⟩
theorem ok_sizeC {f hs : Addr} {fd : FuncData} (F : Fun K "call_size" "call_size" (top 68) f fd) (G : Glo mg) (S : HS K mg hs) : FnOk P w K mg base CX0 1 f fd ["calls", "at"] (spSizeC K) := by
  refine F.ok scSizeC (fun vs H Q E h => ?_) (fun cdv A outer s H vs Q E hr h => ?_)
  · obtain ⟨aa, l, i, d, r, rfl, _⟩ := h
    rfl
  · obtain ⟨aa, l, i, d, r, rfl, hS, hd, k⟩ := h
    have ati : ∀ j x, (enc1 d ++ r)[j]? = some x → l[i + j]? = some x := fun j x e => by rw [← List.getElem?_drop, hd]; exact e
    refine ⟨_, pss_cons (ps_set (i := 2) scSizeC.nd rfl (Or.inl rfl) (pe_ix ix_tup (pe_glob (v := .ref hs) (by rfl) S.mgH rfl) (pe_ix ix_list (pv 0) (pv 1) (fun _ _ => rfl)) (fun _ _ => rfl)))
      (pss_cons (ps_if (pw_or (pt_cmpR op_eq (pe_ix ix_list (pv 0) (pv 1) (fun _ _ => rfl)) (pe_gi G.cBegin) (nomark _)) (pw_or1 (pt_cmpR op_eq (pe_ix ix_list (pv 0) (pv 1) (fun _ _ => rfl)) (pe_gi G.cForm) (nomark _)))).pt (pss_one (ps_ret (pv 2))) pss_nil)
      (pss_one (ps_ret (pe_op op_add (pv 2) (pe_ix ix_list (pv 0) (pe_op op_sub (pe_op op_add (pv 1) (pv 2)) pe_int) (fun _ _ => rfl)))))), ?_⟩
    cases d with
    | begin_  =>
      have h0 := atI_nat (nv_at (ati 0 0 rfl))
      refine ⟨_, rfl, _, rfl, aa, _, _, _, rfl, rfl, hS, h0, hs, _, _, _, rfl, rfl, S.tup H, atI_nat (j := 0) rfl, ?_⟩
      refine ⟨_, rfl, _, rfl, aa, _, _, _, rfl, rfl, hS, h0, rfl, _, rfl, ?_⟩
      refine iteEq rfl (iteT ?_)
      exact ⟨_, rfl, k⟩
    | rule a b t =>
      have h0 := atI_nat (nv_at (ati 0 1 rfl))
      refine ⟨_, rfl, _, rfl, aa, _, _, _, rfl, rfl, hS, h0, hs, _, _, _, rfl, rfl, S.tup H, atI_nat (j := 1) rfl, ?_⟩
      refine ⟨_, rfl, _, rfl, aa, _, _, _, rfl, rfl, hS, h0, rfl, _, rfl, ?_⟩
      refine iteEqN (iv_ne (by decide)) ?_
      refine ⟨_, rfl, _, rfl, aa, _, _, _, rfl, rfl, hS, h0, rfl, _, rfl, ?_⟩
      refine iteEqN (iv_ne (by decide)) ?_
      refine ⟨_, rfl, _, rfl, _, rfl, _, rfl, _, _, rfl, rfl, _, _, rfl, rfl, aa, _, _, _, rfl, rfl, hS, at_of (j := i + 3) (by show (i : Int) + ((4 : Nat) : Int) - 1 = ((i + 3 : Nat) : Int); omega) (nv_at (ati 3 t.length rfl)), _, _, rfl, rfl, ?_⟩
      have e : V.int (((4 : Nat) : Int) + ((t.length : Nat) : Int)) = iv (enc1 (.rule a b t)).length := ceq (by show ((4 : Nat) : Int) + ((t.length : Nat) : Int) = ((t.length + 4 : Nat) : Int); omega)
      show Q (V.int (((4 : Nat) : Int) + ((t.length : Nat) : Int))) H
      rw [e]
      exact k
    | word a t =>
      have h0 := atI_nat (nv_at (ati 0 2 rfl))
      refine ⟨_, rfl, _, rfl, aa, _, _, _, rfl, rfl, hS, h0, hs, _, _, _, rfl, rfl, S.tup H, atI_nat (j := 2) rfl, ?_⟩
      refine ⟨_, rfl, _, rfl, aa, _, _, _, rfl, rfl, hS, h0, rfl, _, rfl, ?_⟩
      refine iteEqN (iv_ne (by decide)) ?_
      refine ⟨_, rfl, _, rfl, aa, _, _, _, rfl, rfl, hS, h0, rfl, _, rfl, ?_⟩
      refine iteEqN (iv_ne (by decide)) ?_
      refine ⟨_, rfl, _, rfl, _, rfl, _, rfl, _, _, rfl, rfl, _, _, rfl, rfl, aa, _, _, _, rfl, rfl, hS, at_of (j := i + 2) (by show (i : Int) + ((3 : Nat) : Int) - 1 = ((i + 2 : Nat) : Int); omega) (nv_at (ati 2 t.length rfl)), _, _, rfl, rfl, ?_⟩
      have e : V.int (((3 : Nat) : Int) + ((t.length : Nat) : Int)) = iv (enc1 (.word a t)).length := ceq (by show ((3 : Nat) : Int) + ((t.length : Nat) : Int) = ((t.length + 3 : Nat) : Int); omega)
      show Q (V.int (((3 : Nat) : Int) + ((t.length : Nat) : Int))) H
      rw [e]
      exact k
    | odd a b t =>
      have h0 := atI_nat (nv_at (ati 0 3 rfl))
      refine ⟨_, rfl, _, rfl, aa, _, _, _, rfl, rfl, hS, h0, hs, _, _, _, rfl, rfl, S.tup H, atI_nat (j := 3) rfl, ?_⟩
      refine ⟨_, rfl, _, rfl, aa, _, _, _, rfl, rfl, hS, h0, rfl, _, rfl, ?_⟩
      refine iteEqN (iv_ne (by decide)) ?_
      refine ⟨_, rfl, _, rfl, aa, _, _, _, rfl, rfl, hS, h0, rfl, _, rfl, ?_⟩
      refine iteEqN (iv_ne (by decide)) ?_
      refine ⟨_, rfl, _, rfl, _, rfl, _, rfl, _, _, rfl, rfl, _, _, rfl, rfl, aa, _, _, _, rfl, rfl, hS, at_of (j := i + 3) (by show (i : Int) + ((4 : Nat) : Int) - 1 = ((i + 3 : Nat) : Int); omega) (nv_at (ati 3 t.length rfl)), _, _, rfl, rfl, ?_⟩
      have e : V.int (((4 : Nat) : Int) + ((t.length : Nat) : Int)) = iv (enc1 (.odd a b t)).length := ceq (by show ((4 : Nat) : Int) + ((t.length : Nat) : Int) = ((t.length + 4 : Nat) : Int); omega)
      show Q (V.int (((4 : Nat) : Int) + ((t.length : Nat) : Int))) H
      rw [e]
      exact k
    | form a b =>
      have h0 := atI_nat (nv_at (ati 0 4 rfl))
      refine ⟨_, rfl, _, rfl, aa, _, _, _, rfl, rfl, hS, h0, hs, _, _, _, rfl, rfl, S.tup H, atI_nat (j := 4) rfl, ?_⟩
      refine ⟨_, rfl, _, rfl, aa, _, _, _, rfl, rfl, hS, h0, rfl, _, rfl, ?_⟩
      refine iteEqN (iv_ne (by decide)) ?_
      refine ⟨_, rfl, _, rfl, aa, _, _, _, rfl, rfl, hS, h0, rfl, _, rfl, ?_⟩
      refine iteEq rfl ?_
      exact ⟨_, rfl, k⟩
    | found t a =>
      have h0 := atI_nat (nv_at (ati 0 5 rfl))
      refine ⟨_, rfl, _, rfl, aa, _, _, _, rfl, rfl, hS, h0, hs, _, _, _, rfl, rfl, S.tup H, atI_nat (j := 5) rfl, ?_⟩
      refine ⟨_, rfl, _, rfl, aa, _, _, _, rfl, rfl, hS, h0, rfl, _, rfl, ?_⟩
      refine iteEqN (iv_ne (by decide)) ?_
      refine ⟨_, rfl, _, rfl, aa, _, _, _, rfl, rfl, hS, h0, rfl, _, rfl, ?_⟩
      refine iteEqN (iv_ne (by decide)) ?_
      refine ⟨_, rfl, _, rfl, _, rfl, _, rfl, _, _, rfl, rfl, _, _, rfl, rfl, aa, _, _, _, rfl, rfl, hS, at_of (j := i + 2) (by show (i : Int) + ((3 : Nat) : Int) - 1 = ((i + 2 : Nat) : Int); omega) (nv_at (ati 2 t.length rfl)), _, _, rfl, rfl, ?_⟩
      have e : V.int (((3 : Nat) : Int) + ((t.length : Nat) : Int)) = iv (enc1 (.found t a)).length := ceq (by show ((3 : Nat) : Int) + ((t.length : Nat) : Int) = ((t.length + 3 : Nat) : Int); omega)
      show Q (V.int (((3 : Nat) : Int) + ((t.length : Nat) : Int))) H
      rw [e]
      exact k
    | near t a =>
      have h0 := atI_nat (nv_at (ati 0 6 rfl))
      refine ⟨_, rfl, _, rfl, aa, _, _, _, rfl, rfl, hS, h0, hs, _, _, _, rfl, rfl, S.tup H, atI_nat (j := 6) rfl, ?_⟩
      refine ⟨_, rfl, _, rfl, aa, _, _, _, rfl, rfl, hS, h0, rfl, _, rfl, ?_⟩
      refine iteEqN (iv_ne (by decide)) ?_
      refine ⟨_, rfl, _, rfl, aa, _, _, _, rfl, rfl, hS, h0, rfl, _, rfl, ?_⟩
      refine iteEqN (iv_ne (by decide)) ?_
      refine ⟨_, rfl, _, rfl, _, rfl, _, rfl, _, _, rfl, rfl, _, _, rfl, rfl, aa, _, _, _, rfl, rfl, hS, at_of (j := i + 2) (by show (i : Int) + ((3 : Nat) : Int) - 1 = ((i + 2 : Nat) : Int); omega) (nv_at (ati 2 t.length rfl)), _, _, rfl, rfl, ?_⟩
      have e : V.int (((3 : Nat) : Int) + ((t.length : Nat) : Int)) = iv (enc1 (.near t a)).length := ceq (by show ((3 : Nat) : Int) + ((t.length : Nat) : Int) = ((t.length + 3 : Nat) : Int); omega)
      show Q (V.int (((3 : Nat) : Int) + ((t.length : Nat) : Int))) H
      rw [e]
      exact k
    | check t a =>
      have h0 := atI_nat (nv_at (ati 0 7 rfl))
      refine ⟨_, rfl, _, rfl, aa, _, _, _, rfl, rfl, hS, h0, hs, _, _, _, rfl, rfl, S.tup H, atI_nat (j := 7) rfl, ?_⟩
      refine ⟨_, rfl, _, rfl, aa, _, _, _, rfl, rfl, hS, h0, rfl, _, rfl, ?_⟩
      refine iteEqN (iv_ne (by decide)) ?_
      refine ⟨_, rfl, _, rfl, aa, _, _, _, rfl, rfl, hS, h0, rfl, _, rfl, ?_⟩
      refine iteEqN (iv_ne (by decide)) ?_
      refine ⟨_, rfl, _, rfl, _, rfl, _, rfl, _, _, rfl, rfl, _, _, rfl, rfl, aa, _, _, _, rfl, rfl, hS, at_of (j := i + 2) (by show (i : Int) + ((3 : Nat) : Int) - 1 = ((i + 2 : Nat) : Int); omega) (nv_at (ati 2 t.length rfl)), _, _, rfl, rfl, ?_⟩
      have e : V.int (((3 : Nat) : Int) + ((t.length : Nat) : Int)) = iv (enc1 (.check t a)).length := ceq (by show ((3 : Nat) : Int) + ((t.length : Nat) : Int) = ((t.length + 3 : Nat) : Int); omega)
      show Q (V.int (((3 : Nat) : Int) + ((t.length : Nat) : Int))) H
      rw [e]
      exact k
theorem scAnswer : FnScope ["lexicon", "call", "signs"] ["lexicon", "call"] (defScope (top 69)) := ⟨rfl, rfl, rfl, by decide +kernel, rfl, by decide +kernel, by decide +kernel⟩
theorem ok_answer {f hs : Addr} {fd : FuncData} {cs : Cs} (F : Fun K "answer_call" "answer_call" (top 69) f fd) (G : Glo mg) (S : HS K mg hs) (T : LexCls K cs.L) (C0 : MCal P w K mg base cs.L "begin" ["self"] 3 (spBegin P w cs))
    (C1 : MCal P w K mg base cs.L "rule" ["self", "kind", "slot", "signs"] 8 (spRuleC P w K cs)) (C2 : MCal P w K mg base cs.L "word" ["self", "kind", "signs"] 6 (spWord P w K cs)) (C3 : MCal P w K mg base cs.L "odd" ["self", "number", "slot", "signs"] 3 (spOdd P w K cs))
    (C4 : MCal P w K mg base cs.L "form" ["self", "number", "slot"] 2 (spForm P w cs)) (C5 : MCal P w K mg base cs.L "found" ["self", "signs", "k"] 3 (spFound P w K cs)) (C6 : MCal P w K mg base cs.L "near" ["self", "signs", "k"] 3 (spNear P w K cs))
    (C7 : MCal P w K mg base cs.L "check" ["self", "signs", "start"] 4 (spCheck P w K cs)) : FnOk P w K mg base CX0 9 f fd ["lexicon", "call"] (spAnswer P w K cs) := by
  refine F.ok scAnswer (fun vs H Q E h => ?_) (fun cdv A outer s H vs Q E hr h => ?_)
  · obtain ⟨p, bb, s, M, d, rfl, _⟩ := h
    rfl
  · obtain ⟨p, bb, s, M, d, rfl, L0, ok, hS, hL, post⟩ := h
    refine ⟨_, pss_cons (ps_set (i := 2) scAnswer.nd rfl (Or.inl rfl) (pe_slice sl_list (pv 1) (po_some (pe_ix ix_tup (pe_glob (v := .ref hs) (by rfl) S.mgH rfl) (pe_ix ix_list (pv 1) pe_int (fun _ _ => rfl)) (fun _ _ => rfl))) po_none))
      (pss_cons (ps_if (pt_cmpR op_eq (pe_ix ix_list (pv 1) pe_int (fun _ _ => rfl)) (pe_gi G.cBegin) (nomark _)) (pss_one (ps_ret (pe_mcal0 (pv 0) T.cl C0 (hr.mono (by decide))))) pss_nil)
      (pss_cons (ps_if (pt_cmpR op_eq (pe_ix ix_list (pv 1) pe_int (fun _ _ => rfl)) (pe_gi G.cRule) (nomark _)) (pss_one (ps_ret (pe_mcal (pv 0) T.cl C1 (hr.mono (by decide)) (pa_cons (pe_ix ix_list (pv 1) pe_int (fun _ _ => rfl)) (pa_cons (pe_ix ix_list (pv 1) pe_int (fun _ _ => rfl)) (pa_cons (pv 2) pa_nil)))))) pss_nil)
      (pss_cons (ps_if (pt_cmpR op_eq (pe_ix ix_list (pv 1) pe_int (fun _ _ => rfl)) (pe_gi G.cWord) (nomark _)) (pss_one (ps_ret (pe_mcal (pv 0) T.cl C2 (hr.mono (by decide)) (pa_cons (pe_ix ix_list (pv 1) pe_int (fun _ _ => rfl)) (pa_cons (pv 2) pa_nil))))) pss_nil)
      (pss_cons (ps_if (pt_cmpR op_eq (pe_ix ix_list (pv 1) pe_int (fun _ _ => rfl)) (pe_gi G.cOdd) (nomark _)) (pss_one (ps_ret (pe_mcal (pv 0) T.cl C3 (hr.mono (by decide)) (pa_cons (pe_ix ix_list (pv 1) pe_int (fun _ _ => rfl)) (pa_cons (pe_ix ix_list (pv 1) pe_int (fun _ _ => rfl)) (pa_cons (pv 2) pa_nil)))))) pss_nil)
      (pss_cons (ps_if (pt_cmpR op_eq (pe_ix ix_list (pv 1) pe_int (fun _ _ => rfl)) (pe_gi G.cForm) (nomark _)) (pss_one (ps_ret (pe_mcal (pv 0) T.cl C4 (hr.mono (by decide)) (pa_cons (pe_ix ix_list (pv 1) pe_int (fun _ _ => rfl)) (pa_cons (pe_ix ix_list (pv 1) pe_int (fun _ _ => rfl)) pa_nil))))) pss_nil)
      (pss_cons (ps_if (pt_cmpR op_eq (pe_ix ix_list (pv 1) pe_int (fun _ _ => rfl)) (pe_gi G.cFound) (nomark _)) (pss_one (ps_ret (pe_mcal (pv 0) T.cl C5 (hr.mono (by decide)) (pa_cons (pv 2) (pa_cons (pe_ix ix_list (pv 1) pe_int (fun _ _ => rfl)) pa_nil))))) pss_nil)
      (pss_cons (ps_if (pt_cmpR op_eq (pe_ix ix_list (pv 1) pe_int (fun _ _ => rfl)) (pe_gi G.cNear) (nomark _)) (pss_one (ps_ret (pe_mcal (pv 0) T.cl C6 (hr.mono (by decide)) (pa_cons (pv 2) (pa_cons (pe_ix ix_list (pv 1) pe_int (fun _ _ => rfl)) pa_nil))))) pss_nil)
      (pss_one (ps_ret (pe_mcal (pv 0) T.cl C7 (hr.mono (by decide)) (pa_cons (pv 2) (pa_cons (pe_ix ix_list (pv 1) pe_int (fun _ _ => rfl)) pa_nil)))))))))))), ?_⟩
    obtain ⟨dx, rf, ws, wn, sd, tb, RF, was, XS, SD, MT, L, TB⟩ := id L0
    cases d with
    | begin_  =>
      refine ⟨_, rfl, _, rfl, bb, _, _, _, rfl, rfl, hS, at_of (j := 0) rfl rfl, hs, _, _, _, rfl, rfl, S.tup H, atI_nat (j := 0) rfl, _, rfl, bb, _, rfl, hS, fun sg hsg => ?_⟩
      have ec : cutV (nv (enc1 (.begin_ ))) (some ((1 : Nat) : Int)) none = nv [] := cut_from _ 1
      rw [ec]
      have s1 : Same H (upd H sg (.lst (nv []))) := same_new (Same.refl H) hsg
      have g1 : upd H sg (.lst (nv [])) sg = some (.lst (nv [])) := upd_same
      generalize upd H sg (.lst (nv [])) = H1 at s1 g1
      have hS1 := s1.seq hS
      have post1 := post.same s1
      have L1 : LexAt P w cs H1 p s M := L0.mono (fun b o z _ => s1 b o z) fun _ h => h
      refine ⟨_, rfl, bb, _, _, _, rfl, rfl, hS1, at_of (j := 0) rfl rfl, rfl, _, rfl, ?_⟩
      refine iteEq rfl ?_
      refine ⟨_, rfl, p, dx, _, rfl, s1 _ _ L.obj, lexF_no _ _ _ _ _ _, p, dx, _, rfl, s1 _ _ L.obj, .inr ⟨_, _, _, _, _, _, rfl⟩, fun q H2 hq fr L2 hq2 => ?_⟩
      refine post1 q H2 (.inr hq) (fun b o z h => fr b o z fun e => ?_) (L2.mono (fun _ _ z _ => z) fun b h => ?_) hq2
      · rw [e] at z h
        rcases h with h | h
        · exact h L.mp
        · rw [s1 _ _ L.obj] at z
          cases z
          rw [solid_lex] at h
          cases h
      · rcases h with h | h
        · rw [h]
          exact .inl L.mp
        · exact .inr h
    | rule a b t =>
      refine ⟨_, rfl, _, rfl, bb, _, _, _, rfl, rfl, hS, at_of (j := 0) rfl rfl, hs, _, _, _, rfl, rfl, S.tup H, atI_nat (j := 1) rfl, _, rfl, bb, _, rfl, hS, fun sg hsg => ?_⟩
      have ec : cutV (nv (enc1 (.rule a b t))) (some ((4 : Nat) : Int)) none = nv t := cut_from _ 4
      rw [ec]
      have s1 : Same H (upd H sg (.lst (nv t))) := same_new (Same.refl H) hsg
      have g1 : upd H sg (.lst (nv t)) sg = some (.lst (nv t)) := upd_same
      generalize upd H sg (.lst (nv t)) = H1 at s1 g1
      have hS1 := s1.seq hS
      have post1 := post.same s1
      have L1 : LexAt P w cs H1 p s M := L0.mono (fun b o z _ => s1 b o z) fun _ h => h
      refine ⟨_, rfl, bb, _, _, _, rfl, rfl, hS1, at_of (j := 0) rfl rfl, rfl, _, rfl, ?_⟩
      refine iteEqN (iv_ne (by decide)) ?_
      refine ⟨_, rfl, bb, _, _, _, rfl, rfl, hS1, at_of (j := 0) rfl rfl, rfl, _, rfl, ?_⟩
      refine iteEq rfl ?_
      exact ⟨_, rfl, p, dx, _, rfl, s1 _ _ L.obj, lexF_no _ _ _ _ _ _, _, rfl, bb, _, _, _, rfl, rfl, hS1, at_of (j := 1) rfl rfl, _, rfl, bb, _, _, _, rfl, rfl, hS1, at_of (j := 2) rfl rfl, _, rfl, p, sg, s, M, t, a, b, rfl, L1, ok, SqL.of g1, (by have z := hL; simp only [enc1, List.length_cons] at z; omega), post1⟩
    | word a t =>
      refine ⟨_, rfl, _, rfl, bb, _, _, _, rfl, rfl, hS, at_of (j := 0) rfl rfl, hs, _, _, _, rfl, rfl, S.tup H, atI_nat (j := 2) rfl, _, rfl, bb, _, rfl, hS, fun sg hsg => ?_⟩
      have ec : cutV (nv (enc1 (.word a t))) (some ((3 : Nat) : Int)) none = nv t := cut_from _ 3
      rw [ec]
      have s1 : Same H (upd H sg (.lst (nv t))) := same_new (Same.refl H) hsg
      have g1 : upd H sg (.lst (nv t)) sg = some (.lst (nv t)) := upd_same
      generalize upd H sg (.lst (nv t)) = H1 at s1 g1
      have hS1 := s1.seq hS
      have post1 := post.same s1
      have L1 : LexAt P w cs H1 p s M := L0.mono (fun b o z _ => s1 b o z) fun _ h => h
      refine ⟨_, rfl, bb, _, _, _, rfl, rfl, hS1, at_of (j := 0) rfl rfl, rfl, _, rfl, ?_⟩
      refine iteEqN (iv_ne (by decide)) ?_
      refine ⟨_, rfl, bb, _, _, _, rfl, rfl, hS1, at_of (j := 0) rfl rfl, rfl, _, rfl, ?_⟩
      refine iteEqN (iv_ne (by decide)) ?_
      refine ⟨_, rfl, bb, _, _, _, rfl, rfl, hS1, at_of (j := 0) rfl rfl, rfl, _, rfl, ?_⟩
      refine iteEq rfl ?_
      exact ⟨_, rfl, p, dx, _, rfl, s1 _ _ L.obj, lexF_no _ _ _ _ _ _, _, rfl, bb, _, _, _, rfl, rfl, hS1, at_of (j := 1) rfl rfl, _, rfl, p, sg, s, M, t, a, rfl, L1, ok, SqL.of g1, (by have z := hL; simp only [enc1, List.length_cons] at z; omega), post1⟩
    | odd a b t =>
      refine ⟨_, rfl, _, rfl, bb, _, _, _, rfl, rfl, hS, at_of (j := 0) rfl rfl, hs, _, _, _, rfl, rfl, S.tup H, atI_nat (j := 3) rfl, _, rfl, bb, _, rfl, hS, fun sg hsg => ?_⟩
      have ec : cutV (nv (enc1 (.odd a b t))) (some ((4 : Nat) : Int)) none = nv t := cut_from _ 4
      rw [ec]
      have s1 : Same H (upd H sg (.lst (nv t))) := same_new (Same.refl H) hsg
      have g1 : upd H sg (.lst (nv t)) sg = some (.lst (nv t)) := upd_same
      generalize upd H sg (.lst (nv t)) = H1 at s1 g1
      have hS1 := s1.seq hS
      have post1 := post.same s1
      have L1 : LexAt P w cs H1 p s M := L0.mono (fun b o z _ => s1 b o z) fun _ h => h
      refine ⟨_, rfl, bb, _, _, _, rfl, rfl, hS1, at_of (j := 0) rfl rfl, rfl, _, rfl, ?_⟩
      refine iteEqN (iv_ne (by decide)) ?_
      refine ⟨_, rfl, bb, _, _, _, rfl, rfl, hS1, at_of (j := 0) rfl rfl, rfl, _, rfl, ?_⟩
      refine iteEqN (iv_ne (by decide)) ?_
      refine ⟨_, rfl, bb, _, _, _, rfl, rfl, hS1, at_of (j := 0) rfl rfl, rfl, _, rfl, ?_⟩
      refine iteEqN (iv_ne (by decide)) ?_
      refine ⟨_, rfl, bb, _, _, _, rfl, rfl, hS1, at_of (j := 0) rfl rfl, rfl, _, rfl, ?_⟩
      refine iteEq rfl ?_
      exact ⟨_, rfl, p, dx, _, rfl, s1 _ _ L.obj, lexF_no _ _ _ _ _ _, _, rfl, bb, _, _, _, rfl, rfl, hS1, at_of (j := 1) rfl rfl, _, rfl, bb, _, _, _, rfl, rfl, hS1, at_of (j := 2) rfl rfl, _, rfl, p, sg, s, M, t, a, b, rfl, L1, ok, SqL.of g1, (by have z := hL; simp only [enc1, List.length_cons] at z; omega), post1⟩
    | form a b =>
      refine ⟨_, rfl, _, rfl, bb, _, _, _, rfl, rfl, hS, at_of (j := 0) rfl rfl, hs, _, _, _, rfl, rfl, S.tup H, atI_nat (j := 4) rfl, _, rfl, bb, _, rfl, hS, fun sg hsg => ?_⟩
      have ec : cutV (nv (enc1 (.form a b))) (some ((3 : Nat) : Int)) none = nv [] := cut_from _ 3
      rw [ec]
      have s1 : Same H (upd H sg (.lst (nv []))) := same_new (Same.refl H) hsg
      have g1 : upd H sg (.lst (nv [])) sg = some (.lst (nv [])) := upd_same
      generalize upd H sg (.lst (nv [])) = H1 at s1 g1
      have hS1 := s1.seq hS
      have post1 := post.same s1
      have L1 : LexAt P w cs H1 p s M := L0.mono (fun b o z _ => s1 b o z) fun _ h => h
      refine ⟨_, rfl, bb, _, _, _, rfl, rfl, hS1, at_of (j := 0) rfl rfl, rfl, _, rfl, ?_⟩
      refine iteEqN (iv_ne (by decide)) ?_
      refine ⟨_, rfl, bb, _, _, _, rfl, rfl, hS1, at_of (j := 0) rfl rfl, rfl, _, rfl, ?_⟩
      refine iteEqN (iv_ne (by decide)) ?_
      refine ⟨_, rfl, bb, _, _, _, rfl, rfl, hS1, at_of (j := 0) rfl rfl, rfl, _, rfl, ?_⟩
      refine iteEqN (iv_ne (by decide)) ?_
      refine ⟨_, rfl, bb, _, _, _, rfl, rfl, hS1, at_of (j := 0) rfl rfl, rfl, _, rfl, ?_⟩
      refine iteEqN (iv_ne (by decide)) ?_
      refine ⟨_, rfl, bb, _, _, _, rfl, rfl, hS1, at_of (j := 0) rfl rfl, rfl, _, rfl, ?_⟩
      refine iteEq rfl ?_
      exact ⟨_, rfl, p, dx, _, rfl, s1 _ _ L.obj, lexF_no _ _ _ _ _ _, _, rfl, bb, _, _, _, rfl, rfl, hS1, at_of (j := 1) rfl rfl, _, rfl, bb, _, _, _, rfl, rfl, hS1, at_of (j := 2) rfl rfl, p, s, M, a, b, rfl, L1, ok, post1⟩
    | found t a =>
      refine ⟨_, rfl, _, rfl, bb, _, _, _, rfl, rfl, hS, at_of (j := 0) rfl rfl, hs, _, _, _, rfl, rfl, S.tup H, atI_nat (j := 5) rfl, _, rfl, bb, _, rfl, hS, fun sg hsg => ?_⟩
      have ec : cutV (nv (enc1 (.found t a))) (some ((3 : Nat) : Int)) none = nv t := cut_from _ 3
      rw [ec]
      have s1 : Same H (upd H sg (.lst (nv t))) := same_new (Same.refl H) hsg
      have g1 : upd H sg (.lst (nv t)) sg = some (.lst (nv t)) := upd_same
      generalize upd H sg (.lst (nv t)) = H1 at s1 g1
      have hS1 := s1.seq hS
      have post1 := post.same s1
      have L1 : LexAt P w cs H1 p s M := L0.mono (fun b o z _ => s1 b o z) fun _ h => h
      refine ⟨_, rfl, bb, _, _, _, rfl, rfl, hS1, at_of (j := 0) rfl rfl, rfl, _, rfl, ?_⟩
      refine iteEqN (iv_ne (by decide)) ?_
      refine ⟨_, rfl, bb, _, _, _, rfl, rfl, hS1, at_of (j := 0) rfl rfl, rfl, _, rfl, ?_⟩
      refine iteEqN (iv_ne (by decide)) ?_
      refine ⟨_, rfl, bb, _, _, _, rfl, rfl, hS1, at_of (j := 0) rfl rfl, rfl, _, rfl, ?_⟩
      refine iteEqN (iv_ne (by decide)) ?_
      refine ⟨_, rfl, bb, _, _, _, rfl, rfl, hS1, at_of (j := 0) rfl rfl, rfl, _, rfl, ?_⟩
      refine iteEqN (iv_ne (by decide)) ?_
      refine ⟨_, rfl, bb, _, _, _, rfl, rfl, hS1, at_of (j := 0) rfl rfl, rfl, _, rfl, ?_⟩
      refine iteEqN (iv_ne (by decide)) ?_
      refine ⟨_, rfl, bb, _, _, _, rfl, rfl, hS1, at_of (j := 0) rfl rfl, rfl, _, rfl, ?_⟩
      refine iteEq rfl ?_
      exact ⟨_, rfl, p, dx, _, rfl, s1 _ _ L.obj, lexF_no _ _ _ _ _ _, _, rfl, _, rfl, bb, _, _, _, rfl, rfl, hS1, at_of (j := 1) rfl rfl, p, sg, s, M, t, a, rfl, L1, ok, SqL.of g1, (by have z := hL; simp only [enc1, List.length_cons] at z; omega), post1⟩
    | near t a =>
      refine ⟨_, rfl, _, rfl, bb, _, _, _, rfl, rfl, hS, at_of (j := 0) rfl rfl, hs, _, _, _, rfl, rfl, S.tup H, atI_nat (j := 6) rfl, _, rfl, bb, _, rfl, hS, fun sg hsg => ?_⟩
      have ec : cutV (nv (enc1 (.near t a))) (some ((3 : Nat) : Int)) none = nv t := cut_from _ 3
      rw [ec]
      have s1 : Same H (upd H sg (.lst (nv t))) := same_new (Same.refl H) hsg
      have g1 : upd H sg (.lst (nv t)) sg = some (.lst (nv t)) := upd_same
      generalize upd H sg (.lst (nv t)) = H1 at s1 g1
      have hS1 := s1.seq hS
      have post1 := post.same s1
      have L1 : LexAt P w cs H1 p s M := L0.mono (fun b o z _ => s1 b o z) fun _ h => h
      refine ⟨_, rfl, bb, _, _, _, rfl, rfl, hS1, at_of (j := 0) rfl rfl, rfl, _, rfl, ?_⟩
      refine iteEqN (iv_ne (by decide)) ?_
      refine ⟨_, rfl, bb, _, _, _, rfl, rfl, hS1, at_of (j := 0) rfl rfl, rfl, _, rfl, ?_⟩
      refine iteEqN (iv_ne (by decide)) ?_
      refine ⟨_, rfl, bb, _, _, _, rfl, rfl, hS1, at_of (j := 0) rfl rfl, rfl, _, rfl, ?_⟩
      refine iteEqN (iv_ne (by decide)) ?_
      refine ⟨_, rfl, bb, _, _, _, rfl, rfl, hS1, at_of (j := 0) rfl rfl, rfl, _, rfl, ?_⟩
      refine iteEqN (iv_ne (by decide)) ?_
      refine ⟨_, rfl, bb, _, _, _, rfl, rfl, hS1, at_of (j := 0) rfl rfl, rfl, _, rfl, ?_⟩
      refine iteEqN (iv_ne (by decide)) ?_
      refine ⟨_, rfl, bb, _, _, _, rfl, rfl, hS1, at_of (j := 0) rfl rfl, rfl, _, rfl, ?_⟩
      refine iteEqN (iv_ne (by decide)) ?_
      refine ⟨_, rfl, bb, _, _, _, rfl, rfl, hS1, at_of (j := 0) rfl rfl, rfl, _, rfl, ?_⟩
      refine iteEq rfl ?_
      exact ⟨_, rfl, p, dx, _, rfl, s1 _ _ L.obj, lexF_no _ _ _ _ _ _, _, rfl, _, rfl, bb, _, _, _, rfl, rfl, hS1, at_of (j := 1) rfl rfl, p, sg, s, M, t, a, rfl, L1, ok, SqL.of g1, (by have z := hL; simp only [enc1, List.length_cons] at z; omega), post1⟩
    | check t a =>
      refine ⟨_, rfl, _, rfl, bb, _, _, _, rfl, rfl, hS, at_of (j := 0) rfl rfl, hs, _, _, _, rfl, rfl, S.tup H, atI_nat (j := 7) rfl, _, rfl, bb, _, rfl, hS, fun sg hsg => ?_⟩
      have ec : cutV (nv (enc1 (.check t a))) (some ((3 : Nat) : Int)) none = nv t := cut_from _ 3
      rw [ec]
      have s1 : Same H (upd H sg (.lst (nv t))) := same_new (Same.refl H) hsg
      have g1 : upd H sg (.lst (nv t)) sg = some (.lst (nv t)) := upd_same
      generalize upd H sg (.lst (nv t)) = H1 at s1 g1
      have hS1 := s1.seq hS
      have post1 := post.same s1
      have L1 : LexAt P w cs H1 p s M := L0.mono (fun b o z _ => s1 b o z) fun _ h => h
      refine ⟨_, rfl, bb, _, _, _, rfl, rfl, hS1, at_of (j := 0) rfl rfl, rfl, _, rfl, ?_⟩
      refine iteEqN (iv_ne (by decide)) ?_
      refine ⟨_, rfl, bb, _, _, _, rfl, rfl, hS1, at_of (j := 0) rfl rfl, rfl, _, rfl, ?_⟩
      refine iteEqN (iv_ne (by decide)) ?_
      refine ⟨_, rfl, bb, _, _, _, rfl, rfl, hS1, at_of (j := 0) rfl rfl, rfl, _, rfl, ?_⟩
      refine iteEqN (iv_ne (by decide)) ?_
      refine ⟨_, rfl, bb, _, _, _, rfl, rfl, hS1, at_of (j := 0) rfl rfl, rfl, _, rfl, ?_⟩
      refine iteEqN (iv_ne (by decide)) ?_
      refine ⟨_, rfl, bb, _, _, _, rfl, rfl, hS1, at_of (j := 0) rfl rfl, rfl, _, rfl, ?_⟩
      refine iteEqN (iv_ne (by decide)) ?_
      refine ⟨_, rfl, bb, _, _, _, rfl, rfl, hS1, at_of (j := 0) rfl rfl, rfl, _, rfl, ?_⟩
      refine iteEqN (iv_ne (by decide)) ?_
      refine ⟨_, rfl, bb, _, _, _, rfl, rfl, hS1, at_of (j := 0) rfl rfl, rfl, _, rfl, ?_⟩
      refine iteEqN (iv_ne (by decide)) ?_
      exact ⟨_, rfl, p, dx, _, rfl, s1 _ _ L.obj, lexF_no _ _ _ _ _ _, _, rfl, _, rfl, bb, _, _, _, rfl, rfl, hS1, at_of (j := 1) rfl rfl, p, sg, s, M, t, a, rfl, L1, ok, SqL.of g1, (by have z := hL; simp only [enc1, List.length_cons] at z; omega), post1⟩
end
end Bw
set_option Elab.async false
set_option linter.all false
set_option maxRecDepth 100000
set_option maxHeartbeats 4000000
namespace Bw
open PySem PySem.Spec PyProof.Rows L2 Kct5
theorem seq_at {K : PySem.W.Frag} {H H' : Hp} {a : Addr} {xs : List V} (e : ∀ o, H a = some o → H' a = some o) (h : SqL K H a xs) : SqL K H' a xs := by
  rcases h with (h | ⟨o, h⟩) | h
  · exact .inl (.inl (e _ h))
  · exact .inl (.inr ⟨o, e _ h⟩)
  · exact .inr h
section
variable {P : Program} {w : World} {K : PySem.W.Frag} {mg : Str → Option Value} {base : Heap}
theorem scAns : FnScope ["calls", "lexicon", "told", "at", "size", "answer"] ["calls"] (defScope (top 67)) := ⟨rfl, rfl, rfl, by decide +kernel, rfl, by decide +kernel, by decide +kernel⟩
theorem ok_answers {f : Addr} {fd : FuncData} {cs : Cs} (F : Fun K "answers" "answers" (top 67) f fd) (G : Glo mg) (Mk : Mke P w K mg base "Lexicon" cs.L ["self"] 4 (spLexInit P w cs))
    (C1 : Cal P w K mg base "call_size" ["calls", "at"] 1 (spSizeC K)) (C2 : Cal P w K mg base "answer_call" ["lexicon", "call"] 9 (spAnswer P w K cs)) : FnOk P w K mg base CX0 10 f fd ["calls"] (spAns K) := by
  refine F.ok scAns (fun vs H Q E h => ?_) (fun cdv A outer s H vs Q E hr h => ?_)
  · obtain ⟨a, ns, rfl, _⟩ := h
    rfl
  · obtain ⟨a, ns, rfl, hS, hL, ask, k⟩ := h
    obtain ⟨ds, e0, hds, ea⟩ := line_calls ask
    rw [e0, ofNat_V] at hS
    have hL2 : (flat ds).length ≤ 30000 := by rw [e0, List.length_map] at hL; exact hL
    rw [ea] at k
    clear ea ask hL e0
    refine ⟨_, pss_cons (ps_set (i := 1) scAns.nd rfl (Or.inl rfl) (pe_mke0 Mk (hr.mono (by decide)))) (pss_cons (ps_set (i := 2) scAns.nd rfl (Or.inl rfl) (pe_lst pa_nil)) (pss_cons (ps_set (i := 3) scAns.nd rfl (Or.inl rfl) pe_int)
      (pss_cons (ps_while PassesOwn.never (pt_cmpR op_lt (pv 3) (pe_callB call_len_seq (by rfl) G.len PySem.boot_len (pa_cons (pv 0) pa_nil)) (nomark _))
        (pss_cons (ps_set (i := 4) scAns.nd rfl (Or.inl rfl) (pe_cal C1 (hr.mono (by decide)) (pa_cons (pv 0) (pa_cons (pv 3) pa_nil))))
        (pss_cons (ps_set (i := 5) scAns.nd rfl (Or.inl rfl) (pe_cal C2 hr (pa_cons (pv 1) (pa_cons (pe_slice sl_list (pv 0) (po_some (pv 3)) (po_some (pe_op op_add (pv 3) (pv 4)))) pa_nil))))
        (pss_cons (ps_expr (pe_app (pv 2) (pa_cons (pe_callB call_len_seq (by rfl) G.len PySem.boot_len (pa_cons (pv 5) pa_nil)) pa_nil)))
        (pss_cons (ps_expr (pe_ext (pv 2) (pa_cons (pv 5) pa_nil)))
        (pss_one (ps_aug (i := 3) scAns.nd rfl (Or.inl rfl) (pv 4) ip_add)))))))
      (pss_one (ps_ret (pv 2)))))), ?_⟩
    intro x dx hx hdx ndx
    refine ⟨x, dx, rfl, upd_same, fun H1 kp L1 => ⟨rfl, ?_⟩⟩
    have k1 : ∀ b o, H b = some o → H1 b = some o := fun b o e => kp b o (by rw [upd_ne (ne_of_none e hx), upd_ne (ne_of_none e hdx)]; exact e) (ne_of_none e hx)
    obtain ⟨M1, L2, nM1, tr⟩ : ∃ M1 : Addr → Prop, LexAt P w cs H1 x first M1 ∧ (∀ b o, H b = some o → ¬ M1 b) ∧ (∀ b, M1 b → H1 b ≠ none) := by
      refine ⟨_, L1.trim, fun b o e z => ?_, fun b z => z.2⟩
      rcases z.1 with z | z
      · exact ne_of_none e hx z
      · rw [upd_ne (ne_of_none e hx), upd_ne (ne_of_none e hdx), e] at z
        cases z
    clear L1 kp
    refine ⟨Nat.zero_le _, fun q hq => ?_⟩
    refine ⟨fun m σ H' => ∃ (i : Nat) (M : Addr → Prop) (v4 v5 : Option V), m + i = ds.length ∧ σ = [some (.ref a), some (.ref x), some (.ref q), some (iv (flat (ds.take i)).length), v4, v5] ∧
      (∀ o, H a = some o → a ≠ q ∧ H' a = some o ∧ ¬ M a) ∧ LexAt P w cs H' x (after first (ds.take i)) M ∧ Ok (after first (ds.take i)) ∧ (∀ b, M b → H' b ≠ none) ∧ ¬ M q ∧
      H' q = some (.lst ((PyFlat.told (run first (ds.take i))).map V.int)) ∧ (PyFlat.told (run first (ds.take i))).length ≤ 42 * i, ?_, ?_⟩
    · refine ⟨ds.length, 0, M1, none, none, rfl, rfl, fun o e => ⟨ne_of_none (k1 _ _ e) hq, ?_, nM1 _ _ e⟩, ?_, ok_first, fun b z => ?_, fun z => tr _ z hq, upd_same, Nat.zero_le _⟩
      · rw [upd_ne (ne_of_none (k1 _ _ e) hq)]
        exact k1 _ _ e
      · exact L2.mono (fun b o e _ => by rw [upd_ne (ne_of_none e hq)]; exact e) fun _ h => h
      · rw [upd_ne fun y => tr _ z (by rw [y]; exact hq)]
        exact tr _ z
    · rintro m σ H' ⟨i, M, v4, v5, hm, rfl, ha, L, ok, tr', nq, hq', hl⟩
      have hS' : SqL K H' a (nv (flat ds)) := seq_at (fun o e => (ha o e).2.1) hS
      refine ⟨_, rfl, _, rfl, a, _, rfl, .inl hS', _, _, rfl, rfl, _, rfl, ?_⟩
      refine ite2 (fun h1 => ?_) (fun h1 => ?_)
      · have h1' : (flat (ds.take i)).length < (flat ds).length := by have := of_decide_eq_true h1; rw [nv_length] at this; omega
        have hi : i < ds.length := by
          refine Nat.lt_of_not_le fun z => ?_
          rw [List.take_of_length_le z] at h1'
          omega
        obtain ⟨d, hd⟩ : ∃ d, ds[i]? = some d := ⟨ds[i], List.getElem?_eq_getElem hi⟩
        have ed := flat_drop hd
        have es := flat_snoc hd
        have et := take_snoc hd
        have er := run_snoc (ds.take i) first d
        have ef := after_snoc (ds.take i) first d
        have eo := told_snoc (run first (ds.take i)) (Kct5Neutral.told (step (after first (ds.take i)) d).2)
        rw [← er, ← et] at eo
        rw [← et] at ef
        have al := ans_len ok d
        refine ⟨fun σ' H2 => ∃ (M : Addr → Prop) (v4 v5 : Option V), σ' = [some (.ref a), some (.ref x), some (.ref q), some (iv (flat (ds.take (i + 1))).length), v4, v5] ∧
          (∀ o, H a = some o → a ≠ q ∧ H2 a = some o ∧ ¬ M a) ∧ LexAt P w cs H2 x (after first (ds.take (i + 1))) M ∧ Ok (after first (ds.take (i + 1))) ∧ (∀ b, M b → H2 b ≠ none) ∧ ¬ M q ∧
          H2 q = some (.lst ((PyFlat.told (run first (ds.take (i + 1)))).map V.int)) ∧ (PyFlat.told (run first (ds.take (i + 1)))).length ≤ 42 * (i + 1), fun σ' H2 ⟨M', w4, w5, g⟩ => ⟨m - 1, by omega, i + 1, M', w4, w5, by omega, g⟩, ?_⟩
        -- size = call_size(calls, at)
        refine ⟨_, rfl, _, rfl, a, flat ds, _, d, _, rfl, hS', ed, ?_⟩
        -- answer = answer_call(lexicon, calls[at:at + size])
        refine ⟨_, rfl, _, rfl, _, rfl, _, rfl, _, rfl, _, rfl, _, _, rfl, rfl, _, rfl, a, _, rfl, hS', fun n hn => ?_⟩
        have ecut : cutV (nv (flat ds)) (some ((flat (ds.take i)).length : Int)) (some (((flat (ds.take i)).length : Int) + ((enc1 d).length : Int))) = nv (enc1 d) := by
          have := cut_nat (flat ds) (flat (ds.take i)).length ((flat (ds.take i)).length + (enc1 d).length) (by omega)
          rw [Int.natCast_add] at this
          rw [this, ed, Nat.add_sub_cancel_left, List.take_left]
        rw [ecut]
        have s2 : Same H' (upd H' n (.lst (nv (enc1 d)))) := same_new (Same.refl H') hn
        have hn2 : upd H' n (.lst (nv (enc1 d))) n = some (.lst (nv (enc1 d))) := upd_same
        generalize upd H' n (.lst (nv (enc1 d))) = H2 at s2 hn2 ⊢
        have hel : (enc1 d).length ≤ 30000 := by
          have := congrArg List.length ed
          rw [List.length_drop, List.length_append] at this
          omega
        refine ⟨x, n, _, M, d, rfl, L.mono (fun b o e _ => s2 b o e) fun _ h => h, ok, SqL.of hn2, hel, fun r H3 hr3 kp L3 hq3 => ?_⟩
        have nE : ∀ b o, H' b = some o → ¬ M b → ¬ Ext M H2 b := fun b o e h z => by
          rcases z with z | z
          · exact h z
          · rw [s2 _ _ e] at z
            cases z
        have nEq := nE _ _ hq' nq
        have q3 := kp _ _ (s2 _ _ hq') (.inl nq)
        have rq : r ≠ q := fun z => nEq (z ▸ hr3)
        have hol : (outOf (after first (ds.take i)) d).length ≤ 41 := by unfold outOf; rw [List.length_map]; exact al
        have big : 60000 ≤ sizeLine := by decide
        -- told.append(len(answer))
        refine ⟨_, rfl, .inl ⟨rfl, _, SqL.of q3⟩, _, rfl, r, _, rfl, .inl (SqL.of hq3), q, _, _, rfl, rfl, q3, ?_, ?_⟩
        · rw [List.length_map]
          omega
        -- told.extend(answer)
        refine ⟨_, rfl, .inl ⟨rfl, _, SqL.of upd_same⟩, _, rfl, q, r, _, _, rfl, rfl, upd_same, by rw [upd_ne rq]; exact hq3, ?_, ?_⟩
        · rw [List.length_append, List.length_map]
          show (PyFlat.told (run first (ds.take i))).length + 1 + _ ≤ _
          omega
        -- at += size
        refine ⟨_, rfl, _, rfl, _, _, rfl, rfl, ?_⟩
        rw [upd_upd]
        have eL : (PyFlat.told (run first (ds.take i))).map V.int ++ [V.int ((outOf (after first (ds.take i)) d).length : Int)] ++ outOf (after first (ds.take i)) d = (PyFlat.told (run first (ds.take (i + 1)))).map V.int := by
          rw [eo, List.map_append, List.map_cons, List.append_assoc]
          unfold outOf
          rw [List.length_map]
          rfl
        show ∃ (M : Addr → Prop) (v4 v5 : Option V), _ = [some (V.ref a), some (V.ref x), some (V.ref q), some (iv (flat (ds.take (i + 1))).length), v4, v5] ∧ _
        refine ⟨fun b => Ext M H2 b ∧ upd H3 q (.lst ((PyFlat.told (run first (ds.take (i + 1)))).map V.int)) b ≠ none, some (iv (enc1 d).length), some (.ref r), ?_, ?_⟩
        · show [some (V.ref a), some (V.ref x), some (V.ref q), some (V.int (((flat (ds.take i)).length : Int) + ((enc1 d).length : Int))), _, _] = _
          rw [ceq (show ((flat (ds.take i)).length : Int) + ((enc1 d).length : Int) = ((flat (ds.take (i + 1))).length : Int) by rw [es, List.length_append]; omega)]
        · rw [show upd H3 q _ = upd H3 q (.lst ((PyFlat.told (run first (ds.take (i + 1)))).map V.int)) from by rw [← eL]]
          refine ⟨fun o e => ?_, ?_, ?_, fun b z => z.2, fun z => nEq z.1, upd_same, ?_⟩
          · obtain ⟨y1, y2, y3⟩ := ha o e
            refine ⟨y1, ?_, fun z => nE _ _ y2 y3 z.1⟩
            rw [upd_ne y1]
            exact kp _ _ (s2 _ _ y2) (.inl y3)
          · rw [ef]
            refine LexAt.trim (L3.mono (fun b o e h => ?_) fun _ h => h)
            refine (upd_ne fun z => ?_).trans e
            rw [z] at e h
            rw [q3] at e
            cases e
            rcases h with h | h
            · exact nEq h
            · cases h
          · rw [ef]
            exact ok_step ok d
          · rw [eo, List.length_append, List.length_cons]
            omega
      · have hi : ds.length ≤ i := by
          refine Nat.le_of_not_lt fun z => h1 (decide_eq_true ?_)
          have := flat_drop (List.getElem?_eq_getElem z)
          have := congrArg List.length this
          rw [List.length_drop, List.length_append] at this
          have := enc1_pos ds[i]
          rw [nv_length]
          omega
        rw [List.take_of_length_le hi] at hq'
        exact ⟨_, rfl, k H' q hq'⟩
end
end Bw
set_option Elab.async false
set_option linter.all false
set_option maxRecDepth 100000
set_option maxHeartbeats 4000000
namespace Bw
open PySem PySem.Spec PyProof.Rows L2 Kct5
open PySem.W (nsIn findIn isFn keepIn codeIn fnOf plainGet hasDictIn plainOver makesIn mg_of mg_none_of)
theorem len1 {us : List Value} (h : us.length = 1) : ∃ a, us = [a] := by
  match us, h with
  | [a], _ => exact ⟨a, rfl⟩
theorem len2 {us : List Value} (h : us.length = 2) : ∃ a b, us = [a, b] := by
  match us, h with
  | [a, b], _ => exact ⟨a, b, rfl⟩
theorem len3 {us : List Value} (h : us.length = 3) : ∃ a b c, us = [a, b, c] := by
  match us, h with
  | [a, b, c], _ => exact ⟨a, b, c, rfl⟩
theorem len4 {us : List Value} (h : us.length = 4) : ∃ a b c d, us = [a, b, c, d] := by
  match us, h with
  | [a, b, c, d], _ => exact ⟨a, b, c, d, rfl⟩
abbrev fnS (x q : Str) (st : Stmt) (kV dc pm : Value) (an : Option Addr) (cd ct : Value) : FuncData := fnOf x q (defArgs st) (defBody st) (defScope st) .none kV dc pm an cd ct
theorem all_mk {P : Program} {w : World} {K : PySem.W.Frag} {h : Heap} {mg : Str → Option Value} {fa CP CR CT CL hs : Addr} {f_d0 f_d1 f_d2 f_d3 f_d4 f_d5 f_d6 f_d7 f_d8 f_d9 f_d10 f_d11 f_d12 f_d13 f_d14 f_d15 f_d16 f_d17 f_d18 f_d19 f_d20 f_d21 f_d22 f_d23 f_d24 f_d25 f_d26 f_d27 f_d28 f_d29 f_d30 f_d31 f_d32 f_d33 f_d34 f_d35 f_d36 f_d37 f_d38 f_d39 f_d40 f_d41 : Addr} (X : K.In h) (G : h.Ns mainGlobals mg) (hfa : mg "answers" = some (.ref fa))
    {t_first : Tok}
    {t_last : Tok}
    {t_blank : Tok}
    {t_dot : Tok}
    {t_slash : Tok}
    {t_opening : Tok}
    {t_closing : Tok}
    {t_caret : Tok}
    {t_places : Tok}
    {t_going : Tok}
    {t_coming : Tok}
    {t_great1 : Tok}
    {t_great2 : Tok}
    {t_formMax : Tok}
    {t_noWord : Tok}
    {t_isThere : Tok}
    {t_notOk : Tok}
    {t_full : Tok}
    {t_noRule : Tok}
    {t_lastClass : Tok}
    {t_lastSlot : Tok}
    {t_mostRules : Tok}
    {t_ruleBytes : Tok}
    {t_mostWords : Tok}
    {t_wordLetters : Tok}
    {t_mostSaid : Tok}
    {t_textBytes : Tok}
    {t_cBegin : Tok}
    {t_cRule : Tok}
    {t_cWord : Tok}
    {t_cOdd : Tok}
    {t_cForm : Tok}
    {t_cFound : Tok}
    {t_cNear : Tok}
    {od_d0 an_d0 : Option Addr} {sl_d0 : Array (Option Value)} {oc_d0 kV_d0 dc_d0 pm_d0 cd_d0 ct_d0 : Value}
    {od_d1 an_d1 : Option Addr} {sl_d1 : Array (Option Value)} {oc_d1 kV_d1 dc_d1 pm_d1 cd_d1 ct_d1 : Value}
    {od_d2 an_d2 : Option Addr} {sl_d2 : Array (Option Value)} {oc_d2 kV_d2 dc_d2 pm_d2 cd_d2 ct_d2 : Value}
    {od_d3 an_d3 : Option Addr} {sl_d3 : Array (Option Value)} {oc_d3 kV_d3 dc_d3 pm_d3 cd_d3 ct_d3 : Value}
    {od_d4 an_d4 : Option Addr} {sl_d4 : Array (Option Value)} {oc_d4 kV_d4 dc_d4 pm_d4 cd_d4 ct_d4 : Value}
    {od_d5 an_d5 : Option Addr} {sl_d5 : Array (Option Value)} {oc_d5 kV_d5 dc_d5 pm_d5 cd_d5 ct_d5 : Value}
    {od_d6 an_d6 : Option Addr} {sl_d6 : Array (Option Value)} {oc_d6 kV_d6 dc_d6 pm_d6 cd_d6 ct_d6 : Value}
    {od_d7 an_d7 : Option Addr} {sl_d7 : Array (Option Value)} {oc_d7 kV_d7 dc_d7 pm_d7 cd_d7 ct_d7 : Value}
    {od_d8 an_d8 : Option Addr} {sl_d8 : Array (Option Value)} {oc_d8 kV_d8 dc_d8 pm_d8 cd_d8 ct_d8 : Value}
    {od_d9 an_d9 : Option Addr} {sl_d9 : Array (Option Value)} {oc_d9 kV_d9 dc_d9 pm_d9 cd_d9 ct_d9 : Value}
    {od_d10 an_d10 : Option Addr} {sl_d10 : Array (Option Value)} {oc_d10 kV_d10 dc_d10 pm_d10 cd_d10 ct_d10 : Value}
    {od_d11 an_d11 : Option Addr} {sl_d11 : Array (Option Value)} {oc_d11 kV_d11 dc_d11 pm_d11 cd_d11 ct_d11 : Value}
    {od_d12 an_d12 : Option Addr} {sl_d12 : Array (Option Value)} {oc_d12 kV_d12 dc_d12 pm_d12 cd_d12 ct_d12 : Value}
    {od_d13 an_d13 : Option Addr} {sl_d13 : Array (Option Value)} {oc_d13 kV_d13 dc_d13 pm_d13 cd_d13 ct_d13 : Value}
    {od_d14 an_d14 : Option Addr} {sl_d14 : Array (Option Value)} {oc_d14 kV_d14 dc_d14 pm_d14 cd_d14 ct_d14 : Value}
    {od_d15 an_d15 : Option Addr} {sl_d15 : Array (Option Value)} {oc_d15 kV_d15 dc_d15 pm_d15 cd_d15 ct_d15 : Value}
    {od_d16 an_d16 : Option Addr} {sl_d16 : Array (Option Value)} {oc_d16 kV_d16 dc_d16 pm_d16 cd_d16 ct_d16 : Value}
    {od_d17 an_d17 : Option Addr} {sl_d17 : Array (Option Value)} {oc_d17 kV_d17 dc_d17 pm_d17 cd_d17 ct_d17 : Value}
    {od_d18 an_d18 : Option Addr} {sl_d18 : Array (Option Value)} {oc_d18 kV_d18 dc_d18 pm_d18 cd_d18 ct_d18 : Value}
    {od_d19 an_d19 : Option Addr} {sl_d19 : Array (Option Value)} {oc_d19 kV_d19 dc_d19 pm_d19 cd_d19 ct_d19 : Value}
    {od_d20 an_d20 : Option Addr} {sl_d20 : Array (Option Value)} {oc_d20 kV_d20 dc_d20 pm_d20 cd_d20 ct_d20 : Value}
    {od_d21 an_d21 : Option Addr} {sl_d21 : Array (Option Value)} {oc_d21 kV_d21 dc_d21 pm_d21 cd_d21 ct_d21 : Value}
    {od_d22 an_d22 : Option Addr} {sl_d22 : Array (Option Value)} {oc_d22 kV_d22 dc_d22 pm_d22 cd_d22 ct_d22 : Value}
    {od_d23 an_d23 : Option Addr} {sl_d23 : Array (Option Value)} {oc_d23 kV_d23 dc_d23 pm_d23 cd_d23 ct_d23 : Value}
    {od_d24 an_d24 : Option Addr} {sl_d24 : Array (Option Value)} {oc_d24 kV_d24 dc_d24 pm_d24 cd_d24 ct_d24 : Value}
    {od_d25 an_d25 : Option Addr} {sl_d25 : Array (Option Value)} {oc_d25 kV_d25 dc_d25 pm_d25 cd_d25 ct_d25 : Value}
    {od_d26 an_d26 : Option Addr} {sl_d26 : Array (Option Value)} {oc_d26 kV_d26 dc_d26 pm_d26 cd_d26 ct_d26 : Value}
    {od_d27 an_d27 : Option Addr} {sl_d27 : Array (Option Value)} {oc_d27 kV_d27 dc_d27 pm_d27 cd_d27 ct_d27 : Value}
    {od_d28 an_d28 : Option Addr} {sl_d28 : Array (Option Value)} {oc_d28 kV_d28 dc_d28 pm_d28 cd_d28 ct_d28 : Value}
    {od_d29 an_d29 : Option Addr} {sl_d29 : Array (Option Value)} {oc_d29 kV_d29 dc_d29 pm_d29 cd_d29 ct_d29 : Value}
    {od_d30 an_d30 : Option Addr} {sl_d30 : Array (Option Value)} {oc_d30 kV_d30 dc_d30 pm_d30 cd_d30 ct_d30 : Value}
    {od_d31 an_d31 : Option Addr} {sl_d31 : Array (Option Value)} {oc_d31 kV_d31 dc_d31 pm_d31 cd_d31 ct_d31 : Value}
    {od_d32 an_d32 : Option Addr} {sl_d32 : Array (Option Value)} {oc_d32 kV_d32 dc_d32 pm_d32 cd_d32 ct_d32 : Value}
    {od_d33 an_d33 : Option Addr} {sl_d33 : Array (Option Value)} {oc_d33 kV_d33 dc_d33 pm_d33 cd_d33 ct_d33 : Value}
    {od_d34 an_d34 : Option Addr} {sl_d34 : Array (Option Value)} {oc_d34 kV_d34 dc_d34 pm_d34 cd_d34 ct_d34 : Value}
    {od_d35 an_d35 : Option Addr} {sl_d35 : Array (Option Value)} {oc_d35 kV_d35 dc_d35 pm_d35 cd_d35 ct_d35 : Value}
    {od_d36 an_d36 : Option Addr} {sl_d36 : Array (Option Value)} {oc_d36 kV_d36 dc_d36 pm_d36 cd_d36 ct_d36 : Value}
    {od_d37 an_d37 : Option Addr} {sl_d37 : Array (Option Value)} {oc_d37 kV_d37 dc_d37 pm_d37 cd_d37 ct_d37 : Value}
    {od_d38 an_d38 : Option Addr} {sl_d38 : Array (Option Value)} {oc_d38 kV_d38 dc_d38 pm_d38 cd_d38 ct_d38 : Value}
    {od_d39 an_d39 : Option Addr} {sl_d39 : Array (Option Value)} {oc_d39 kV_d39 dc_d39 pm_d39 cd_d39 ct_d39 : Value}
    {od_d40 an_d40 : Option Addr} {sl_d40 : Array (Option Value)} {oc_d40 kV_d40 dc_d40 pm_d40 cd_d40 ct_d40 : Value}
    {od_d41 an_d41 : Option Addr} {sl_d41 : Array (Option Value)} {oc_d41 kV_d41 dc_d41 pm_d41 cd_d41 ct_d41 : Value}
    {od_h : Option Addr} {n_h : Nat} {sl_h : Array (Option Value)} {th0 th1 th2 th3 th4 th5 th6 th7 : Tok}
    (g_first : nsIn K mainGlobals "FIRST_LETTER" = some (some (.int 97 t_first)))
    (g_last : nsIn K mainGlobals "LAST_LETTER" = some (some (.int 122 t_last)))
    (g_blank : nsIn K mainGlobals "BLANK" = some (some (.int 32 t_blank)))
    (g_dot : nsIn K mainGlobals "DOT" = some (some (.int 46 t_dot)))
    (g_slash : nsIn K mainGlobals "SLASH" = some (some (.int 47 t_slash)))
    (g_opening : nsIn K mainGlobals "OPENING" = some (some (.int 91 t_opening)))
    (g_closing : nsIn K mainGlobals "CLOSING" = some (some (.int 93 t_closing)))
    (g_caret : nsIn K mainGlobals "CARET" = some (some (.int 94 t_caret)))
    (g_places : nsIn K mainGlobals "MOST_PLACES" = some (some (.int 16 t_places)))
    (g_going : nsIn K mainGlobals "MOST_GOING" = some (some (.int 16 t_going)))
    (g_coming : nsIn K mainGlobals "MOST_COMING" = some (some (.int 16 t_coming)))
    (g_great1 : nsIn K mainGlobals "FIRST_GREAT_LETTER" = some (some (.int 65 t_great1)))
    (g_great2 : nsIn K mainGlobals "LAST_GREAT_LETTER" = some (some (.int 90 t_great2)))
    (g_formMax : nsIn K mainGlobals "MOST_FORM_LETTERS" = some (some (.int 40 t_formMax)))
    (g_noWord : nsIn K mainGlobals "NO_SUCH_WORD" = some (some (.int (-2) t_noWord)))
    (g_isThere : nsIn K mainGlobals "ALREADY_THERE" = some (some (.int (-17) t_isThere)))
    (g_notOk : nsIn K mainGlobals "NOT_ALLOWED" = some (some (.int (-22) t_notOk)))
    (g_full : nsIn K mainGlobals "FULL" = some (some (.int (-28) t_full)))
    (g_noRule : nsIn K mainGlobals "NO_RULE" = some (some (.int (-71) t_noRule)))
    (g_lastClass : nsIn K mainGlobals "LAST_CLASS" = some (some (.int 63 t_lastClass)))
    (g_lastSlot : nsIn K mainGlobals "LAST_SLOT" = some (some (.int 15 t_lastSlot)))
    (g_mostRules : nsIn K mainGlobals "MOST_RULES" = some (some (.int 512 t_mostRules)))
    (g_ruleBytes : nsIn K mainGlobals "MOST_RULE_BYTES" = some (some (.int 96 t_ruleBytes)))
    (g_mostWords : nsIn K mainGlobals "MOST_WORDS" = some (some (.int 512 t_mostWords)))
    (g_wordLetters : nsIn K mainGlobals "MOST_WORD_LETTERS" = some (some (.int 24 t_wordLetters)))
    (g_mostSaid : nsIn K mainGlobals "MOST_SAID" = some (some (.int 256 t_mostSaid)))
    (g_textBytes : nsIn K mainGlobals "MOST_TEXT_BYTES" = some (some (.int 4096 t_textBytes)))
    (g_cBegin : nsIn K mainGlobals "BEGIN" = some (some (.int 0 t_cBegin)))
    (g_cRule : nsIn K mainGlobals "RULE" = some (some (.int 1 t_cRule)))
    (g_cWord : nsIn K mainGlobals "WORD" = some (some (.int 2 t_cWord)))
    (g_cOdd : nsIn K mainGlobals "ODD" = some (some (.int 3 t_cOdd)))
    (g_cForm : nsIn K mainGlobals "FORM" = some (some (.int 4 t_cForm)))
    (g_cFound : nsIn K mainGlobals "FOUND" = some (some (.int 5 t_cFound)))
    (g_cNear : nsIn K mainGlobals "NEAR" = some (some (.int 6 t_cNear)))
    (n_len : nsIn K mainGlobals "len" = some none)
    (n_all : nsIn K mainGlobals "all" = some none)
    (n_tuple : nsIn K mainGlobals "tuple" = some none)
    (n_range : nsIn K mainGlobals "range" = some none)
    (n_zip : nsIn K mainGlobals "zip" = some none)
    (n_enum : nsIn K mainGlobals "enumerate" = some none)
    (n_sorted : nsIn K mainGlobals "sorted" = some none)
    (n_list : nsIn K mainGlobals "list" = some none)
    (aCP : nsIn K mainGlobals "Part" = some (some (.ref CP)))
    (pgCP : plainGet K CP Str.empty = true)
    (hdCP : hasDictIn K CP = true)
    (poCP : plainOver K CP = true)
    (saCP : findIn K (.ref CP) "__setattr__" = some (some (.builtin "object.__setattr__")))
    (mkCP : makesIn K CP = true)
    (kcCP : keepIn K (.ref CP) = true)
    (x0CP : findIn K (.ref CP) "pattern" = some none)
    (x1CP : findIn K (.ref CP) "goes" = some none)
    (x2CP : findIn K (.ref CP) "comes" = some none)
    (aCR : nsIn K mainGlobals "Rule" = some (some (.ref CR)))
    (pgCR : plainGet K CR Str.empty = true)
    (hdCR : hasDictIn K CR = true)
    (poCR : plainOver K CR = true)
    (saCR : findIn K (.ref CR) "__setattr__" = some (some (.builtin "object.__setattr__")))
    (mkCR : makesIn K CR = true)
    (kcCR : keepIn K (.ref CR) = true)
    (x0CR : findIn K (.ref CR) "front" = some none)
    (x1CR : findIn K (.ref CR) "end" = some none)
    (aCT : nsIn K mainGlobals "FormTable" = some (some (.ref CT)))
    (pgCT : plainGet K CT Str.empty = true)
    (hdCT : hasDictIn K CT = true)
    (poCT : plainOver K CT = true)
    (saCT : findIn K (.ref CT) "__setattr__" = some (some (.builtin "object.__setattr__")))
    (mkCT : makesIn K CT = true)
    (kcCT : keepIn K (.ref CT) = true)
    (x0CT : findIn K (.ref CT) "form_at" = some none)
    (x1CT : findIn K (.ref CT) "places_with" = some none)
    (aCL : nsIn K mainGlobals "Lexicon" = some (some (.ref CL)))
    (pgCL : plainGet K CL Str.empty = true)
    (hdCL : hasDictIn K CL = true)
    (poCL : plainOver K CL = true)
    (saCL : findIn K (.ref CL) "__setattr__" = some (some (.builtin "object.__setattr__")))
    (mkCL : makesIn K CL = true)
    (kcCL : keepIn K (.ref CL) = true)
    (x0CL : findIn K (.ref CL) "rule_total" = some none)
    (x1CL : findIn K (.ref CL) "rules_for" = some none)
    (x2CL : findIn K (.ref CL) "words" = some none)
    (x3CL : findIn K (.ref CL) "word_numbers" = some none)
    (x4CL : findIn K (.ref CL) "said" = some none)
    (x5CL : findIn K (.ref CL) "table" = some none)
    (a_d0 : nsIn K mainGlobals "is_letter" = some (some (.ref f_d0)))
    (l_d0 : K.lookup f_d0 = some ⟨oc_d0, od_d0, .func (fnS "is_letter" "is_letter" (top 12) kV_d0 dc_d0 pm_d0 an_d0 cd_d0 ct_d0), sl_d0⟩)
    (c_d0 : codeIn K cd_d0 "is_letter" = true)
    (k_d0 : keepIn K (.ref f_d0) = true)
    (a_d1 : nsIn K mainGlobals "is_row_of_letters" = some (some (.ref f_d1)))
    (l_d1 : K.lookup f_d1 = some ⟨oc_d1, od_d1, .func (fnS "is_row_of_letters" "is_row_of_letters" (top 13) kV_d1 dc_d1 pm_d1 an_d1 cd_d1 ct_d1), sl_d1⟩)
    (c_d1 : codeIn K cd_d1 "is_row_of_letters" = true)
    (k_d1 : keepIn K (.ref f_d1) = true)
    (a_d2 : nsIn K mainGlobals "letters_without" = some (some (.ref f_d2)))
    (l_d2 : K.lookup f_d2 = some ⟨oc_d2, od_d2, .func (fnS "letters_without" "letters_without" (top 14) kV_d2 dc_d2 pm_d2 an_d2 cd_d2 ct_d2), sl_d2⟩)
    (c_d2 : codeIn K cd_d2 "letters_without" = true)
    (k_d2 : keepIn K (.ref f_d2) = true)
    (a_d3 : nsIn K mainGlobals "taken_as_small" = some (some (.ref f_d3)))
    (l_d3 : K.lookup f_d3 = some ⟨oc_d3, od_d3, .func (fnS "taken_as_small" "taken_as_small" (top 15) kV_d3 dc_d3 pm_d3 an_d3 cd_d3 ct_d3), sl_d3⟩)
    (c_d3 : codeIn K cd_d3 "taken_as_small" = true)
    (k_d3 : keepIn K (.ref f_d3) = true)
    (a_d4 : nsIn K mainGlobals "row_end" = some (some (.ref f_d4)))
    (l_d4 : K.lookup f_d4 = some ⟨oc_d4, od_d4, .func (fnS "row_end" "row_end" (top 17) kV_d4 dc_d4 pm_d4 an_d4 cd_d4 ct_d4), sl_d4⟩)
    (c_d4 : codeIn K cd_d4 "row_end" = true)
    (k_d4 : keepIn K (.ref f_d4) = true)
    (a_d5 : nsIn K mainGlobals "rows_of_letters" = some (some (.ref f_d5)))
    (l_d5 : K.lookup f_d5 = some ⟨oc_d5, od_d5, .func (fnS "rows_of_letters" "rows_of_letters" (top 16) kV_d5 dc_d5 pm_d5 an_d5 cd_d5 ct_d5), sl_d5⟩)
    (c_d5 : codeIn K cd_d5 "rows_of_letters" = true)
    (k_d5 : keepIn K (.ref f_d5) = true)
    (a_d6 : nsIn K mainGlobals "split_at" = some (some (.ref f_d6)))
    (l_d6 : K.lookup f_d6 = some ⟨oc_d6, od_d6, .func (fnS "split_at" "split_at" (top 36) kV_d6 dc_d6 pm_d6 an_d6 cd_d6 ct_d6), sl_d6⟩)
    (c_d6 : codeIn K cd_d6 "split_at" = true)
    (k_d6 : keepIn K (.ref f_d6) = true)
    (a_d7 : nsIn K mainGlobals "place_size" = some (some (.ref f_d7)))
    (l_d7 : K.lookup f_d7 = some ⟨oc_d7, od_d7, .func (fnS "place_size" "place_size" (top 33) kV_d7 dc_d7 pm_d7 an_d7 cd_d7 ct_d7), sl_d7⟩)
    (c_d7 : codeIn K cd_d7 "place_size" = true)
    (k_d7 : keepIn K (.ref f_d7) = true)
    (a_d8 : nsIn K mainGlobals "read_brackets" = some (some (.ref f_d8)))
    (l_d8 : K.lookup f_d8 = some ⟨oc_d8, od_d8, .func (fnS "read_brackets" "read_brackets" (top 35) kV_d8 dc_d8 pm_d8 an_d8 cd_d8 ct_d8), sl_d8⟩)
    (c_d8 : codeIn K cd_d8 "read_brackets" = true)
    (k_d8 : keepIn K (.ref f_d8) = true)
    (a_d9 : nsIn K mainGlobals "read_place" = some (some (.ref f_d9)))
    (l_d9 : K.lookup f_d9 = some ⟨oc_d9, od_d9, .func (fnS "read_place" "read_place" (top 34) kV_d9 dc_d9 pm_d9 an_d9 cd_d9 ct_d9), sl_d9⟩)
    (c_d9 : codeIn K cd_d9 "read_place" = true)
    (k_d9 : keepIn K (.ref f_d9) = true)
    (a_d10 : nsIn K mainGlobals "read_pattern" = some (some (.ref f_d10)))
    (l_d10 : K.lookup f_d10 = some ⟨oc_d10, od_d10, .func (fnS "read_pattern" "read_pattern" (top 32) kV_d10 dc_d10 pm_d10 an_d10 cd_d10 ct_d10), sl_d10⟩)
    (c_d10 : codeIn K cd_d10 "read_pattern" = true)
    (k_d10 : keepIn K (.ref f_d10) = true)
    (a_d11 : findIn K (.ref CP) "__init__" = some (some (.ref f_d11)))
    (i_d11 : isFn K (.ref f_d11) = true)
    (l_d11 : K.lookup f_d11 = some ⟨oc_d11, od_d11, .func (fnS "__init__" "Part.__init__" (inClass (top 28) 0) kV_d11 dc_d11 pm_d11 an_d11 cd_d11 ct_d11), sl_d11⟩)
    (c_d11 : codeIn K cd_d11 "Part.__init__" = true)
    (k_d11 : keepIn K (.ref f_d11) = true)
    (a_d12 : findIn K (.ref CR) "__init__" = some (some (.ref f_d12)))
    (i_d12 : isFn K (.ref f_d12) = true)
    (l_d12 : K.lookup f_d12 = some ⟨oc_d12, od_d12, .func (fnS "__init__" "Rule.__init__" (inClass (top 29) 0) kV_d12 dc_d12 pm_d12 an_d12 cd_d12 ct_d12), sl_d12⟩)
    (c_d12 : codeIn K cd_d12 "Rule.__init__" = true)
    (k_d12 : keepIn K (.ref f_d12) = true)
    (a_d13 : nsIn K mainGlobals "read_part" = some (some (.ref f_d13)))
    (l_d13 : K.lookup f_d13 = some ⟨oc_d13, od_d13, .func (fnS "read_part" "read_part" (top 31) kV_d13 dc_d13 pm_d13 an_d13 cd_d13 ct_d13), sl_d13⟩)
    (c_d13 : codeIn K cd_d13 "read_part" = true)
    (k_d13 : keepIn K (.ref f_d13) = true)
    (a_d14 : nsIn K mainGlobals "read_rule" = some (some (.ref f_d14)))
    (l_d14 : K.lookup f_d14 = some ⟨oc_d14, od_d14, .func (fnS "read_rule" "read_rule" (top 30) kV_d14 dc_d14 pm_d14 an_d14 cd_d14 ct_d14), sl_d14⟩)
    (c_d14 : codeIn K cd_d14 "read_rule" = true)
    (k_d14 : keepIn K (.ref f_d14) = true)
    (a_d15 : nsIn K mainGlobals "fits" = some (some (.ref f_d15)))
    (l_d15 : K.lookup f_d15 = some ⟨oc_d15, od_d15, .func (fnS "fits" "fits" (top 6) kV_d15 dc_d15 pm_d15 an_d15 cd_d15 ct_d15), sl_d15⟩)
    (c_d15 : codeIn K cd_d15 "fits" = true)
    (k_d15 : keepIn K (.ref f_d15) = true)
    (a_d16 : nsIn K mainGlobals "fits_front" = some (some (.ref f_d16)))
    (l_d16 : K.lookup f_d16 = some ⟨oc_d16, od_d16, .func (fnS "fits_front" "fits_front" (top 4) kV_d16 dc_d16 pm_d16 an_d16 cd_d16 ct_d16), sl_d16⟩)
    (c_d16 : codeIn K cd_d16 "fits_front" = true)
    (k_d16 : keepIn K (.ref f_d16) = true)
    (a_d17 : nsIn K mainGlobals "fits_end" = some (some (.ref f_d17)))
    (l_d17 : K.lookup f_d17 = some ⟨oc_d17, od_d17, .func (fnS "fits_end" "fits_end" (top 5) kV_d17 dc_d17 pm_d17 an_d17 cd_d17 ct_d17), sl_d17⟩)
    (c_d17 : codeIn K cd_d17 "fits_end" = true)
    (k_d17 : keepIn K (.ref f_d17) = true)
    (a_d18 : nsIn K mainGlobals "form_by_rule" = some (some (.ref f_d18)))
    (l_d18 : K.lookup f_d18 = some ⟨oc_d18, od_d18, .func (fnS "form_by_rule" "form_by_rule" (top 3) kV_d18 dc_d18 pm_d18 an_d18 cd_d18 ct_d18), sl_d18⟩)
    (c_d18 : codeIn K cd_d18 "form_by_rule" = true)
    (k_d18 : keepIn K (.ref f_d18) = true)
    (a_d19 : nsIn K mainGlobals "first_form" = some (some (.ref f_d19)))
    (l_d19 : K.lookup f_d19 = some ⟨oc_d19, od_d19, .func (fnS "first_form" "first_form" (top 2) kV_d19 dc_d19 pm_d19 an_d19 cd_d19 ct_d19), sl_d19⟩)
    (c_d19 : codeIn K cd_d19 "first_form" = true)
    (k_d19 : keepIn K (.ref f_d19) = true)
    (a_d20 : nsIn K mainGlobals "steps_between" = some (some (.ref f_d20)))
    (l_d20 : K.lookup f_d20 = some ⟨oc_d20, od_d20, .func (fnS "steps_between" "steps_between" (top 39) kV_d20 dc_d20 pm_d20 an_d20 cd_d20 ct_d20), sl_d20⟩)
    (c_d20 : codeIn K cd_d20 "steps_between" = true)
    (k_d20 : keepIn K (.ref f_d20) = true)
    (a_d21 : nsIn K mainGlobals "one_step_off" = some (some (.ref f_d21)))
    (l_d21 : K.lookup f_d21 = some ⟨oc_d21, od_d21, .func (fnS "one_step_off" "one_step_off" (top 38) kV_d21 dc_d21 pm_d21 an_d21 cd_d21 ct_d21), sl_d21⟩)
    (c_d21 : codeIn K cd_d21 "one_step_off" = true)
    (k_d21 : keepIn K (.ref f_d21) = true)
    (a_d22 : findIn K (.ref CT) "__init__" = some (some (.ref f_d22)))
    (i_d22 : isFn K (.ref f_d22) = true)
    (l_d22 : K.lookup f_d22 = some ⟨oc_d22, od_d22, .func (fnS "__init__" "FormTable.__init__" (inClass (top 41) 0) kV_d22 dc_d22 pm_d22 an_d22 cd_d22 ct_d22), sl_d22⟩)
    (c_d22 : codeIn K cd_d22 "FormTable.__init__" = true)
    (k_d22 : keepIn K (.ref f_d22) = true)
    (a_d23 : findIn K (.ref CT) "form_of" = some (some (.ref f_d23)))
    (i_d23 : isFn K (.ref f_d23) = true)
    (l_d23 : K.lookup f_d23 = some ⟨oc_d23, od_d23, .func (fnS "form_of" "FormTable.form_of" (inClass (top 41) 1) kV_d23 dc_d23 pm_d23 an_d23 cd_d23 ct_d23), sl_d23⟩)
    (c_d23 : codeIn K cd_d23 "FormTable.form_of" = true)
    (k_d23 : keepIn K (.ref f_d23) = true)
    (a_d24 : findIn K (.ref CT) "is_known" = some (some (.ref f_d24)))
    (i_d24 : isFn K (.ref f_d24) = true)
    (l_d24 : K.lookup f_d24 = some ⟨oc_d24, od_d24, .func (fnS "is_known" "FormTable.is_known" (inClass (top 41) 4) kV_d24 dc_d24 pm_d24 an_d24 cd_d24 ct_d24), sl_d24⟩)
    (c_d24 : codeIn K cd_d24 "FormTable.is_known" = true)
    (k_d24 : keepIn K (.ref f_d24) = true)
    (a_d25 : findIn K (.ref CT) "places_of" = some (some (.ref f_d25)))
    (i_d25 : isFn K (.ref f_d25) = true)
    (l_d25 : K.lookup f_d25 = some ⟨oc_d25, od_d25, .func (fnS "places_of" "FormTable.places_of" (inClass (top 41) 5) kV_d25 dc_d25 pm_d25 an_d25 cd_d25 ct_d25), sl_d25⟩)
    (c_d25 : codeIn K cd_d25 "FormTable.places_of" = true)
    (k_d25 : keepIn K (.ref f_d25) = true)
    (a_d26 : findIn K (.ref CT) "take_form" = some (some (.ref f_d26)))
    (i_d26 : isFn K (.ref f_d26) = true)
    (l_d26 : K.lookup f_d26 = some ⟨oc_d26, od_d26, .func (fnS "take_form" "FormTable.take_form" (inClass (top 41) 3) kV_d26 dc_d26 pm_d26 an_d26 cd_d26 ct_d26), sl_d26⟩)
    (c_d26 : codeIn K cd_d26 "FormTable.take_form" = true)
    (k_d26 : keepIn K (.ref f_d26) = true)
    (a_d27 : findIn K (.ref CT) "give_form" = some (some (.ref f_d27)))
    (i_d27 : isFn K (.ref f_d27) = true)
    (l_d27 : K.lookup f_d27 = some ⟨oc_d27, od_d27, .func (fnS "give_form" "FormTable.give_form" (inClass (top 41) 2) kV_d27 dc_d27 pm_d27 an_d27 cd_d27 ct_d27), sl_d27⟩)
    (c_d27 : codeIn K cd_d27 "FormTable.give_form" = true)
    (k_d27 : keepIn K (.ref f_d27) = true)
    (a_d28 : findIn K (.ref CL) "begin" = some (some (.ref f_d28)))
    (i_d28 : isFn K (.ref f_d28) = true)
    (l_d28 : K.lookup f_d28 = some ⟨oc_d28, od_d28, .func (fnS "begin" "Lexicon.begin" (inClass (top 56) 1) kV_d28 dc_d28 pm_d28 an_d28 cd_d28 ct_d28), sl_d28⟩)
    (c_d28 : codeIn K cd_d28 "Lexicon.begin" = true)
    (k_d28 : keepIn K (.ref f_d28) = true)
    (a_d29 : findIn K (.ref CL) "__init__" = some (some (.ref f_d29)))
    (i_d29 : isFn K (.ref f_d29) = true)
    (l_d29 : K.lookup f_d29 = some ⟨oc_d29, od_d29, .func (fnS "__init__" "Lexicon.__init__" (inClass (top 56) 0) kV_d29 dc_d29 pm_d29 an_d29 cd_d29 ct_d29), sl_d29⟩)
    (c_d29 : codeIn K cd_d29 "Lexicon.__init__" = true)
    (k_d29 : keepIn K (.ref f_d29) = true)
    (a_d30 : nsIn K mainGlobals "one_of" = some (some (.ref f_d30)))
    (l_d30 : K.lookup f_d30 = some ⟨oc_d30, od_d30, .func (fnS "one_of" "one_of" (top 57) kV_d30 dc_d30 pm_d30 an_d30 cd_d30 ct_d30), sl_d30⟩)
    (c_d30 : codeIn K cd_d30 "one_of" = true)
    (k_d30 : keepIn K (.ref f_d30) = true)
    (a_d31 : findIn K (.ref CL) "form" = some (some (.ref f_d31)))
    (i_d31 : isFn K (.ref f_d31) = true)
    (l_d31 : K.lookup f_d31 = some ⟨oc_d31, od_d31, .func (fnS "form" "Lexicon.form" (inClass (top 56) 6) kV_d31 dc_d31 pm_d31 an_d31 cd_d31 ct_d31), sl_d31⟩)
    (c_d31 : codeIn K cd_d31 "Lexicon.form" = true)
    (k_d31 : keepIn K (.ref f_d31) = true)
    (a_d32 : findIn K (.ref CL) "found" = some (some (.ref f_d32)))
    (i_d32 : isFn K (.ref f_d32) = true)
    (l_d32 : K.lookup f_d32 = some ⟨oc_d32, od_d32, .func (fnS "found" "Lexicon.found" (inClass (top 56) 7) kV_d32 dc_d32 pm_d32 an_d32 cd_d32 ct_d32), sl_d32⟩)
    (c_d32 : codeIn K cd_d32 "Lexicon.found" = true)
    (k_d32 : keepIn K (.ref f_d32) = true)
    (a_d33 : findIn K (.ref CL) "near" = some (some (.ref f_d33)))
    (i_d33 : isFn K (.ref f_d33) = true)
    (l_d33 : K.lookup f_d33 = some ⟨oc_d33, od_d33, .func (fnS "near" "Lexicon.near" (inClass (top 56) 8) kV_d33 dc_d33 pm_d33 an_d33 cd_d33 ct_d33), sl_d33⟩)
    (c_d33 : codeIn K cd_d33 "Lexicon.near" = true)
    (k_d33 : keepIn K (.ref f_d33) = true)
    (a_d34 : findIn K (.ref CL) "check" = some (some (.ref f_d34)))
    (i_d34 : isFn K (.ref f_d34) = true)
    (l_d34 : K.lookup f_d34 = some ⟨oc_d34, od_d34, .func (fnS "check" "Lexicon.check" (inClass (top 56) 9) kV_d34 dc_d34 pm_d34 an_d34 cd_d34 ct_d34), sl_d34⟩)
    (c_d34 : codeIn K cd_d34 "Lexicon.check" = true)
    (k_d34 : keepIn K (.ref f_d34) = true)
    (a_d35 : findIn K (.ref CL) "try_rules" = some (some (.ref f_d35)))
    (i_d35 : isFn K (.ref f_d35) = true)
    (l_d35 : K.lookup f_d35 = some ⟨oc_d35, od_d35, .func (fnS "try_rules" "Lexicon.try_rules" (inClass (top 56) 4) kV_d35 dc_d35 pm_d35 an_d35 cd_d35 ct_d35), sl_d35⟩)
    (c_d35 : codeIn K cd_d35 "Lexicon.try_rules" = true)
    (k_d35 : keepIn K (.ref f_d35) = true)
    (a_d36 : findIn K (.ref CL) "odd" = some (some (.ref f_d36)))
    (i_d36 : isFn K (.ref f_d36) = true)
    (l_d36 : K.lookup f_d36 = some ⟨oc_d36, od_d36, .func (fnS "odd" "Lexicon.odd" (inClass (top 56) 5) kV_d36 dc_d36 pm_d36 an_d36 cd_d36 ct_d36), sl_d36⟩)
    (c_d36 : codeIn K cd_d36 "Lexicon.odd" = true)
    (k_d36 : keepIn K (.ref f_d36) = true)
    (a_d37 : findIn K (.ref CL) "rule" = some (some (.ref f_d37)))
    (i_d37 : isFn K (.ref f_d37) = true)
    (l_d37 : K.lookup f_d37 = some ⟨oc_d37, od_d37, .func (fnS "rule" "Lexicon.rule" (inClass (top 56) 2) kV_d37 dc_d37 pm_d37 an_d37 cd_d37 ct_d37), sl_d37⟩)
    (c_d37 : codeIn K cd_d37 "Lexicon.rule" = true)
    (k_d37 : keepIn K (.ref f_d37) = true)
    (a_d38 : findIn K (.ref CL) "word" = some (some (.ref f_d38)))
    (i_d38 : isFn K (.ref f_d38) = true)
    (l_d38 : K.lookup f_d38 = some ⟨oc_d38, od_d38, .func (fnS "word" "Lexicon.word" (inClass (top 56) 3) kV_d38 dc_d38 pm_d38 an_d38 cd_d38 ct_d38), sl_d38⟩)
    (c_d38 : codeIn K cd_d38 "Lexicon.word" = true)
    (k_d38 : keepIn K (.ref f_d38) = true)
    (a_d39 : nsIn K mainGlobals "call_size" = some (some (.ref f_d39)))
    (l_d39 : K.lookup f_d39 = some ⟨oc_d39, od_d39, .func (fnS "call_size" "call_size" (top 68) kV_d39 dc_d39 pm_d39 an_d39 cd_d39 ct_d39), sl_d39⟩)
    (c_d39 : codeIn K cd_d39 "call_size" = true)
    (k_d39 : keepIn K (.ref f_d39) = true)
    (a_d40 : nsIn K mainGlobals "answer_call" = some (some (.ref f_d40)))
    (l_d40 : K.lookup f_d40 = some ⟨oc_d40, od_d40, .func (fnS "answer_call" "answer_call" (top 69) kV_d40 dc_d40 pm_d40 an_d40 cd_d40 ct_d40), sl_d40⟩)
    (c_d40 : codeIn K cd_d40 "answer_call" = true)
    (k_d40 : keepIn K (.ref f_d40) = true)
    (a_d41 : nsIn K mainGlobals "answers" = some (some (.ref f_d41)))
    (l_d41 : K.lookup f_d41 = some ⟨oc_d41, od_d41, .func (fnS "answers" "answers" (top 67) kV_d41 dc_d41 pm_d41 an_d41 cd_d41 ct_d41), sl_d41⟩)
    (c_d41 : codeIn K cd_d41 "answers" = true)
    (k_d41 : keepIn K (.ref f_d41) = true)
    (a_h : nsIn K mainGlobals "HEAD_SIZES" = some (some (.ref hs)))
    (l_h : K.lookup hs = some ⟨.type "tuple", od_h, .seq #[.int 1 th0, .int 4 th1, .int 3 th2, .int 4 th3, .int 3 th4, .int 3 th5, .int 3 th6, .int 3 th7] n_h, sl_h⟩) :
    ∃ fd : FuncData, (∀ (s : Shared) (us : List Value), us.length = (["calls"] : List Str).length → BindsTo s fd ⟨us, []⟩ ((["calls"] : List Str).zip us)) ∧ ∀ base : Heap, K.In base → base.Ns mainGlobals mg → FnOk P w K mg base CX0 10 fa fd ["calls"] (spAns K) := by
  have e := hfa.symm.trans (mg_of X G a_d41)
  cases e
  have G0 : Glo mg := {
    first := ⟨_, mg_of X G g_first⟩
    last := ⟨_, mg_of X G g_last⟩
    blank := ⟨_, mg_of X G g_blank⟩
    dot := ⟨_, mg_of X G g_dot⟩
    slash := ⟨_, mg_of X G g_slash⟩
    opening := ⟨_, mg_of X G g_opening⟩
    closing := ⟨_, mg_of X G g_closing⟩
    caret := ⟨_, mg_of X G g_caret⟩
    places := ⟨_, mg_of X G g_places⟩
    going := ⟨_, mg_of X G g_going⟩
    coming := ⟨_, mg_of X G g_coming⟩
    great1 := ⟨_, mg_of X G g_great1⟩
    great2 := ⟨_, mg_of X G g_great2⟩
    formMax := ⟨_, mg_of X G g_formMax⟩
    noWord := ⟨_, mg_of X G g_noWord⟩
    isThere := ⟨_, mg_of X G g_isThere⟩
    notOk := ⟨_, mg_of X G g_notOk⟩
    full := ⟨_, mg_of X G g_full⟩
    noRule := ⟨_, mg_of X G g_noRule⟩
    lastClass := ⟨_, mg_of X G g_lastClass⟩
    lastSlot := ⟨_, mg_of X G g_lastSlot⟩
    mostRules := ⟨_, mg_of X G g_mostRules⟩
    ruleBytes := ⟨_, mg_of X G g_ruleBytes⟩
    mostWords := ⟨_, mg_of X G g_mostWords⟩
    wordLetters := ⟨_, mg_of X G g_wordLetters⟩
    mostSaid := ⟨_, mg_of X G g_mostSaid⟩
    textBytes := ⟨_, mg_of X G g_textBytes⟩
    cBegin := ⟨_, mg_of X G g_cBegin⟩
    cRule := ⟨_, mg_of X G g_cRule⟩
    cWord := ⟨_, mg_of X G g_cWord⟩
    cOdd := ⟨_, mg_of X G g_cOdd⟩
    cForm := ⟨_, mg_of X G g_cForm⟩
    cFound := ⟨_, mg_of X G g_cFound⟩
    cNear := ⟨_, mg_of X G g_cNear⟩
    len := mg_none_of X G n_len
    all := mg_none_of X G n_all
    tuple := mg_none_of X G n_tuple
    range := mg_none_of X G n_range
    zip := mg_none_of X G n_zip
    enum := mg_none_of X G n_enum
    sorted := mg_none_of X G n_sorted
    list := mg_none_of X G n_list }
  have S0 : HS K mg hs := ⟨mg_of X G a_h, fun H => .inr ⟨_, _, _, l_h, rfl, rfl, by show 8 ≤ sizeLine; decide, .cons ⟨_, rfl⟩ (.cons ⟨_, rfl⟩ (.cons ⟨_, rfl⟩ (.cons ⟨_, rfl⟩ (.cons ⟨_, rfl⟩ (.cons ⟨_, rfl⟩ (.cons ⟨_, rfl⟩ (.cons ⟨_, rfl⟩ (.nil))))))))⟩⟩
  have T_Part : PartCls K CP := ⟨⟨pgCP, hdCP, poCP, saCP⟩, x0CP, x1CP, x2CP⟩
  have T_Rule : RuleCls K CR := ⟨⟨pgCR, hdCR, poCR, saCR⟩, x0CR, x1CR⟩
  have T_FormTable : TabCls K CT := ⟨⟨pgCT, hdCT, poCT, saCT⟩, x0CT, x1CT⟩
  have T_Lexicon : LexCls K CL := ⟨⟨pgCL, hdCL, poCL, saCL⟩, x0CL, x1CL, x2CL, x3CL, x4CL, x5CL⟩
  have F_d0 := fun_mk (st := (top 12)) l_d0 c_d0 k_d0
  have b_d0 := F_d0.binds (ps := ["sign"]) fun _ _ _ _ _ _ _ hl => by obtain ⟨_, rfl⟩ := len1 hl; rfl
  have F_d1 := fun_mk (st := (top 13)) l_d1 c_d1 k_d1
  have b_d1 := F_d1.binds (ps := ["signs", "least", "most"]) fun _ _ _ _ _ _ _ hl => by obtain ⟨_, _, _, rfl⟩ := len3 hl; rfl
  have F_d2 := fun_mk (st := (top 14)) l_d2 c_d2 k_d2
  have b_d2 := F_d2.binds (ps := ["those"]) fun _ _ _ _ _ _ _ hl => by obtain ⟨_, rfl⟩ := len1 hl; rfl
  have F_d3 := fun_mk (st := (top 15)) l_d3 c_d3 k_d3
  have b_d3 := F_d3.binds (ps := ["sign"]) fun _ _ _ _ _ _ _ hl => by obtain ⟨_, rfl⟩ := len1 hl; rfl
  have F_d4 := fun_mk (st := (top 17)) l_d4 c_d4 k_d4
  have b_d4 := F_d4.binds (ps := ["signs", "at"]) fun _ _ _ _ _ _ _ hl => by obtain ⟨_, _, rfl⟩ := len2 hl; rfl
  have F_d5 := fun_mk (st := (top 16)) l_d5 c_d5 k_d5
  have b_d5 := F_d5.binds (ps := ["signs"]) fun _ _ _ _ _ _ _ hl => by obtain ⟨_, rfl⟩ := len1 hl; rfl
  have F_d6 := fun_mk (st := (top 36)) l_d6 c_d6 k_d6
  have b_d6 := F_d6.binds (ps := ["signs", "mark"]) fun _ _ _ _ _ _ _ hl => by obtain ⟨_, _, rfl⟩ := len2 hl; rfl
  have F_d7 := fun_mk (st := (top 33)) l_d7 c_d7 k_d7
  have b_d7 := F_d7.binds (ps := ["signs", "at"]) fun _ _ _ _ _ _ _ hl => by obtain ⟨_, _, rfl⟩ := len2 hl; rfl
  have F_d8 := fun_mk (st := (top 35)) l_d8 c_d8 k_d8
  have b_d8 := F_d8.binds (ps := ["signs"]) fun _ _ _ _ _ _ _ hl => by obtain ⟨_, rfl⟩ := len1 hl; rfl
  have F_d9 := fun_mk (st := (top 34)) l_d9 c_d9 k_d9
  have b_d9 := F_d9.binds (ps := ["signs"]) fun _ _ _ _ _ _ _ hl => by obtain ⟨_, rfl⟩ := len1 hl; rfl
  have F_d10 := fun_mk (st := (top 32)) l_d10 c_d10 k_d10
  have b_d10 := F_d10.binds (ps := ["signs"]) fun _ _ _ _ _ _ _ hl => by obtain ⟨_, rfl⟩ := len1 hl; rfl
  have F_d11 := fun_mk (st := (inClass (top 28) 0)) l_d11 c_d11 k_d11
  have b_d11 := F_d11.binds (ps := ["self", "pattern", "goes", "comes"]) fun _ _ _ _ _ _ _ hl => by obtain ⟨_, _, _, _, rfl⟩ := len4 hl; rfl
  have F_d12 := fun_mk (st := (inClass (top 29) 0)) l_d12 c_d12 k_d12
  have b_d12 := F_d12.binds (ps := ["self", "front", "end"]) fun _ _ _ _ _ _ _ hl => by obtain ⟨_, _, _, rfl⟩ := len3 hl; rfl
  have F_d13 := fun_mk (st := (top 31)) l_d13 c_d13 k_d13
  have b_d13 := F_d13.binds (ps := ["signs"]) fun _ _ _ _ _ _ _ hl => by obtain ⟨_, rfl⟩ := len1 hl; rfl
  have F_d14 := fun_mk (st := (top 30)) l_d14 c_d14 k_d14
  have b_d14 := F_d14.binds (ps := ["signs"]) fun _ _ _ _ _ _ _ hl => by obtain ⟨_, rfl⟩ := len1 hl; rfl
  have F_d15 := fun_mk (st := (top 6)) l_d15 c_d15 k_d15
  have b_d15 := F_d15.binds (ps := ["pattern", "letters"]) fun _ _ _ _ _ _ _ hl => by obtain ⟨_, _, rfl⟩ := len2 hl; rfl
  have F_d16 := fun_mk (st := (top 4)) l_d16 c_d16 k_d16
  have b_d16 := F_d16.binds (ps := ["pattern", "letters"]) fun _ _ _ _ _ _ _ hl => by obtain ⟨_, _, rfl⟩ := len2 hl; rfl
  have F_d17 := fun_mk (st := (top 5)) l_d17 c_d17 k_d17
  have b_d17 := F_d17.binds (ps := ["pattern", "letters"]) fun _ _ _ _ _ _ _ hl => by obtain ⟨_, _, rfl⟩ := len2 hl; rfl
  have F_d18 := fun_mk (st := (top 3)) l_d18 c_d18 k_d18
  have b_d18 := F_d18.binds (ps := ["rule", "letters"]) fun _ _ _ _ _ _ _ hl => by obtain ⟨_, _, rfl⟩ := len2 hl; rfl
  have F_d19 := fun_mk (st := (top 2)) l_d19 c_d19 k_d19
  have b_d19 := F_d19.binds (ps := ["rules", "letters"]) fun _ _ _ _ _ _ _ hl => by obtain ⟨_, _, rfl⟩ := len2 hl; rfl
  have F_d20 := fun_mk (st := (top 39)) l_d20 c_d20 k_d20
  have b_d20 := F_d20.binds (ps := ["before", "behind", "alphabet"]) fun _ _ _ _ _ _ _ hl => by obtain ⟨_, _, _, rfl⟩ := len3 hl; rfl
  have F_d21 := fun_mk (st := (top 38)) l_d21 c_d21 k_d21
  have b_d21 := F_d21.binds (ps := ["letters"]) fun _ _ _ _ _ _ _ hl => by obtain ⟨_, rfl⟩ := len1 hl; rfl
  have F_d22 := fun_mk (st := (inClass (top 41) 0)) l_d22 c_d22 k_d22
  have b_d22 := F_d22.binds (ps := ["self"]) fun _ _ _ _ _ _ _ hl => by obtain ⟨_, rfl⟩ := len1 hl; rfl
  have F_d23 := fun_mk (st := (inClass (top 41) 1)) l_d23 c_d23 k_d23
  have b_d23 := F_d23.binds (ps := ["self", "place"]) fun _ _ _ _ _ _ _ hl => by obtain ⟨_, _, rfl⟩ := len2 hl; rfl
  have F_d24 := fun_mk (st := (inClass (top 41) 4)) l_d24 c_d24 k_d24
  have b_d24 := F_d24.binds (ps := ["self", "form"]) fun _ _ _ _ _ _ _ hl => by obtain ⟨_, _, rfl⟩ := len2 hl; rfl
  have F_d25 := fun_mk (st := (inClass (top 41) 5)) l_d25 c_d25 k_d25
  have b_d25 := F_d25.binds (ps := ["self", "form"]) fun _ _ _ _ _ _ _ hl => by obtain ⟨_, _, rfl⟩ := len2 hl; rfl
  have F_d26 := fun_mk (st := (inClass (top 41) 3)) l_d26 c_d26 k_d26
  have b_d26 := F_d26.binds (ps := ["self", "place"]) fun _ _ _ _ _ _ _ hl => by obtain ⟨_, _, rfl⟩ := len2 hl; rfl
  have F_d27 := fun_mk (st := (inClass (top 41) 2)) l_d27 c_d27 k_d27
  have b_d27 := F_d27.binds (ps := ["self", "place", "form"]) fun _ _ _ _ _ _ _ hl => by obtain ⟨_, _, _, rfl⟩ := len3 hl; rfl
  have F_d28 := fun_mk (st := (inClass (top 56) 1)) l_d28 c_d28 k_d28
  have b_d28 := F_d28.binds (ps := ["self"]) fun _ _ _ _ _ _ _ hl => by obtain ⟨_, rfl⟩ := len1 hl; rfl
  have F_d29 := fun_mk (st := (inClass (top 56) 0)) l_d29 c_d29 k_d29
  have b_d29 := F_d29.binds (ps := ["self"]) fun _ _ _ _ _ _ _ hl => by obtain ⟨_, rfl⟩ := len1 hl; rfl
  have F_d30 := fun_mk (st := (top 57)) l_d30 c_d30 k_d30
  have b_d30 := F_d30.binds (ps := ["rows", "k"]) fun _ _ _ _ _ _ _ hl => by obtain ⟨_, _, rfl⟩ := len2 hl; rfl
  have F_d31 := fun_mk (st := (inClass (top 56) 6)) l_d31 c_d31 k_d31
  have b_d31 := F_d31.binds (ps := ["self", "number", "slot"]) fun _ _ _ _ _ _ _ hl => by obtain ⟨_, _, _, rfl⟩ := len3 hl; rfl
  have F_d32 := fun_mk (st := (inClass (top 56) 7)) l_d32 c_d32 k_d32
  have b_d32 := F_d32.binds (ps := ["self", "signs", "k"]) fun _ _ _ _ _ _ _ hl => by obtain ⟨_, _, _, rfl⟩ := len3 hl; rfl
  have F_d33 := fun_mk (st := (inClass (top 56) 8)) l_d33 c_d33 k_d33
  have b_d33 := F_d33.binds (ps := ["self", "signs", "k"]) fun _ _ _ _ _ _ _ hl => by obtain ⟨_, _, _, rfl⟩ := len3 hl; rfl
  have F_d34 := fun_mk (st := (inClass (top 56) 9)) l_d34 c_d34 k_d34
  have b_d34 := F_d34.binds (ps := ["self", "signs", "start"]) fun _ _ _ _ _ _ _ hl => by obtain ⟨_, _, _, rfl⟩ := len3 hl; rfl
  have F_d35 := fun_mk (st := (inClass (top 56) 4)) l_d35 c_d35 k_d35
  have b_d35 := F_d35.binds (ps := ["self", "rules", "number", "slot"]) fun _ _ _ _ _ _ _ hl => by obtain ⟨_, _, _, _, rfl⟩ := len4 hl; rfl
  have F_d36 := fun_mk (st := (inClass (top 56) 5)) l_d36 c_d36 k_d36
  have b_d36 := F_d36.binds (ps := ["self", "number", "slot", "signs"]) fun _ _ _ _ _ _ _ hl => by obtain ⟨_, _, _, _, rfl⟩ := len4 hl; rfl
  have F_d37 := fun_mk (st := (inClass (top 56) 2)) l_d37 c_d37 k_d37
  have b_d37 := F_d37.binds (ps := ["self", "kind", "slot", "signs"]) fun _ _ _ _ _ _ _ hl => by obtain ⟨_, _, _, _, rfl⟩ := len4 hl; rfl
  have F_d38 := fun_mk (st := (inClass (top 56) 3)) l_d38 c_d38 k_d38
  have b_d38 := F_d38.binds (ps := ["self", "kind", "signs"]) fun _ _ _ _ _ _ _ hl => by obtain ⟨_, _, _, rfl⟩ := len3 hl; rfl
  have F_d39 := fun_mk (st := (top 68)) l_d39 c_d39 k_d39
  have b_d39 := F_d39.binds (ps := ["calls", "at"]) fun _ _ _ _ _ _ _ hl => by obtain ⟨_, _, rfl⟩ := len2 hl; rfl
  have F_d40 := fun_mk (st := (top 69)) l_d40 c_d40 k_d40
  have b_d40 := F_d40.binds (ps := ["lexicon", "call"]) fun _ _ _ _ _ _ _ hl => by obtain ⟨_, _, rfl⟩ := len2 hl; rfl
  have F_d41 := fun_mk (st := (top 67)) l_d41 c_d41 k_d41
  have b_d41 := F_d41.binds (ps := ["calls"]) fun _ _ _ _ _ _ _ hl => by obtain ⟨_, rfl⟩ := len1 hl; rfl
  refine ⟨fnOf "answers" "answers" (defArgs (top 67)) (defBody (top 67)) (defScope (top 67)) .none kV_d41 dc_d41 pm_d41 an_d41 cd_d41 ct_d41, fun s us hu => by obtain ⟨_, rfl⟩ := len1 hu; exact .of_eq rfl, fun base _ _ => ?_⟩
  have O_d0 := ok_isLetter (P := P) (w := w) (mg := mg) (base := base) F_d0 G0
  have C_d0 : Cal P w K mg base "is_letter" ["sign"] 1 spIsLetter := ⟨⟨_, _, O_d0, mg_of X G a_d0, k_d0, b_d0⟩⟩
  have O_d1 := ok_row (P := P) (w := w) (mg := mg) (base := base) F_d1 G0 C_d0
  have C_d1 : Cal P w K mg base "is_row_of_letters" ["signs", "least", "most"] 2 (spRow K) := ⟨⟨_, _, O_d1, mg_of X G a_d1, k_d1, b_d1⟩⟩
  have O_d2 := ok_without (P := P) (w := w) (mg := mg) (base := base) F_d2 G0
  have C_d2 : Cal P w K mg base "letters_without" ["those"] 1 (spWithout K) := ⟨⟨_, _, O_d2, mg_of X G a_d2, k_d2, b_d2⟩⟩
  have O_d3 := ok_small (P := P) (w := w) (mg := mg) (base := base) F_d3 G0
  have C_d3 : Cal P w K mg base "taken_as_small" ["sign"] 1 spSmall := ⟨⟨_, _, O_d3, mg_of X G a_d3, k_d3, b_d3⟩⟩
  have O_d4 := ok_rowEnd (P := P) (w := w) (mg := mg) (base := base) F_d4 G0 C_d0
  have C_d4 : Cal P w K mg base "row_end" ["signs", "at"] 2 (spRowEnd K) := ⟨⟨_, _, O_d4, mg_of X G a_d4, k_d4, b_d4⟩⟩
  have O_d5 := ok_rowsOf (P := P) (w := w) (mg := mg) (base := base) F_d5 G0 C_d4
  have C_d5 : Cal P w K mg base "rows_of_letters" ["signs"] 3 (spRowsOf K) := ⟨⟨_, _, O_d5, mg_of X G a_d5, k_d5, b_d5⟩⟩
  have O_d6 := ok_split (P := P) (w := w) (mg := mg) (base := base) F_d6 
  have C_d6 : Cal P w K mg base "split_at" ["signs", "mark"] 1 (spSplit K) := ⟨⟨_, _, O_d6, mg_of X G a_d6, k_d6, b_d6⟩⟩
  have O_d7 := ok_size (P := P) (w := w) (mg := mg) (base := base) F_d7 G0
  have C_d7 : Cal P w K mg base "place_size" ["signs", "at"] 1 (spSize K) := ⟨⟨_, _, O_d7, mg_of X G a_d7, k_d7, b_d7⟩⟩
  have O_d8 := ok_brack (P := P) (w := w) (mg := mg) (base := base) F_d8 G0 C_d1 C_d2
  have C_d8 : Cal P w K mg base "read_brackets" ["signs"] 3 (spBrack K) := ⟨⟨_, _, O_d8, mg_of X G a_d8, k_d8, b_d8⟩⟩
  have O_d9 := ok_place (P := P) (w := w) (mg := mg) (base := base) F_d9 G0 C_d8 C_d2 C_d0
  have C_d9 : Cal P w K mg base "read_place" ["signs"] 4 (spPlace K) := ⟨⟨_, _, O_d9, mg_of X G a_d9, k_d9, b_d9⟩⟩
  have O_d10 := ok_pattern (P := P) (w := w) (mg := mg) (base := base) F_d10 G0 C_d7 C_d9
  have C_d10 : Cal P w K mg base "read_pattern" ["signs"] 5 (spPattern K) := ⟨⟨_, _, O_d10, mg_of X G a_d10, k_d10, b_d10⟩⟩
  have O_d11 := ok_partInit (P := P) (w := w) (mg := mg) (base := base) F_d11 T_Part
  have C_d11 : Mke P w K mg base "Part" CP ["self", "pattern", "goes", "comes"] 1 (spPartInit CP) := ⟨⟨_, _, ⟨mkCP, a_d11, i_d11, kcCP⟩, O_d11, mg_of X G aCP, b_d11⟩⟩
  have O_d12 := ok_ruleInit (P := P) (w := w) (mg := mg) (base := base) F_d12 T_Rule
  have C_d12 : Mke P w K mg base "Rule" CR ["self", "front", "end"] 1 (spRuleInit CR) := ⟨⟨_, _, ⟨mkCR, a_d12, i_d12, kcCR⟩, O_d12, mg_of X G aCR, b_d12⟩⟩
  have O_d13 := ok_part (P := P) (w := w) (mg := mg) (base := base) F_d13 G0 C_d6 C_d10 C_d1 C_d11
  have C_d13 : Cal P w K mg base "read_part" ["signs"] 6 (spPart K CP) := ⟨⟨_, _, O_d13, mg_of X G a_d13, k_d13, b_d13⟩⟩
  have O_d14 := ok_rule (P := P) (w := w) (mg := mg) (base := base) F_d14 G0 C_d6 C_d13 C_d12
  have C_d14 : Cal P w K mg base "read_rule" ["signs"] 7 (spRule K CR CP) := ⟨⟨_, _, O_d14, mg_of X G a_d14, k_d14, b_d14⟩⟩
  have O_d15 := ok_fits (P := P) (w := w) (mg := mg) (base := base) F_d15 G0
  have C_d15 : Cal P w K mg base "fits" ["pattern", "letters"] 1 spFits := ⟨⟨_, _, O_d15, mg_of X G a_d15, k_d15, b_d15⟩⟩
  have O_d16 := ok_fitsFront (P := P) (w := w) (mg := mg) (base := base) F_d16 G0 C_d15
  have C_d16 : Cal P w K mg base "fits_front" ["pattern", "letters"] 2 (spFitsAt fitsFront) := ⟨⟨_, _, O_d16, mg_of X G a_d16, k_d16, b_d16⟩⟩
  have O_d17 := ok_fitsEnd (P := P) (w := w) (mg := mg) (base := base) F_d17 G0 C_d15
  have C_d17 : Cal P w K mg base "fits_end" ["pattern", "letters"] 2 (spFitsAt fitsEnd) := ⟨⟨_, _, O_d17, mg_of X G a_d17, k_d17, b_d17⟩⟩
  have O_d18 := ok_byRule (P := P) (w := w) (mg := mg) (base := base) F_d18 G0 T_Rule T_Part C_d16 C_d17
  have C_d18 : Cal P w K mg base "form_by_rule" ["rule", "letters"] 3 (spByRule CR CP) := ⟨⟨_, _, O_d18, mg_of X G a_d18, k_d18, b_d18⟩⟩
  have O_d19 := ok_first1 (P := P) (w := w) (mg := mg) (base := base) F_d19 G0 C_d18
  have C_d19 : Cal P w K mg base "first_form" ["rules", "letters"] 4 (spFirst K CR CP) := ⟨⟨_, _, O_d19, mg_of X G a_d19, k_d19, b_d19⟩⟩
  have O_d20 := ok_between (P := P) (w := w) (mg := mg) (base := base) F_d20 G0
  have C_d20 : Cal P w K mg base "steps_between" ["before", "behind", "alphabet"] 1 spBetween := ⟨⟨_, _, O_d20, mg_of X G a_d20, k_d20, b_d20⟩⟩
  have O_d21 := ok_steps (P := P) (w := w) (mg := mg) (base := base) F_d21 G0 C_d2 C_d20
  have C_d21 : Cal P w K mg base "one_step_off" ["letters"] 2 (spSteps K) := ⟨⟨_, _, O_d21, mg_of X G a_d21, k_d21, b_d21⟩⟩
  have O_d22 := ok_tabInit (P := P) (w := w) (mg := mg) (base := base) F_d22 T_FormTable
  have C_d22 : Mke P w K mg base "FormTable" CT ["self"] 1 (spTabInit CT) := ⟨⟨_, _, ⟨mkCT, a_d22, i_d22, kcCT⟩, O_d22, mg_of X G aCT, b_d22⟩⟩
  have O_d23 := ok_formOf (P := P) (w := w) (mg := mg) (base := base) F_d23 T_FormTable
  have C_d23 : MCal P w K mg base CT "form_of" ["self", "place"] 1 (spFormOf CT) := ⟨⟨_, _, O_d23, ⟨a_d23, i_d23, k_d23⟩, b_d23⟩⟩
  have O_d24 := ok_known (P := P) (w := w) (mg := mg) (base := base) F_d24 T_FormTable
  have C_d24 : MCal P w K mg base CT "is_known" ["self", "form"] 1 (spKnown CT) := ⟨⟨_, _, O_d24, ⟨a_d24, i_d24, k_d24⟩, b_d24⟩⟩
  have O_d25 := ok_places (P := P) (w := w) (mg := mg) (base := base) F_d25 G0 T_FormTable
  have C_d25 : MCal P w K mg base CT "places_of" ["self", "form"] 1 (spPlaces CT) := ⟨⟨_, _, O_d25, ⟨a_d25, i_d25, k_d25⟩, b_d25⟩⟩
  have O_d26 := ok_take (P := P) (w := w) (mg := mg) (base := base) F_d26 G0 T_FormTable
  have C_d26 : MCal P w K mg base CT "take_form" ["self", "place"] 1 (spTake CT) := ⟨⟨_, _, O_d26, ⟨a_d26, i_d26, k_d26⟩, b_d26⟩⟩
  have O_d27 := ok_give (P := P) (w := w) (mg := mg) (base := base) F_d27 G0 T_FormTable C_d26
  have C_d27 : MCal P w K mg base CT "give_form" ["self", "place", "form"] 2 (spGive CT) := ⟨⟨_, _, O_d27, ⟨a_d27, i_d27, k_d27⟩, b_d27⟩⟩
  have O_d28 := ok_begin (P := P) (w := w) (mg := mg) (base := base) (cs := ⟨CL, CT, CR, CP⟩) F_d28 T_Lexicon C_d22
  have C_d28 : MCal P w K mg base CL "begin" ["self"] 3 (spBegin P w ⟨CL, CT, CR, CP⟩) := ⟨⟨_, _, O_d28, ⟨a_d28, i_d28, k_d28⟩, b_d28⟩⟩
  have O_d29 := ok_lexInit (P := P) (w := w) (mg := mg) (base := base) (cs := ⟨CL, CT, CR, CP⟩) F_d29 T_Lexicon C_d28
  have C_d29 : Mke P w K mg base "Lexicon" CL ["self"] 4 (spLexInit P w ⟨CL, CT, CR, CP⟩) := ⟨⟨_, _, ⟨mkCL, a_d29, i_d29, kcCL⟩, O_d29, mg_of X G aCL, b_d29⟩⟩
  have O_d30 := ok_oneOf (P := P) (w := w) (mg := mg) (base := base) F_d30 G0
  have C_d30 : Cal P w K mg base "one_of" ["rows", "k"] 1 spOneOf := ⟨⟨_, _, O_d30, mg_of X G a_d30, k_d30, b_d30⟩⟩
  have O_d31 := ok_form (P := P) (w := w) (mg := mg) (base := base) (cs := ⟨CL, CT, CR, CP⟩) F_d31 G0 T_Lexicon T_FormTable C_d23
  have C_d31 : MCal P w K mg base CL "form" ["self", "number", "slot"] 2 (spForm P w ⟨CL, CT, CR, CP⟩) := ⟨⟨_, _, O_d31, ⟨a_d31, i_d31, k_d31⟩, b_d31⟩⟩
  have O_d32 := ok_found (P := P) (w := w) (mg := mg) (base := base) (cs := ⟨CL, CT, CR, CP⟩) F_d32 G0 T_Lexicon T_FormTable C_d25 C_d1 C_d30
  have C_d32 : MCal P w K mg base CL "found" ["self", "signs", "k"] 3 (spFound P w K ⟨CL, CT, CR, CP⟩) := ⟨⟨_, _, O_d32, ⟨a_d32, i_d32, k_d32⟩, b_d32⟩⟩
  have O_d33 := ok_near (P := P) (w := w) (mg := mg) (base := base) (cs := ⟨CL, CT, CR, CP⟩) F_d33 G0 T_Lexicon T_FormTable C_d24 C_d1 C_d30 C_d21
  have C_d33 : MCal P w K mg base CL "near" ["self", "signs", "k"] 3 (spNear P w K ⟨CL, CT, CR, CP⟩) := ⟨⟨_, _, O_d33, ⟨a_d33, i_d33, k_d33⟩, b_d33⟩⟩
  have O_d34 := ok_check (P := P) (w := w) (mg := mg) (base := base) (cs := ⟨CL, CT, CR, CP⟩) F_d34 G0 T_Lexicon T_FormTable C_d24 C_d3 C_d5
  have C_d34 : MCal P w K mg base CL "check" ["self", "signs", "start"] 4 (spCheck P w K ⟨CL, CT, CR, CP⟩) := ⟨⟨_, _, O_d34, ⟨a_d34, i_d34, k_d34⟩, b_d34⟩⟩
  have O_d35 := ok_try (P := P) (w := w) (mg := mg) (base := base) (cs := ⟨CL, CT, CR, CP⟩) F_d35 G0 T_Lexicon T_FormTable C_d23 C_d27 C_d19
  have C_d35 : MCal P w K mg base CL "try_rules" ["self", "rules", "number", "slot"] 5 (spTry P w K ⟨CL, CT, CR, CP⟩) := ⟨⟨_, _, O_d35, ⟨a_d35, i_d35, k_d35⟩, b_d35⟩⟩
  have O_d36 := ok_odd (P := P) (w := w) (mg := mg) (base := base) (cs := ⟨CL, CT, CR, CP⟩) F_d36 G0 T_Lexicon T_FormTable C_d27 C_d1
  have C_d36 : MCal P w K mg base CL "odd" ["self", "number", "slot", "signs"] 3 (spOdd P w K ⟨CL, CT, CR, CP⟩) := ⟨⟨_, _, O_d36, ⟨a_d36, i_d36, k_d36⟩, b_d36⟩⟩
  have O_d37 := ok_ruleC (P := P) (w := w) (mg := mg) (base := base) (cs := ⟨CL, CT, CR, CP⟩) F_d37 G0 T_Lexicon C_d35 C_d14
  have C_d37 : MCal P w K mg base CL "rule" ["self", "kind", "slot", "signs"] 8 (spRuleC P w K ⟨CL, CT, CR, CP⟩) := ⟨⟨_, _, O_d37, ⟨a_d37, i_d37, k_d37⟩, b_d37⟩⟩
  have O_d38 := ok_word (P := P) (w := w) (mg := mg) (base := base) (cs := ⟨CL, CT, CR, CP⟩) F_d38 G0 T_Lexicon C_d35 C_d1
  have C_d38 : MCal P w K mg base CL "word" ["self", "kind", "signs"] 6 (spWord P w K ⟨CL, CT, CR, CP⟩) := ⟨⟨_, _, O_d38, ⟨a_d38, i_d38, k_d38⟩, b_d38⟩⟩
  have O_d39 := ok_sizeC (P := P) (w := w) (mg := mg) (base := base) F_d39 G0 S0
  have C_d39 : Cal P w K mg base "call_size" ["calls", "at"] 1 (spSizeC K) := ⟨⟨_, _, O_d39, mg_of X G a_d39, k_d39, b_d39⟩⟩
  have O_d40 := ok_answer (P := P) (w := w) (mg := mg) (base := base) (cs := ⟨CL, CT, CR, CP⟩) F_d40 G0 S0 T_Lexicon C_d28 C_d37 C_d38 C_d36 C_d31 C_d32 C_d33 C_d34
  have C_d40 : Cal P w K mg base "answer_call" ["lexicon", "call"] 9 (spAnswer P w K ⟨CL, CT, CR, CP⟩) := ⟨⟨_, _, O_d40, mg_of X G a_d40, k_d40, b_d40⟩⟩
  have O_d41 := ok_answers (P := P) (w := w) (mg := mg) (base := base) (cs := ⟨CL, CT, CR, CP⟩) F_d41 G0 C_d29 C_d39 C_d40
  exact O_d41
end Bw
namespace PySem.W.Fast
def tw2307940337240819805 : Unit := ()
def tw1040906032659350878 : Unit := ()
def tw17151742291833359360 : Unit := ()
def tw11328719571392942979 : Unit := ()
def tw4960286780332522944 : Unit := ()
def tw17975671230053966996 : Unit := ()
def tw9311519563287917561 : Unit := ()
def tw5520543033409385167 : Unit := ()
def tw11415428060907018556 : Unit := ()
def tw10024096335278850494 : Unit := ()
def tw11085900263207043871 : Unit := ()
def tw16741395127907197697 : Unit := ()
def tw1453246043495445715 : Unit := ()
def tw16710899845040037654 : Unit := ()
def tw5095071777256807236 : Unit := ()
def tw249823962266997316 : Unit := ()
def tw16488327036362427616 : Unit := ()
def tw2293023232436990915 : Unit := ()
def tw13692616760107216427 : Unit := ()
def tw16111634922002847318 : Unit := ()
def tw15100419149876156822 : Unit := ()
def tw1630980960135581495 : Unit := ()
def tw14312675958986210984 : Unit := ()
def tw16584749849600971541 : Unit := ()
def tw18403688408719245554 : Unit := ()
def tw16797501039695884137 : Unit := ()
def tw16161013338466562070 : Unit := ()
def tw17513798872603272766 : Unit := ()
def tw13016619925841449372 : Unit := ()
def tw557059648392711497 : Unit := ()
def tw7997260087501407461 : Unit := ()
def tw13073410765447605884 : Unit := ()
def tw18239133940354314197 : Unit := ()
def tw17822682663176804949 : Unit := ()
def tw1625089613914749724 : Unit := ()
def tw4980063747067849473 : Unit := ()
def tw17656280401188424028 : Unit := ()
def tw11976317471181576450 : Unit := ()
def tw9816943092215456034 : Unit := ()
def tw15678038351362102232 : Unit := ()
def tw6888889021833939220 : Unit := ()
def tw5721540759573945640 : Unit := ()
def tw7983143568339337832 : Unit := ()
def tw16745166601580630044 : Unit := ()
end PySem.W.Fast
open PySem PySem.W PyProof.Rows
set_option maxRecDepth 100000 in
set_option maxHeartbeats 0 in
theorem PySem.Challenge.cw_bentwords_s01_answers_holds : PySem.Challenge.rw_bentwords_s01_answers.Holds := by
  w_on; k_headS; (case hw => exact ⟨[.list [.int 0]], by decide +kernel, by decide +kernel⟩)
  k_fillS
  refine L2.walk_specK (r := PySem.Challenge.rw_bentwords_s01_answers) (k := 10) (CX := L2.CX0) (ps := ["calls"]) (sp := Bw.spAns) (by decide +kernel) rfl rfl ⟨rfl, by decide, by decide⟩ (fun w h Y => PySem.W.kIn_of Y) ?F ?S (fun _ _ _ _ z => z)
  case F =>
    intro w mg fa h Y KX G hmg
    apply Bw.all_mk KX G hmg
    all_goals (try k_is)
  case S =>
    intro K H xs a hO hwi hask hx
    cases hx with
    | cons h1 h2 =>
      cases h2
      cases h1 with
      | lst hs ha =>
        have e := L2.ints_dw a.1 _ ha
        subst e
        have q : ((Codec.inLen 0 30000 a.1 && a.1.all (Codec.inInt 0 4294967295)) && true) = true := hwi
        rw [Bool.and_eq_true, Bool.and_eq_true] at q
        exact ⟨_, a.1, rfl, hs, (Codec.inNat_iff.mp q.1.1).2, hask, fun H' p hp => .lst (L2.SqL.of hp) (L2.dw_ints _)⟩
