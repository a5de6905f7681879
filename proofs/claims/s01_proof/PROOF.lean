import PyProof.Rows.All
import Wide.All
import OpenK.AllK
import Wide.FinOn
import Open.SpecLaws
import KE.OsGo
import HandS.ForSpec
import HandS.ForMost
import HandS.SortKw
import KE.DataMinMax
import KE.SortData
import HandS.More
import PySem.Challenge.RW_spawnbed_s01_answers
set_option Elab.async false
set_option maxRecDepth 100000
set_option maxHeartbeats 2000000
namespace Bed
open Kh363
/-! ### The program's reckoning, in plain Lean -/
def nb (w h c : Nat) : List Nat :=
  (((if w ≤ c then [c - w] else []) ++ (if 0 < c % w then [c - 1] else [])) ++ (if c % w + 1 < w then [c + 1] else [])) ++ (if c + w < w * h then [c + w] else [])
def reachOne (bl : List Nat) (days : List Int) (acc : List Nat) (o : Nat) : List Nat :=
  if days.getD o 0 = -33 ∧ o ∉ bl ∧ o ∉ acc then acc ++ [o] else acc
def reachStep (w h : Nat) (bl : List Nat) (days : List Int) (acc : List Nat) (c : Nat) : List Nat := (nb w h c).foldl (reachOne bl days) acc
def reached (w h : Nat) (bl : List Nat) (days : List Int) (front : List Nat) : List Nat := front.foldl (reachStep w h bl days) []
def paint (front : List Nat) (t : Int) (days : List Int) : List Int := front.foldl (fun d c => d.set c t) days
def bfs (w h : Nat) (bl gr : List Nat) : Nat → List Int × List Nat
  | 0 => (List.replicate (w * h) (-33), gr)
  | t + 1 => (paint (bfs w h bl gr t).2 t (bfs w h bl gr t).1, reached w h bl (paint (bfs w h bl gr t).2 t (bfs w h bl gr t).1) (bfs w h bl gr t).2)
/-! ### The specification's map, day by day -/
def enc : Option Nat → Int
  | none => -33
  | some n => n
structure Ok (a : Abs) : Prop where
  w1 : 1 ≤ a.wide
  w5 : a.wide ≤ 5
  h1 : 1 ≤ a.high
  h5 : a.high ≤ 5
def mapT (a : Abs) (g : List Nat) (t : Nat) : List (Option Nat) := (List.range t).foldl (spread a) ((List.range (cells a)).map fun c => if isFree a c && g.contains c then some 0 else none)
def lab (a : Abs) (g : List Nat) (t c : Nat) : Option Nat := (mapT a g t).getD c none
theorem mapBy_eq (a : Abs) (g : List Nat) : mapBy a g = mapT a g (cells a) := rfl
theorem mapT_succ (a : Abs) (g : List Nat) (t : Nat) : mapT a g (t + 1) = spread a (mapT a g t) t := by
  unfold mapT
  rw [List.range_succ, List.foldl_append]
  rfl
theorem spread_len (a : Abs) (m : List (Option Nat)) (d : Nat) : (spread a m d).length = m.length := by
  simp [spread]
theorem mapT_len (a : Abs) (g : List Nat) : ∀ t, (mapT a g t).length = cells a
  | 0 => by simp [mapT]
  | t + 1 => by rw [mapT_succ, spread_len, mapT_len a g t]
theorem lab_zero (a : Abs) (g : List Nat) (c : Nat) : lab a g 0 c = if isFree a c && g.contains c then some 0 else none := by
  unfold lab mapT
  by_cases h : c < cells a
  · simp [List.getD_eq_getElem?_getD, h]
  · have : isFree a c = false := by simp [isFree, h]
    simp [List.getD_eq_getElem?_getD, this, h]
theorem lab_succ (a : Abs) (g : List Nat) (t c : Nat) : lab a g (t + 1) c = match lab a g t c with
    | some n => some n
    | none => if isFree a c && (beside a c).any fun e => lab a g t e == some t then some (t + 1) else none := by
  unfold lab
  rw [mapT_succ]
  by_cases h : c < cells a
  · have hl : c < (mapT a g t).length := by rw [mapT_len]; exact h
    have e1 : (mapT a g t).getD c none = (mapT a g t)[c] := by
      simp [List.getD_eq_getElem?_getD, hl]
    have e2 : (spread a (mapT a g t) t).getD c none = (match (mapT a g t)[c] with
      | some n => some n
      | none => if isFree a c && (beside a c).any fun e => (mapT a g t).getD e none == some t then some (t + 1) else none) := by
      have hl2 : c < (spread a (mapT a g t) t).length := by rw [spread_len]; exact hl
      rw [List.getD_eq_getElem?_getD, List.getElem?_eq_getElem hl2, Option.getD_some]
      simp only [spread, List.getElem_map, List.getElem_zipIdx, Nat.zero_add]
      rfl
    rw [e2, e1]
  · have hf : isFree a c = false := by simp [isFree, h]
    have e1 : (mapT a g t).getD c none = none := by
      have : (mapT a g t).length ≤ c := by rw [mapT_len]; omega
      simp [List.getD_eq_getElem?_getD, List.getElem?_eq_none this]
    have e2 : (spread a (mapT a g t) t).getD c none = none := by
      have : (spread a (mapT a g t) t).length ≤ c := by rw [spread_len, mapT_len]; omega
      simp [List.getD_eq_getElem?_getD, List.getElem?_eq_none this]
    rw [e2, e1, hf]
    rfl
theorem isFree_lt {a : Abs} {c : Nat} (h : isFree a c = true) : c < cells a := by
  simp [isFree] at h; exact h.1
theorem isFree_iff {a : Abs} {c : Nat} : isFree a c = true ↔ c < cells a ∧ c ∉ a.blocked := by
  simp [isFree]
/-- what has a day is free, and its day is no later than t -/
theorem lab_free (a : Abs) (g : List Nat) : ∀ (t c : Nat) (n : Nat), lab a g t c = some n → isFree a c = true ∧ n ≤ t
  | 0, c, n, h => by
    rw [lab_zero] at h
    split at h
    · rename_i q
      simp at q h
      exact ⟨q.1, by omega⟩
    · cases h
  | t + 1, c, n, h => by
    rw [lab_succ] at h
    cases e : lab a g t c with
    | some k =>
      rw [e] at h
      have := lab_free a g t c k e
      cases h
      exact ⟨this.1, by omega⟩
    | none =>
      rw [e] at h
      dsimp only at h
      split at h
      · rename_i q
        simp only [Bool.and_eq_true] at q
        cases h
        exact ⟨q.1, by omega⟩
      · cases h
theorem lab_keep {a : Abs} {g : List Nat} {t c n : Nat} (h : lab a g t c = some n) : lab a g (t + 1) c = some n := by
  rw [lab_succ, h]
/-- where no cell has the day t, nothing changes from then on -/
theorem lab_still {a : Abs} {g : List Nat} {t : Nat} (h : ∀ c, lab a g t c ≠ some t) : ∀ k c, lab a g (t + k) c = lab a g t c
  | 0, c => rfl
  | k + 1, c => by
    have ih := lab_still h k
    rw [← Nat.add_assoc, lab_succ, ih c]
    cases e : lab a g t c with
    | some n => rfl
    | none =>
      dsimp only
      have : ((beside a c).any fun e => lab a g (t + k) e == some (t + k)) = false := by
        rw [List.any_eq_false]
        intro e _ q
        have q' : lab a g (t + k) e = some (t + k) := by simpa using q
        rw [ih e] at q'
        have := (lab_free a g t e _ q').2
        have k0 : k = 0 := by omega
        subst k0
        exact h e q'
      rw [this]
      simp
theorem mapT_still {a : Abs} {g : List Nat} {t : Nat} (h : ∀ c, lab a g t c ≠ some t) (k : Nat) : mapT a g (t + k) = mapT a g t := by
  apply List.ext_getElem?
  intro c
  have e := lab_still h k c
  unfold lab at e
  by_cases hc : c < cells a
  · have l1 : c < (mapT a g (t + k)).length := by rw [mapT_len]; exact hc
    have l2 : c < (mapT a g t).length := by rw [mapT_len]; exact hc
    rw [List.getD_eq_getElem?_getD, List.getD_eq_getElem?_getD, List.getElem?_eq_getElem l1, List.getElem?_eq_getElem l2] at e
    rw [List.getElem?_eq_getElem l1, List.getElem?_eq_getElem l2]
    simpa using e
  · rw [List.getElem?_eq_none (by rw [mapT_len]; omega), List.getElem?_eq_none (by rw [mapT_len]; omega)]
/-! ### Beside -/
theorem nb_mem (w h c e : Nat) : e ∈ nb w h c ↔ (w ≤ c ∧ e = c - w) ∨ (0 < c % w ∧ e = c - 1) ∨ (c % w + 1 < w ∧ e = c + 1) ∨ (c + w < w * h ∧ e = c + w) := by
  unfold nb
  simp only [List.mem_append]
  have f : ∀ (p : Prop) [Decidable p] (x : Nat), (e ∈ if p then [x] else []) ↔ p ∧ e = x := by
    intro p _ x
    split <;> simp [*]
  rw [f, f, f, f]
  simp only [or_assoc]
theorem mem_ite_one {p : Prop} [Decidable p] {x e : Nat} : (e ∈ if p then [x] else []) ↔ p ∧ e = x := by
  split <;> simp [*]
theorem beside_mem (a : Abs) (c e : Nat) : e ∈ beside a c ↔ ((a.wide ≤ c ∧ e = c - a.wide) ∨ (c % a.wide ≠ 0 ∧ e = c - 1) ∨ ((c + 1) % a.wide ≠ 0 ∧ e = c + 1) ∨ e = c + a.wide) ∧ isFree a e = true := by
  unfold beside
  rw [List.mem_filter]
  simp only [List.mem_append, mem_ite_one, List.mem_singleton, or_assoc]
/-- what the program holds to be beside e has e beside it -/
theorem beside_sym {a : Abs} (o : Ok a) {c e : Nat} (hc : c < cells a) (fe : isFree a e = true) : e ∈ beside a c ↔ c ∈ nb a.wide a.high e := by
  have he := isFree_lt fe
  rw [beside_mem, nb_mem]
  simp only [fe, and_true]
  obtain ⟨w1, w5, h1, h5⟩ := o
  unfold cells at hc he
  generalize a.wide = w at *
  generalize a.high = h at *
  have cs : w = 1 ∨ w = 2 ∨ w = 3 ∨ w = 4 ∨ w = 5 := by omega
  rcases cs with rfl | rfl | rfl | rfl | rfl <;> omega
/-- the program's list of what is beside, the free ones of it, is the specification's -/
theorem beside_eq {a : Abs} (o : Ok a) {c : Nat} (hc : c < cells a) : (nb a.wide a.high c).filter (isFree a) = beside a c := by
  unfold beside nb
  simp only [List.filter_append]
  obtain ⟨w1, w5, h1, h5⟩ := o
  have e2 : (0 < c % a.wide) ↔ (c % a.wide ≠ 0) := by omega
  have e3 : (c % a.wide + 1 < a.wide) ↔ ((c + 1) % a.wide ≠ 0) := by
    generalize a.wide = w at *
    have cs : w = 1 ∨ w = 2 ∨ w = 3 ∨ w = 4 ∨ w = 5 := by omega
    rcases cs with rfl | rfl | rfl | rfl | rfl <;> omega
  have e4 : (if c + a.wide < a.wide * a.high then [c + a.wide] else []).filter (isFree a) = [c + a.wide].filter (isFree a) := by
    by_cases q : c + a.wide < a.wide * a.high
    · rw [if_pos q]
    · rw [if_neg q]
      have : isFree a (c + a.wide) = false := by
        unfold isFree cells
        simp [q]
      simp [this]
  rw [e4]
  simp only [e2, e3]
theorem nb_lt {a : Abs} {c e : Nat} (o : Ok a) (hc : c < cells a) (h : e ∈ nb a.wide a.high c) : e < cells a := by
  rw [nb_mem] at h
  obtain ⟨w1, w5, h1, h5⟩ := o
  unfold cells at *
  generalize a.wide = w at *
  generalize a.high = h at *
  have cs : w = 1 ∨ w = 2 ∨ w = 3 ∨ w = 4 ∨ w = 5 := by omega
  rcases cs with rfl | rfl | rfl | rfl | rfl <;> omega
theorem nb_len (w h c : Nat) : (nb w h c).length ≤ 4 := by
  unfold nb
  simp only [List.length_append]
  have f : ∀ (p : Prop) [Decidable p] (x : Nat), (if p then [x] else []).length ≤ 1 := by
    intro p _ x
    split <;> simp
  have := f (w ≤ c) (c - w)
  have := f (0 < c % w) (c - 1)
  have := f (c % w + 1 < w) (c + 1)
  have := f (c + w < w * h) (c + w)
  omega
end Bed
namespace Bed
open Kh363
/-! ### Paint, reached -/
theorem paint_len : ∀ (f : List Nat) (t : Int) (d : List Int), (paint f t d).length = d.length
  | [], _, _ => rfl
  | c :: f, t, d => by
    show (paint f t (d.set c t)).length = d.length
    rw [paint_len f, List.length_set]
theorem paint_get : ∀ (f : List Nat) (t : Int) (d : List Int) (c : Nat), c < d.length → (paint f t d).getD c 0 = if c ∈ f then t else d.getD c 0
  | [], _, _, _, _ => by simp [paint]
  | e :: f, t, d, c, h => by
    show (paint f t (d.set e t)).getD c 0 = _
    rw [paint_get f t _ c (by rw [List.length_set]; exact h)]
    by_cases q : c ∈ f
    · simp [q]
    · rw [if_neg q]
      by_cases e1 : c = e
      · subst e1
        simp [List.getD_eq_getElem?_getD, h]
      · rw [if_neg (by simp [e1, q])]
        have : e ≠ c := fun z => e1 z.symm
        simp [List.getD_eq_getElem?_getD, this]
theorem reachOnes_mem (bl : List Nat) (days : List Int) (o : Nat) : ∀ (l acc : List Nat), o ∈ l.foldl (reachOne bl days) acc ↔ o ∈ acc ∨ (o ∈ l ∧ days.getD o 0 = -33 ∧ o ∉ bl)
  | [], acc => by simp
  | x :: l, acc => by
    rw [List.foldl_cons, reachOnes_mem bl days o l]
    unfold reachOne
    by_cases q : days.getD x 0 = -33 ∧ x ∉ bl ∧ x ∉ acc
    · rw [if_pos q]
      simp only [List.mem_append, List.mem_cons, List.not_mem_nil, or_false]
      constructor
      · rintro ((h | rfl) | ⟨h1, h2⟩)
        · exact .inl h
        · exact .inr ⟨.inl rfl, q.1, q.2.1⟩
        · exact .inr ⟨.inr h1, h2⟩
      · rintro (h | ⟨rfl | h1, h2⟩)
        · exact .inl (.inl h)
        · exact .inl (.inr rfl)
        · exact .inr ⟨h1, h2⟩
    · rw [if_neg q]
      simp only [List.mem_cons]
      constructor
      · rintro (h | ⟨h1, h2⟩)
        · exact .inl h
        · exact .inr ⟨.inr h1, h2⟩
      · rintro (h | ⟨rfl | h1, h2⟩)
        · exact .inl h
        · by_cases z : o ∈ acc
          · exact .inl z
          · exact absurd ⟨h2.1, h2.2, z⟩ q
        · exact .inr ⟨h1, h2⟩
theorem reachOnes_nodup (bl : List Nat) (days : List Int) : ∀ (l acc : List Nat), acc.Nodup → (l.foldl (reachOne bl days) acc).Nodup
  | [], _, h => h
  | x :: l, acc, h => by
    rw [List.foldl_cons]
    apply reachOnes_nodup bl days l
    unfold reachOne
    by_cases q : days.getD x 0 = -33 ∧ x ∉ bl ∧ x ∉ acc
    · rw [if_pos q, List.nodup_append]
      refine ⟨h, by simp, ?_⟩
      intro u hu v hv
      rw [List.mem_singleton] at hv
      subst hv
      rintro rfl
      exact q.2.2 hu
    · rw [if_neg q]
      exact h
theorem reachSteps_mem (w h : Nat) (bl : List Nat) (days : List Int) (o : Nat) : ∀ (f acc : List Nat), o ∈ f.foldl (reachStep w h bl days) acc ↔ o ∈ acc ∨ ((∃ c ∈ f, o ∈ nb w h c) ∧ days.getD o 0 = -33 ∧ o ∉ bl)
  | [], acc => by simp
  | c :: f, acc => by
    rw [List.foldl_cons, reachSteps_mem w h bl days o f]
    unfold reachStep
    rw [reachOnes_mem]
    constructor
    · rintro ((h | ⟨h1, h2⟩) | ⟨⟨e, he, h1⟩, h2⟩)
      · exact .inl h
      · exact .inr ⟨⟨c, by simp, h1⟩, h2⟩
      · exact .inr ⟨⟨e, by simp [he], h1⟩, h2⟩
    · rintro (h | ⟨⟨e, he, h1⟩, h2⟩)
      · exact .inl (.inl h)
      · rcases List.mem_cons.mp he with rfl | he
        · exact .inl (.inr ⟨h1, h2⟩)
        · exact .inr ⟨⟨e, he, h1⟩, h2⟩
theorem reached_mem (w h : Nat) (bl : List Nat) (days : List Int) (f : List Nat) (o : Nat) : o ∈ reached w h bl days f ↔ (∃ c ∈ f, o ∈ nb w h c) ∧ days.getD o 0 = -33 ∧ o ∉ bl := by
  unfold reached
  rw [reachSteps_mem]
  simp
theorem reachSteps_nodup (w h : Nat) (bl : List Nat) (days : List Int) : ∀ (f acc : List Nat), acc.Nodup → (f.foldl (reachStep w h bl days) acc).Nodup
  | [], _, q => q
  | c :: f, acc, q => by
    rw [List.foldl_cons]
    exact reachSteps_nodup w h bl days f _ (reachOnes_nodup bl days _ _ q)
/-! ### The search, day by day, is the specification's map -/
/-- what the search starts from: free cells alone -/
def AllFree (a : Abs) (g : List Nat) : Prop := ∀ c ∈ g, isFree a c = true
theorem bfs_len (w h : Nat) (bl g : List Nat) : ∀ t, (bfs w h bl g t).1.length = w * h
  | 0 => by simp [bfs]
  | t + 1 => by
    show (paint _ _ _).length = _
    rw [paint_len, bfs_len w h bl g t]
structure Told (a : Abs) (g : List Nat) (bl : List Nat) (t : Nat) : Prop where
  front : ∀ c, c ∈ (bfs a.wide a.high bl g t).2 ↔ lab a g t c = some t
  days : ∀ c, c < cells a → (bfs a.wide a.high bl g (t + 1)).1.getD c 0 = enc (lab a g t c)
theorem lab_step {a : Abs} (o : Ok a) {g : List Nat} {t c : Nat} : lab a g (t + 1) c = some (t + 1) ↔ lab a g t c = none ∧ c < cells a ∧ c ∉ a.blocked ∧ ∃ e, lab a g t e = some t ∧ c ∈ nb a.wide a.high e := by
  rw [lab_succ]
  cases e : lab a g t c with
  | some n =>
    have := (lab_free a g t c n e).2
    simp
    omega
  | none =>
    dsimp only
    by_cases fc : isFree a c = true
    · have hc := isFree_iff.mp fc
      simp only [fc, Bool.true_and]
      by_cases q : ((beside a c).any fun e => lab a g t e == some t) = true
      · rw [if_pos q]
        simp only [true_and]
        rw [List.any_eq_true] at q
        obtain ⟨e, he, l⟩ := q
        have l' : lab a g t e = some t := by simpa using l
        exact ⟨fun _ => ⟨hc.1, hc.2, e, l', (beside_sym o hc.1 (lab_free a g t e _ l').1).mp he⟩, fun _ => trivial⟩
      · rw [if_neg q]
        refine Iff.intro (fun z => by cases z) (fun z => ?_)
        obtain ⟨_, _, _, e, l, he⟩ := z
        refine absurd ?_ q
        rw [List.any_eq_true]
        exact ⟨e, (beside_sym o hc.1 (lab_free a g t e _ l).1).mpr he, by simp [l]⟩
    · have fc' : isFree a c = false := by simpa using fc
      simp only [fc', Bool.false_and]
      refine ⟨fun z => by simp at z, fun ⟨_, h1, h2, _⟩ => absurd (isFree_iff.mpr ⟨h1, h2⟩) fc⟩
theorem lab_step_else {a : Abs} (o : Ok a) {g : List Nat} {t c : Nat} (h : lab a g (t + 1) c ≠ some (t + 1)) : lab a g (t + 1) c = lab a g t c := by
  rw [lab_succ] at h ⊢
  cases e : lab a g t c with
  | some n => rfl
  | none =>
    rw [e] at h
    dsimp only at h ⊢
    split at h
    · exact absurd rfl h
    · rename_i q
      rw [if_neg q]
theorem enc_never {o : Option Nat} : enc o = -33 ↔ o = none := by
  cases o with
  | none => simp [enc]
  | some n =>
    show (n : Int) = -33 ↔ _
    refine ⟨fun z => by omega, fun z => by cases z⟩
/-- the blocked cells may stand in any order -/
def SameCells (l m : List Nat) : Prop := ∀ c, c ∈ l ↔ c ∈ m
theorem told {a : Abs} (o : Ok a) {g gs bl : List Nat} (af : AllFree a g) (hb : SameCells bl a.blocked) (hg : SameCells g gs) : ∀ t,
    (∀ c, c ∈ (bfs a.wide a.high bl g t).2 ↔ lab a gs t c = some t) ∧ (∀ c, c < cells a → (bfs a.wide a.high bl g (t + 1)).1.getD c 0 = enc (lab a gs t c))
  | 0 => by
    have f : ∀ c, c ∈ (bfs a.wide a.high bl g 0).2 ↔ lab a gs 0 c = some 0 := by
      intro c
      show c ∈ g ↔ _
      rw [lab_zero]
      by_cases q : c ∈ g
      · have := af c q
        have q' := (hg c).mp q
        simp [q, q', this]
      · have q' : ¬ c ∈ gs := fun z => q ((hg c).mpr z)
        simp [q, q']
    refine ⟨f, fun c hc => ?_⟩
    show (paint _ _ _).getD c 0 = _
    rw [paint_get _ _ _ _ (by rw [bfs_len]; exact hc)]
    by_cases q : c ∈ (bfs a.wide a.high bl g 0).2
    · rw [if_pos q, (f c).mp q]
      rfl
    · rw [if_neg q]
      have e : lab a gs 0 c = none := by
        have := fun z => q ((f c).mpr z)
        rw [lab_zero] at this ⊢
        split
        · rename_i z; rw [if_pos z] at this; exact absurd rfl this
        · rfl
      rw [e]
      show (List.replicate _ _).getD c 0 = -33
      unfold cells at hc
      simp [List.getD_eq_getElem?_getD, hc]
  | t + 1 => by
    obtain ⟨f, d⟩ := told o af hb hg t
    have f' : ∀ c, c ∈ (bfs a.wide a.high bl g (t + 1)).2 ↔ lab a gs (t + 1) c = some (t + 1) := by
      intro c
      show c ∈ reached a.wide a.high bl (bfs a.wide a.high bl g (t + 1)).1 (bfs a.wide a.high bl g t).2 ↔ _
      rw [reached_mem, lab_step o]
      constructor
      · rintro ⟨⟨e, he, hn⟩, h1, h2⟩
        have le := (f e).mp he
        have hc : c < cells a := nb_lt o (isFree_lt (lab_free a gs t e _ le).1) hn
        rw [d c hc, enc_never] at h1
        exact ⟨h1, hc, fun z => h2 ((hb c).mpr z), e, le, hn⟩
      · rintro ⟨h1, hc, h2, e, le, hn⟩
        refine ⟨⟨e, (f e).mpr le, hn⟩, ?_, fun z => h2 ((hb c).mp z)⟩
        rw [d c hc, h1]
        rfl
    refine ⟨f', fun c hc => ?_⟩
    show (paint _ _ _).getD c 0 = _
    rw [paint_get _ _ _ _ (by rw [bfs_len]; exact hc)]
    by_cases q : c ∈ (bfs a.wide a.high bl g (t + 1)).2
    · rw [if_pos q, (f' c).mp q]
      rfl
    · rw [if_neg q, d c hc, lab_step_else o fun z => q ((f' c).mpr z)]
/-! ### It ends -/
theorem countP_lt {α : Type} {p q : α → Bool} : ∀ {l : List α}, (∀ x ∈ l, p x = true → q x = true) → (∃ x ∈ l, q x = true ∧ p x = false) → l.countP p < l.countP q
  | [], _, ⟨_, h, _⟩ => by cases h
  | y :: l, m, ⟨x, hx, hq, hp⟩ => by
    have mono : l.countP p ≤ l.countP q := List.countP_mono_left fun z hz => m z (by simp [hz])
    rw [List.countP_cons, List.countP_cons]
    rcases List.mem_cons.mp hx with rfl | hx
    · rw [hp, hq]
      simp
      omega
    · have ih := countP_lt (l := l) (fun z hz => m z (by simp [hz])) ⟨x, hx, hq, hp⟩
      have := m y (by simp)
      by_cases hy : p y = true
      · rw [if_pos hy, if_pos (this hy)]; omega
      · rw [if_neg hy]; omega
def cnt (a : Abs) (g : List Nat) (t : Nat) : Nat := (List.range (cells a)).countP fun c => (lab a g t c).isSome
theorem cnt_le (a : Abs) (g : List Nat) (t : Nat) : cnt a g t ≤ cells a := by
  have := List.countP_le_length (p := fun c => (lab a g t c).isSome) (l := List.range (cells a))
  simpa [cnt] using this
theorem some_before {a : Abs} (o : Ok a) {g : List Nat} : ∀ (t : Nat), (∃ c, lab a g t c = some t) → t + 1 ≤ cnt a g t
  | 0, ⟨c, h⟩ => by
    have hc := isFree_lt (lab_free a g 0 c _ h).1
    show 0 < _
    unfold cnt
    rw [List.countP_pos_iff]
    exact ⟨c, List.mem_range.mpr hc, by simp [h]⟩
  | t + 1, ⟨c, h⟩ => by
    have hc := isFree_lt (lab_free a g (t + 1) c _ h).1
    obtain ⟨h0, _, _, e, le, _⟩ := (lab_step o).mp h
    have ih := some_before o t ⟨e, le⟩
    have : cnt a g t < cnt a g (t + 1) := countP_lt (fun x _ hx => by
      obtain ⟨n, hn⟩ := Option.isSome_iff_exists.mp hx
      rw [lab_keep hn]; rfl) ⟨c, List.mem_range.mpr hc, by simp [h], by simp [h0]⟩
    omega
theorem ends {a : Abs} (o : Ok a) {g : List Nat} {t c : Nat} (h : lab a g t c = some t) : t < cells a := by
  have := some_before o t ⟨c, h⟩
  have := cnt_le a g t
  omega
/-- the days of all cells, as the program tells them -/
def daysOf (a : Abs) (g : List Nat) : List Int := (mapBy a g).map enc
theorem daysOf_len (a : Abs) (g : List Nat) : (daysOf a g).length = cells a := by
  rw [daysOf, List.length_map, mapBy_eq, mapT_len]
theorem daysOf_get {a : Abs} {g : List Nat} {c : Nat} (h : c < cells a) : (daysOf a g).getD c 0 = enc ((mapBy a g).getD c none) := by
  unfold daysOf
  have : c < (mapBy a g).length := by rw [mapBy_eq, mapT_len]; exact h
  simp [List.getD_eq_getElem?_getD, this]
theorem bfs_end {a : Abs} (o : Ok a) {g gs bl : List Nat} (af : AllFree a g) (hb : SameCells bl a.blocked) (hg : SameCells g gs) {t : Nat} (ht : t ≤ cells a) (h : (bfs a.wide a.high bl g t).2 = []) : (bfs a.wide a.high bl g t).1 = daysOf a gs := by
  obtain ⟨f, d⟩ := told o af hb hg t
  rw [h] at f
  have no : ∀ c, lab a gs t c ≠ some t := fun c z => by
    have := (f c).mpr z
    cases this
  obtain ⟨k, hk⟩ := Nat.exists_eq_add_of_le ht
  have em : mapBy a gs = mapT a gs t := by rw [mapBy_eq, hk, mapT_still no]
  have ep : (bfs a.wide a.high bl g (t + 1)).1 = (bfs a.wide a.high bl g t).1 := by
    show paint _ _ _ = _
    rw [h]
    rfl
  rw [ep] at d
  apply List.ext_getElem?
  intro c
  by_cases hc : c < cells a
  · have e := d c hc
    have l1 : c < (bfs a.wide a.high bl g t).1.length := by rw [bfs_len]; exact hc
    have l2 : c < (daysOf a gs).length := by rw [daysOf_len]; exact hc
    have e2 := daysOf_get (g := gs) hc
    rw [em] at e2
    have e3 : (bfs a.wide a.high bl g t).1.getD c 0 = (daysOf a gs).getD c 0 := e.trans e2.symm
    rw [List.getD_eq_getElem?_getD, List.getD_eq_getElem?_getD, List.getElem?_eq_getElem l1, List.getElem?_eq_getElem l2] at e3
    rw [List.getElem?_eq_getElem l1, List.getElem?_eq_getElem l2]
    exact congrArg some e3
  · rw [List.getElem?_eq_none (by rw [bfs_len]; unfold cells at hc; omega), List.getElem?_eq_none (by rw [daysOf_len]; omega)]
/-- the front: free cells, each once, at most as many as there are; while there is one the day is below the number of cells -/
theorem front_free {a : Abs} (o : Ok a) {g bl : List Nat} (af : AllFree a g) (hb : SameCells bl a.blocked) (t : Nat) {c : Nat} (h : c ∈ (bfs a.wide a.high bl g t).2) : c < cells a ∧ t < cells a := by
  have l := ((told (gs := g) o af hb (fun _ => Iff.rfl) t).1 c).mp h
  exact ⟨isFree_lt (lab_free a g t c _ l).1, ends o l⟩
theorem front_nodup (w h : Nat) (bl g : List Nat) (hn : g.Nodup) : ∀ t, (bfs w h bl g t).2.Nodup
  | 0 => hn
  | _ + 1 => reachSteps_nodup _ _ _ _ _ _ List.nodup_nil
theorem nodup_len {n : Nat} {l : List Nat} (h : l.Nodup) (b : ∀ x ∈ l, x < n) : l.length ≤ n := by
  induction n generalizing l with
  | zero =>
    cases l with
    | nil => exact Nat.le_refl _
    | cons x r => exact absurd (b x (by simp)) (by omega)
  | succ n ih =>
    have h2 : (l.erase n).Nodup := h.erase n
    have := ih h2 fun x hx => by
      have hx' := (List.Nodup.mem_erase_iff h).mp hx
      have := b x hx'.2
      have := hx'.1
      omega
    have e := List.length_erase (a := n) (l := l)
    split at e <;> omega
end Bed
namespace Bed
open Kh363
/-- what day_of_all walks: the days of the cells that are not blocked -/
def freeDays (days : List Int) (bl : List Nat) : List Int := ((List.range days.length).filter fun c => decide (c ∉ bl)).map fun c => days.getD c 0
/-- what day_of_all gives back, by what it must be: -33 if one never comes, else the greatest (0 of none) -/
def IsAll (days : List Int) (bl : List Nat) (z : Int) : Prop := (-33 ∈ freeDays days bl ∧ z = -33) ∨ (-33 ∉ freeDays days bl ∧ ((freeDays days bl = [] ∧ z = 0) ∨ (z ∈ freeDays days bl ∧ ∀ y ∈ freeDays days bl, y ≤ z)))
theorem free_eq {a : Abs} {bl : List Nat} (hb : SameCells bl a.blocked) : (List.range (cells a)).filter (fun c => decide (c ∉ bl)) = free a := by
  unfold free
  apply List.filter_congr
  intro c hc
  rw [List.mem_range] at hc
  have := hb c
  unfold isFree
  by_cases q : c ∈ bl
  · simp [q, this.mp q]
  · have q2 : ¬ c ∈ a.blocked := fun z => q (this.mpr z)
    simp [q, q2, hc]
theorem freeDays_eq {a : Abs} {bl g : List Nat} (hb : SameCells bl a.blocked) : freeDays (daysOf a g) bl = ((free a).map fun c => (mapBy a g).getD c none).map enc := by
  unfold freeDays
  rw [daysOf_len, free_eq hb, List.map_map]
  apply List.map_congr_left
  intro c hc
  have := isFree_lt (List.mem_filter.mp hc).2
  exact daysOf_get this
theorem latest_fold (l : List (Option Nat)) : ∀ (o : Option Nat), l.foldl (fun o x => match o, x with
    | some m, some n => some (max m n)
    | _, _ => none) o = (match o with
      | none => none
      | some m => if none ∈ l then none else some ((l.filterMap id).foldl max m)) := by
  induction l with
  | nil =>
    intro o
    cases o <;> simp
  | cons x r ih =>
    intro o
    rw [List.foldl_cons, ih]
    cases o with
    | none => cases x <;> rfl
    | some m =>
      cases x with
      | none => simp
      | some n => simp
theorem latest_eq (l : List (Option Nat)) : latest l = if none ∈ l then none else some ((l.filterMap id).foldl max 0) := latest_fold l (some 0)
theorem foldl_max_ge : ∀ (l : List Nat) (m : Nat), m ≤ l.foldl max m ∧ ∀ x ∈ l, x ≤ l.foldl max m
  | [], m => ⟨Nat.le_refl _, fun x h => by cases h⟩
  | y :: l, m => by
    rw [List.foldl_cons]
    have ih := foldl_max_ge l (max m y)
    refine ⟨by omega, fun x hx => ?_⟩
    rcases List.mem_cons.mp hx with rfl | hx
    · omega
    · exact ih.2 x hx
theorem foldl_max_mem : ∀ (l : List Nat) (m : Nat), l.foldl max m = m ∨ l.foldl max m ∈ l
  | [], m => .inl rfl
  | y :: l, m => by
    rw [List.foldl_cons]
    rcases foldl_max_mem l (max m y) with h | h
    · by_cases q : m ≤ y
      · right
        rw [h]
        have : max m y = y := by omega
        simp [this]
      · left
        rw [h]
        omega
    · right
      simp [h]
theorem isAll_full {a : Abs} {bl g : List Nat} (hb : SameCells bl a.blocked) {z : Int} (h : IsAll (daysOf a g) bl z) : z = enc (fullBy a g) := by
  unfold IsAll at h
  rw [freeDays_eq hb] at h
  unfold fullBy
  dsimp only
  generalize ((free a).map fun c => (mapBy a g).getD c none) = l at *
  rw [latest_eq]
  have mem : ∀ y, y ∈ l.map enc ↔ ∃ o ∈ l, enc o = y := fun y => by simp [List.mem_map]
  rcases h with ⟨h1, rfl⟩ | ⟨h1, h2⟩
  · obtain ⟨o, ho, e⟩ := (mem _).mp h1
    rw [enc_never] at e
    subst e
    rw [if_pos ho]
    rfl
  · have hn : ¬ none ∈ l := fun q => h1 ((mem _).mpr ⟨none, q, rfl⟩)
    rw [if_neg hn]
    show z = ((l.filterMap id).foldl max 0 : Nat)
    have ge := foldl_max_ge (l.filterMap id) 0
    rcases h2 with ⟨e, rfl⟩ | ⟨hz, hm⟩
    · have : l = [] := by simpa using e
      subst this
      rfl
    · obtain ⟨o, ho, rfl⟩ := (mem _).mp hz
      cases o with
      | none => exact absurd ho hn
      | some n =>
        show (n : Int) = _
        have m1 : n ∈ l.filterMap id := by simp [ho]
        have g1 := ge.2 n m1
        rcases foldl_max_mem (l.filterMap id) 0 with e | e
        · rw [e] at g1 ⊢
          omega
        · have m2 : some ((l.filterMap id).foldl max 0) ∈ l := by simpa using e
          have := hm _ ((mem _).mpr ⟨_, m2, rfl⟩)
          show (n : Int) = _
          have t : enc (some ((l.filterMap id).foldl max 0)) = (((l.filterMap id).foldl max 0 : Nat) : Int) := rfl
          rw [t] at this
          have t2 : enc (some n) = (n : Int) := rfl
          rw [t2] at this
          omega
/-! ### lists of cells by their days -/
theorem lab_none_of {a : Abs} {g : List Nat} {c : Nat} (h : isFree a c = false) : (mapBy a g).getD c none = none := by
  cases e : (mapBy a g).getD c none with
  | none => rfl
  | some n =>
    have := (lab_free a g (cells a) c n (by rw [← e]; rfl)).1
    rw [h] at this
    cases this
theorem pick_eq {a : Abs} {g : List Nat} (p : Int → Bool) (q : Option Nat → Bool) (hq : ∀ o, q o = p (enc o)) (h0 : q none = false) :
    ((List.range (daysOf a g).length).filter fun c => p ((daysOf a g).getD c 0)) = (free a).filter fun c => q ((mapBy a g).getD c none) := by
  unfold free
  rw [daysOf_len, List.filter_filter]
  apply List.filter_congr
  intro c hc
  rw [List.mem_range] at hc
  rw [daysOf_get hc, hq]
  by_cases f : isFree a c = true
  · simp [f]
  · have f' : isFree a c = false := by simpa using f
    rw [lab_none_of f', ← hq, h0]
    rfl
theorem run_eq {a : Abs} (d : Nat) : ((List.range (daysOf a a.grains).length).filter fun c => decide ((daysOf a a.grains).getD c 0 ≠ -33) && decide ((daysOf a a.grains).getD c 0 ≤ (d : Int))) = run a d := by
  refine (pick_eq (fun z => decide (z ≠ -33) && decide (z ≤ (d : Int))) (fun o => match o with
    | some n => decide (n ≤ d)
    | none => false) (fun o => ?_) rfl).trans rfl
  cases o with
  | none => rfl
  | some n =>
    have : (n : Int) ≠ -33 := by omega
    simp [enc, this]
theorem onDay_eq {a : Abs} (d : Nat) : ((List.range (daysOf a a.grains).length).filter fun c => decide ((daysOf a a.grains).getD c 0 = (d : Int))) = onDay a d := by
  refine (pick_eq (fun z => decide (z = (d : Int))) (fun o => o == some d) (fun o => ?_) rfl).trans rfl
  cases o with
  | none =>
    have : ¬ (-33 : Int) = (d : Int) := by omega
    simp [enc, this]
  | some n =>
    show (some n == some d) = decide ((n : Int) = (d : Int))
    by_cases e : n = d
    · subst e; simp
    · have : ¬ (n : Int) = (d : Int) := by omega
      rw [decide_eq_false this]
      exact beq_eq_false_iff_ne.mpr fun z => e (Option.some.inj z)
end Bed
namespace Bed
open Kh363
/-! ### by day t a cell is run through -/
def R (a : Abs) (g : List Nat) (t e : Nat) : Prop := (lab a g t e).isSome = true
theorem R_free {a : Abs} {g : List Nat} {t e : Nat} (h : R a g t e) : isFree a e = true := by
  obtain ⟨n, hn⟩ := Option.isSome_iff_exists.mp h
  exact (lab_free a g t e n hn).1
theorem R_zero {a : Abs} {g : List Nat} {e : Nat} : R a g 0 e ↔ isFree a e = true ∧ e ∈ g := by
  unfold R
  rw [lab_zero]
  by_cases q : (isFree a e && g.contains e) = true
  · rw [if_pos q]
    simp at q
    simp [q]
  · rw [if_neg q]
    simp at q
    simp
    exact q
theorem R_mono {a : Abs} {g : List Nat} {t e : Nat} (h : R a g t e) : R a g (t + 1) e := by
  obtain ⟨n, hn⟩ := Option.isSome_iff_exists.mp h
  unfold R
  rw [lab_keep hn]
  rfl
theorem R_le {a : Abs} {g : List Nat} {t e : Nat} (h : R a g t e) : ∀ k, R a g (t + k) e
  | 0 => h
  | k + 1 => R_mono (R_le h k)
/-- a day is the day on which it came -/
theorem lab_at {a : Abs} {g : List Nat} : ∀ {t e n : Nat}, lab a g t e = some n → lab a g n e = some n ∧ ∀ k, k < n → lab a g k e = none
  | 0, e, n, h => by
    have := (lab_free a g 0 e n h).2
    have : n = 0 := by omega
    subst this
    exact ⟨h, fun k hk => by omega⟩
  | t + 1, e, n, h => by
    have hs := lab_succ a g t e
    cases q : lab a g t e with
    | some m =>
      rw [q] at hs
      have hs : lab a g (t + 1) e = some m := hs
      rw [hs] at h
      cases h
      exact lab_at q
    | none =>
      rw [q] at hs
      dsimp only at hs
      rw [hs] at h
      split at h
      · cases h
        refine ⟨by rw [hs, if_pos (by assumption)], fun k hk => ?_⟩
        cases z : lab a g k e with
        | none => rfl
        | some m =>
          have zr : R a g k e := by unfold R; rw [z]; rfl
          have := R_le zr (t - k)
          rw [show k + (t - k) = t by omega] at this
          unfold R at this
          rw [q] at this
          cases this
      · cases h
theorem R_succ {a : Abs} {g : List Nat} {t e : Nat} : R a g (t + 1) e ↔ R a g t e ∨ (isFree a e = true ∧ ∃ f ∈ beside a e, R a g t f) := by
  constructor
  · intro h
    by_cases q : R a g t e
    · exact .inl q
    · have qn : lab a g t e = none := by
        cases z : lab a g t e with
        | none => rfl
        | some m => exact absurd (by unfold R; rw [z]; rfl) q
      unfold R at h
      rw [lab_succ, qn] at h
      dsimp only at h
      split at h
      · rename_i c
        simp only [Bool.and_eq_true, List.any_eq_true] at c
        obtain ⟨fe, f, hf, hl⟩ := c
        refine .inr ⟨fe, f, hf, ?_⟩
        have : lab a g t f = some t := by simpa using hl
        unfold R
        rw [this]
        rfl
      · cases h
  · rintro (h | ⟨fe, f, hf, hr⟩)
    · exact R_mono h
    · obtain ⟨n, hn⟩ := Option.isSome_iff_exists.mp hr
      have hat := (lab_at hn).1
      have nt := (lab_free a g t f n hn).2
      -- by day n + 1 it is reached
      have key : R a g (n + 1) e := by
        unfold R
        rw [lab_succ]
        cases z : lab a g n e with
        | some m => rfl
        | none =>
          dsimp only
          rw [if_pos]
          · rfl
          · simp only [fe, Bool.true_and, List.any_eq_true]
            exact ⟨f, hf, by simp [hat]⟩
      have := R_le key (t - n)
      rw [show n + 1 + (t - n) = t + 1 by omega] at this
      exact this
/-- from several grains: from one of them -/
theorem R_any {a : Abs} {g : List Nat} : ∀ {t e : Nat}, R a g t e ↔ ∃ c ∈ g, R a [c] t e
  | 0, e => by
    rw [R_zero]
    constructor
    · rintro ⟨h1, h2⟩
      exact ⟨e, h2, R_zero.mpr ⟨h1, by simp⟩⟩
    · rintro ⟨c, hc, hr⟩
      have := R_zero.mp hr
      have e1 : e = c := by simpa using this.2
      exact ⟨this.1, by rw [e1]; exact hc⟩
  | t + 1, e => by
    rw [R_succ]
    constructor
    · rintro (h | ⟨fe, f, hf, hr⟩)
      · obtain ⟨c, hc, h⟩ := R_any.mp h
        exact ⟨c, hc, R_mono h⟩
      · obtain ⟨c, hc, h⟩ := R_any.mp hr
        exact ⟨c, hc, R_succ.mpr (.inr ⟨fe, f, hf, h⟩)⟩
    · rintro ⟨c, hc, h⟩
      rcases R_succ.mp h with h | ⟨fe, f, hf, hr⟩
      · exact .inl (R_any.mpr ⟨c, hc, h⟩)
      · exact .inr ⟨fe, f, hf, R_any.mpr ⟨c, hc, hr⟩⟩
/-- what has not come by day n (n cells) never comes -/
theorem R_end {a : Abs} (o : Ok a) {g : List Nat} {e k : Nat} : R a g (cells a + k) e ↔ R a g (cells a) e := by
  unfold R
  rw [lab_still (fun c z => ?_) k e]
  have := ends o z
  omega
/-- its day is no later than d, just if by day d it is run through -/
theorem day_le {a : Abs} (o : Ok a) {g : List Nat} {e d : Nat} : (∃ n, (mapBy a g).getD e none = some n ∧ n ≤ d) ↔ R a g d e := by
  have em : (mapBy a g).getD e none = lab a g (cells a) e := rfl
  rw [em]
  constructor
  · rintro ⟨n, hn, hd⟩
    have := (lab_at hn).1
    have r : R a g n e := by unfold R; rw [this]; rfl
    have := R_le r (d - n)
    rw [show n + (d - n) = d by omega] at this
    exact this
  · intro h
    obtain ⟨n, hn⟩ := Option.isSome_iff_exists.mp h
    have nd := (lab_free a g d e n hn).2
    have hat := lab_at hn
    by_cases q : d ≤ cells a
    · have := R_le h (cells a - d)
      rw [show d + (cells a - d) = cells a by omega] at this
      obtain ⟨m, hm⟩ := Option.isSome_iff_exists.mp this
      have hm2 := lab_at hm
      refine ⟨m, hm, ?_⟩
      -- m = n
      rcases Nat.lt_trichotomy m n with z | z | z
      · have := hat.2 m z
        rw [hm2.1] at this
        cases this
      · omega
      · have := hm2.2 n z
        rw [hat.1] at this
        cases this
    · have e2 : R a g (cells a) e := by
        have : R a g (cells a + (d - cells a)) e := by rw [show cells a + (d - cells a) = d by omega]; exact h
        exact (R_end o).mp this
      obtain ⟨m, hm⟩ := Option.isSome_iff_exists.mp e2
      have := (lab_free a g (cells a) e m hm).2
      exact ⟨m, hm, by omega⟩
theorem some_iff {a : Abs} {g : List Nat} {e : Nat} : ((mapBy a g).getD e none).isSome = true ↔ R a g (cells a) e := Iff.rfl
/-- all is run through by day d -/
theorem full_le {a : Abs} (o : Ok a) {g : List Nat} {d : Nat} : (∃ n, fullBy a g = some n ∧ n ≤ d) ↔ ∀ e ∈ free a, R a g d e := by
  unfold fullBy
  dsimp only
  rw [latest_eq]
  constructor
  · rintro ⟨n, hn, hd⟩ e he
    split at hn
    · cases hn
    · rename_i q
      cases hn
      refine (day_le o).mp ?_
      cases z : (mapBy a g).getD e none with
      | none =>
        exact absurd (List.mem_map.mpr ⟨e, he, z⟩) q
      | some m =>
        refine ⟨m, rfl, ?_⟩
        have := (foldl_max_ge (((free a).map fun c => (mapBy a g).getD c none).filterMap id) 0).2 m (by
          rw [List.mem_filterMap]
          exact ⟨some m, List.mem_map.mpr ⟨e, he, z⟩, rfl⟩)
        omega
  · intro h
    have q : ¬ none ∈ ((free a).map fun c => (mapBy a g).getD c none) := fun z => by
      obtain ⟨e, he, z⟩ := List.mem_map.mp z
      obtain ⟨n, hn, _⟩ := (day_le o).mpr (h e he)
      rw [hn] at z
      cases z
    rw [if_neg q]
    refine ⟨_, rfl, ?_⟩
    rcases foldl_max_mem (((free a).map fun c => (mapBy a g).getD c none).filterMap id) 0 with z | z
    · rw [z]; omega
    · obtain ⟨o', ho, z⟩ := List.mem_filterMap.mp z
      obtain ⟨e, he, z2⟩ := List.mem_map.mp ho
      obtain ⟨n, hn, hd⟩ := (day_le o).mpr (h e he)
      rw [hn] at z2
      subst z2
      cases z
      exact hd
/-- the days hang on which cells the grains are in, not on their order -/
theorem R_same {a : Abs} {g g' : List Nat} (h : SameCells g g') {t e : Nat} : R a g t e ↔ R a g' t e := by
  rw [R_any, R_any]
  constructor
  · rintro ⟨c, hc, r⟩
    exact ⟨c, (h c).mp hc, r⟩
  · rintro ⟨c, hc, r⟩
    exact ⟨c, (h c).mpr hc, r⟩
theorem lab_same {a : Abs} {g g' : List Nat} (h : SameCells g g') (t e : Nat) : lab a g t e = lab a g' t e := by
  have key : ∀ (g g' : List Nat), SameCells g g' → ∀ n, lab a g t e = some n → lab a g' t e = some n := by
    intro g g' h n hn
    have hr : R a g' t e := (R_same h).mp (by unfold R; rw [hn]; rfl)
    obtain ⟨m, hm⟩ := Option.isSome_iff_exists.mp hr
    have h1 := lab_at hn
    have h2 := lab_at hm
    rcases Nat.lt_trichotomy m n with z | z | z
    · have q : R a g m e := (R_same h).mpr (by unfold R; rw [h2.1]; rfl)
      unfold R at q
      rw [h1.2 m z] at q
      cases q
    · rw [hm, z]
    · have q : R a g' n e := (R_same h).mp (by unfold R; rw [h1.1]; rfl)
      unfold R at q
      rw [h2.2 n z] at q
      cases q
  cases e1 : lab a g t e with
  | some n => exact (key g g' h n e1).symm
  | none =>
    cases e2 : lab a g' t e with
    | none => rfl
    | some n =>
      have := key g' g (fun c => (h c).symm) n e2
      rw [e1] at this
      cases this
/-! ### areas -/
theorem R_head {a : Abs} {c f : Nat} (hc : isFree a c = true) (hf : f ∈ beside a c) (o : Ok a) : ∀ {t e : Nat}, R a [f] t e → R a [c] (t + 1) e
  | 0, e, h => by
    obtain ⟨h1, h2⟩ := R_zero.mp h
    have e1 : e = f := by simpa using h2
    subst e1
    refine R_succ.mpr (.inr ⟨h1, c, ?_, R_zero.mpr ⟨hc, by simp⟩⟩)
    -- beside is symmetric
    have hb := (beside_sym o (isFree_lt hc) h1).mp hf
    have := (beside_sym o (isFree_lt h1) hc).mpr
    refine this ?_
    rw [nb_mem] at hb ⊢
    have hcl := isFree_lt hc
    have hel := isFree_lt h1
    obtain ⟨w1, w5, h1', h5⟩ := o
    unfold cells at hcl hel
    generalize a.wide = w at *
    generalize a.high = hh at *
    have cs : w = 1 ∨ w = 2 ∨ w = 3 ∨ w = 4 ∨ w = 5 := by omega
    rcases cs with rfl | rfl | rfl | rfl | rfl <;> omega
  | t + 1, e, h => by
    rcases R_succ.mp h with h | ⟨fe, x, hx, hr⟩
    · exact R_mono (R_head hc hf o h)
    · exact R_succ.mpr (.inr ⟨fe, x, hx, R_head hc hf o hr⟩)
theorem R_sym {a : Abs} (o : Ok a) : ∀ {t c e : Nat}, R a [c] t e → R a [e] t c
  | 0, c, e, h => by
    obtain ⟨h1, h2⟩ := R_zero.mp h
    have e1 : e = c := by simpa using h2
    subst e1
    exact h
  | t + 1, c, e, h => by
    rcases R_succ.mp h with h | ⟨fe, x, hx, hr⟩
    · exact R_mono (R_sym o h)
    · exact R_head fe hx o (R_sym o hr)
theorem R_trans {a : Abs} {c e : Nat} {t : Nat} (h : R a [c] t e) : ∀ {s x : Nat}, R a [e] s x → R a [c] (t + s) x
  | 0, x, q => by
    obtain ⟨h1, h2⟩ := R_zero.mp q
    have e1 : x = e := by simpa using h2
    subst e1
    exact h
  | s + 1, x, q => by
    rcases R_succ.mp q with q | ⟨fe, y, hy, hr⟩
    · exact R_mono (R_trans h q)
    · exact R_succ.mpr (.inr ⟨fe, y, hy, R_trans h hr⟩)
/-- one comes from c to e by free cells -/
def Conn (a : Abs) (c e : Nat) : Prop := R a [c] (cells a) e
theorem Conn.of {a : Abs} (o : Ok a) {c e t : Nat} (h : R a [c] t e) : Conn a c e := by
  by_cases q : t ≤ cells a
  · have := R_le h (cells a - t)
    rw [show t + (cells a - t) = cells a by omega] at this
    exact this
  · refine (R_end o (k := t - cells a)).mp ?_
    rw [show cells a + (t - cells a) = t by omega]
    exact h
theorem Conn.symm {a : Abs} (o : Ok a) {c e : Nat} (h : Conn a c e) : Conn a e c := R_sym o h
theorem Conn.trans {a : Abs} (o : Ok a) {c e x : Nat} (h : Conn a c e) (q : Conn a e x) : Conn a c x := Conn.of o (R_trans h q)
theorem Conn.refl {a : Abs} {c : Nat} (h : isFree a c = true) : Conn a c c := by
  have := R_le (R_zero.mpr ⟨h, List.mem_singleton.mpr rfl⟩) (cells a)
  rw [Nat.zero_add] at this
  exact this
theorem conn_iff {a : Abs} {c e : Nat} : ((mapBy a [c]).getD e none).isSome = true ↔ Conn a c e := Iff.rfl
end Bed
namespace Bed
open Kh363
/-! ### sorted -/
theorem sorted_unique : ∀ {l m : List Nat}, l.Perm m → l.Pairwise (· ≤ ·) → m.Pairwise (· ≤ ·) → l = m
  | [], m, p, _, _ => (List.nil_perm.mp p).symm
  | x :: l, [], p, _, _ => by
    have := p.length_eq
    cases this
  | x :: l, y :: m, p, h1, h2 => by
    obtain ⟨a1, b1⟩ := List.pairwise_cons.mp h1
    obtain ⟨a2, b2⟩ := List.pairwise_cons.mp h2
    have hx : x ∈ y :: m := p.mem_iff.mp (by simp)
    have hy : y ∈ x :: l := p.mem_iff.mpr (by simp)
    have e : x = y := by
      rcases List.mem_cons.mp hx with z | z
      · exact z
      · rcases List.mem_cons.mp hy with z2 | z2
        · exact z2.symm
        · have := a2 x z
          have := a1 y z2
          omega
    subst e
    rw [sorted_unique (List.Perm.cons_inv p) b1 b2]
theorem sorted_is {l m : List Nat} (p : m.Perm l) (h : m.Pairwise (· ≤ ·)) : m = sorted l := by
  unfold sorted
  have p2 := List.mergeSort_perm l (fun x y => decide (x ≤ y))
  have h2 : (l.mergeSort fun x y => decide (x ≤ y)).Pairwise (fun a b => decide (a ≤ b) = true) := by
    apply List.pairwise_mergeSort
    · intro a b c hab hbc
      simp at hab hbc ⊢
      omega
    · intro a b
      simp
      omega
  exact sorted_unique (p.trans p2.symm) h (h2.imp fun z => by simpa using z)
/-! ### map -/
def told1 (o : Option Nat) : Nat := match o with
  | none => 0
  | some d => d + 1
theorem told1_enc (o : Option Nat) : ((told1 o : Nat) : Int) = if enc o = -33 then 0 else enc o + 1 := by
  cases o with
  | none => rfl
  | some n =>
    have : ¬ enc (some n) = -33 := fun z => by
      rw [enc_never] at z
      cases z
    rw [if_neg this]
    show (((n + 1 : Nat)) : Int) = (n : Int) + 1
    omega
/-! ### fewest -/
theorem sets_sub : ∀ (k : Nat) (l : List Nat) (s : List Nat), s ∈ sets k l → ∀ c ∈ s, c ∈ l
  | 0, l, s, h, c, hc => by
    have : s = [] := by simpa [sets] using h
    rw [this] at hc
    cases hc
  | k + 1, [], s, h, c, hc => by
    simp [sets] at h
  | k + 1, x :: l, s, h, c, hc => by
    rw [sets, List.mem_append, List.mem_map] at h
    rcases h with ⟨s', hs, rfl⟩ | h
    · rcases List.mem_cons.mp hc with rfl | hc
      · simp
      · simp [sets_sub k l s' hs c hc]
    · simp [sets_sub (k + 1) l s h c hc]
theorem free_mem {a : Abs} {c : Nat} : c ∈ free a ↔ isFree a c = true := by
  unfold free
  rw [List.mem_filter, List.mem_range]
  exact ⟨fun h => h.2, fun h => ⟨isFree_lt h, h⟩⟩
/-- by day d, from these grains alone -/
def byDay (a : Abs) (s : List Nat) (d : Nat) : Bool := match fullBy a s with
  | some n => decide (n ≤ d)
  | none => false
theorem byDay_iff {a : Abs} (o : Ok a) {s : List Nat} {d : Nat} : byDay a s d = true ↔ ∀ e ∈ free a, R a s d e := by
  rw [← full_le o]
  unfold byDay
  cases fullBy a s with
  | none => simp
  | some n => simp
theorem find_congr {α : Type} {p q : α → Bool} : ∀ {l : List α}, (∀ x ∈ l, p x = q x) → l.find? p = l.find? q
  | [], _ => rfl
  | x :: l, h => by
    rw [List.find?_cons, List.find?_cons, h x (by simp), find_congr fun y hy => h y (by simp [hy])]
theorem fewest_eq {a : Abs} (o : Ok a) (d : Nat) : fewest a d = (((List.range 4).flatMap fun k => sets k (free a))).find? fun s => byDay a s d := by
  unfold fewest
  dsimp only
  apply find_congr
  intro s hs
  obtain ⟨k, _, hs⟩ := List.mem_flatMap.mp hs
  have sub := sets_sub k _ s hs
  rw [Bool.eq_iff_iff, byDay_iff o, List.all_eq_true]
  have one : ∀ c ∈ s, ∀ e, (match (((List.range (cells a)).map fun c => mapBy a [c]).getD c []).getD e none with
      | some n => decide (n ≤ d)
      | none => false) = true ↔ R a [c] d e := by
    intro c hc e
    have hl : c < cells a := isFree_lt (free_mem.mp (sub c hc))
    have e1 : ((List.range (cells a)).map fun c => mapBy a [c]).getD c [] = mapBy a [c] := by
      simp [List.getD_eq_getElem?_getD, hl]
    rw [e1, ← day_le o]
    cases (mapBy a [c]).getD e none with
    | none => simp
    | some n => simp
  constructor
  · intro h e he
    have := h e he
    rw [List.any_eq_true] at this
    obtain ⟨c, hc, hr⟩ := this
    exact R_any.mpr ⟨c, hc, (one c hc e).mp hr⟩
  · intro h e he
    obtain ⟨c, hc, hr⟩ := R_any.mp (h e he)
    rw [List.any_eq_true]
    exact ⟨c, hc, (one c hc e).mpr hr⟩
/-! ### the way -/
theorem back_one {a : Abs} {g : List Nat} {c d : Nat} (h : (mapBy a g).getD c none = some (d + 1)) : ∃ e, (beside a c).find? (fun e => (mapBy a g).getD e none == some d) = some e ∧ (mapBy a g).getD e none = some d := by
  have hl : lab a g (cells a) c = some (d + 1) := h
  have h1 := (lab_at hl).1
  have h0 := (lab_at hl).2 d (by omega)
  have le := (lab_free a g _ _ _ hl).2
  rw [lab_succ, h0] at h1
  dsimp only at h1
  split at h1
  · rename_i q
    simp only [Bool.and_eq_true, List.any_eq_true] at q
    obtain ⟨_, f, hf, hd⟩ := q
    have hd : lab a g d f = some d := by simpa using hd
    have hk : ∀ k, lab a g (d + k) f = some d := fun k => by
      induction k with
      | zero => exact hd
      | succ k ih => exact lab_keep ih
    have hf2 : (mapBy a g).getD f none = some d := by
      have := hk (cells a - d)
      rw [show d + (cells a - d) = cells a by omega] at this
      exact this
    cases z : (beside a c).find? (fun e => (mapBy a g).getD e none == some d) with
    | none =>
      have := List.find?_eq_none.mp z f hf
      rw [hf2] at this
      simp at this
    | some e =>
      have := List.find?_some z
      exact ⟨e, rfl, by simpa using this⟩
  · cases h1
theorem wayBack_zero (a : Abs) (m : List (Option Nat)) (c : Nat) : wayBack a m 0 c = [c] := rfl
theorem wayBack_succ {a : Abs} {m : List (Option Nat)} {d c e : Nat} (h : (beside a c).find? (fun e => m.getD e none == some d) = some e) : wayBack a m (d + 1) c = c :: wayBack a m d e := by
  show (match (beside a c).find? fun e => m.getD e none == some d with
    | none => [c]
    | some e => c :: wayBack a m d e) = _
  rw [h]
/-! ### areas -/
theorem areas_mem {a : Abs} {c : Nat} : c ∈ areas a ↔ isFree a c = true ∧ ∀ e, e < c → ¬ Conn a c e := by
  unfold areas
  rw [List.mem_filter, free_mem]
  dsimp only
  rw [List.all_eq_true]
  constructor
  · rintro ⟨h1, h2⟩
    refine ⟨h1, fun e he hc => ?_⟩
    have := h2 e (List.mem_range.mpr he)
    have hc : ((mapBy a [c]).getD e none).isSome = true := hc
    have z : (mapBy a [c]).getD e none = none := by simpa using this
    rw [z] at hc
    cases hc
  · rintro ⟨h1, h2⟩
    refine ⟨h1, fun e he => ?_⟩
    have := h2 e (List.mem_range.mp he)
    cases z : (mapBy a [c]).getD e none with
    | none => rfl
    | some n => exact absurd (show Conn a c e by unfold Conn R; show ((mapBy a [c]).getD e none).isSome = true; rw [z]; rfl) this
end Bed
namespace Bed
open Kh363
/-! ### what the reached cells are, from any grains -/
def byD (d : Nat) (o : Option Nat) : Bool := match o with
  | some n => decide (n ≤ d)
  | none => false
/-- the cells that are run through by day d -/
def reachBy (a : Abs) (g : List Nat) (d : Nat) : List Nat := (List.range (cells a)).filter fun c => byD d ((mapBy a g).getD c none)
theorem byD_enc (d : Nat) (o : Option Nat) : byD d o = (decide (enc o ≠ -33) && decide (enc o ≤ (d : Int))) := by
  cases o with
  | none => rfl
  | some n =>
    have h1 : enc (some n) = (n : Int) := rfl
    rw [h1]
    have h2 : decide ((n : Int) ≠ -33) = true := decide_eq_true (by omega)
    rw [h2, Bool.true_and]
    show decide (n ≤ d) = _
    by_cases q : n ≤ d
    · rw [decide_eq_true q, decide_eq_true (by omega)]
    · rw [decide_eq_false q, decide_eq_false (by omega)]
theorem reachBy_days {a : Abs} {g : List Nat} (d : Nat) : ((List.range (daysOf a g).length).filter fun c => decide ((daysOf a g).getD c 0 ≠ -33) && decide ((daysOf a g).getD c 0 ≤ (d : Int))) = reachBy a g d := by
  rw [daysOf_len]
  unfold reachBy
  apply List.filter_congr
  intro c hc
  rw [daysOf_get (List.mem_range.mp hc), byD_enc]
theorem run_reach {a : Abs} (d : Nat) : run a d = reachBy a a.grains d := by
  rw [← run_eq, reachBy_days]
theorem reachBy_mem {a : Abs} (o : Ok a) {g : List Nat} {d e : Nat} : e ∈ reachBy a g d ↔ R a g d e := by
  unfold reachBy
  rw [List.mem_filter, List.mem_range, ← day_le o]
  constructor
  · rintro ⟨_, h⟩
    cases z : (mapBy a g).getD e none with
    | none => rw [z] at h; cases h
    | some n => rw [z] at h; exact ⟨n, rfl, of_decide_eq_true h⟩
  · rintro ⟨n, hn, hd⟩
    have hr : R a g (cells a) e := by
      show ((mapBy a g).getD e none).isSome = true
      rw [hn]; rfl
    refine ⟨isFree_lt (R_free hr), ?_⟩
    rw [hn]
    exact decide_eq_true hd
theorem reachBy_len {a : Abs} {g : List Nat} {d : Nat} : (reachBy a g d).length ≤ cells a := by
  have := List.length_filter_le (fun c => byD d ((mapBy a g).getD c none)) (List.range (cells a))
  simpa [reachBy] using this
/-! ### areas -/
theorem filter_len_getD {l : List (Option Nat)} {p : Option Nat → Bool} : (l.filter p).length = ((List.range l.length).filter fun c => p (l.getD c none)).length := by
  induction l with
  | nil => rfl
  | cons x r ih =>
    rw [List.length_cons, List.range_succ_eq_map, List.filter_cons, List.filter_cons, List.filter_map, List.getD_cons_zero]
    have e : ((fun c => p ((x :: r).getD c none)) ∘ Nat.succ) = fun c => p (r.getD c none) := rfl
    rw [e]
    by_cases q : p x = true
    · rw [if_pos q, if_pos q, List.length_cons, List.length_cons, List.length_map, ih]
    · rw [if_neg q, if_neg q, List.length_map, ih]
theorem sizeOf_reach {a : Abs} {c : Nat} : Kh363.sizeOf a c = (reachBy a [c] (cells a)).length := by
  unfold Kh363.sizeOf reachBy
  rw [filter_len_getD]
  have : (mapBy a [c]).length = cells a := by rw [mapBy_eq, mapT_len]
  rw [this]
  congr 1
  apply List.filter_congr
  intro e _
  cases z : (mapBy a [c]).getD e none with
  | none => rfl
  | some n =>
    have : n ≤ cells a := (lab_free a [c] (cells a) e n z).2
    show true = decide (n ≤ cells a)
    rw [decide_eq_true this]
def leastOf (a : Abs) (c : Nat) : Bool := (List.range c).all fun e => (mapBy a [c]).getD e none == none
theorem areas_filter (a : Abs) : areas a = (free a).filter (leastOf a) := rfl
theorem least_iff {a : Abs} {c : Nat} (hc : isFree a c = true) : leastOf a c = true ↔ ∀ e, e < c → ¬ Conn a c e := by
  have := areas_mem (a := a) (c := c)
  rw [areas_filter, List.mem_filter, free_mem] at this
  constructor
  · intro h
    exact (this.mp ⟨hc, h⟩).2
  · intro h
    exact (this.mpr ⟨hc, h⟩).2
theorem range_filter_sorted (p : Nat → Bool) (n : Nat) : ((List.range n).filter p).Pairwise (· < ·) := List.Pairwise.filter _ List.pairwise_lt_range
theorem free_sorted (a : Abs) : (free a).Pairwise (· < ·) := range_filter_sorted _ _
theorem sorted_take {l : List Nat} (h : l.Pairwise (· < ·)) {i c : Nat} (hc : l[i]? = some c) (e : Nat) : e ∈ l.take i ↔ e ∈ l ∧ e < c := by
  obtain ⟨hi, rfl⟩ := List.getElem?_eq_some_iff.mp hc
  have hp := List.pairwise_iff_getElem.mp h
  constructor
  · intro he
    obtain ⟨j, hj, rfl⟩ := List.mem_take_iff_getElem.mp he
    exact ⟨List.getElem_mem _, hp _ _ _ _ (by omega)⟩
  · rintro ⟨he, hl⟩
    obtain ⟨j, hj, rfl⟩ := List.mem_iff_getElem.mp he
    refine List.mem_take_iff_getElem.mpr ⟨j, ?_, rfl⟩
    rcases Nat.lt_trichotomy i j with z | z | z
    · have := hp i j hi hj z
      omega
    · subst z
      omega
    · omega
/-- the cell is known just if its area was met -/
theorem known_iff {a : Abs} (o : Ok a) {i c : Nat} (hc : (free a)[i]? = some c) {known : List Nat} (hk : ∀ e, e ∈ known ↔ ∃ f ∈ (free a).take i, Conn a f e) : c ∉ known ↔ leastOf a c = true := by
  have hf : isFree a c = true := free_mem.mp (List.mem_of_getElem? hc)
  rw [least_iff hf, hk]
  constructor
  · intro h e he hcn
    refine h ⟨e, (sorted_take (free_sorted a) hc e).mpr ⟨free_mem.mpr (R_free hcn), he⟩, hcn.symm o⟩
  · rintro h ⟨f, hf', hcn⟩
    exact h f ((sorted_take (free_sorted a) hc f).mp hf').2 (hcn.symm o)
/-- ahead of a turn: the areas met -/
theorem known_next {a : Abs} (o : Ok a) {i c : Nat} (hc : (free a)[i]? = some c) {known : List Nat} (hk : ∀ e, e ∈ known ↔ ∃ f ∈ (free a).take i, Conn a f e) :
    (∀ e, e ∈ known ++ reachBy a [c] (cells a) ↔ ∃ f ∈ (free a).take (i + 1), Conn a f e) ∧ (c ∈ known → ∀ e, e ∈ known ↔ ∃ f ∈ (free a).take (i + 1), Conn a f e) := by
  have e1 : (free a).take (i + 1) = (free a).take i ++ [c] := by
    rw [List.take_add_one, hc]; rfl
  constructor
  · intro e
    rw [List.mem_append, hk, reachBy_mem o, e1]
    constructor
    · rintro (⟨f, hf, h⟩ | h)
      · exact ⟨f, by simp [hf], h⟩
      · exact ⟨c, by simp, h⟩
    · rintro ⟨f, hf, h⟩
      rcases List.mem_append.mp hf with hf | hf
      · exact .inl ⟨f, hf, h⟩
      · have : f = c := by simpa using hf
        subst this
        exact .inr h
  · intro hin e
    rw [hk, e1]
    constructor
    · rintro ⟨f, hf, h⟩
      exact ⟨f, by simp [hf], h⟩
    · rintro ⟨f, hf, h⟩
      rcases List.mem_append.mp hf with hf | hf
      · exact ⟨f, hf, h⟩
      · have : f = c := by simpa using hf
        subst this
        obtain ⟨f', hf', h'⟩ := (hk f).mp hin
        exact ⟨f', hf', h'.trans o h⟩
/-! ### sets of cells, one more each time -/
def later (s : List Nat) (c : Nat) : Bool := match s.getLast? with
  | none => true
  | some x => decide (x < c)
theorem flatMap_same {α β : Type} {f g : α → List β} : ∀ {l : List α}, (∀ x ∈ l, f x = g x) → l.flatMap f = l.flatMap g
  | [], _ => rfl
  | x :: l, h => by
    rw [List.flatMap_cons, List.flatMap_cons, h x (by simp), flatMap_same fun y hy => h y (by simp [hy])]
def wider1 (cs : List Nat) (s : List Nat) : List (List Nat) := (cs.filter (later s)).map fun c => s ++ [c]
def wider (ch : List (List Nat)) (cs : List Nat) : List (List Nat) := ch.flatMap (wider1 cs)
theorem sets_one : ∀ l : List Nat, sets 1 l = l.map fun c => [c]
  | [] => rfl
  | x :: l => by
    rw [sets, sets_one l]
    simp [sets]
theorem sets_ne : ∀ (k : Nat) (l : List Nat) (s : List Nat), s ∈ sets (k + 1) l → s ≠ []
  | k, [], s, h => by simp [sets] at h
  | k, x :: l, s, h => by
    rw [sets, List.mem_append, List.mem_map] at h
    rcases h with ⟨s', _, rfl⟩ | h
    · simp
    · exact sets_ne k l s h
theorem later_cons {x : Nat} {s : List Nat} {c : Nat} (hs : s ≠ []) : later (x :: s) c = later s c := by
  unfold later
  cases s with
  | nil => exact absurd rfl hs
  | cons y r => rw [List.getLast?_cons_cons]
theorem wider_sets : ∀ (l : List Nat) (k : Nat), l.Pairwise (· < ·) → wider (sets k l) l = sets (k + 1) l
  | l, 0, _ => by
    rw [sets_one]
    have e : l.filter (later []) = l := List.filter_eq_self.mpr fun _ _ => rfl
    have e0 : sets 0 l = [[]] := by simp [sets]
    rw [e0]
    unfold wider
    rw [List.flatMap_singleton, wider1, e]
    rfl
  | [], k + 1, _ => by
    simp [sets, wider]
  | x :: l, k + 1, h => by
    obtain ⟨hx, hl⟩ := List.pairwise_cons.mp h
    have i1 := wider_sets l k hl
    have i2 := wider_sets l (k + 1) hl
    rw [sets, sets]
    unfold wider at i1 i2 ⊢
    rw [List.flatMap_append, List.flatMap_map]
    congr 1
    · rw [← i1, List.map_flatMap]
      apply flatMap_same
      intro s hs
      have sub := sets_sub k l s hs
      unfold wider1
      rw [List.map_map]
      have e : ((x :: l).filter (later (x :: s))) = l.filter (later s) := by
        cases s with
        | nil =>
          have h1 : later [x] x = false := by simp [later]
          rw [List.filter_cons_of_neg (by simp [h1])]
          apply List.filter_congr
          intro c hc
          have := hx c hc
          simp [later, this]
        | cons y r =>
          have hlast : x < (y :: r).getLast (by simp) := hx _ (sub _ (List.getLast_mem _))
          have h1 : later (x :: y :: r) x = false := by
            rw [later_cons (by simp)]
            unfold later
            rw [List.getLast?_eq_some_getLast (by simp)]
            exact decide_eq_false (by omega)
          rw [List.filter_cons_of_neg (by simp [h1])]
          apply List.filter_congr
          intro c _
          exact later_cons (by simp)
      rw [e]
      rfl
    · rw [← i2]
      apply flatMap_same
      intro s hs
      have sub := sets_sub (k + 1) l s hs
      have ne := sets_ne k l s hs
      unfold wider1
      have h1 : later s x = false := by
        unfold later
        rw [List.getLast?_eq_some_getLast ne]
        have := hx _ (sub _ (List.getLast_mem ne))
        exact decide_eq_false (by omega)
      rw [List.filter_cons_of_neg (by simp [h1])]
theorem flatMap_range_four {α : Type} (f : Nat → List α) : (List.range 4).flatMap f = f 0 ++ (f 1 ++ (f 2 ++ f 3)) := by
  simp [List.range, List.range.loop]
theorem sets_nodup : ∀ (k : Nat) (l : List Nat), l.Nodup → ∀ s ∈ sets k l, s.length = k
  | 0, l, _, s, h => by
    have : s = [] := by simpa [sets] using h
    rw [this]; rfl
  | k + 1, [], _, s, h => by simp [sets] at h
  | k + 1, x :: l, n, s, h => by
    obtain ⟨_, hl⟩ := List.nodup_cons.mp n
    rw [sets, List.mem_append, List.mem_map] at h
    rcases h with ⟨s', hs, rfl⟩ | h
    · rw [List.length_cons, sets_nodup k l hl s' hs]
    · exact sets_nodup (k + 1) l hl s h
/-! ### cells as bits -/
def bits (l : List Nat) : Nat := (l.map fun c => 2 ^ c).sum
theorem bits_range (p : Nat → Bool) : ∀ n, bits ((List.range n).filter p) < 2 ^ n ∧ ∀ e, (bits ((List.range n).filter p)).testBit e = (decide (e < n) && p e)
  | 0 => by
    refine ⟨by simp [bits], fun e => ?_⟩
    simp [bits]
  | n + 1 => by
    obtain ⟨h1, h2⟩ := bits_range p n
    have e1 : (List.range (n + 1)).filter p = (List.range n).filter p ++ (if p n = true then [n] else []) := by
      rw [List.range_succ, List.filter_append]
      congr 1
      by_cases q : p n = true
      · simp [q]
      · simp [q]
    have e2 : bits ((List.range (n + 1)).filter p) = bits ((List.range n).filter p) + (if p n = true then 2 ^ n else 0) := by
      rw [e1]
      unfold bits
      rw [List.map_append, List.sum_append]
      by_cases q : p n = true
      · simp [q]
      · simp [q]
    have pw : 2 ^ (n + 1) = 2 ^ n + 2 ^ n := by rw [Nat.pow_succ]; omega
    rw [e2]
    by_cases q : p n = true
    · rw [if_pos q]
      refine ⟨by omega, fun e => ?_⟩
      have e3 := Nat.two_pow_add_eq_or_of_lt h1 1
      rw [Nat.mul_one] at e3
      rw [Nat.add_comm, e3, Nat.testBit_or, h2, Nat.testBit_two_pow]
      by_cases z : e = n
      · subst z
        simp [q]
      · by_cases y : e < n
        · simp [y, show e < n + 1 by omega, show ¬ n = e by omega]
        · simp [y, show ¬ e < n + 1 by omega, show ¬ n = e by omega]
    · rw [if_neg q, Nat.add_zero]
      refine ⟨by omega, fun e => ?_⟩
      rw [h2]
      by_cases z : e = n
      · subst z
        simp [q]
      · by_cases y : e < n
        · simp [y, show e < n + 1 by omega]
        · simp [y, show ¬ e < n + 1 by omega]
def coverN (reach : Nat → Nat) (s : List Nat) : Nat := s.foldl (fun r c => r ||| reach c) 0
theorem foldl_or (f : Nat → Nat) : ∀ (s : List Nat) (r e : Nat), (s.foldl (fun r c => r ||| f c) r).testBit e = (r.testBit e || s.any fun c => (f c).testBit e)
  | [], r, e => by simp
  | c :: s, r, e => by
    rw [List.foldl_cons, foldl_or f s, Nat.testBit_or, List.any_cons, Bool.or_assoc]
theorem reachBy_bit {a : Abs} (o : Ok a) {g : List Nat} {d e : Nat} : (bits (reachBy a g d)).testBit e = true ↔ R a g d e := by
  unfold reachBy
  rw [(bits_range _ _).2, Bool.and_eq_true, ← reachBy_mem o]
  unfold reachBy
  rw [List.mem_filter, List.mem_range, decide_eq_true_eq]
theorem free_bit {a : Abs} {e : Nat} : (bits (free a)).testBit e = true ↔ e ∈ free a := by
  unfold free
  rw [(bits_range _ _).2, Bool.and_eq_true, List.mem_filter, List.mem_range, decide_eq_true_eq]
/-- the program's test of a set is the specification's -/
theorem covers_iff {a : Abs} (o : Ok a) {s : List Nat} {d : Nat} : coverN (fun c => bits (reachBy a [c] d)) s = bits (free a) ↔ byDay a s d = true := by
  rw [byDay_iff o]
  have key : ∀ e, (coverN (fun c => bits (reachBy a [c] d)) s).testBit e = true ↔ R a s d e := by
    intro e
    unfold coverN
    rw [foldl_or, Nat.zero_testBit, Bool.false_or, List.any_eq_true, R_any]
    constructor
    · rintro ⟨c, hc, h⟩
      exact ⟨c, hc, (reachBy_bit o).mp h⟩
    · rintro ⟨c, hc, h⟩
      exact ⟨c, hc, (reachBy_bit o).mpr h⟩
  constructor
  · intro h e he
    rw [← key, h]
    exact free_bit.mpr he
  · intro h
    apply Nat.eq_of_testBit_eq
    intro e
    rw [Bool.eq_iff_iff, key, free_bit]
    constructor
    · intro z
      exact free_mem.mpr (R_free z)
    · exact h e
/-- the whole search -/
def covers (a : Abs) (d : Nat) (s : List Nat) : Bool := decide (coverN (fun c => bits (reachBy a [c] d)) s = bits (free a))
theorem covers_eq {a : Abs} (o : Ok a) (s : List Nat) (d : Nat) : covers a d s = byDay a s d := by
  rw [Bool.eq_iff_iff, covers, decide_eq_true_eq, covers_iff o]
theorem fewest_steps {a : Abs} (o : Ok a) (d : Nat) : fewest a d = ((sets 0 (free a)).find? (covers a d)).or (((sets 1 (free a)).find? (covers a d)).or (((sets 2 (free a)).find? (covers a d)).or ((sets 3 (free a)).find? (covers a d)))) := by
  rw [fewest_eq o, flatMap_range_four, List.find?_append, List.find?_append, List.find?_append]
  have e : (fun s => byDay a s d) = covers a d := funext fun s => (covers_eq o s d).symm
  rw [e]
/-! ### best -/
def helped (a : Abs) (l : List Nat) : List (Nat × Nat) := l.filterMap fun c => (fullBy a (c :: a.grains)).map fun d => (d, c)
def bestStep (a : Abs) (o : Option (Nat × Nat)) (c : Nat) : Option (Nat × Nat) := match fullBy a (c :: a.grains), o with
  | none, o => o
  | some d, none => some (c, d)
  | some d, some x => if d < x.2 then some (c, d) else some x
theorem best_fold (a : Abs) : best a = (free a).foldl (bestStep a) none := rfl
/-- the soonest, of several the first -/
structure IsBest (l : List (Nat × Nat)) (x : Nat × Nat) : Prop where
  mem : (x.2, x.1) ∈ l
  low : ∀ y ∈ l, x.2 < y.1 ∨ (x.2 = y.1 ∧ x.1 ≤ y.2)
theorem best_go (a : Abs) : ∀ (l pre : List Nat) (acc : Option (Nat × Nat)), (pre ++ l).Pairwise (· < ·) →
    (match acc with | none => helped a pre = [] | some x => IsBest (helped a pre) x) →
    (match l.foldl (bestStep a) acc with | none => helped a (pre ++ l) = [] | some x => IsBest (helped a (pre ++ l)) x)
  | [], pre, acc, _, h => by
    rw [List.append_nil]
    exact h
  | c :: l, pre, acc, hs, h => by
    rw [List.foldl_cons]
    have e0 : pre ++ c :: l = (pre ++ [c]) ++ l := by simp
    rw [e0]
    refine best_go a l (pre ++ [c]) _ (by rw [← e0]; exact hs) ?_
    have eh : helped a (pre ++ [c]) = helped a pre ++ helped a [c] := by
      unfold helped
      rw [List.filterMap_append]
    have hin : ∀ y ∈ helped a pre, y.2 < c := by
      intro y hy
      unfold helped at hy
      obtain ⟨c', hc', hy⟩ := List.mem_filterMap.mp hy
      have hlt := (List.pairwise_append.mp hs).2.2 c' hc' c (by simp)
      cases z : fullBy a (c' :: a.grains) with
      | none => rw [z] at hy; cases hy
      | some d =>
        rw [z] at hy
        cases hy
        exact hlt
    cases z : fullBy a (c :: a.grains) with
    | none =>
      have e1 : helped a [c] = [] := by unfold helped; simp [z]
      have e2 : bestStep a acc c = acc := by unfold bestStep; rw [z]
      rw [e2, eh, e1, List.append_nil]
      exact h
    | some d =>
      have e1 : helped a [c] = [(d, c)] := by unfold helped; simp [z]
      cases acc with
      | none =>
        have e2 : bestStep a none c = some (c, d) := by unfold bestStep; rw [z]
        have h : helped a pre = [] := h
        rw [e2, eh, e1, h]
        exact ⟨by simp, fun y hy => by
          have : y = (d, c) := by simpa using hy
          subst this
          exact .inr ⟨rfl, Nat.le_refl _⟩⟩
      | some x =>
        have h : IsBest (helped a pre) x := h
        have e2 : bestStep a (some x) c = if d < x.2 then some (c, d) else some x := by unfold bestStep; rw [z]
        rw [e2, eh, e1]
        by_cases q : d < x.2
        · rw [if_pos q]
          refine ⟨by simp, fun y hy => ?_⟩
          rcases List.mem_append.mp hy with hy | hy
          · have := h.low y hy
            left
            show d < y.1
            omega
          · have : y = (d, c) := by simpa using hy
            subst this
            exact .inr ⟨rfl, Nat.le_refl _⟩
        · rw [if_neg q]
          refine ⟨by simp [h.mem], fun y hy => ?_⟩
          rcases List.mem_append.mp hy with hy | hy
          · exact h.low y hy
          · have : y = (d, c) := by simpa using hy
            subst this
            have := hin _ h.mem
            simp at this
            by_cases y : x.2 < d
            · exact .inl y
            · exact .inr ⟨by show x.2 = d; omega, by show x.1 ≤ c; omega⟩
theorem best_is (a : Abs) : (best a = none ∧ helped a (free a) = []) ∨ ∃ x, best a = some x ∧ IsBest (helped a (free a)) x := by
  have := best_go a (free a) [] none (by simpa using free_sorted a) rfl
  rw [List.nil_append, ← best_fold] at this
  cases z : best a with
  | none => rw [z] at this; exact .inl ⟨rfl, this⟩
  | some x => rw [z] at this; exact .inr ⟨x, rfl, this⟩
theorem IsBest.unique {l : List (Nat × Nat)} {x y : Nat × Nat} (h : IsBest l x) (g : IsBest l y) : x = y := by
  have h1 := h.low _ g.mem
  have h2 := g.low _ h.mem
  simp at h1 h2
  exact Prod.ext (by omega) (by omega)
/-! ### way -/
theorem back_first {a : Abs} (o : Ok a) {g : List Nat} {c d : Nat} (h : (mapBy a g).getD c none = some (d + 1)) : ∃ e r, (nb a.wide a.high c).filter (fun x => decide ((daysOf a g).getD x 0 = (daysOf a g).getD c 0 - 1)) = e :: r ∧ (mapBy a g).getD e none = some d ∧ e < cells a ∧ wayBack a (mapBy a g) (d + 1) c = c :: wayBack a (mapBy a g) d e := by
  have hc : c < cells a := isFree_lt (lab_free a g _ _ _ h).1
  obtain ⟨e, he, hd⟩ := back_one h
  have hlt : e < cells a := isFree_lt (lab_free a g _ _ _ hd).1
  have e1 : (nb a.wide a.high c).filter (fun x => decide ((daysOf a g).getD x 0 = (daysOf a g).getD c 0 - 1)) = (beside a c).filter fun x => (mapBy a g).getD x none == some d := by
    rw [← beside_eq o hc, List.filter_filter]
    apply List.filter_congr
    intro x hx
    have hxl := nb_lt o hc hx
    rw [daysOf_get hxl, daysOf_get hc, h]
    have q1 : enc (some (d + 1)) - 1 = (d : Int) := by
      show (((d + 1 : Nat)) : Int) - 1 = d
      omega
    rw [q1]
    cases z : (mapBy a g).getD x none with
    | none =>
      have : ¬ enc none = (d : Int) := by
        show ¬ (-33 : Int) = d
        omega
      simp [this]
    | some n =>
      have hf : isFree a x = true := (lab_free a g _ _ _ z).1
      have : (enc (some n) = (d : Int)) ↔ n = d := by
        show ((n : Int) = d) ↔ _
        omega
      by_cases y : n = d
      · subst y
        simp [hf]
        rfl
      · simp [this, hf, y]
  have e2 : ((beside a c).filter fun x => (mapBy a g).getD x none == some d).head? = some e := by
    rw [List.head?_filter]
    exact he
  rw [e1]
  cases z : (beside a c).filter fun x => (mapBy a g).getD x none == some d with
  | nil => rw [z] at e2; cases e2
  | cons y r =>
    rw [z] at e2
    cases e2
    exact ⟨e, r, rfl, hd, hlt, wayBack_succ he⟩
end Bed
namespace Bed
open PySem PySem.Spec PyProof.Rows L2
def top (i : Nat) : Stmt := PySem.Challenge.pw_spawnbed_s01_answers.main.body.getD i (.Pass ⟨0, 0, 0, 0⟩)
/-- a list of natural numbers as it lies in the heap -/
def nv (l : List Nat) : List V := l.map fun (n : Nat) => V.int (n : Int)
def iv (l : List Int) : List V := l.map V.int
theorem if_true_of {c : Bool} {A B : Prop} (hc : c = true) (h : A) : if c = true then A else B := by
  rw [if_pos hc]
  exact h
theorem if_false_of {c : Bool} {A B : Prop} (hc : c = false) (h : B) : if c = true then A else B := by
  rw [hc, if_neg Bool.false_ne_true]
  exact h
/-! ### beside -/
abbrev sBeside : Stmt := top 2
def spBeside : Sp := fun vs H Q _ => ∃ (w h c : Nat), vs = [.int w, .int h, .int c] ∧ 1 ≤ w ∧ w ≤ 5 ∧ 1 ≤ h ∧ h ≤ 5 ∧
  ∀ H' p, Same H H' → H p = none → H' p = some (.lst (nv (nb w h c))) → Q (.ref p) H'
section
variable {P : Program} {w : World} {K : PySem.W.Frag} {mg : Str → Option Value} {base : Heap}
theorem scBeside : FnScope ["width", "height", "cell", "column", "cells"] ["width", "height", "cell"] (defScope sBeside) := ⟨rfl, rfl, rfl, by decide +kernel, rfl, by decide +kernel, by decide +kernel⟩
theorem ok_beside {f : Addr} {fd : FuncData} (F : Fun K "beside" "beside" sBeside f fd) : FnOk P w K mg base CX0 1 f fd ["width", "height", "cell"] spBeside := by
  refine F.ok scBeside (fun vs H Q E h => ?_) (fun cdv A outer s H vs Q E hr h => ?_)
  · obtain ⟨w, h, c, rfl, _⟩ := h
    rfl
  · obtain ⟨w, h, c, rfl, w1, w5, h1, h5, k⟩ := h
    refine ⟨_, pss_cons (ps_set (i := 3) scBeside.nd rfl (Or.inl rfl) (pe_op op_modN (pv 2) (pv 0)))
      (pss_cons (ps_set (i := 4) scBeside.nd rfl (Or.inl rfl) (pe_lst pa_nil))
      (pss_cons (ps_if (pt_cmpR op_ge (pv 2) (pv 0) (nomark _)) (pss_one (ps_expr (pe_bm PySem.F.plainAttrs_list PySem.F.slot_list_append PySem.F.type_list_append mt_append (pv 4) (pa_cons (pe_op op_sub (pv 2) (pv 0)) pa_nil)))) pss_nil)
      (pss_cons (ps_if (pt_cmpR op_gt (pv 3) pe_int (nomark _)) (pss_one (ps_expr (pe_bm PySem.F.plainAttrs_list PySem.F.slot_list_append PySem.F.type_list_append mt_append (pv 4) (pa_cons (pe_op op_sub (pv 2) pe_int) pa_nil)))) pss_nil)
      (pss_cons (ps_if (pt_cmpR op_lt (pv 3) (pe_op op_sub (pv 0) pe_int) (nomark _)) (pss_one (ps_expr (pe_bm PySem.F.plainAttrs_list PySem.F.slot_list_append PySem.F.type_list_append mt_append (pv 4) (pa_cons (pe_op op_add (pv 2) pe_int) pa_nil)))) pss_nil)
      (pss_cons (ps_if (pt_cmpR op_lt (pe_op op_add (pv 2) (pv 0)) (pe_op op_mul (pv 0) (pv 1)) (nomark _)) (pss_one (ps_expr (pe_bm PySem.F.plainAttrs_list PySem.F.slot_list_append PySem.F.type_list_append mt_append (pv 4) (pa_cons (pe_op op_add (pv 2) (pv 0)) pa_nil)))) pss_nil)
      (pss_one (ps_ret (pv 4)))))))), ?_⟩
    refine ⟨_, rfl, _, rfl, _, _, rfl, rfl, (by omega), ?_⟩
    refine ⟨Nat.zero_le _, fun p hp => ?_⟩
    have em : ((c : Int)).fmod (w : Int) = ((c % w : Nat) : Int) := by
      rw [Int.fmod_eq_emod_of_nonneg _ (by omega)]
      omega
    have fin : ∀ l : List Nat, l = nb w h c → Q (.ref p) (upd H p (.lst (nv l))) := fun l e => by
      subst e
      exact k _ p (fun b o q => by rw [upd_ne (ne_of_none q hp)]; exact q) hp upd_same
    have wh : w * h ≤ 25 := Nat.mul_le_mul w5 h5
    have whc : ((w : Int) * (h : Int)) = ((w * h : Nat) : Int) := by simp
    have c1 : ((w : Int) ≤ (c : Int)) → ((c - w : Nat) : Int) = (c : Int) - (w : Int) := fun _ => by omega
    have c2 : ((0 : Int) < ((c % w : Nat) : Int)) → ((c - 1 : Nat) : Int) = (c : Int) - 1 := fun _ => by
      have := Nat.mod_le c w
      omega
    refine ⟨_, rfl, _, rfl, _, _, rfl, rfl, _, rfl, ?_⟩
    refine ite2 (fun q1 => ⟨_, rfl, .inl ⟨rfl, _, SqL.of upd_same⟩, _, rfl, _, rfl, _, _, rfl, rfl, p, _, _, rfl, rfl, upd_same, (by show 0 < sizeLine; decide), ?_⟩) (fun q1 => ?_)
    all_goals
      refine ⟨_, rfl, _, _, rfl, rfl, _, rfl, ?_⟩
      refine ite2 (fun q2 => ⟨_, rfl, .inl ⟨rfl, _, SqL.of upd_same⟩, _, rfl, _, _, rfl, rfl, p, _, _, rfl, rfl, upd_same, (by first | show 0 < sizeLine; decide | show 1 < sizeLine; decide), ?_⟩) (fun q2 => ?_)
    all_goals
      refine ⟨_, rfl, _, rfl, _, _, rfl, rfl, _, _, rfl, rfl, _, rfl, ?_⟩
      refine ite2 (fun q3 => ⟨_, rfl, .inl ⟨rfl, _, SqL.of upd_same⟩, _, rfl, _, _, rfl, rfl, p, _, _, rfl, rfl, upd_same, (by first | show 0 < sizeLine; decide | show 1 < sizeLine; decide | show 2 < sizeLine; decide), ?_⟩) (fun q3 => ?_)
    all_goals
      refine ⟨_, rfl, _, rfl, _, _, rfl, rfl, _, rfl, _, rfl, _, _, rfl, rfl, .inl ⟨by omega, by omega⟩, _, _, rfl, rfl, _, rfl, ?_⟩
      refine ite2 (fun q4 => ⟨_, rfl, .inl ⟨rfl, _, SqL.of upd_same⟩, _, rfl, _, rfl, _, _, rfl, rfl, p, _, _, rfl, rfl, upd_same, (by first | show 0 < sizeLine; decide | show 1 < sizeLine; decide | show 2 < sizeLine; decide | show 3 < sizeLine; decide), ?_⟩) (fun q4 => ?_)
    all_goals
      refine ⟨_, rfl, ?_⟩
      simp only [decide_eq_true_eq, em, whc] at q1 q2 q3 q4
      simp only [upd_upd]
      refine cast (congrArg (fun l => Q (.ref p) (upd H p (.lst l))) ?_) (fin _ rfl)
      unfold nb
      simp only [show (w ≤ c) ↔ ((w : Int) ≤ (c : Int)) by omega, show (0 < c % w) ↔ ((0 : Int) < ((c % w : Nat) : Int)) by omega, show (c % w + 1 < w) ↔ (((c % w : Nat) : Int) < (w : Int) - 1) by omega,
        show (c + w < w * h) ↔ ((c : Int) + (w : Int) < ((w * h : Nat) : Int)) by omega, q1, q2, q3, q4, if_true, if_false]
      simp only [nv, List.map_append, List.map_cons, List.map_nil, List.nil_append, List.append_nil, Int.natCast_add] <;>
      first | (rw [c1 q1, c2 q2] <;> rfl) | (rw [c1 q1] <;> rfl) | (rw [c2 q2] <;> rfl) | rfl
end
end Bed
namespace Bed
open PySem PySem.Spec PyProof.Rows L2
/-! ### short words -/
def MgInt (mg : Str → Option Value) (x : Str) (i : Int) : Prop := ∃ t, mg x = some (.int i t)
theorem pe_globI {X : Cx} {x : Str} {i : Int} {pos : Pos} (hg : Gl X x) (h : MgInt X.mg x i) (hd : (x == ("__debug__" : Str)) = false := by decide) : PE X (.Name x pos) (tC (.int i)) := by
  obtain ⟨t, h⟩ := h
  exact pe_glob hg h ⟨t, rfl⟩ hd
/-- all that was tracked is as it was, but for p -/
def But (p : Addr) (H H' : Hp) : Prop := ∀ b o, H b = some o → b ≠ p → H' b = some o
theorem But.refl (p : Addr) (H : Hp) : But p H H := fun _ _ h _ => h
theorem But.trans {p : Addr} {H H1 H2 : Hp} (a : But p H H1) (b : But p H1 H2) : But p H H2 := fun c o h n => b c o (a c o h n) n
theorem But.of_same {p : Addr} {H H' : Hp} (a : Same H H') : But p H H' := fun b o h _ => a b o h
theorem But.upd {p : Addr} {H H' : Hp} {o : HO} (a : But p H H') : But p H (L2.upd H' p o) := fun b u h n => by
  rw [upd_ne n]
  exact a b u h n
theorem Same.upd {p : Addr} {H H' : Hp} {o : HO} (a : Same H H') (hp : H p = none) : Same H (L2.upd H' p o) := fun b u h => by
  rw [upd_ne (ne_of_none h hp)]
  exact a b u h
theorem Same.new {p : Addr} {H H' : Hp} {o : HO} (a : Same H H') (hp : H' p = none) : Same H (L2.upd H' p o) := fun b u h => by
  have h' := a b u h
  rw [upd_ne (ne_of_none h' hp)]
  exact h'
theorem Same.but {p : Addr} {H H1 H2 : Hp} (a : Same H H1) (b : But p H1 H2) (hp : H p = none) : Same H H2 := fun c o h => b c o (a c o h) (ne_of_none h hp)
theorem nv_get {l : List Nat} {i : Nat} {y : V} (h : (nv l)[i]? = some y) : ∃ c, l[i]? = some c ∧ y = V.int (c : Int) := by
  unfold nv at h
  rw [List.getElem?_map] at h
  cases e : l[i]? with
  | none =>
    rw [e] at h
    cases h
  | some z =>
    rw [e] at h
    exact ⟨z, rfl, (Option.some.inj h).symm⟩
theorem nv_at {l : List Nat} {i c : Nat} (h : l[i]? = some c) : (nv l)[i]? = some (V.int (c : Int)) := by
  unfold nv
  rw [List.getElem?_map, h]
  rfl
theorem nv_len (l : List Nat) : (nv l).length = l.length := List.length_map ..
theorem iv_len (l : List Int) : (iv l).length = l.length := List.length_map ..
theorem nv_app (l m : List Nat) : nv (l ++ m) = nv l ++ nv m := List.map_append
theorem nv_one (c : Nat) : nv [c] = [V.int (c : Int)] := rfl
theorem iv_at {l : List Int} {c : Nat} (h : c < l.length) : atI (iv l) (c : Int) = some (V.int (l.getD c 0)) := by
  refine atI_nat ?_
  unfold iv
  rw [List.getElem?_map, List.getElem?_eq_getElem h, List.getD_eq_getElem?_getD, List.getElem?_eq_getElem h]
  rfl
theorem nv_flat (l : List Nat) : (nv l).all flatV = true := by
  rw [List.all_eq_true]
  intro x hx
  unfold nv at hx
  rw [List.mem_map] at hx
  obtain ⟨_, _, rfl⟩ := hx
  rfl
theorem iv_flat (l : List Int) : (iv l).all flatV = true := by
  rw [List.all_eq_true]
  intro x hx
  unfold iv at hx
  rw [List.mem_map] at hx
  obtain ⟨_, _, rfl⟩ := hx
  rfl
theorem inV_nv (c : Nat) (l : List Nat) : inV (.int (c : Int)) (nv l) = decide (c ∈ l) := by
  induction l with
  | nil => rfl
  | cons x r ih =>
    show (eqV (.int (x : Int)) (.int (c : Int)) || inV (.int (c : Int)) (nv r)) = _
    rw [ih]
    have e : eqV (.int (x : Int)) (.int (c : Int)) = decide (c = x) := by
      show decide ((x : Int) = (c : Int)) = _
      by_cases q : c = x
      · subst q; simp
      · have : ¬ (x : Int) = (c : Int) := fun z => q (by omega)
        simp [q, this]
    rw [e]
    simp [Bool.decide_or]
theorem inV_iv (c : Int) (l : List Int) : inV (.int c) (iv l) = decide (c ∈ l) := by
  induction l with
  | nil => rfl
  | cons x r ih =>
    show (eqV (.int x) (.int c) || inV (.int c) (iv r)) = _
    rw [ih]
    have e : eqV (.int x) (.int c) = decide (c = x) := by
      show decide (x = c) = _
      by_cases q : c = x
      · subst q; simp
      · have : ¬ x = c := fun z => q z.symm
        simp [q, this]
    rw [e]
    simp [Bool.decide_or]
theorem take_more {α : Type} {l : List α} {i : Nat} {x : α} (h : l[i]? = some x) : l.take (i + 1) = l.take i ++ [x] := by
  rw [List.take_add_one, h]
  rfl
theorem get_lt {α : Type} {l : List α} {i : Nat} {x : α} (h : l[i]? = some x) : i < l.length := (List.getElem?_eq_some_iff.mp h).1
/-! ### reached_from -/
theorem reachOnes_len (bl : List Nat) (days : List Int) : ∀ (l acc : List Nat), (l.foldl (reachOne bl days) acc).length ≤ acc.length + l.length
  | [], acc => by simp
  | x :: l, acc => by
    rw [List.foldl_cons]
    have := reachOnes_len bl days l (reachOne bl days acc x)
    have e : (reachOne bl days acc x).length ≤ acc.length + 1 := by
      unfold reachOne
      split <;> simp
    rw [List.length_cons]
    omega
theorem reachSteps_len (w h : Nat) (bl : List Nat) (days : List Int) : ∀ (f acc : List Nat), (f.foldl (reachStep w h bl days) acc).length ≤ acc.length + 4 * f.length
  | [], acc => by simp
  | x :: l, acc => by
    rw [List.foldl_cons]
    have := reachSteps_len w h bl days l (reachStep w h bl days acc x)
    have := reachOnes_len bl days (nb w h x) acc
    have := nb_len w h x
    have e : (reachStep w h bl days acc x).length ≤ acc.length + 4 := by
      unfold reachStep
      omega
    rw [List.length_cons]
    omega
abbrev sReached : Stmt := top 3
def spReached (K : PySem.W.Frag) : Sp := fun vs H Q _ => ∃ (w h : Nat) (b d f : Addr) (bl fr : List Nat) (days : List Int), vs = [.int w, .int h, .ref b, .ref d, .ref f] ∧ 1 ≤ w ∧ w ≤ 5 ∧ 1 ≤ h ∧ h ≤ 5 ∧
  SqL K H b (nv bl) ∧ SqL K H d (iv days) ∧ SqL K H f (nv fr) ∧ days.length = w * h ∧ (∀ c ∈ fr, c < w * h) ∧ fr.length ≤ 25 ∧
  ∀ H' p, Same H H' → H p = none → H' p = some (.lst (nv (reached w h bl days fr))) → Q (.ref p) H'
structure TxtA (mg : Str → Option Value) (fb : Addr) : Prop where
  never : MgInt mg "NEVER" (-33)
  gB : mg "beside" = some (.ref fb)
section
variable {P : Program} {w : World} {K : PySem.W.Frag} {mg : Str → Option Value} {base : Heap}
theorem scReached : FnScope ["width", "height", "blocked", "days", "front", "reached", "cell", "other"] ["width", "height", "blocked", "days", "front"] (defScope sReached) := ⟨rfl, rfl, rfl, by decide +kernel, rfl, by decide +kernel, by decide +kernel⟩
theorem ok_reached {f fb : Addr} {fd fdb : FuncData} (F : Fun K "reached_from" "reached_from" sReached f fd) (T : TxtA mg fb) (FB : Fun K "beside" "beside" sBeside fb fdb) (bB : Binds K fdb ["width", "height", "cell"] []) :
    FnOk P w K mg base CX0 2 f fd ["width", "height", "blocked", "days", "front"] (spReached K) := by
  have GB : FnOk P w K mg base CX0 1 fb fdb ["width", "height", "cell"] spBeside := ok_beside FB
  refine F.ok scReached (fun vs H Q E h => ?_) (fun cdv A outer s H vs Q E hr h => ?_)
  · obtain ⟨w, h, b, d, f, bl, fr, days, rfl, _⟩ := h
    rfl
  · obtain ⟨w, h, b, d, f, bl, fr, days, rfl, w1, w5, h1, h5, hb, hd, hf, hdl, hfr, hfl, k⟩ := h
    refine ⟨_, pss_cons (ps_set (i := 5) scReached.nd rfl (Or.inl rfl) (pe_lst pa_nil))
      (pss_cons (ps_for PassesOwn.never rfl (pi_list (pv 4)) (pg_name (i := 6) scReached.nd rfl (Or.inl rfl))
        (pss_one (ps_for PassesOwn.never rfl (pi_list (pe_call GB hr rfl T.gB FB.kp bB .nil pass0 (pa_cons (pv 0) (pa_cons (pv 1) (pa_cons (pv 6) pa_nil))))) (pg_name (i := 7) scReached.nd rfl (Or.inl rfl))
          (pss_one (ps_if (PW.pt (pw_and (pt_cmpR op_eq (pe_ix ix_list (pv 3) (pv 7) (fun _ _ => rfl)) (pe_globI rfl T.never) (nomark _)) (pw_and (pt_cmpR op_notIn_seq (pv 7) (pv 2) rfl) (pw_and1 (pt_cmpR op_notIn_seq (pv 7) (pv 5) rfl)))))
            (pss_one (ps_expr (pe_bm PySem.F.plainAttrs_list PySem.F.slot_list_append PySem.F.type_list_append mt_append (pv 5) (pa_cons (pv 7) pa_nil)))) pss_nil)))))
      (pss_one (ps_ret (pv 5)))), ?_⟩
    refine ⟨Nat.zero_le _, fun p hp => ?_⟩
    have s1 : Same H (upd H p (.lst [])) := Same.new (Same.refl H) hp
    refine ⟨_, rfl, f, rfl, ⟨_, s1.seq hf⟩, for_list (K := K) (a := f) (xs := nv fr) (fun i σ H' => ∃ v1 v2 : Option V, σ = [some (.int w), some (.int h), some (.ref b), some (.ref d), some (.ref f), some (.ref p), v1, v2] ∧ Same H H' ∧
      H' p = some (.lst (nv ((fr.take i).foldl (reachStep w h bl days) [])))) ⟨none, none, rfl, s1, upd_same⟩ (fun i σ H' _ ⟨_, _, _, s5, _⟩ => s5.seq hf) ?_ ?_⟩
    · rintro i y σ H' hi ⟨v1, v2, rfl, s5, hp5⟩
      obtain ⟨c, hc, rfl⟩ := nv_get hi
      have il : i < fr.length := get_lt hc
      have cl : c < w * h := hfr c (List.mem_of_getElem? hc)
      refine ⟨_, rfl, _, rfl, _, rfl, ?_⟩
      refine ⟨w, h, c, rfl, w1, w5, h1, h5, fun H1 q s6 hq hq1 => ?_⟩
      have bnd := reachSteps_len w h bl days (fr.take i) []
      have npq : p ≠ q := ne_of_none hp5 hq
      refine ⟨q, rfl, ⟨_, SqL.of hq1⟩, for_list (K := K) (a := q) (xs := nv (nb w h c)) (fun j σ H2 => ∃ v2 : Option V, σ = [some (.int w), some (.int h), some (.ref b), some (.ref d), some (.ref f), some (.ref p), some (.int c), v2] ∧ But p H1 H2 ∧
        H2 p = some (.lst (nv (((nb w h c).take j).foldl (reachOne bl days) ((fr.take i).foldl (reachStep w h bl days) []))))) ⟨v2, rfl, But.refl p H1, s6 _ _ hp5⟩ (fun j σ H2 _ ⟨_, _, b2, _⟩ => SqL.of (b2 _ _ hq1 npq.symm)) ?_ ?_⟩
      · rintro j y σ H2 hj ⟨v2, rfl, b2, hp2⟩
        obtain ⟨o, ho, rfl⟩ := nv_get hj
        have jl : j < (nb w h c).length := get_lt ho
        have nbl := nb_len w h c
        have ol : o < w * h := nb_lt (a := ⟨w, h, [], [], []⟩) ⟨w1, w5, h1, h5⟩ cl (List.mem_of_getElem? ho)
        have s7 : Same H H2 := Same.but (Same.trans s5 s6) b2 hp
        have bnd2 := reachOnes_len bl days ((nb w h c).take j) ((fr.take i).foldl (reachStep w h bl days) [])
        have l1 : (fr.take i).length ≤ 25 := by rw [List.length_take]; omega
        have l2 : ((nb w h c).take j).length ≤ 4 := by rw [List.length_take]; omega
        have step : ((nb w h c).take (j + 1)).foldl (reachOne bl days) ((fr.take i).foldl (reachStep w h bl days) []) = reachOne bl days (((nb w h c).take j).foldl (reachOne bl days) ((fr.take i).foldl (reachStep w h bl days) [])) o := by
          rw [take_more ho, List.foldl_append]
          rfl
        generalize hacc : ((nb w h c).take j).foldl (reachOne bl days) ((fr.take i).foldl (reachStep w h bl days) []) = acc at hp2 step bnd2
        simp only [List.length_nil] at bnd
        refine ⟨_, rfl, _, rfl, d, _, _, _, rfl, rfl, s7.seq hd, iv_at (by omega), rfl, _, rfl, ?_⟩
        have no : ¬ (days.getD o 0 = -33 ∧ o ∉ bl ∧ o ∉ acc) → ∃ v2 : Option V, [some (V.int w), some (.int h), some (.ref b), some (.ref d), some (.ref f), some (.ref p), some (.int c), some (.int o)] = [some (V.int w), some (.int h), some (.ref b), some (.ref d), some (.ref f), some (.ref p), some (.int c), v2] ∧ But p H1 H2 ∧ H2 p = some (.lst (nv (((nb w h c).take (j + 1)).foldl (reachOne bl days) ((fr.take i).foldl (reachStep w h bl days) [])))) := fun z => by
          refine ⟨_, rfl, b2, ?_⟩
          rw [step, reachOne, if_neg z]
          exact hp2
        refine ite2 (fun q1 => ?_) (fun q1 => iteF ?_)
        · refine ⟨_, rfl, _, rfl, b, _, rfl, .inl (s7.seq hb), rfl, nv_flat _, _, rfl, ?_⟩
          refine ite2 (fun q2 => ?_) (fun q2 => iteF ?_)
          · refine ⟨_, rfl, _, rfl, p, _, rfl, .inl (SqL.of hp2), rfl, nv_flat _, _, rfl, ?_⟩
            refine ite2 (fun q3 => ?_) (fun q3 => ?_)
            · refine ⟨_, rfl, .inl ⟨rfl, _, SqL.of hp2⟩, _, rfl, p, _, _, rfl, rfl, hp2, ?_, ?_⟩
              · rw [nv_len, sizeLine_eq]
                omega
              · refine ⟨_, rfl, b2.upd, ?_⟩
                rw [upd_same, step, reachOne, if_pos]
                · rw [nv_app]
                  rfl
                · simp [inV_nv] at q1 q2 q3
                  exact ⟨q1, q2, q3⟩
            · refine no fun z => q3 ?_
              simp [inV_nv, z]
          · refine no fun z => q2 ?_
            simp [inV_nv, z]
        · exact no fun z => q1 (decide_eq_true (congrArg V.int z.1))
      · rintro σ H2 ⟨v2, rfl, b2, hp2⟩
        refine ⟨_, _, rfl, Same.but (Same.trans s5 s6) b2 hp, ?_⟩
        rw [take_more hc, List.foldl_append]
        rw [nv_len, List.take_length] at hp2
        exact hp2
    · rintro σ H' ⟨v1, v2, rfl, s5, hp5⟩
      rw [nv_len, List.take_length] at hp5
      exact ⟨_, rfl, k _ p s5 hp hp5⟩
end
end Bed
namespace Bed
open PySem PySem.Spec PyProof.Rows L2
/-! ### spread_days -/
theorem iv_rep (n : Nat) : (List.replicate (n : Int).toNat [V.int (-33)]).flatten = iv (List.replicate n (-33)) := by
  rw [Int.toNat_natCast]
  unfold iv
  induction n with
  | zero => rfl
  | succ n ih =>
    rw [List.replicate_succ, List.replicate_succ, List.flatten_cons, ih]
    rfl
theorem iv_set (l : List Int) (c : Nat) (t : Int) : (iv l).set c (V.int t) = iv (l.set c t) := by
  unfold iv
  rw [List.map_set]
theorem paint_more {f : List Nat} {i c : Nat} (h : f[i]? = some c) (t : Int) (d : List Int) : paint (f.take (i + 1)) t d = (paint (f.take i) t d).set c t := by
  unfold paint
  rw [take_more h, List.foldl_append]
  rfl
theorem cells_le {a : Kh363.Abs} (o : Ok a) : Kh363.cells a ≤ 25 := Nat.mul_le_mul o.w5 o.h5
theorem front_len {a : Kh363.Abs} (o : Ok a) {g bl : List Nat} (af : AllFree a g) (sb : SameCells bl a.blocked) (hl : g.length ≤ 25) : ∀ t, (bfs a.wide a.high bl g t).2.length ≤ 25
  | 0 => hl
  | t + 1 => Nat.le_trans (nodup_len (reachSteps_nodup _ _ _ _ _ [] List.nodup_nil) fun c hc => (front_free o af sb (t + 1) hc).1) (cells_le o)
abbrev sSpread : Stmt := top 4
def spSpread (K : PySem.W.Frag) : Sp := fun vs H Q _ => ∃ (a : Kh363.Abs) (b g : Addr) (bl gr gs : List Nat), vs = [.int a.wide, .int a.high, .ref b, .ref g] ∧ Ok a ∧
  SqL K H b (nv bl) ∧ SqL K H g (nv gr) ∧ AllFree a gr ∧ SameCells bl a.blocked ∧ SameCells gr gs ∧ gr.length ≤ 25 ∧
  ∀ H' p, Same H H' → H p = none → H' p = some (.lst (iv (daysOf a gs))) → Q (.ref p) H'
structure TxtB (mg : Str → Option Value) (fb fr : Addr) : Prop extends TxtA mg fb where
  gR : mg "reached_from" = some (.ref fr)
  len : mg "len" = none
  list : mg "list" = none
section
variable {P : Program} {w : World} {K : PySem.W.Frag} {mg : Str → Option Value} {base : Heap}
theorem scSpread : FnScope ["width", "height", "blocked", "grains", "days", "front", "today", "cell"] ["width", "height", "blocked", "grains"] (defScope sSpread) := ⟨rfl, rfl, rfl, by decide +kernel, rfl, by decide +kernel, by decide +kernel⟩
theorem ok_spread {f fb fr : Addr} {fd fdb fdr : FuncData} (F : Fun K "spread_days" "spread_days" sSpread f fd) (T : TxtB mg fb fr) (FR : Fun K "reached_from" "reached_from" sReached fr fdr) (bR : Binds K fdr ["width", "height", "blocked", "days", "front"] [])
    (FB : Fun K "beside" "beside" sBeside fb fdb) (bB : Binds K fdb ["width", "height", "cell"] []) : FnOk P w K mg base CX0 3 f fd ["width", "height", "blocked", "grains"] (spSpread K) := by
  have GR : FnOk P w K mg base CX0 2 fr fdr ["width", "height", "blocked", "days", "front"] (spReached K) := ok_reached FR T.toTxtA FB bB
  refine F.ok scSpread (fun vs H Q E h => ?_) (fun cdv A outer s H vs Q E hr h => ?_)
  · obtain ⟨a, b, g, bl, gr, gs, rfl, _⟩ := h
    rfl
  · obtain ⟨a, b, g, bl, gr, gs, rfl, oa, hb, hg, af, sb, sg, nd, k⟩ := h
    refine ⟨_, pss_cons (ps_set (i := 4) scSpread.nd rfl (Or.inl rfl) (pe_op op_rep (pe_lst (pa_cons (pe_globI rfl T.never) pa_nil)) (pe_op op_mul (pv 0) (pv 1))))
      (pss_cons (ps_set (i := 5) scSpread.nd rfl (Or.inl rfl) (pe_callTy call_list_of rfl T.list (by decide +kernel) (pa_cons (pv 3) pa_nil)))
      (pss_cons (ps_set (i := 6) scSpread.nd rfl (Or.inl rfl) pe_int)
      (pss_cons (ps_while PassesOwn.never (pt_cmpR op_gt (pe_callB call_len_seq rfl T.len PySem.boot_len (pa_cons (pv 5) pa_nil)) pe_int (nomark _))
        (pss_cons (ps_for PassesOwn.never rfl (pi_list (pv 5)) (pg_name (i := 7) scSpread.nd rfl (Or.inl rfl)) (pss_one (ps_asg (pv 6) (pg_sub (pv 4) (pv 7) set_list))))
        (pss_cons (ps_set (i := 5) scSpread.nd rfl (Or.inl rfl) (pe_call GR hr rfl T.gR FR.kp bR .nil pass0 (pa_cons (pv 0) (pa_cons (pv 1) (pa_cons (pv 2) (pa_cons (pv 4) (pa_cons (pv 5) pa_nil)))))))
        (pss_one (ps_set (i := 6) scSpread.nd rfl (Or.inl rfl) (pe_op op_add (pv 6) pe_int))))))
      (pss_one (ps_ret (pv 4)))))), ?_⟩
    have c25 := cells_le oa
    have w5 := oa.w5
    have h5 := oa.h5
    have hwh : ((a.wide : Int) * (a.high : Int)) = ((Kh363.cells a : Nat) : Int) := by
      unfold Kh363.cells
      simp
    -- days = [NEVER] * (width * height)
    refine ⟨(by show 1 ≤ sizeLine; decide), fun l0 hl0 => ?_⟩
    refine ⟨_, rfl, _, rfl, _, _, rfl, rfl, .inl ⟨by omega, by omega⟩, l0, _, _, rfl, rfl, upd_same, by rw [hwh]; omega, by rw [hwh]; omega, ?_, fun p hp => ?_⟩
    · rw [hwh, sizeLine_eq]
      show 1 * _ ≤ _
      omega
    have s0 : Same H (upd H l0 (.lst [.int (-33)])) := Same.new (Same.refl H) hl0
    have hpH : H p = none := s0.free hp
    have s1 := Same.new (o := .lst (List.replicate ((a.wide : Int) * (a.high : Int)).toNat [V.int (-33)]).flatten) s0 hp
    -- front = list(grains)
    refine ⟨_, rfl, g, _, rfl, .inl (s1.seq hg), fun f0 hf0 => ?_⟩
    have s2 := Same.new (o := .lst (nv gr)) s1 hf0
    have npf : p ≠ f0 := ne_of_none upd_same hf0
    -- while len(front) > 0
    refine while_by (fun σ H' => ∃ (t : Nat) (fa : Addr) (v : Option V), σ = [some (.int a.wide), some (.int a.high), some (.ref b), some (.ref g), some (.ref p), some (.ref fa), some (.int t), v] ∧ t ≤ Kh363.cells a ∧ Same H H' ∧ p ≠ fa ∧
        H' p = some (.lst (iv (bfs a.wide a.high bl gr t).1)) ∧ H' fa = some (.lst (nv (bfs a.wide a.high bl gr t).2)))
      (fun (σ : L2.St) _ => match σ[6]? with
        | some (some (V.int t)) => Kh363.cells a + 1 - t.toNat
        | _ => 0) ⟨0, f0, none, rfl, Nat.zero_le _, s2, npf, ?_, upd_same⟩ ?_ ?_
    · rw [upd_ne npf, upd_same, hwh, iv_rep]
      rfl
    · rintro σ H' ⟨t, fa, v, rfl, ht, s5, npf, hp5, hf5⟩
      refine ⟨_, rfl, fa, _, rfl, .inl (SqL.of hf5), _, _, rfl, rfl, _, rfl, ?_⟩
      refine ite2 (fun q1 => ?_) (fun q1 => ?_)
      · rw [decide_eq_true_eq, nv_len] at q1
        have fne : ∃ c, c ∈ (bfs a.wide a.high bl gr t).2 := by
          cases e : (bfs a.wide a.high bl gr t).2 with
          | nil =>
            rw [e] at q1
            exact absurd q1 (by decide)
          | cons c r => exact ⟨c, by simp⟩
        obtain ⟨c0, hc0⟩ := fne
        have tl := (front_free oa af sb t hc0).2
        have fl : ∀ c ∈ (bfs a.wide a.high bl gr t).2, c < Kh363.cells a := fun c hc => (front_free oa af sb t hc).1
        have fn := front_len oa af sb nd t
        -- for cell in front: days[cell] = today
        refine ⟨_, rfl, fa, rfl, ⟨_, SqL.of hf5⟩, for_list (K := K) (a := fa) (xs := nv (bfs a.wide a.high bl gr t).2) (fun i σ H2 => ∃ v : Option V, σ = [some (.int a.wide), some (.int a.high), some (.ref b), some (.ref g), some (.ref p), some (.ref fa), some (.int t), v] ∧ But p H' H2 ∧
          H2 p = some (.lst (iv (paint ((bfs a.wide a.high bl gr t).2.take i) t (bfs a.wide a.high bl gr t).1)))) ⟨v, rfl, But.refl p H', hp5⟩ (fun i σ H2 _ ⟨_, _, b2, _⟩ => SqL.of (b2 _ _ hf5 npf.symm)) ?_ ?_⟩
        · rintro i y σ H2 hi ⟨v, rfl, b2, hp2⟩
          obtain ⟨c, hc, rfl⟩ := nv_get hi
          have cl := fl c (List.mem_of_getElem? hc)
          refine ⟨_, rfl, _, rfl, _, rfl, p, _, _, c, rfl, rfl, hp2, ?_, ?_⟩
          · rw [iv_len, paint_len, bfs_len]
            have : (c : Int) < ((a.wide * a.high : Nat) : Int) := by
              unfold Kh363.cells at cl
              omega
            unfold ixN
            rw [if_pos (by omega), if_pos this]
            simp
          · refine ⟨_, rfl, b2.upd, ?_⟩
            rw [upd_same, iv_set, paint_more hc]
        · rintro σ H2 ⟨v, rfl, b2, hp2⟩
          rw [nv_len, List.take_length] at hp2
          have s6 : Same H H2 := Same.but s5 b2 hpH
          refine ⟨_, rfl, _, rfl, _, rfl, _, rfl, _, rfl, a.wide, a.high, b, p, fa, bl, _, _, rfl, oa.w1, oa.w5, oa.h1, oa.h5, s6.seq hb, SqL.of hp2, SqL.of (b2 _ _ hf5 npf.symm), ?_, fl, by omega, fun H3 fa' s7 hfa hfa3 => ?_⟩
          · rw [paint_len, bfs_len]
          refine ⟨_, rfl, _, _, rfl, rfl, ?_⟩
          refine ⟨⟨t + 1, fa', v, rfl, tl, s6.trans s7, ne_of_none hp2 hfa, s7 _ _ hp2, hfa3⟩, ?_⟩
          show Kh363.cells a + 1 - ((t : Int) + 1).toNat < Kh363.cells a + 1 - ((t : Int)).toNat
          omega
      · rw [decide_eq_true_eq, nv_len] at q1
        have e : (bfs a.wide a.high bl gr t).2 = [] := List.eq_nil_of_length_eq_zero (by omega)
        refine ⟨_, rfl, k H' p s5 hpH ?_⟩
        rw [hp5, bfs_end oa af sb sg ht e]
    · rintro σ H1 Q1 Q2 hq ⟨v, hv, p1, ys, e, hs, i, j, e1, e2, k1, e3, q⟩
      exact ⟨v, hv, p1, ys, e, hs, i, j, e1, e2, k1, e3, hq _ _ q⟩
end
end Bed
namespace Bed
open PySem PySem.Spec PyProof.Rows L2
/-! ### max(xs, default=d) of a list of whole numbers -/
def rMaxD (K : PySem.W.Frag) : List V → List V → Hp → VK → Prop := fun vs zs H Q => ∃ (a : Addr) (ns : List Int) (d : Int), vs = [V.ref a] ∧ zs = [V.int d] ∧ SqL K H a (ns.map V.int) ∧
  (ns = [] → Q (.int d) H) ∧ ∀ m, m ∈ ns → (∀ y, y ∈ ns → y ≤ m) → Q (.int m) H
theorem foldl_maxI_ge : ∀ (l : List Int) (m : Int), m ≤ l.foldl max m ∧ ∀ x ∈ l, x ≤ l.foldl max m
  | [], m => ⟨Int.le_refl _, fun x h => by cases h⟩
  | y :: l, m => by
    rw [List.foldl_cons]
    have ih := foldl_maxI_ge l (max m y)
    refine ⟨by omega, fun x hx => ?_⟩
    rcases List.mem_cons.mp hx with rfl | hx
    · omega
    · exact ih.2 x hx
theorem foldl_maxI_mem : ∀ (l : List Int) (m : Int), l.foldl max m = m ∨ l.foldl max m ∈ l
  | [], m => .inl rfl
  | y :: l, m => by
    rw [List.foldl_cons]
    rcases foldl_maxI_mem l (max m y) with h | h
    · by_cases q : m ≤ y
      · right
        rw [h]
        have : max m y = y := by omega
        simp [this]
      · left
        rw [h]
        omega
    · right
      simp [h]
theorem alikeAll_ints (ns : List Int) : PySem.W.AlikeAll (ns.map PyData.int) := by
  refine ⟨fun x hx y hy => ?_, fun x hx => ?_⟩
  · obtain ⟨i, _, rfl⟩ := List.mem_map.mp hx
    obtain ⟨j, _, rfl⟩ := List.mem_map.mp hy
    rfl
  · obtain ⟨i, _, rfl⟩ := List.mem_map.mp hx
    intro z
    cases z
theorem cr_maxD {X : Cx} (hc : X.calm = true) (hu : X.A.units + 1 < cLine) : CallRK X (.builtin "max") [Str.ofString "default"] (rMaxD X.K) := by
  intro pins s σ H vs zs us ws Q I r rz h
  obtain ⟨a, ns, d, rfl, rfl, hs, q0, q1⟩ := h
  obtain ⟨its, rv, hl, _⟩ := I.list hs
  rw [Vals.ref1 r]
  obtain ⟨w1, rfl, e1⟩ := vals1 rz
  obtain ⟨t1, rfl⟩ : ∃ t, w1 = Value.int d t := e1
  show wpAny _ _ (call (.builtin "max") [.ref a] [(Str.ofString "default", Value.int d t1)]) _ _ _
  have hi := rv.ints
  refine PySem.W.max_list_default (xs := ns.map PyData.int) (I.ok.hd hc) hl.isList (by simpa using ints_readAll s.heap hi) (alikeAll_ints ns) (by rw [depthAll_ints]; exact hu) (fun e h' tk hk => ?_) (fun y ys i v h' tk bs e hv hr hk => ?_)
  · have : ns = [] := by simpa using e
    exact ⟨.int _, H, I.kept hk, ⟨_, rfl⟩, q0 this⟩
  · cases ns with
    | nil => cases e
    | cons n r =>
      obtain ⟨rfl, rfl⟩ := List.cons.inj e
      rw [PySem.W.maxD_ints] at hr
      obtain ⟨t, rfl⟩ : ∃ t, v = Value.int (r.foldl max n) t := by
        cases hr
        exact ⟨_, rfl⟩
      have ge := foldl_maxI_ge r n
      refine ⟨.int _, H, I.kept hk, ⟨_, rfl⟩, q1 _ ?_ ?_⟩
      · rcases foldl_maxI_mem r n with z | z
        · rw [z]; simp
        · simp [z]
      · intro y hy
        rcases List.mem_cons.mp hy with rfl | hy
        · exact ge.1
        · exact ge.2 y hy
end Bed
namespace Bed
open PySem PySem.Spec PyProof.Rows L2
/-! ### a filtered range, one more -/
theorem range_more {p : Nat → Bool} (i : Nat) : (List.range (i + 1)).filter p = (List.range i).filter p ++ (if p i = true then [i] else []) := by
  rw [List.range_succ, List.filter_append]
  congr 1
  by_cases h : p i = true
  · simp [h]
  · simp [h]
theorem filter_range_len (p : Nat → Bool) (n : Nat) : ((List.range n).filter p).length ≤ n := by
  have := List.length_filter_le p (List.range n)
  simpa using this
/-! ### day_of_all -/
abbrev sAll : Stmt := top 5
def spAll (K : PySem.W.Frag) : Sp := fun vs H Q _ => ∃ (d b : Addr) (days : List Int) (bl : List Nat), vs = [.ref d, .ref b] ∧ SqL K H d (iv days) ∧ SqL K H b (nv bl) ∧ days.length ≤ 25 ∧
  ∀ H' z, IsAll days bl z → Same H H' → Q (.int z) H'
structure TxtC (mg : Str → Option Value) : Prop where
  never : MgInt mg "NEVER" (-33)
  len : mg "len" = none
  range : mg "range" = none
  max : mg "max" = none
section
variable {P : Program} {w : World} {K : PySem.W.Frag} {mg : Str → Option Value} {base : Heap}
theorem scAll : FnScope ["days", "blocked", "free_days", "cell"] ["days", "blocked"] (defScope sAll) := ⟨rfl, rfl, rfl, by decide +kernel, rfl, by decide +kernel, by decide +kernel⟩
theorem ok_all {f : Addr} {fd : FuncData} (F : Fun K "day_of_all" "day_of_all" sAll f fd) (T : TxtC mg) : FnOk P w K mg base CX0 1 f fd ["days", "blocked"] (spAll K) := by
  refine F.ok scAll (fun vs H Q E h => ?_) (fun cdv A outer s H vs Q E hr h => ?_)
  · obtain ⟨d, b, days, bl, rfl, _⟩ := h
    rfl
  · obtain ⟨d, b, days, bl, rfl, hd, hb, dl, k⟩ := h
    refine ⟨_, pss_cons (ps_setLc (i := 2) (own := [("cell", 3)]) (g := gName 3) (tt := tTest (tOp (rIn K true) (tVar 3) (tVar 1))) (te := tOp (rIxL K) (tVar 0) (tVar 3)) rfl scAll.nd rfl rfl (sw_true rfl rfl rfl (by decide +kernel)) (pi_range1 rfl T.range (pa_cons (pe_callB call_len_seq rfl T.len PySem.boot_len (pa_cons (pv 0) pa_nil)) pa_nil))
        (blkOk_by (N := ["days", "blocked", "free_days", "cell"]) (sc := defScope sAll) (by decide +kernel)) (fun _ _ _ _ _ => pg_name (i := 3) scAll.nd rfl (Or.inl rfl)) (fun _ _ _ _ _ => pts_one (pt_cmpR op_notIn_seq (pv 3) (pv 1) rfl))
        (fun _ _ _ _ _ => pe_ix ix_list (pv 0) (pv 3) (fun _ _ => rfl)))
      (pss_cons (ps_if (pt_cmpR op_in_seq (pe_globI rfl T.never) (pv 2) rfl) (pss_one (ps_ret (pe_globI rfl T.never))) pss_nil)
      (pss_one (ps_ret (pe_callBK (cr_maxD rfl (hu_of hr)) rfl T.max (by decide +kernel) (pa_cons (pv 2) pa_nil) (pk_cons pe_int pk_nil))))), ?_⟩
    refine ⟨_, rfl, d, _, rfl, .inl hd, _, rfl, by rw [iv_len]; omega, by rw [iv_len]; omega, fun D hD => ?_⟩
    refine lc_range (lo := 0) (n := ((iv days).length : Int).toNat) (fun i H' => Same H H' ∧ H' D = some (.lst (iv (((List.range i).filter fun c => decide (c ∉ bl)).map fun c => days.getD c 0)))) ⟨Same.new (Same.refl H) hD, upd_same⟩ ?_ ?_
    · rintro i H' hi ⟨s5, hD5⟩
      rw [Int.toNat_natCast, iv_len] at hi
      have hi2 : (0 : Int) + (i : Int) = (i : Int) := by omega
      refine ⟨rfl, _, rfl, _, rfl, b, _, rfl, .inl (s5.seq hb), rfl, nv_flat _, _, rfl, ?_⟩
      have hfl := filter_range_len (fun c => decide (c ∉ bl)) i
      refine ite2 (fun q1 => ?_) (fun q1 => ?_)
      · refine ⟨_, rfl, _, rfl, d, _, _, _, rfl, rfl, s5.seq hd, (by rw [hi2]; exact iv_at hi), _, hD5, ?_, ?_⟩
        · rw [iv_len, List.length_map, sizeLine_eq]
          omega
        · refine ⟨Same.upd s5 hD, ?_⟩
          rw [hi2] at q1
          rw [upd_same, range_more, if_pos (by simpa [inV_nv] using q1), List.map_append]
          unfold iv
          rw [List.map_append]
          rfl
      · refine ⟨s5, ?_⟩
        rw [hi2] at q1
        rw [range_more, if_neg (by simpa [inV_nv] using q1), List.append_nil]
        exact hD5
    · rintro H' ⟨s5, hD5⟩
      have e : (((List.range (((iv days).length : Int).toNat)).filter fun c => decide (c ∉ bl)).map fun c => days.getD c 0) = freeDays days bl := by
        rw [Int.toNat_natCast, iv_len]
        rfl
      rw [e] at hD5
      refine ⟨_, rfl, D, _, rfl, .inl (SqL.of hD5), rfl, iv_flat _, _, rfl, ?_⟩
      refine ite2 (fun q1 => ?_) (fun q1 => ?_)
      · have q2 : -33 ∈ freeDays days bl := by simpa [inV_iv] using q1
        exact k _ _ (.inl ⟨q2, rfl⟩) s5
      · have q2 : ¬ -33 ∈ freeDays days bl := by simpa [inV_iv] using q1
        refine ⟨_, rfl, D, freeDays days bl, 0, rfl, rfl, SqL.of hD5, fun z => k _ _ (.inr ⟨q2, .inl ⟨z, rfl⟩⟩) s5, fun m h1 h2 => k _ _ (.inr ⟨q2, .inr ⟨h1, h2⟩⟩) s5⟩
end
end Bed
namespace Bed
open PySem PySem.Spec PyProof.Rows L2
theorem filter_one {p : Nat → Bool} {x : Nat} (h : p x = true) : [x].filter p = [x] := by simp [h]
theorem filter_not {p : Nat → Bool} {x : Nat} (h : ¬ p x = true) : [x].filter p = [] := by simp [h]
section
variable {P : Program} {w : World} {K : PySem.W.Frag} {mg : Str → Option Value} {base : Heap}
/-! ### free_cells -/
abbrev sFree : Stmt := top 6
def spFree (K : PySem.W.Frag) : Sp := fun vs H Q _ => ∃ (a : Kh363.Abs) (b : Addr) (bl : List Nat), vs = [.int a.wide, .int a.high, .ref b] ∧ Ok a ∧ SqL K H b (nv bl) ∧ SameCells bl a.blocked ∧
  ∀ H' r, Same H H' → H r = none → H' r = some (.lst (nv (Kh363.free a))) → Q (.ref r) H'
theorem scFree : FnScope ["width", "height", "blocked", "cell"] ["width", "height", "blocked"] (defScope sFree) := ⟨rfl, rfl, rfl, by decide +kernel, rfl, by decide +kernel, by decide +kernel⟩
theorem ok_free {f : Addr} {fd : FuncData} (F : Fun K "free_cells" "free_cells" sFree f fd) (T : TxtC mg) : FnOk P w K mg base CX0 1 f fd ["width", "height", "blocked"] (spFree K) := by
  refine F.ok scFree (fun vs H Q E h => ?_) (fun cdv A outer s H vs Q E hr h => ?_)
  · obtain ⟨a, b, bl, rfl, _⟩ := h
    rfl
  · obtain ⟨a, b, bl, rfl, oa, hb, sb, k⟩ := h
    refine ⟨_, pss_one (ps_ret (pe_lc (own := [("cell", 3)]) (g := gName 3) (tt := tTest (tOp (rIn K true) (tVar 3) (tVar 2))) (te := tVar 3) rfl scFree.nd (pi_range1 rfl T.range (pa_cons (pe_op op_mul (pv 0) (pv 1)) pa_nil)) (blkOk_by (N := ["width", "height", "blocked", "cell"]) (sc := defScope sFree) (by decide +kernel))
      (fun _ _ _ _ _ => pg_name (i := 3) scFree.nd rfl (Or.inl rfl)) (fun _ _ _ _ _ => pts_one (pt_cmpR op_notIn_seq (pv 3) (pv 2) rfl)) (fun _ _ _ _ _ => pv 3))), ?_⟩
    have c25 := cells_le oa
    have w5 := oa.w5
    have hwh : ((a.wide : Int) * (a.high : Int)) = ((Kh363.cells a : Nat) : Int) := by
      unfold Kh363.cells
      simp
    refine ⟨_, rfl, _, rfl, _, _, rfl, rfl, .inl ⟨by omega, by omega⟩, _, rfl, by rw [hwh]; omega, by rw [hwh]; omega, fun D hD => ?_⟩
    refine lc_range (lo := 0) (n := ((a.wide : Int) * (a.high : Int)).toNat) (fun i H' => Same H H' ∧ H' D = some (.lst (nv ((List.range i).filter fun c => decide (c ∉ bl))))) ⟨Same.new (Same.refl H) hD, upd_same⟩ ?_ ?_
    · rintro i H' hi ⟨s5, hD5⟩
      rw [hwh, Int.toNat_natCast] at hi
      have hi2 : (0 : Int) + (i : Int) = (i : Int) := by omega
      refine ⟨rfl, _, rfl, _, rfl, b, _, rfl, .inl (s5.seq hb), rfl, nv_flat _, _, rfl, ?_⟩
      have hfl := filter_range_len (fun c => decide (c ∉ bl)) i
      refine ite2 (fun q1 => ?_) (fun q1 => ?_)
      · refine ⟨_, rfl, _, hD5, ?_, Same.upd s5 hD, ?_⟩
        · rw [nv_len, sizeLine_eq]
          omega
        · rw [hi2] at q1
          rw [upd_same, range_more, if_pos (by simpa [inV_nv] using q1), nv_app, hi2]
          rfl
      · refine ⟨s5, ?_⟩
        rw [hi2] at q1
        rw [range_more, if_neg (by simpa [inV_nv] using q1), List.append_nil]
        exact hD5
    · rintro H' ⟨s5, hD5⟩
      rw [hwh, Int.toNat_natCast, free_eq sb] at hD5
      exact k H' D s5 hD hD5
/-! ### reached_by -/
abbrev sBy : Stmt := top 9
def spBy (K : PySem.W.Frag) : Sp := fun vs H Q _ => ∃ (a : Kh363.Abs) (g : List Nat) (d : Addr) (n : Nat), vs = [.ref d, .int n] ∧ Ok a ∧ SqL K H d (iv (daysOf a g)) ∧
  ∀ H' r, Same H H' → H r = none → H' r = some (.lst (nv (reachBy a g n))) → Q (.ref r) H'
theorem scBy : FnScope ["days", "day", "cell"] ["days", "day"] (defScope sBy) := ⟨rfl, rfl, rfl, by decide +kernel, rfl, by decide +kernel, by decide +kernel⟩
theorem ok_by {f : Addr} {fd : FuncData} (F : Fun K "reached_by" "reached_by" sBy f fd) (T : TxtC mg) : FnOk P w K mg base CX0 1 f fd ["days", "day"] (spBy K) := by
  refine F.ok scBy (fun vs H Q E h => ?_) (fun cdv A outer s H vs Q E hr h => ?_)
  · obtain ⟨a, g, d, n, rfl, _⟩ := h
    rfl
  · obtain ⟨a, g, d, c, rfl, oa, hd, k⟩ := h
    refine ⟨_, pss_one (ps_ret (pe_lc (own := [("cell", 2)]) (g := gName 2) (tt := tAnd (tTest (tOp rNe (tOp (rIxL K) (tVar 0) (tVar 2)) (tC (.int (-33))))) (tTest (tOp (rI0 fun i j => .bl (decide (i ≤ j))) (tOp (rIxL K) (tVar 0) (tVar 2)) (tVar 1)))) (te := tVar 2)
        rfl scBy.nd (pi_range1 rfl T.range (pa_cons (pe_callB call_len_seq rfl T.len PySem.boot_len (pa_cons (pv 0) pa_nil)) pa_nil)) (blkOk_by (N := ["days", "day", "cell"]) (sc := defScope sBy) (by decide +kernel))
        (fun _ _ _ _ _ => pg_name (i := 2) scBy.nd rfl (Or.inl rfl)) (fun _ _ _ _ _ => pts_one (PW.pt (pw_and (pt_cmpR op_ne (pe_ix ix_list (pv 0) (pv 2) (fun _ _ => rfl)) (pe_globI rfl T.never) (nomark _)) (pw_and1 (pt_cmpR op_le (pe_ix ix_list (pv 0) (pv 2) (fun _ _ => rfl)) (pv 1) (nomark _)))))) (fun _ _ _ _ _ => pv 2))), ?_⟩
    have c25 := cells_le oa
    have dl : (iv (daysOf a g)).length ≤ 25 := by rw [iv_len, daysOf_len]; exact c25
    refine ⟨_, rfl, d, _, rfl, .inl hd, _, rfl, by omega, by omega, fun L hL => ?_⟩
    have eR := reachBy_days (a := a) (g := g) c
    generalize hdays : daysOf a g = days at *
    refine lc_range (lo := 0) (n := ((iv days).length : Int).toNat) (fun i H' => Same H H' ∧ H' L = some (.lst (nv ((List.range i).filter fun x => decide (days.getD x 0 ≠ -33) && decide (days.getD x 0 ≤ (c : Int)))))) ⟨Same.new (Same.refl H) hL, upd_same⟩ ?_ ?_
    · rintro i H' hi ⟨s5, hL5⟩
      rw [Int.toNat_natCast, iv_len] at hi
      rw [iv_len] at dl
      have hi2 : (0 : Int) + (i : Int) = (i : Int) := by omega
      have hfl := filter_range_len (fun x => decide (days.getD x 0 ≠ -33) && decide (days.getD x 0 ≤ (c : Int))) i
      have no : ¬ (decide (days.getD i 0 ≠ -33) && decide (days.getD i 0 ≤ (c : Int))) = true → Same H H' ∧ H' L = some (.lst (nv ((List.range (i + 1)).filter fun x => decide (days.getD x 0 ≠ -33) && decide (days.getD x 0 ≤ (c : Int))))) := fun z => by
        refine ⟨s5, ?_⟩
        rw [range_more, if_neg z, List.append_nil]
        exact hL5
      refine ⟨rfl, _, rfl, _, rfl, d, _, _, _, rfl, rfl, s5.seq hd, (by rw [hi2]; exact iv_at hi), rfl, _, rfl, ?_⟩
      refine ite2 (fun q1 => ?_) (fun q1 => iteF (no fun z => q1 ?_))
      · refine ⟨_, rfl, _, rfl, d, _, _, _, rfl, rfl, s5.seq hd, (by rw [hi2]; exact iv_at hi), _, rfl, _, _, rfl, rfl, _, rfl, ?_⟩
        refine ite2 (fun q2 => ?_) (fun q2 => no fun z => q2 ?_)
        · refine ⟨_, rfl, _, hL5, ?_, Same.upd s5 hL, ?_⟩
          · rw [nv_len, sizeLine_eq]
            omega
          · rw [upd_same, range_more, if_pos, nv_app, hi2]
            · rfl
            · simp at q1 q2
              simp
              exact ⟨q1, q2⟩
        · simp at z
          simp
          exact z.2
      · simp at z
        simp
        exact z.1
    · rintro H' ⟨s5, hL5⟩
      rw [Int.toNat_natCast, iv_len, eR] at hL5
      exact k H' L s5 hL hL5
/-! ### cell_before -/
abbrev sBefore : Stmt := top 7
def spBefore (K : PySem.W.Frag) : Sp := fun vs H Q _ => ∃ (a : Kh363.Abs) (g : List Nat) (d : Addr) (c n : Nat), vs = [.int a.wide, .int a.high, .ref d, .int c] ∧ Ok a ∧ SqL K H d (iv (daysOf a g)) ∧ (Kh363.mapBy a g).getD c none = some (n + 1) ∧
  ∀ H' e, Same H H' → (Kh363.mapBy a g).getD e none = some n → Kh363.wayBack a (Kh363.mapBy a g) (n + 1) c = c :: Kh363.wayBack a (Kh363.mapBy a g) n e → Q (.int (e : Nat)) H'
theorem scBefore : FnScope ["width", "height", "days", "cell", "earlier", "other"] ["width", "height", "days", "cell"] (defScope sBefore) := ⟨rfl, rfl, rfl, by decide +kernel, rfl, by decide +kernel, by decide +kernel⟩
theorem ok_before {f fb : Addr} {fd fdb : FuncData} (F : Fun K "cell_before" "cell_before" sBefore f fd) (gB : mg "beside" = some (.ref fb)) (FB : Fun K "beside" "beside" sBeside fb fdb) (bB : Binds K fdb ["width", "height", "cell"] []) : FnOk P w K mg base CX0 2 f fd ["width", "height", "days", "cell"] (spBefore K) := by
  have GB : FnOk P w K mg base CX0 1 fb fdb ["width", "height", "cell"] spBeside := ok_beside FB
  refine F.ok scBefore (fun vs H Q E h => ?_) (fun cdv A outer s H vs Q E hr h => ?_)
  · obtain ⟨a, g, d, c, n, rfl, _⟩ := h
    rfl
  · obtain ⟨a, g, d, c, n, rfl, oa, hd, hc, k⟩ := h
    refine ⟨_, pss_cons (ps_setLc (i := 4) (own := [("other", 5)]) (g := gName 5) (tt := tTest (tOp rEq (tOp (rIxL K) (tVar 2) (tVar 5)) (tOp (rI0 fun i j => .int (i - j)) (tOp (rIxL K) (tVar 2) (tVar 3)) (tC (.int 1))))) (te := tVar 5) rfl scBefore.nd rfl rfl (sw_true rfl rfl rfl (by decide +kernel))
        (pi_list (pe_call GB hr rfl gB FB.kp bB .nil pass0 (pa_cons (pv 0) (pa_cons (pv 1) (pa_cons (pv 3) pa_nil)))))
        (blkOk_by (N := ["width", "height", "days", "cell", "earlier", "other"]) (sc := defScope sBefore) (by decide +kernel)) (fun _ _ _ _ _ => pg_name (i := 5) scBefore.nd rfl (Or.inl rfl))
        (fun _ _ _ _ _ => pts_one (pt_cmpR op_eq (pe_ix ix_list (pv 2) (pv 5) (fun _ _ => rfl)) (pe_op op_sub (pe_ix ix_list (pv 2) (pv 3) (fun _ _ => rfl)) pe_int) (nomark _))) (fun _ _ _ _ _ => pv 5))
      (pss_one (ps_ret (pe_ix ix_list (pv 4) pe_int (fun _ _ => rfl)))), ?_⟩
    have hcl : c < Kh363.cells a := isFree_lt (lab_free a g _ _ _ hc).1
    have c25 := cells_le oa
    refine ⟨_, rfl, _, rfl, _, rfl, a.wide, a.high, c, rfl, oa.w1, oa.w5, oa.h1, oa.h5, fun H1 q s1 hq hq1 => ?_⟩
    refine ⟨q, rfl, ⟨_, SqL.of hq1⟩, fun D hD => ?_⟩
    obtain ⟨e, r, ef, he, hel, ew⟩ := back_first oa hc
    have dl : (daysOf a g).length = Kh363.cells a := daysOf_len a g
    generalize hdays : daysOf a g = days at *
    refine lc_list (K := K) (a := q) (xs := nv (nb a.wide a.high c)) (fun i H' => Same H1 H' ∧ H' D = some (.lst (nv (((nb a.wide a.high c).take i).filter fun x => decide (days.getD x 0 = days.getD c 0 - 1))))) ⟨Same.new (Same.refl H1) hD, upd_same⟩ (fun i H' _ ⟨s5, _⟩ => SqL.of (s5 _ _ hq1)) ?_ ?_
    · rintro i y H' hi ⟨s5, hD5⟩
      obtain ⟨x, hx, rfl⟩ := nv_get hi
      have hxl : x < Kh363.cells a := nb_lt oa hcl (List.mem_of_getElem? hx)
      have hfl := List.length_filter_le (fun x => decide (days.getD x 0 = days.getD c 0 - 1)) ((nb a.wide a.high c).take i)
      have nbl := nb_len a.wide a.high c
      rw [List.length_take] at hfl
      have sd : SqL K H' d (iv days) := (s1.trans s5).seq hd
      refine ⟨rfl, _, rfl, _, rfl, d, _, _, _, rfl, rfl, sd, iv_at (by omega), _, rfl, _, rfl, d, _, _, _, rfl, rfl, sd, iv_at (by omega), _, _, rfl, rfl, rfl, _, rfl, ?_⟩
      refine ite2 (fun q1 => ?_) (fun q1 => ?_)
      · refine ⟨_, rfl, _, hD5, ?_, Same.upd s5 hD, ?_⟩
        · rw [nv_len, sizeLine_eq]
          omega
        · have q2 : decide (days.getD x 0 = days.getD c 0 - 1) = true := by simpa using q1
          rw [upd_same, take_more hx, List.filter_append, nv_app, filter_one q2]
          rfl
      · refine ⟨s5, ?_⟩
        have q2 : ¬ decide (days.getD x 0 = days.getD c 0 - 1) = true := by simpa using q1
        rw [take_more hx, List.filter_append, filter_not q2, List.append_nil]
        exact hD5
    · rintro H' ⟨s5, hD5⟩
      rw [nv_len, List.take_length, ef] at hD5
      exact ⟨_, rfl, D, _, _, _, rfl, rfl, SqL.of hD5, atI_nat (j := 0) rfl, k H' e (s1.trans s5) he ew⟩
/-! ### way_to -/
abbrev sWay : Stmt := top 8
def spWay (K : PySem.W.Frag) : Sp := fun vs H Q _ => ∃ (a : Kh363.Abs) (g : List Nat) (d : Addr) (c n : Nat), vs = [.int a.wide, .int a.high, .ref d, .int c] ∧ Ok a ∧ SqL K H d (iv (daysOf a g)) ∧ (Kh363.mapBy a g).getD c none = some n ∧
  ∀ H' r, Same H H' → H r = none → H' r = some (.lst (nv (Kh363.wayBack a (Kh363.mapBy a g) n c).reverse)) → (Kh363.wayBack a (Kh363.mapBy a g) n c).length ≤ 26 → Q (.ref r) H'
theorem scWay : FnScope ["width", "height", "days", "cell", "way"] ["width", "height", "days", "cell"] (defScope sWay) := ⟨rfl, rfl, rfl, by decide +kernel, rfl, by decide +kernel, by decide +kernel⟩
theorem ok_way {f fb : Addr} {fd fdb : FuncData} (F : Fun K "way_to" "way_to" sWay f fd) (GB : FnOk P w K mg base CX0 2 fb fdb ["width", "height", "days", "cell"] (spBefore K)) (gB : mg "cell_before" = some (.ref fb)) (FB : Fun K "cell_before" "cell_before" sBefore fb fdb) (bB : Binds K fdb ["width", "height", "days", "cell"] []) :
    FnOk P w K mg base CX0 3 f fd ["width", "height", "days", "cell"] (spWay K) := by
  refine F.ok scWay (fun vs H Q E h => ?_) (fun cdv A outer s H vs Q E hr h => ?_)
  · obtain ⟨a, g, d, c, n, rfl, _⟩ := h
    rfl
  · obtain ⟨a, g, d, c, n, rfl, oa, hd, hc, k⟩ := h
    refine ⟨_, pss_cons (ps_set (i := 4) scWay.nd rfl (Or.inl rfl) (pe_lst (pa_cons (pv 3) pa_nil)))
      (pss_cons (ps_while PassesOwn.never (pt_cmpR op_gt (pe_ix ix_list (pv 2) (pe_ix ix_list (pv 4) pe_int (fun _ _ => rfl)) (fun _ _ => rfl)) pe_int (nomark _))
        (pss_one (ps_set (i := 4) scWay.nd rfl (Or.inl rfl) (pe_op op_cat (pe_lst (pa_cons (pe_call GB hr rfl gB FB.kp bB .nil pass0 (pa_cons (pv 0) (pa_cons (pv 1) (pa_cons (pv 2) (pa_cons (pe_ix ix_list (pv 4) pe_int (fun _ _ => rfl)) pa_nil))))) pa_nil)) (pv 4)))))
      (pss_one (ps_ret (pv 4)))), ?_⟩
    have c25 := cells_le oa
    have hn : n ≤ Kh363.cells a := (lab_free a g _ _ _ hc).2
    have hlen : ∀ m h, (Kh363.mapBy a g).getD h none = some m → (Kh363.wayBack a (Kh363.mapBy a g) m h).length = m + 1 := by
      intro m
      induction m with
      | zero => intro h _; rfl
      | succ m ih =>
        intro h hh
        obtain ⟨e, r, _, he, _, ew⟩ := back_first oa hh
        rw [ew, List.length_cons, ih e he]
    refine ⟨_, rfl, (by show 1 ≤ sizeLine; decide), fun r0 hr0 => ?_⟩
    have s0 : Same H (upd H r0 (.lst [.int c])) := Same.new (Same.refl H) hr0
    refine while_by (fun σ H' => ∃ (r : Addr) (x m : Nat) (tl : List Nat), σ = [some (.int a.wide), some (.int a.high), some (.ref d), some (.int c), some (.ref r)] ∧ Same H H' ∧ H r = none ∧ H' r = some (.lst (nv (x :: tl))) ∧ (Kh363.mapBy a g).getD x none = some m ∧ tl.length + m = n ∧
        (Kh363.wayBack a (Kh363.mapBy a g) m x).reverse ++ tl = (Kh363.wayBack a (Kh363.mapBy a g) n c).reverse)
      (fun (σ : L2.St) H' => match σ[4]? with
        | some (some (V.ref r)) => (match H' r with
          | some (.lst xs) => n + 1 - xs.length
          | _ => 0)
        | _ => 0) ⟨r0, c, n, [], rfl, s0, hr0, upd_same, hc, by simp, by simp⟩ ?_ ?_
    · rintro σ H' ⟨r, x, m, tl, rfl, s5, hrH, hr5, hx, hm, hw⟩
      have xl : x < Kh363.cells a := isFree_lt (lab_free a g _ _ _ hx).1
      have ed : (daysOf a g).getD x 0 = (m : Int) := by rw [daysOf_get xl, hx]; rfl
      refine ⟨_, rfl, _, rfl, r, _, _, _, rfl, rfl, SqL.of hr5, atI_nat (j := 0) rfl, d, _, _, _, rfl, rfl, s5.seq hd, iv_at (by rw [daysOf_len]; exact xl), _, _, rfl, rfl, _, rfl, ?_⟩
      refine ite2 (fun q1 => ?_) (fun q1 => ?_)
      · rw [decide_eq_true_eq, ed] at q1
        obtain ⟨m', rfl⟩ : ∃ m', m = m' + 1 := ⟨m - 1, by omega⟩
        refine ⟨_, rfl, _, rfl, _, rfl, _, rfl, r, _, _, _, rfl, rfl, SqL.of hr5, atI_nat (j := 0) rfl, ?_⟩
        refine ⟨a, g, d, x, m', rfl, oa, s5.seq hd, hx, fun H1 e s6 he ew => ?_⟩
        refine ⟨(by show 1 ≤ sizeLine; decide), fun q hq => ?_⟩
        have s7 : Same H1 (upd H1 q (.lst [.int e])) := Same.new (Same.refl H1) hq
        refine ⟨_, rfl, q, r, _, _, rfl, rfl, upd_same, s7 _ _ (s6 _ _ hr5), ?_, fun r2 hr2 => ?_⟩
        · rw [nv_len, sizeLine_eq]
          show 1 + (tl.length + 1) ≤ _
          omega
        · have s8 := Same.new (o := .lst ([V.int (e : Nat)] ++ nv (x :: tl))) s7 hr2
          refine ⟨⟨r2, e, m', x :: tl, rfl, (s5.trans s6).trans s8, (s5.trans s6).free (s7.free hr2), upd_same, he, by rw [List.length_cons]; omega, ?_⟩, ?_⟩
          · rw [← hw, ew, List.reverse_cons, List.append_assoc]
            rfl
          · show (match upd (upd H1 q (.lst [.int e])) r2 (.lst ([V.int (e : Nat)] ++ nv (x :: tl))) r2 with
              | some (.lst xs) => n + 1 - xs.length
              | _ => 0) < (match H' r with
              | some (.lst xs) => n + 1 - xs.length
              | _ => 0)
            rw [upd_same, hr5]
            show n + 1 - ([V.int (e : Nat)] ++ nv (x :: tl)).length < n + 1 - (nv (x :: tl)).length
            rw [List.length_append, nv_len, List.length_cons, List.length_cons, List.length_nil]
            omega
      · rw [decide_eq_true_eq, ed] at q1
        have m0 : m = 0 := by omega
        subst m0
        refine ⟨_, rfl, k H' r s5 hrH ?_ ?_⟩
        · rw [hr5, ← hw]
          rfl
        · rw [hlen n c hc]
          omega
    · rintro σ H1 Q1 Q2 hq ⟨v, hv, v', hv', p1, xs, i, y, e1, e2, h1, h2, p2, xs', i', y', e1', e2', h1', h2', i3, j3, z1, z2, k1, e3, q⟩
      exact ⟨v, hv, v', hv', p1, xs, i, y, e1, e2, h1, h2, p2, xs', i', y', e1', e2', h1', h2', i3, j3, z1, z2, k1, e3, hq _ _ q⟩
end
end Bed
namespace Bed
open PySem PySem.Spec PyProof.Rows L2
theorem free_one {a : Kh363.Abs} {c : Nat} (h : c ∈ Kh363.free a) : AllFree a [c] := fun x hx => by
  have : x = c := by simpa using hx
  subst this
  exact free_mem.mp h
theorem free_len {a : Kh363.Abs} : (Kh363.free a).length ≤ Kh363.cells a := filter_range_len _ _
section
variable {P : Program} {w : World} {K : PySem.W.Frag} {mg : Str → Option Value} {base : Heap}
/-! ### area_sizes -/
abbrev sAreas : Stmt := top 10
def spAreas (K : PySem.W.Frag) : Sp := fun vs H Q _ => ∃ (a : Kh363.Abs) (b : Addr) (bl : List Nat), vs = [.int a.wide, .int a.high, .ref b] ∧ Ok a ∧ SqL K H b (nv bl) ∧ SameCells bl a.blocked ∧
  ∀ H' r, Same H H' → H r = none → H' r = some (.lst (nv ((Kh363.areas a).map (Kh363.sizeOf a)))) → Q (.ref r) H'
theorem scAreas : FnScope ["width", "height", "blocked", "sizes", "known", "cell", "area"] ["width", "height", "blocked"] (defScope sAreas) := ⟨rfl, rfl, rfl, by decide +kernel, rfl, by decide +kernel, by decide +kernel⟩
theorem ok_areas {f ff fs fy : Addr} {fd fdf fds fdy : FuncData} (F : Fun K "area_sizes" "area_sizes" sAreas f fd) (T : TxtC mg)
    (FF : Fun K "free_cells" "free_cells" sFree ff fdf) (bF : Binds K fdf ["width", "height", "blocked"] []) (mF : mg "free_cells" = some (.ref ff))
    (FS : Fun K "spread_days" "spread_days" sSpread fs fds) (GS : FnOk P w K mg base CX0 3 fs fds ["width", "height", "blocked", "grains"] (spSpread K)) (bS : Binds K fds ["width", "height", "blocked", "grains"] []) (mS : mg "spread_days" = some (.ref fs))
    (FY : Fun K "reached_by" "reached_by" sBy fy fdy) (bY : Binds K fdy ["days", "day"] []) (mY : mg "reached_by" = some (.ref fy)) : FnOk P w K mg base CX0 4 f fd ["width", "height", "blocked"] (spAreas K) := by
  have GF : FnOk P w K mg base CX0 1 ff fdf ["width", "height", "blocked"] (spFree K) := ok_free FF T
  have GY : FnOk P w K mg base CX0 1 fy fdy ["days", "day"] (spBy K) := ok_by FY T
  refine F.ok scAreas (fun vs H Q E h => ?_) (fun cdv A outer s H vs Q E hr h => ?_)
  · obtain ⟨a, b, bl, rfl, _⟩ := h
    rfl
  · obtain ⟨a, b, bl, rfl, oa, hb, sb, k⟩ := h
    have hr1 : Room 1 _ := hr.mono (by decide)
    refine ⟨_, pss_cons (ps_set (i := 3) scAreas.nd rfl (Or.inl rfl) (pe_lst pa_nil))
      (pss_cons (ps_set (i := 4) scAreas.nd rfl (Or.inl rfl) (pe_lst pa_nil))
      (pss_cons (ps_for PassesOwn.never rfl (pi_list (pe_call GF hr1 rfl mF FF.kp bF .nil pass0 (pa_cons (pv 0) (pa_cons (pv 1) (pa_cons (pv 2) pa_nil))))) (pg_name (i := 5) scAreas.nd rfl (Or.inl rfl))
        (pss_one (ps_if (pt_cmpR op_notIn_seq (pv 5) (pv 4) rfl)
          (pss_cons (ps_set (i := 6) scAreas.nd rfl (Or.inl rfl) (pe_call GY hr1 rfl mY FY.kp bY .nil pass0 (pa_cons (pe_call GS hr rfl mS FS.kp bS .nil pass0 (pa_cons (pv 0) (pa_cons (pv 1) (pa_cons (pv 2) (pa_cons (pe_lst (pa_cons (pv 5) pa_nil)) pa_nil))))) (pa_cons (pe_op op_mul (pv 0) (pv 1)) pa_nil))))
          (pss_cons (ps_set (i := 4) scAreas.nd rfl (Or.inl rfl) (pe_op op_cat (pv 4) (pv 6)))
          (pss_one (ps_expr (pe_bm PySem.F.plainAttrs_list PySem.F.slot_list_append PySem.F.type_list_append mt_append (pv 3) (pa_cons (pe_callB call_len_seq rfl T.len PySem.boot_len (pa_cons (pv 6) pa_nil)) pa_nil)))))) pss_nil)))
      (pss_one (ps_ret (pv 3))))), ?_⟩
    have c25 := cells_le oa
    have w5 := oa.w5
    have hwh : ((a.wide : Int) * (a.high : Int)) = ((Kh363.cells a : Nat) : Int) := by
      unfold Kh363.cells
      simp
    have fl := free_len (a := a)
    refine ⟨Nat.zero_le _, fun sz hsz => ?_⟩
    have s1 : Same H (upd H sz (.lst [])) := Same.new (Same.refl H) hsz
    refine ⟨Nat.zero_le _, fun kn hkn => ?_⟩
    have nsk : sz ≠ kn := ne_of_none upd_same hkn
    have s2 := Same.new (o := .lst []) s1 hkn
    refine ⟨_, rfl, _, rfl, _, rfl, a, b, bl, rfl, oa, s2.seq hb, sb, fun H1 q s3 hq hq1 => ?_⟩
    have nqs : q ≠ sz := fun z => by
      rw [z, upd_ne nsk, upd_same] at hq
      cases hq
    refine ⟨q, rfl, ⟨_, SqL.of hq1⟩, for_list (K := K) (a := q) (xs := nv (Kh363.free a)) (fun i σ H' => ∃ (v1 v2 : Option V) (kn : Addr) (known : List Nat), σ = [some (.int a.wide), some (.int a.high), some (.ref b), some (.ref sz), some (.ref kn), v1, v2] ∧ But sz H1 H' ∧ sz ≠ kn ∧
        H' sz = some (.lst (nv ((((Kh363.free a).take i).filter (leastOf a)).map (Kh363.sizeOf a)))) ∧ H' kn = some (.lst (nv known)) ∧ known.length ≤ 25 * i ∧ ∀ e, e ∈ known ↔ ∃ f ∈ (Kh363.free a).take i, Conn a f e)
      ⟨none, none, kn, [], rfl, But.refl sz H1, nsk, s3 _ _ (by rw [upd_ne nsk]; exact upd_same), s3 _ _ upd_same, Nat.zero_le _, by simp⟩ (fun i σ H' _ ⟨_, _, _, _, _, b5, _⟩ => SqL.of (b5 _ _ hq1 nqs)) ?_ ?_⟩
    · rintro i y σ H' hi ⟨v1, v2, kn, known, rfl, b5, nsk, hs5, hk5, kl, hk⟩
      obtain ⟨c, hc, rfl⟩ := nv_get hi
      have il : i < (Kh363.free a).length := get_lt hc
      have s5 : Same H H' := Same.but (s2.trans s3) b5 hsz
      have hcf : c ∈ Kh363.free a := List.mem_of_getElem? hc
      have ki := known_iff oa hc hk
      have kx := known_next oa hc hk
      refine ⟨_, rfl, _, rfl, kn, _, rfl, .inl (SqL.of hk5), rfl, nv_flat _, _, rfl, ?_⟩
      refine ite2 (fun q1 => ?_) (fun q1 => ?_)
      · have q2 : c ∉ known := by simpa [inV_nv] using q1
        refine ⟨_, rfl, _, rfl, _, rfl, _, rfl, (by show 1 ≤ sizeLine; decide), fun l hl => ?_⟩
        have s6 : Same H' (upd H' l (.lst [.int c])) := Same.new (Same.refl H') hl
        refine ⟨a, b, l, bl, [c], [c], rfl, oa, (s5.trans s6).seq hb, SqL.of upd_same, free_one hcf, sb, fun _ => Iff.rfl, by show 1 ≤ 25; omega, fun H2 d s7 hd hd2 => ?_⟩
        refine ⟨_, rfl, _, rfl, _, _, rfl, rfl, .inl ⟨by omega, by omega⟩, ?_⟩
        refine ⟨a, [c], d, Kh363.cells a, by rw [← hwh]; rfl, oa, SqL.of hd2, fun H3 ar s8 har har3 => ?_⟩
        have s9 : Same H' H3 := (s6.trans s7).trans s8
        have rl := reachBy_len (a := a) (g := [c]) (d := Kh363.cells a)
        refine ⟨_, rfl, _, rfl, kn, ar, _, _, rfl, rfl, s9 _ _ hk5, har3, ?_, fun k2 hk2 => ?_⟩
        · rw [nv_len, nv_len, sizeLine_eq]
          omega
        · have s10 := Same.new (o := .lst (nv known ++ nv (reachBy a [c] (Kh363.cells a)))) s9 hk2
          have hs10 := s10 _ _ hs5
          have nar : ar ≠ k2 := ne_of_none har3 hk2
          have lfl : (((Kh363.free a).take i).filter (leastOf a)).length ≤ i := by
            refine Nat.le_trans (List.length_filter_le _ _) ?_
            rw [List.length_take]
            omega
          refine ⟨_, rfl, .inl ⟨rfl, _, SqL.of hs10⟩, _, rfl, ar, _, rfl, .inl (SqL.of (by rw [upd_ne nar]; exact har3)), sz, _, _, rfl, rfl, hs10, ?_, ?_⟩
          · rw [nv_len, List.length_map, sizeLine_eq]
            omega
          · refine ⟨_, _, k2, known ++ reachBy a [c] (Kh363.cells a), rfl, (b5.trans (But.of_same s10)).upd, ?_, ?_, ?_, ?_, kx.1⟩
            · rintro rfl
              have := s9 _ _ hs5
              rw [hk2] at this
              cases this
            · rw [upd_same, take_more hc, List.filter_append, filter_one (ki.mp q2), List.map_append, nv_app, nv_len]
              show _ = some (HO.lst (_ ++ [V.int (Kh363.sizeOf a c : Nat)]))
              rw [sizeOf_reach]
            · have nk : k2 ≠ sz := by
                rintro rfl
                have := s9 _ _ hs5
                rw [hk2] at this
                cases this
              rw [upd_ne nk, upd_same, nv_app]
            · rw [List.length_append]
              omega
      · have q2 : c ∈ known := by simpa [inV_nv] using q1
        refine ⟨_, _, kn, known, rfl, b5, nsk, ?_, hk5, by omega, kx.2 q2⟩
        rw [take_more hc, List.filter_append, filter_not (fun z => (ki.mpr z) q2), List.append_nil]
        exact hs5
    · rintro σ H' ⟨v1, v2, kn, known, rfl, b5, nsk, hs5, _⟩
      rw [nv_len, List.take_length, ← areas_filter] at hs5
      exact ⟨_, rfl, k H' sz (Same.but (s2.trans s3) b5 hsz) hsz hs5⟩
end
end Bed
namespace Bed
open PySem PySem.Spec PyProof.Rows L2
theorem bits_sum (l : List Nat) : (l.map fun c => (1 : Int) * 2 ^ ((c : Nat) : Int).toNat).sum = ((bits l : Nat) : Int) := by
  induction l with
  | nil => rfl
  | cons x r ih =>
    rw [List.map_cons, List.sum_cons, ih]
    unfold bits
    rw [List.map_cons, List.sum_cons]
    simp
section
variable {P : Program} {w : World} {K : PySem.W.Frag} {mg : Str → Option Value} {base : Heap}
/-! ### bits_of -/
abbrev sBits : Stmt := top 11
def spBits (K : PySem.W.Frag) : Sp := fun vs H Q _ => ∃ (l : Addr) (xs : List Nat), vs = [.ref l] ∧ SqL K H l (nv xs) ∧ xs.length ≤ 1000 ∧ (∀ x ∈ xs, x ≤ 1000) ∧ ∀ H', Same H H' → Q (.int (bits xs : Nat)) H'
theorem scBits : FnScope ["cells", "cell"] ["cells"] (defScope sBits) := ⟨rfl, rfl, rfl, by decide +kernel, rfl, by decide +kernel, by decide +kernel⟩
theorem ok_bits {f : Addr} {fd : FuncData} (F : Fun K "bits_of" "bits_of" sBits f fd) (sum : mg "sum" = none) : FnOk P w K mg base CX0 1 f fd ["cells"] (spBits K) := by
  refine F.ok scBits (fun vs H Q E h => ?_) (fun cdv A outer s H vs Q E hr h => ?_)
  · obtain ⟨l, xs, rfl, _⟩ := h
    rfl
  · obtain ⟨l, xs, rfl, hl, xl, xb, k⟩ := h
    refine ⟨_, pss_one (ps_ret (pe_callB (cr_sum rfl) rfl sum (by decide +kernel) (pa_cons (pe_lc (own := [("cell", 1)]) (g := gName 1) (tt := tYes) (te := tOp (rI CPow fun i j => .int (i * 2 ^ j.toNat)) (tC (.int 1)) (tVar 1)) rfl scBits.nd (pi_list (pv 0)) (blkOk_by (N := ["cells", "cell"]) (sc := defScope sBits) (by decide +kernel))
      (fun _ _ _ _ _ => pg_name (i := 1) scBits.nd rfl (Or.inl rfl)) (fun _ _ _ _ _ => pts_nil) (fun _ _ _ _ _ => pe_op op_shl pe_int (pv 1))) pa_nil))), ?_⟩
    refine ⟨_, rfl, l, rfl, ⟨_, hl⟩, fun D hD => ?_⟩
    refine lc_list (K := K) (a := l) (xs := nv xs) (fun i H' => Same H H' ∧ H' D = some (.lst (iv ((xs.take i).map fun c => (1 : Int) * 2 ^ ((c : Nat) : Int).toNat)))) ⟨Same.new (Same.refl H) hD, upd_same⟩ (fun i H' _ ⟨s5, _⟩ => s5.seq hl) ?_ ?_
    · rintro i y H' hi ⟨s5, hD5⟩
      obtain ⟨x, hx, rfl⟩ := nv_get hi
      have il := get_lt hx
      have xx := xb x (List.mem_of_getElem? hx)
      refine ⟨rfl, ?_⟩
      unfold tYes
      dsimp only
      rw [if_pos rfl]
      refine ⟨_, rfl, _, _, rfl, rfl, ⟨by omega, by omega, by decide⟩, _, hD5, ?_, Same.upd s5 hD, ?_⟩
      · rw [iv_len, List.length_map, List.length_take, sizeLine_eq]
        omega
      · rw [upd_same, take_more hx, List.map_append]
        unfold iv
        rw [List.map_append]
        rfl
    · rintro H' ⟨s5, hD5⟩
      rw [nv_len, List.take_length] at hD5
      refine ⟨D, _, rfl, SqL.of hD5, ?_⟩
      rw [bits_sum]
      exact k H' s5
/-! ### lists of lists -/
def Rows (H : Hp) (z : Addr) : List Addr → List (List Nat) → Prop
  | [], [] => True
  | p :: ps, l :: ls => (H p = some (.lst (nv l)) ∧ p ≠ z) ∧ Rows H z ps ls
  | _, _ => False
theorem Rows.len {H : Hp} {z : Addr} : ∀ {ps : List Addr} {ls : List (List Nat)}, Rows H z ps ls → ps.length = ls.length
  | [], [], _ => rfl
  | _ :: _, _ :: _, ⟨_, h⟩ => congrArg (· + 1) h.len
theorem Rows.at {H : Hp} {z : Addr} : ∀ {ps : List Addr} {ls : List (List Nat)}, Rows H z ps ls → ∀ {i : Nat} {p : Addr}, ps[i]? = some p → ∃ l, ls[i]? = some l ∧ H p = some (.lst (nv l)) ∧ p ≠ z
  | [], [], _, i, p, h => by simp at h
  | q :: ps, l :: ls, ⟨⟨h1, h2⟩, h⟩, 0, p, e => by
    have : q = p := by simpa using e
    subst this
    exact ⟨l, rfl, h1, h2⟩
  | q :: ps, l :: ls, ⟨_, h⟩, i + 1, p, e => h.at (by simpa using e)
/-- what is written at z, and what is new, leaves them -/
theorem Rows.but {H H' : Hp} {z : Addr} (b : But z H H') : ∀ {ps : List Addr} {ls : List (List Nat)}, Rows H z ps ls → Rows H' z ps ls
  | [], [], _ => trivial
  | _ :: _, _ :: _, ⟨⟨h1, h2⟩, h⟩ => ⟨⟨b _ _ h1 h2, h2⟩, h.but b⟩
theorem Rows.snoc {H : Hp} {z p : Addr} {l : List Nat} (h1 : H p = some (.lst (nv l))) (h2 : p ≠ z) : ∀ {ps : List Addr} {ls : List (List Nat)}, Rows H z ps ls → Rows H z (ps ++ [p]) (ls ++ [l])
  | [], [], _ => ⟨⟨h1, h2⟩, trivial⟩
  | _ :: _, _ :: _, ⟨h, r⟩ => ⟨h, r.snoc h1 h2⟩
theorem ref_get {ps : List Addr} {i : Nat} {y : V} (h : (ps.map V.ref)[i]? = some y) : ∃ p, ps[i]? = some p ∧ y = V.ref p := by
  rw [List.getElem?_map] at h
  cases e : ps[i]? with
  | none => rw [e] at h; cases h
  | some p => rw [e] at h; exact ⟨p, rfl, (Option.some.inj h).symm⟩
/-! ### with_one_more -/
theorem wider1_len (cs s : List Nat) : (wider1 cs s).length ≤ cs.length := by
  unfold wider1
  rw [List.length_map]
  exact List.length_filter_le _ _
theorem wider_len (cs : List Nat) : ∀ ls : List (List Nat), (wider ls cs).length ≤ ls.length * cs.length
  | [] => by simp [wider]
  | s :: ls => by
    have h1 := wider_len cs ls
    have h2 := wider1_len cs s
    unfold wider at h1 ⊢
    rw [List.flatMap_cons, List.length_append, List.length_cons, Nat.succ_mul]
    omega
theorem wider_more {ls : List (List Nat)} {i : Nat} {s : List Nat} (h : ls[i]? = some s) (cs : List Nat) : wider (ls.take (i + 1)) cs = wider (ls.take i) cs ++ wider1 cs s := by
  unfold wider
  rw [take_more h, List.flatMap_append, List.flatMap_singleton]
theorem wider1_more {cs : List Nat} {j c : Nat} (h : cs[j]? = some c) (s : List Nat) : wider1 (cs.take (j + 1)) s = wider1 (cs.take j) s ++ (if later s c = true then [s ++ [c]] else []) := by
  unfold wider1
  rw [take_more h, List.filter_append, List.map_append]
  by_cases q : later s c = true
  · rw [filter_one q, if_pos q]
    rfl
  · rw [filter_not q, if_neg q]
    rfl
abbrev sWider : Stmt := top 12
def spWider (K : PySem.W.Frag) : Sp := fun vs H Q _ => ∃ (ch cs : Addr) (ps : List Addr) (ls : List (List Nat)) (xs : List Nat), vs = [.ref ch, .ref cs] ∧ H ch = some (.lst (ps.map V.ref)) ∧ Rows H ch ps ls ∧ SqL K H cs (nv xs) ∧ ls.length ≤ 100000 ∧ xs.length ≤ 25 ∧ (∀ l ∈ ls, l.length ≤ 100) ∧
  ∀ H' r ps', Same H H' → H r = none → H' r = some (.lst (ps'.map V.ref)) → Rows H' r ps' (wider ls xs) → Q (.ref r) H'
theorem scWider : FnScope ["choices", "cells", "wider", "chosen", "cell"] ["choices", "cells"] (defScope sWider) := ⟨rfl, rfl, rfl, by decide +kernel, rfl, by decide +kernel, by decide +kernel⟩
theorem ok_wider {f : Addr} {fd : FuncData} (F : Fun K "with_one_more" "with_one_more" sWider f fd) (len : mg "len" = none) : FnOk P w K mg base CX0 1 f fd ["choices", "cells"] (spWider K) := by
  refine F.ok scWider (fun vs H Q E h => ?_) (fun cdv A outer s H vs Q E hr h => ?_)
  · obtain ⟨ch, cs, ps, ls, xs, rfl, _⟩ := h
    rfl
  · obtain ⟨ch, cs, ps, ls, xs, rfl, hch, hR, hcs, ll, xl, sl, k⟩ := h
    refine ⟨_, pss_cons (ps_set (i := 2) scWider.nd rfl (Or.inl rfl) (pe_lst pa_nil))
      (pss_cons (ps_for PassesOwn.never rfl (pi_list (pv 0)) (pg_name (i := 3) scWider.nd rfl (Or.inl rfl))
        (pss_one (ps_for PassesOwn.never rfl (pi_list (pv 1)) (pg_name (i := 4) scWider.nd rfl (Or.inl rfl))
          (pss_one (ps_if (PW.pt (pw_or (pt_cmpR op_eq (pe_callB call_len_seq rfl len PySem.boot_len (pa_cons (pv 3) pa_nil)) pe_int (nomark _)) (pw_or1 (pt_cmpR op_gt (pv 4) (pe_ix ix_list (pv 3) (pe_un un_neg pe_int) (fun _ _ => rfl)) (nomark _)))))
            (pss_one (ps_expr (pe_bm PySem.F.plainAttrs_list PySem.F.slot_list_append PySem.F.type_list_append mt_append (pv 2) (pa_cons (pe_op op_cat (pv 3) (pe_lst (pa_cons (pv 4) pa_nil))) pa_nil)))) pss_nil)))))
      (pss_one (ps_ret (pv 2)))), ?_⟩
    refine ⟨Nat.zero_le _, fun r hr0 => ?_⟩
    have s1 : Same H (upd H r (.lst [])) := Same.new (Same.refl H) hr0
    have lps := hR.len
    refine ⟨_, rfl, ch, rfl, ⟨_, s1.seq (SqL.of hch)⟩, for_list (K := K) (a := ch) (xs := ps.map V.ref) (fun i σ H' => ∃ (v1 v2 : Option V) (ps' : List Addr), σ = [some (.ref ch), some (.ref cs), some (.ref r), v1, v2] ∧ Same H H' ∧
      H' r = some (.lst (ps'.map V.ref)) ∧ Rows H' r ps' (wider (ls.take i) xs)) ⟨none, none, [], rfl, s1, upd_same, trivial⟩ (fun i σ H' _ ⟨_, _, _, _, s5, _⟩ => s5.seq (SqL.of hch)) ?_ ?_⟩
    · rintro i y σ H' hi ⟨v1, v2, ps', rfl, s5, hr5, hR5⟩
      obtain ⟨p, hp, rfl⟩ := ref_get hi
      obtain ⟨l, hl, hpl, _⟩ := hR.at hp
      have il : i < ls.length := get_lt hl
      have ll3 := sl l (List.mem_of_getElem? hl)
      have npr : p ≠ r := ne_of_none hpl hr0
      have wl := wider_len xs (ls.take i)
      refine ⟨_, rfl, cs, rfl, ⟨_, s5.seq hcs⟩, for_list (K := K) (a := cs) (xs := nv xs) (fun j σ H2 => ∃ (v2 : Option V) (ps' : List Addr), σ = [some (.ref ch), some (.ref cs), some (.ref r), some (.ref p), v2] ∧ Same H H2 ∧
        H2 r = some (.lst (ps'.map V.ref)) ∧ Rows H2 r ps' (wider (ls.take i) xs ++ wider1 (xs.take j) l)) ⟨v2, ps', rfl, s5, hr5, by rw [show wider1 (xs.take 0) l = [] from rfl, List.append_nil]; exact hR5⟩ (fun j σ H2 _ ⟨_, _, _, s6, _⟩ => s6.seq hcs) ?_ ?_⟩
      · rintro j y σ H2 hj ⟨v2, ps'', rfl, s6, hr6, hR6⟩
        obtain ⟨c, hc, rfl⟩ := nv_get hj
        have jl := get_lt hc
        have hp6 := s6 _ _ hpl
        have w1 := wider1_len (xs.take j) l
        have lps' := hR6.len
        rw [List.length_append] at lps'
        have no : ¬ later l c = true → ∃ (v2 : Option V) (ps' : List Addr), [some (V.ref ch), some (.ref cs), some (.ref r), some (.ref p), some (.int c)] = [some (V.ref ch), some (.ref cs), some (.ref r), some (.ref p), v2] ∧ Same H H2 ∧ H2 r = some (.lst (ps'.map V.ref)) ∧ Rows H2 r ps' (wider (ls.take i) xs ++ wider1 (xs.take (j + 1)) l) := fun z =>
          ⟨_, ps'', rfl, s6, hr6, by rw [wider1_more hc, if_neg z, List.append_nil]; exact hR6⟩
        have bnd : ps''.length < sizeLine := by
          rw [sizeLine_eq]
          have e1 : (ls.take i).length * xs.length ≤ 100000 * 25 := Nat.mul_le_mul (by rw [List.length_take]; omega) xl
          have e2 : (xs.take j).length ≤ 25 := by rw [List.length_take]; omega
          omega
        have key : later l c = true → ∀ q, H2 q = none → ∀ r2, (upd H2 q (.lst [.int c])) r2 = none → ∃ (v2 : Option V) (ps' : List Addr), [some (V.ref ch), some (.ref cs), some (.ref r), some (.ref p), some (.int c)] = [some (V.ref ch), some (.ref cs), some (.ref r), some (.ref p), v2] ∧ Same H (upd (upd (upd H2 q (.lst [.int c])) r2 (.lst (nv l ++ [.int c]))) r (.lst (ps''.map V.ref ++ [.ref r2]))) ∧
            (upd (upd (upd H2 q (.lst [.int c])) r2 (.lst (nv l ++ [.int c]))) r (.lst (ps''.map V.ref ++ [.ref r2]))) r = some (.lst (ps'.map V.ref)) ∧ Rows (upd (upd (upd H2 q (.lst [.int c])) r2 (.lst (nv l ++ [.int c]))) r (.lst (ps''.map V.ref ++ [.ref r2]))) r ps' (wider (ls.take i) xs ++ wider1 (xs.take (j + 1)) l) := fun z q hq r2 hr2 => by
          have s7 : Same H2 (upd H2 q (.lst [.int c])) := Same.new (Same.refl H2) hq
          have s8 := Same.new (o := .lst (nv l ++ [.int c])) s7 hr2
          have n2 : r2 ≠ r := fun e => by
            rw [e, s7 _ _ hr6] at hr2
            cases hr2
          refine ⟨_, ps'' ++ [r2], rfl, Same.upd (s6.trans s8) hr0, ?_, ?_⟩
          · rw [upd_same, List.map_append]
            rfl
          · rw [wider1_more hc, if_pos z, ← List.append_assoc]
            refine Rows.snoc ?_ n2 (hR6.but (But.of_same s8).upd)
            rw [upd_ne n2, upd_same, nv_app]
            rfl
        have catB : (nv l).length + [V.int (c : Int)].length ≤ sizeLine := by
          rw [nv_len, sizeLine_eq]
          show _ + 1 ≤ _
          omega
        refine ⟨_, rfl, p, _, rfl, .inl (SqL.of hp6), rfl, _, rfl, ?_⟩
        by_cases ql : l = []
        · subst ql
          refine if_true_of rfl (iteT ?_)
          refine ⟨_, rfl, .inl ⟨rfl, _, SqL.of hr6⟩, _, rfl, _, rfl, (by show 1 ≤ sizeLine; decide), fun q hq => ?_⟩
          have s7 : Same H2 (upd H2 q (.lst [.int c])) := Same.new (Same.refl H2) hq
          refine ⟨p, q, _, _, rfl, rfl, s7 _ _ hp6, upd_same, catB, fun r2 hr2 => ?_⟩
          have s8 := Same.new (o := .lst (nv [] ++ [.int c])) s7 hr2
          refine ⟨r, _, _, rfl, rfl, s8 _ _ hr6, by rw [List.length_map]; exact bnd, ?_⟩
          exact key rfl q hq r2 hr2
        · obtain ⟨l0, x0, rfl⟩ : ∃ l0 x0, l = l0 ++ [x0] := ⟨l.dropLast, l.getLast ql, (List.dropLast_concat_getLast ql).symm⟩
          refine if_false_of (decide_eq_false fun z => by injection z with z; rw [nv_len] at z; simp at z; omega) ?_
          refine ⟨_, rfl, _, rfl, _, rfl, p, _, _, _, rfl, rfl, SqL.of hp6, (by rw [nv_app]; exact atI_last _ _), _, _, rfl, rfl, _, rfl, ?_⟩
          have el : later (l0 ++ [x0]) c = decide (x0 < c) := by
            unfold later
            rw [List.getLast?_concat]
          refine ite2 (fun q1 => ?_) (fun q1 => no fun z => q1 ?_)
          · refine ⟨_, rfl, .inl ⟨rfl, _, SqL.of hr6⟩, _, rfl, _, rfl, (by show 1 ≤ sizeLine; decide), fun q hq => ?_⟩
            have s7 : Same H2 (upd H2 q (.lst [.int c])) := Same.new (Same.refl H2) hq
            refine ⟨p, q, _, _, rfl, rfl, s7 _ _ hp6, upd_same, catB, fun r2 hr2 => ?_⟩
            have s8 := Same.new (o := .lst (nv (l0 ++ [x0]) ++ [.int c])) s7 hr2
            refine ⟨r, _, _, rfl, rfl, s8 _ _ hr6, by rw [List.length_map]; exact bnd, ?_⟩
            refine key ?_ q hq r2 hr2
            rw [el]
            simp at q1
            simp
            omega
          · rw [el] at z
            simp at z
            simp
            omega
      · rintro σ H2 ⟨v2, ps', rfl, s6, hr6, hR6⟩
        refine ⟨_, _, ps', rfl, s6, hr6, ?_⟩
        rw [nv_len, List.take_length] at hR6
        rw [wider_more hl]
        exact hR6
    · rintro σ H' ⟨v1, v2, ps', rfl, s5, hr5, hR5⟩
      rw [List.length_map, lps, List.take_length] at hR5
      exact ⟨_, rfl, k H' r ps' s5 hr0 hr5 hR5⟩
end
end Bed
namespace Bed
open PySem PySem.Spec PyProof.Rows L2
theorem orI (x y : Nat) : Builtin.bitOr (x : Int) (y : Int) = ((x ||| y : Nat) : Int) := by
  rw [Bits.bitOr_pp (by omega) (by omega)]
  simp
section
variable {P : Program} {w : World} {K : PySem.W.Frag} {mg : Str → Option Value} {base : Heap}
/-! ### first_that_covers -/
abbrev sCovers : Stmt := top 13
def spCovers : Sp := fun vs H Q _ => ∃ (ch rd : Addr) (ps : List Addr) (ls : List (List Nat)) (kvs : List (Key × V)) (f : Nat → Nat) (wanted : Nat), vs = [.ref ch, .ref rd, .int (wanted : Nat)] ∧ H ch = some (.lst (ps.map V.ref)) ∧ Rows H ch ps ls ∧ H rd = some (.dK kvs) ∧
  (∀ l ∈ ls, ∀ c ∈ l, valV kvs (Sum.inl (c : Int)) = some (.int (f c : Nat))) ∧ (ls.find? (fun s => decide (coverN f s = wanted)) = none → Q .non H) ∧ ∀ s p, ls.find? (fun s => decide (coverN f s = wanted)) = some s → H p = some (.lst (nv s)) → Q (.ref p) H
theorem scCovers : FnScope ["choices", "reach", "wanted", "chosen", "reached", "cell"] ["choices", "reach", "wanted"] (defScope sCovers) := ⟨rfl, rfl, rfl, by decide +kernel, rfl, by decide +kernel, by decide +kernel⟩
theorem ok_covers {f : Addr} {fd : FuncData} (F : Fun K "first_that_covers" "first_that_covers" sCovers f fd) : FnOk P w K mg base CX0 1 f fd ["choices", "reach", "wanted"] spCovers := by
  refine F.ok scCovers (fun vs H Q E h => ?_) (fun cdv A outer s H vs Q E hr h => ?_)
  · obtain ⟨ch, rd, ps, ls, kvs, f, wanted, rfl, _⟩ := h
    rfl
  · obtain ⟨ch, rd, ps, ls, kvs, f, wanted, rfl, hch, hR, hrd, hv, k0, k1⟩ := h
    refine ⟨_, pss_cons (ps_for PassesOwn.never rfl (pi_list (pv 0)) (pg_name (i := 3) scCovers.nd rfl (Or.inl rfl))
        (pss_cons (ps_set (i := 4) scCovers.nd rfl (Or.inl rfl) pe_int)
        (pss_cons (ps_for PassesOwn.never rfl (pi_list (pv 3)) (pg_name (i := 5) scCovers.nd rfl (Or.inl rfl)) (pss_one (ps_set (i := 4) scCovers.nd rfl (Or.inl rfl) (pe_op op_or (pv 4) (pe_dget (hu_of hr) (pv 1) (pv 5) (fun _ _ => rfl))))))
        (pss_one (ps_if (pt_cmpR op_eq (pv 4) (pv 2) (nomark _)) (pss_one (ps_ret (pv 3))) pss_nil)))))
      (pss_one (ps_ret pe_non)), ?_⟩
    have lps := hR.len
    refine ⟨_, rfl, ch, rfl, ⟨_, SqL.of hch⟩, for_list (K := K) (a := ch) (xs := ps.map V.ref) (fun i σ H' => ∃ (v1 v2 v3 : Option V), σ = [some (.ref ch), some (.ref rd), some (.int (wanted : Nat)), v1, v2, v3] ∧ H' = H ∧ (ls.take i).find? (fun s => decide (coverN f s = wanted)) = none)
      ⟨none, none, none, rfl, rfl, rfl⟩ (fun i σ H' _ ⟨_, _, _, _, e, _⟩ => by rw [e]; exact SqL.of hch) ?_ ?_⟩
    · rintro i y σ H' hi ⟨v1, v2, v3, rfl, rfl, hn⟩
      obtain ⟨p, hp, rfl⟩ := ref_get hi
      obtain ⟨l, hl, hpl, _⟩ := hR.at hp
      refine ⟨_, rfl, p, rfl, ⟨_, SqL.of hpl⟩, for_list (K := K) (a := p) (xs := nv l) (fun j σ H2 => ∃ (v3 : Option V), σ = [some (.ref ch), some (.ref rd), some (.int (wanted : Nat)), some (.ref p), some (.int ((coverN f (l.take j)) : Nat)), v3] ∧ H2 = H')
        ⟨v3, rfl, rfl⟩ (fun j σ H2 _ ⟨_, _, e⟩ => by rw [e]; exact SqL.of hpl) ?_ ?_⟩
      · rintro j y σ H2 hj ⟨v3, rfl, rfl⟩
        obtain ⟨c, hc, rfl⟩ := nv_get hj
        have hval := hv l (List.mem_of_getElem? hl) c (List.mem_of_getElem? hc)
        refine ⟨_, rfl, _, rfl, _, rfl, rd, _, rfl, (by rw [← hval]; exact DGet.k (k := Sum.inl (c : Int)) hrd), _, _, rfl, rfl, ?_⟩
        refine ⟨some (.int c), ?_, rfl⟩
        dsimp only
        rw [orI]
        have e : coverN f (l.take (j + 1)) = coverN f (l.take j) ||| f c := by
          unfold coverN
          rw [take_more hc, List.foldl_append]
          rfl
        rw [e]
        rfl
      · rintro σ H2 ⟨v3, rfl, rfl⟩
        rw [nv_len, List.take_length]
        refine ⟨_, rfl, _, rfl, rfl, _, rfl, ?_⟩
        have e1 : ls.take (i + 1) = ls.take i ++ [l] := take_more hl
        refine ite2 (fun q1 => ?_) (fun q1 => ?_)
        · have q2 : coverN f l = wanted := by
            have := of_decide_eq_true q1
            injection this with this
            omega
          refine ⟨_, rfl, k1 l p ?_ hpl⟩
          have e2 : ls = ls.take (i + 1) ++ ls.drop (i + 1) := (List.take_append_drop _ _).symm
          rw [e2, e1, List.find?_append, List.find?_append, hn]
          simp [q2]
        · have q2 : ¬ coverN f l = wanted := fun z => q1 (decide_eq_true (by rw [z]))
          refine ⟨_, _, _, rfl, rfl, ?_⟩
          rw [e1, List.find?_append, hn]
          simp [q2]
    · rintro σ H' ⟨v1, v2, v3, rfl, rfl, hn⟩
      rw [List.length_map, lps, List.take_length] at hn
      exact k0 hn
end
end Bed
namespace Bed
open PySem PySem.Spec PyProof.Rows L2
theorem sorted_nodup {l : List Nat} (h : l.Pairwise (· < ·)) : l.Nodup := h.imp fun z => Nat.ne_of_lt z
theorem sets_size {l : List Nat} (h : l.Pairwise (· < ·)) (hl : l.length ≤ 25) : ∀ k, (Kh363.sets k l).length ≤ 25 ^ k
  | 0 => by simp [Kh363.sets]
  | k + 1 => by
    rw [← wider_sets l k h, Nat.pow_succ]
    exact Nat.le_trans (wider_len l _) (Nat.mul_le_mul (sets_size h hl k) hl)
theorem fewest_at {a : Kh363.Abs} (o : Ok a) {d i : Nat} (hi : i < 4) (h0 : ∀ j, j < i → (Kh363.sets j (Kh363.free a)).find? (covers a d) = none) {s : List Nat} (h : (Kh363.sets i (Kh363.free a)).find? (covers a d) = some s) : Kh363.fewest a d = some s := by
  rw [fewest_steps o]
  have cs : i = 0 ∨ i = 1 ∨ i = 2 ∨ i = 3 := by omega
  rcases cs with rfl | rfl | rfl | rfl
  · rw [h]; rfl
  · rw [h0 0 (by omega), h]; rfl
  · rw [h0 0 (by omega), h0 1 (by omega), h]; rfl
  · rw [h0 0 (by omega), h0 1 (by omega), h0 2 (by omega), h]; rfl
theorem fewest_none {a : Kh363.Abs} (o : Ok a) {d : Nat} (h0 : ∀ j, j < 4 → (Kh363.sets j (Kh363.free a)).find? (covers a d) = none) : Kh363.fewest a d = none := by
  rw [fewest_steps o, h0 0 (by omega), h0 1 (by omega), h0 2 (by omega), h0 3 (by omega)]
  rfl
section
variable {P : Program} {w : World} {K : PySem.W.Frag} {mg : Str → Option Value} {base : Heap}
/-! ### fewest_cells -/
abbrev sFewest : Stmt := top 14
def spFewest (K : PySem.W.Frag) : Sp := fun vs H Q _ => ∃ (a : Kh363.Abs) (b : Addr) (bl : List Nat) (d : Nat), vs = [.int a.wide, .int a.high, .ref b, .int (d : Nat), .int 3] ∧ Ok a ∧ SqL K H b (nv bl) ∧ SameCells bl a.blocked ∧
  (Kh363.fewest a d = none → ∀ H', Same H H' → Q .non H') ∧ ∀ s H' p, Kh363.fewest a d = some s → s.length ≤ 3 → Same H H' → H' p = some (.lst (nv s)) → Q (.ref p) H'
structure TxtF (mg : Str → Option Value) (ff fs fy fb fw fc : Addr) : Prop where
  free : mg "free_cells" = some (.ref ff)
  spread : mg "spread_days" = some (.ref fs)
  byDay : mg "reached_by" = some (.ref fy)
  bits : mg "bits_of" = some (.ref fb)
  wider : mg "with_one_more" = some (.ref fw)
  covers : mg "first_that_covers" = some (.ref fc)
theorem scFewest : FnScope ["width", "height", "blocked", "day", "most", "free", "reach", "cell", "choices", "count", "found"] ["width", "height", "blocked", "day", "most"] (defScope sFewest) := ⟨rfl, rfl, rfl, by decide +kernel, rfl, by decide +kernel, by decide +kernel⟩
theorem ok_fewest {f ff fs fy fb fw fc : Addr} {fd fdf fds fdy fdb fdw fdc : FuncData} (F : Fun K "fewest_cells" "fewest_cells" sFewest f fd) (T : TxtC mg) (M : TxtF mg ff fs fy fb fw fc) (sum : mg "sum" = none)
    (FF : Fun K "free_cells" "free_cells" sFree ff fdf) (bF : Binds K fdf ["width", "height", "blocked"] [])
    (FS : Fun K "spread_days" "spread_days" sSpread fs fds) (GS : FnOk P w K mg base CX0 3 fs fds ["width", "height", "blocked", "grains"] (spSpread K)) (bS : Binds K fds ["width", "height", "blocked", "grains"] [])
    (FY : Fun K "reached_by" "reached_by" sBy fy fdy) (bY : Binds K fdy ["days", "day"] []) (FB : Fun K "bits_of" "bits_of" sBits fb fdb) (bB : Binds K fdb ["cells"] [])
    (FW : Fun K "with_one_more" "with_one_more" sWider fw fdw) (bW : Binds K fdw ["choices", "cells"] []) (FC : Fun K "first_that_covers" "first_that_covers" sCovers fc fdc) (bC : Binds K fdc ["choices", "reach", "wanted"] []) :
    FnOk P w K mg base CX0 4 f fd ["width", "height", "blocked", "day", "most"] (spFewest K) := by
  have GF : FnOk P w K mg base CX0 1 ff fdf ["width", "height", "blocked"] (spFree K) := ok_free FF T
  have GY : FnOk P w K mg base CX0 1 fy fdy ["days", "day"] (spBy K) := ok_by FY T
  have GB : FnOk P w K mg base CX0 1 fb fdb ["cells"] (spBits K) := ok_bits FB sum
  have GW : FnOk P w K mg base CX0 1 fw fdw ["choices", "cells"] (spWider K) := ok_wider FW T.len
  have GC : FnOk P w K mg base CX0 1 fc fdc ["choices", "reach", "wanted"] spCovers := ok_covers FC
  refine F.ok scFewest (fun vs H Q E h => ?_) (fun cdv A outer s H vs Q E hr h => ?_)
  · obtain ⟨a, b, bl, d, rfl, _⟩ := h
    rfl
  · obtain ⟨a, b, bl, d, rfl, oa, hb, sb, k0, k1⟩ := h
    have hr1 : Room 1 _ := hr.mono (by decide)
    refine ⟨_, pss_cons (ps_set (i := 5) scFewest.nd rfl (Or.inl rfl) (pe_call GF hr1 rfl M.free FF.kp bF .nil pass0 (pa_cons (pv 0) (pa_cons (pv 1) (pa_cons (pv 2) pa_nil)))))
      (pss_cons (ps_set (i := 6) scFewest.nd rfl (Or.inl rfl) pe_dnewK)
      (pss_cons (ps_for PassesOwn.never rfl (pi_list (pv 5)) (pg_name (i := 7) scFewest.nd rfl (Or.inl rfl))
        (pss_one (ps_dput (hu_of hr) (pv 6) (pv 7) (pe_call GB hr1 rfl M.bits FB.kp bB .nil pass0 (pa_cons (pe_call GY hr1 rfl M.byDay FY.kp bY .nil pass0 (pa_cons (pe_call GS hr rfl M.spread FS.kp bS .nil pass0 (pa_cons (pv 0) (pa_cons (pv 1) (pa_cons (pv 2) (pa_cons (pe_lst (pa_cons (pv 7) pa_nil)) pa_nil))))) (pa_cons (pv 3) pa_nil))) pa_nil)) rfl)))
      (pss_cons (ps_set (i := 8) scFewest.nd rfl (Or.inl rfl) (pe_lst (pa_cons (pe_lst pa_nil) pa_nil)))
      (pss_cons (ps_for PassesOwn.never rfl (pi_range1 rfl T.range (pa_cons (pe_op op_add (pv 4) pe_int) pa_nil)) (pg_name (i := 9) scFewest.nd rfl (Or.inl rfl))
        (pss_cons (ps_if (pt_cmpR op_gt (pv 9) pe_int (nomark _)) (pss_one (ps_set (i := 8) scFewest.nd rfl (Or.inl rfl) (pe_call GW hr1 rfl M.wider FW.kp bW .nil pass0 (pa_cons (pv 8) (pa_cons (pv 5) pa_nil))))) pss_nil)
        (pss_cons (ps_set (i := 10) scFewest.nd rfl (Or.inl rfl) (pe_call GC hr1 rfl M.covers FC.kp bC .nil pass0 (pa_cons (pv 8) (pa_cons (pv 6) (pa_cons (pe_call GB hr1 rfl M.bits FB.kp bB .nil pass0 (pa_cons (pv 5) pa_nil)) pa_nil)))))
        (pss_one (ps_if (pt_cmpR op_notN (pv 10) pe_non (nomark _)) (pss_one (ps_ret (pv 10))) pss_nil)))))
      (pss_one (ps_ret pe_non)))))), ?_⟩
    have c25 := cells_le oa
    have fl := free_len (a := a)
    have fs25 : ∀ c ∈ Kh363.free a, c ≤ 1000 := fun c hc => by
      have := isFree_lt (free_mem.mp hc)
      omega
    have fsort := free_sorted a
    refine ⟨_, rfl, _, rfl, _, rfl, a, b, bl, rfl, oa, hb, sb, fun H1 fr s1 hfr hfr1 => ?_⟩
    intro rd hrd
    have nfr : fr ≠ rd := ne_of_none hfr1 hrd
    have hrdH : H rd = none := s1.free hrd
    refine ⟨_, rfl, fr, rfl, ⟨_, SqL.of (by rw [upd_ne nfr]; exact hfr1)⟩, for_list (K := K) (a := fr) (xs := nv (Kh363.free a)) (fun i σ H' => ∃ (v7 : Option V) (kvs : List (Key × V)), σ = [some (.int a.wide), some (.int a.high), some (.ref b), some (.int (d : Nat)), some (.int 3), some (.ref fr), some (.ref rd), v7, none, none, none] ∧ But rd H1 H' ∧
        H' rd = some (.dK kvs) ∧ kvs.length ≤ i ∧ ∀ c ∈ (Kh363.free a).take i, valV kvs (Sum.inl (c : Int)) = some (.int (bits (reachBy a [c] d) : Nat)))
      ⟨none, [], rfl, (But.refl rd H1).upd, upd_same, Nat.le_refl _, by simp⟩ (fun i σ H' _ ⟨_, _, _, b5, _⟩ => SqL.of (b5 _ _ hfr1 nfr)) ?_ ?_⟩
    · rintro i y σ H' hi ⟨v7, kvs, rfl, b5, hd5, kl, hv⟩
      obtain ⟨c, hc, rfl⟩ := nv_get hi
      have il := get_lt hc
      have hcf : c ∈ Kh363.free a := List.mem_of_getElem? hc
      have s5 : Same H H' := Same.but s1 b5 hrdH
      refine ⟨_, rfl, _, rfl, _, rfl, _, rfl, (by show 1 ≤ sizeLine; decide), fun l hl => ?_⟩
      have s6 : Same H' (upd H' l (.lst [.int c])) := Same.new (Same.refl H') hl
      refine ⟨a, b, l, bl, [c], [c], rfl, oa, (s5.trans s6).seq hb, SqL.of upd_same, free_one hcf, sb, fun _ => Iff.rfl, by show 1 ≤ 25; omega, fun H2 dd s7 hdd hdd2 => ?_⟩
      refine ⟨_, rfl, a, [c], dd, d, rfl, oa, SqL.of hdd2, fun H3 ar s8 har har3 => ?_⟩
      have rl := reachBy_len (a := a) (g := [c]) (d := d)
      refine ⟨ar, _, rfl, SqL.of har3, by omega, fun x hx => ?_, fun H4 s9 => ?_⟩
      · have := isFree_lt (R_free ((reachBy_mem oa).mp hx))
        omega
      have s10 : Same H' H4 := ((s6.trans s7).trans s8).trans s9
      refine ⟨_, rfl, _, rfl, rd, _, rfl, DPut.k (k := Sum.inl (c : Int)) (s10 _ _ hd5) (by rw [sizeLine_eq]; omega), ?_⟩
      refine ⟨_, _, rfl, (b5.trans (But.of_same s10)).upd, upd_same, ?_, fun x hx => ?_⟩
      · have := length_putK kvs (Sum.inl (c : Int)) (.int (bits (reachBy a [c] d) : Nat))
        omega
      · rw [valV_put]
        by_cases q : x = c
        · subst q
          rw [if_pos rfl]
        · rw [if_neg (fun z => q (by injection z with z; omega))]
          rw [take_more hc] at hx
          rcases List.mem_append.mp hx with hx | hx
          · exact hv x hx
          · exact absurd (by simpa using hx) q
    · rintro σ H' ⟨v7, kvs, rfl, b5, hd5, kl, hv⟩
      rw [nv_len, List.take_length] at hv
      have s5 : Same H H' := Same.but s1 b5 hrdH
      have hfr5 : H' fr = some (.lst (nv (Kh363.free a))) := b5 _ _ hfr1 nfr
      refine ⟨Nat.zero_le _, fun q0 hq0 => ⟨(by show 1 ≤ sizeLine; decide), fun ch0 hch0 => ?_⟩⟩
      have s6 : Same H' (upd H' q0 (.lst [])) := Same.new (Same.refl H') hq0
      have s7 := Same.new (o := .lst [.ref q0]) s6 hch0
      have nqc : q0 ≠ ch0 := ne_of_none upd_same hch0
      refine ⟨_, rfl, _, _, rfl, rfl, _, rfl, by decide, by decide, for_range (lo := 0) (n := ((3 : Int) + 1).toNat) (fun i σ H2 => ∃ (v9 v10 : Option V) (ch : Addr) (ps : List Addr), σ = [some (.int a.wide), some (.int a.high), some (.ref b), some (.int (d : Nat)), some (.int 3), some (.ref fr), some (.ref rd), v7, some (.ref ch), v9, v10] ∧ Same H' H2 ∧
          H2 ch = some (.lst (ps.map V.ref)) ∧ Rows H2 ch ps (Kh363.sets (i - 1) (Kh363.free a)) ∧ ∀ j, j < i → (Kh363.sets j (Kh363.free a)).find? (covers a d) = none)
        ⟨none, none, ch0, [q0], rfl, s7, upd_same, ?_, fun j hj => by omega⟩ ?_ ?_⟩
      · have e0 : Kh363.sets (0 - 1) (Kh363.free a) = [[]] := by simp [Kh363.sets]
        rw [e0]
        exact ⟨⟨by rw [upd_ne nqc, upd_same]; rfl, nqc⟩, trivial⟩
      · rintro i σ H2 hi ⟨v9, v10, ch, ps, rfl, s8, hch8, hR8, hno⟩
        have hi4 : i < 4 := hi
        have hi2 : (0 : Int) + (i : Int) = (i : Int) := by omega
        refine ⟨_, rfl, _, _, rfl, rfl, _, rfl, ?_⟩
        have sub : ∀ l ∈ Kh363.sets i (Kh363.free a), ∀ c ∈ l, valV kvs (Sum.inl (c : Int)) = some (.int (bits (reachBy a [c] d) : Nat)) := fun l hl c hc => hv c (sets_sub i _ l hl c hc)
        by_cases q0 : i = 0
        case' neg =>
          refine if_true_of (by simp; omega) ?_
          obtain ⟨i', rfl⟩ : ∃ i', i = i' + 1 := ⟨i - 1, by omega⟩
          have sz := sets_size fsort (by omega) i'
          have sz2 : 25 ^ i' ≤ 25 ^ 2 := Nat.pow_le_pow_right (by omega) (by omega)
          refine ⟨_, rfl, _, rfl, ch, fr, ps, _, Kh363.free a, rfl, hch8, hR8, SqL.of (s8 _ _ hfr5), Nat.le_trans sz (Nat.le_trans sz2 (by decide)), by omega, fun l hl => ?_, fun HN chN psN sM hM hchN hRM => ?_⟩
          · rw [sets_nodup i' _ (sorted_nodup fsort) l hl]
            omega
          have sN : Same H' HN := s8.trans sM
          have hRN : Rows HN chN psN (Kh363.sets (i' + 1) (Kh363.free a)) := by
            rw [← wider_sets _ i' fsort]
            exact hRM
        case' pos =>
          subst q0
          refine if_false_of (by simp) ?_
          have sN : Same H' H2 := s8
          have hchN := hch8
          have hRN : Rows H2 ch ps (Kh363.sets 0 (Kh363.free a)) := hR8
        all_goals
          refine ⟨_, rfl, _, rfl, _, rfl, fr, _, rfl, SqL.of (sN _ _ hfr5), by omega, fs25, fun H4 s9 => ?_⟩
          refine ⟨_, rd, _, _, kvs, fun c => bits (reachBy a [c] d), bits (Kh363.free a), rfl, s9 _ _ hchN, hRN.but (But.of_same s9), s9 _ _ (sN _ _ hd5), sub, fun hn => ?_, fun s p hf hp => ?_⟩
          · refine ⟨_, rfl, rfl, _, rfl, if_false_of rfl ?_⟩
            refine ⟨_, _, _, _, rfl, sN.trans s9, s9 _ _ hchN, hRN.but (But.of_same s9), fun j hj => ?_⟩
            rcases Nat.lt_or_eq_of_le (Nat.le_of_lt_succ hj) with q1 | q1
            · exact hno j q1
            · rw [q1]
              exact hn
          · refine ⟨_, rfl, rfl, _, rfl, if_true_of rfl ?_⟩
            refine ⟨_, rfl, k1 s H4 p (fewest_at oa hi4 hno hf) ?_ (s5.trans (sN.trans s9)) hp⟩
            have := sets_nodup _ _ (sorted_nodup fsort) s (List.mem_of_find?_eq_some hf)
            omega
      · rintro σ H2 ⟨v9, v10, ch, ps, rfl, s8, hch8, hR8, hno⟩
        exact k0 (fewest_none oa fun j hj => hno j hj) H2 (s5.trans s8)
end
end Bed
namespace Bed
open PySem PySem.Spec PyProof.Rows L2
/-! ### min(xs) of a list of pairs of whole numbers -/
def Pairs (H : Hp) : List Addr → List (Nat × Nat) → Prop
  | [], [] => True
  | t :: ts, x :: xs => H t = some (.tup [.int (x.1 : Nat), .int (x.2 : Nat)]) ∧ Pairs H ts xs
  | _, _ => False
theorem Pairs.len {H : Hp} : ∀ {ts : List Addr} {xs : List (Nat × Nat)}, Pairs H ts xs → ts.length = xs.length
  | [], [], _ => rfl
  | _ :: _, _ :: _, ⟨_, h⟩ => congrArg (· + 1) h.len
theorem Pairs.at {H : Hp} : ∀ {ts : List Addr} {xs : List (Nat × Nat)}, Pairs H ts xs → ∀ {i : Nat} {t : Addr}, ts[i]? = some t → ∃ x, xs[i]? = some x ∧ H t = some (.tup [.int (x.1 : Nat), .int (x.2 : Nat)])
  | [], [], _, i, p, h => by simp at h
  | q :: ps, x :: xs, ⟨h1, h⟩, 0, p, e => by
    have : q = p := by simpa using e
    subst this
    exact ⟨x, rfl, h1⟩
  | q :: ps, x :: xs, ⟨_, h⟩, i + 1, p, e => h.at (by simpa using e)
/-- a list's change leaves tuples -/
theorem Pairs.but {H H' : Hp} {z : Addr} {l : List V} (hz : H z = some (.lst l)) (b : But z H H') : ∀ {ts : List Addr} {xs : List (Nat × Nat)}, Pairs H ts xs → Pairs H' ts xs
  | [], [], _ => trivial
  | _ :: _, _ :: _, ⟨h1, h⟩ => ⟨b _ _ h1 (ne_of h1 hz (by intro z; cases z)), h.but hz b⟩
theorem Pairs.same {H H' : Hp} (b : Same H H') : ∀ {ts : List Addr} {xs : List (Nat × Nat)}, Pairs H ts xs → Pairs H' ts xs
  | [], [], _ => trivial
  | _ :: _, _ :: _, ⟨h1, h⟩ => ⟨b _ _ h1, h.same b⟩
theorem Pairs.snoc {H : Hp} {t : Addr} {x : Nat × Nat} (h1 : H t = some (.tup [.int (x.1 : Nat), .int (x.2 : Nat)])) : ∀ {ts : List Addr} {xs : List (Nat × Nat)}, Pairs H ts xs → Pairs H (ts ++ [t]) (xs ++ [x])
  | [], [], _ => ⟨h1, trivial⟩
  | _ :: _, _ :: _, ⟨h, r⟩ => ⟨h, r.snoc h1⟩
def pD (x : Nat × Nat) : PyData := .tuple [.int (x.1 : Nat), .int (x.2 : Nat)]
theorem Pairs.dp {K : PySem.W.Frag} {H : Hp} : ∀ {ts : List Addr} {xs : List (Nat × Nat)}, Pairs H ts xs → DpAll K H (ts.map V.ref) (xs.map pD)
  | [], [], _ => .nil
  | _ :: _, _ :: _, ⟨h1, h⟩ => .cons (.tup (SqT.of h1) (.cons (.int _) (.cons (.int _) .nil))) h.dp
theorem alike_pairs (xs : List (Nat × Nat)) : PySem.W.AlikeAll (xs.map pD) := by
  refine ⟨fun x hx y hy => ?_, fun x hx => ?_⟩
  · obtain ⟨i, _, rfl⟩ := List.mem_map.mp hx
    obtain ⟨j, _, rfl⟩ := List.mem_map.mp hy
    rfl
  · obtain ⟨i, _, rfl⟩ := List.mem_map.mp hx
    intro z
    cases z
theorem depth_pairs : ∀ (xs : List (Nat × Nat)), PyData.depthAll (xs.map pD) ≤ 5
  | [] => by decide
  | x :: xs => by
    have := depth_pairs xs
    show max (PyData.depth (pD x)) (PyData.depthAll (xs.map pD)) ≤ 5
    have : PyData.depth (pD x) ≤ 5 := by
      show PyData.depth (.tuple [.int (x.1 : Nat), .int (x.2 : Nat)]) ≤ 5
      simp [PyData.depth, PyData.depthAll]
    omega
def leP (x y : Nat × Nat) : Prop := x.1 < y.1 ∨ (x.1 = y.1 ∧ x.2 ≤ y.2)
theorem minD_pairs : ∀ (xs : List (Nat × Nat)) (x : Nat × Nat), ∃ m, PySem.W.minD (pD x) (xs.map pD) = pD m ∧ m ∈ x :: xs ∧ ∀ y ∈ x :: xs, leP m y
  | [], x => ⟨x, rfl, by simp, fun y hy => by
    have : y = x := by simpa using hy
    subst this
    exact .inr ⟨rfl, Nat.le_refl _⟩⟩
  | z :: xs, x => by
    have e : PySem.W.minD (pD x) ((z :: xs).map pD) = PySem.W.minD (if PySem.W.dataLt (pD z) (pD x) = true then pD z else pD x) (xs.map pD) := rfl
    have el : PySem.W.dataLt (pD z) (pD x) = decide (((z.1 : Int) < x.1) ∨ ((z.1 : Int) = x.1 ∧ (z.2 : Int) < x.2)) := PySem.W.dataLt_ii _ _ _ _
    rw [e, el]
    by_cases q : ((z.1 : Int) < x.1) ∨ ((z.1 : Int) = x.1 ∧ (z.2 : Int) < x.2)
    · rw [if_pos (decide_eq_true q)]
      obtain ⟨m, e1, hm, hl⟩ := minD_pairs xs z
      refine ⟨m, e1, ?_, fun y hy => ?_⟩
      · exact List.mem_cons_of_mem _ hm
      · rcases List.mem_cons.mp hy with rfl | hy
        · have h1 := hl z (by simp)
          unfold leP at h1 ⊢
          omega
        · exact hl y hy
    · rw [if_neg (by simpa using q)]
      obtain ⟨m, e1, hm, hl⟩ := minD_pairs xs x
      refine ⟨m, e1, ?_, fun y hy => ?_⟩
      · rcases List.mem_cons.mp hm with h | h
        · simp [h]
        · simp [h]
      · rcases List.mem_cons.mp hy with rfl | hy
        · exact hl y (by simp)
        · rcases List.mem_cons.mp hy with rfl | hy
          · have h1 := hl x (by simp)
            unfold leP at h1 ⊢
            omega
          · exact hl y (by simp [hy])
def rMinP (K : PySem.W.Frag) : List V → Hp → VK → Prop := fun vs H Q => ∃ (a : Addr) (ts : List Addr) (ps : List (Nat × Nat)), vs = [V.ref a] ∧ SqL K H a (ts.map V.ref) ∧ Pairs H ts ps ∧ ps ≠ [] ∧
  ∀ t x, H t = some (.tup [.int (x.1 : Nat), .int (x.2 : Nat)]) → x ∈ ps → (∀ y ∈ ps, leP x y) → Q (.ref t) H
theorem vals_ref_at : ∀ {ts : List Addr} {us : List Value}, Vals (ts.map V.ref) us → ∀ {i : Nat} {v : Value}, us[i]? = some v → ∃ t, ts[i]? = some t ∧ v = .ref t
  | [], _, .nil, i, v, h => by simp at h
  | t :: ts, u :: us, .cons r rs, 0, v, h => by
    have e : u = v := by simpa using h
    subst e
    have r : u = Value.ref t := r
    exact ⟨t, rfl, r⟩
  | t :: ts, u :: us, .cons r rs, i + 1, v, h => vals_ref_at rs (by simpa using h)
theorem reads_int {h : Heap} {i : Int} {t : Tok} {d : PyData} {as : List Addr} (r : Reads h (.int i t) d as) : d = .int i := by
  cases r
  rfl
theorem cr_minP {X : Cx} (hc : X.calm = true) (hu : X.A.units + 10 < cLine) : CallR X (.builtin "min") (rMinP X.K) := by
  intro pins s σ H vs us Q I r h
  obtain ⟨a, ts, ps, rfl, hs, hP, hne, q⟩ := h
  obtain ⟨its, rv, hl, _⟩ := I.list hs
  rw [Vals.ref1 r]
  obtain ⟨x, xs, rfl⟩ : ∃ x xs, ps = x :: xs := by
    cases ps with
    | nil => exact absurd rfl hne
    | cons x xs => exact ⟨x, xs, rfl⟩
  obtain ⟨as, hr⟩ := Dp.readsAll I _ _ its (Pairs.dp (K := X.K) hP) rv
  have dp := depth_pairs (x :: xs)
  refine PySem.W.min_list_data (x := pD x) (xs := xs.map pD) (I.ok.hd hc) hl.isList (by simpa using hr) (alike_pairs (x :: xs)) (Nat.lt_of_le_of_lt (Nat.add_le_add_left (k := X.A.units + 1) dp) (by omega)) (fun i v h' tk bs hv hrd hk => ?_)
  have hv' : its[i]? = some v := by simpa using hv
  obtain ⟨t, ht, rfl⟩ := vals_ref_at rv hv'
  obtain ⟨y, hy, hty⟩ := hP.at ht
  obtain ⟨m, em, hm, hle⟩ := minD_pairs xs x
  have ey : y = m := by
    rw [em] at hrd
    obtain ⟨_, its2, r2, o, ho, hcl, n, hd⟩ := I.hok _ _ hty
    have ho' := hk _ _ ho
    unfold pD at hrd
    cases hrd with
    | tuple g1 g2 g3 g4 =>
      rw [ho'] at g1
      cases g1
      rw [hd] at g3
      cases g3
      obtain ⟨u1, u2, e2, ri, rj⟩ := vals2 r2
      obtain ⟨t1, rfl⟩ := ri
      obtain ⟨t2, rfl⟩ := rj
      subst e2
      simp only [List.toList_toArray] at g4
      cases g4 with
      | cons a1 a2 =>
        cases a2 with
        | cons a3 a4 =>
          have z1 : (y.1 : Int) = m.1 := by
            have := reads_int a1
            injection this with this
            exact this.symm
          have z2 : (y.2 : Int) = m.2 := by
            have := reads_int a3
            injection this with this
            exact this.symm
          exact Prod.ext (by omega) (by omega)
  subst ey
  exact ⟨.ref t, H, I.kept hk, rfl, q t y hty hm hle⟩
end Bed
namespace Bed
open PySem PySem.Spec PyProof.Rows L2
/-! ### a written dict whose keys are whole numbers and whose values are defs -/
def TabIs : List (Int × Addr) → List DictEntry → Prop
  | [], [] => True
  | (k, a) :: r, e :: es => (∃ t, e = ⟨hashInt k, .int k t, .ref a⟩) ∧ TabIs r es
  | _, _ => False
structure KTab (K : PySem.W.Frag) (d : Addr) (tab : List (Int × Addr)) : Prop where
  ex : ∃ es n, K.lookup d = some ⟨.type "dict", none, .dict es n, #[]⟩ ∧ TabIs tab es.toList
  low : (d == sysModules) = false
theorem tab_keys : ∀ {tab : List (Int × Addr)} {es : List DictEntry}, TabIs tab es → ∀ e ∈ es, ∃ k t, e.key = .int k t ∧ e.hash = hashInt k
  | [], [], _, e, he => by cases he
  | (k, a) :: r, e :: es, ⟨⟨t, h⟩, hr⟩, e', he => by
    rcases List.mem_cons.mp he with rfl | he
    · subst h
      exact ⟨k, t, rfl, rfl⟩
    · exact tab_keys hr e' he
theorem tab_find : ∀ {tab : List (Int × Addr)} {es : List DictEntry}, TabIs tab es → ∀ z : Int, ((es.find? fun e => Value.isInt z e.key).map (·.val)) = (tab.lookup z).map Value.ref
  | [], [], _, z => rfl
  | (k, a) :: r, e :: es, ⟨⟨t, h⟩, hr⟩, z => by
    subst h
    have ih := tab_find hr z
    by_cases q : z = k
    · subst q
      simp [Value.isInt, List.lookup]
    · have q1 : (z == k) = false := by simp [q]
      have q2 : Value.isInt z (.int k t) = false := by
        simp [Value.isInt]
        intro x
        exact q x.symm
      rw [List.find?_cons_of_neg (by simp [q2]), ih]
      simp [List.lookup, q1]
theorem tab_map {K : PySem.W.Frag} {d : Addr} {tab : List (Int × Addr)} {P : Program} {w : World} {h : Heap} (D : KTab K d tab) (X : K.In h) : h.MapOf (intKind P w) d (fun z => (tab.lookup z).map Value.ref) := by
  obtain ⟨es, n, hl, hk⟩ := D.ex
  refine ⟨_, es, n, X _ _ hl, ⟨rfl, rfl, rfl⟩, rfl, fun e he => ?_, fun z => ?_⟩
  · obtain ⟨k, t, e1, e2⟩ := tab_keys hk e (Array.mem_toList_iff.mpr he)
    exact ⟨k, by rw [e1]; exact intKind_is P w k t, e2⟩
  · dsimp only
    rw [← tab_find hk z]
    obtain ⟨l⟩ := es
    unfold findBy
    rw [List.find?_toArray]
    rfl
section
variable {X : Cx} {d : Addr} {tab : List (Int × Addr)}
theorem op_in_tab (D : KTab X.K d tab) : OpR X (compareOp .In) (fun x y H Q => ∃ z : Int, x = .int z ∧ y = .ref d ∧ Q (.bl (tab.lookup z).isSome) H) := by
  intro pins s σ H x y v u Q I rx ry h
  obtain ⟨z, rfl, rfl, q⟩ := h
  obtain ⟨t, rfl⟩ := rx
  cases ry
  refine wpAny_in_of (PySem.intKind_is X.prog X.w z t) D.low (tab_map D I.kIn) ?_
  refine ⟨.bl (tab.lookup z).isSome, H, I.tok _, ?_, q⟩
  rw [Option.isSome_map]
  rfl
theorem ix_tab (D : KTab X.K d tab) : IxR X (fun x y H Q => ∃ (z : Int) (a : Addr), x = .ref d ∧ y = .int z ∧ tab.lookup z = some a ∧ Q (.ref a) H) := by
  intro value slice pins s σ H x y v u Q I rx ry h hs
  obtain ⟨z, a, rfl, rfl, e, q⟩ := h
  obtain rfl : v = Value.ref d := rx
  obtain ⟨t, rfl⟩ := ry
  have hm := tab_map (P := X.prog) (w := X.w) D I.kIn
  exact tail_any hm.typeIs slot_dict_getitem.lookup (wpAny_getItem_of (PySem.intKind_is X.prog X.w z t) hm (by rw [e]; rfl) ⟨.ref a, H, I.tok _, rfl, q⟩) hs
/-- f may be called, and keeps sp -/
def Can (X : Cx) (f : Addr) (sp : Sp) : Prop := ∃ (k : Nat) (fd : FuncData) (ps : List Str), FnOk X.prog X.w X.K X.mg X.base CX0 k f fd ps sp ∧ Room k X.A ∧ PySem.W.keepIn X.K (.ref f) = true ∧ Binds X.K fd ps []
def tCallAt (X : Cx) (tf : TE) (t : TA) : TE := fun σ H Q => tf σ H fun y H1 => ∃ (f : Addr) (sp : Sp), y = .ref f ∧ Can X f sp ∧ t σ H1 fun vs H2 => sp vs H2 Q E0
theorem pe_callAt {fe e : Expr} {es : List Expr} {pos : Pos} {tf : TE} {t : TA} (hf : PE X fe tf) (ha : PA X (e :: es) t)
    (ht : eval (.Call fe (e :: es) [] pos) X.env = (do callWith pos (← eval fe X.env) [] (backTo pos (starEach (e :: es) X.env)) (backToKw pos (keywordEach [] X.env))) := by rfl)
    (he : starEach (e :: es) X.env = (false, eval e X.env) :: starEach es X.env := by rfl) (hpl : (backTo pos (starEach es X.env)).any (·.1) = false := by rfl) : PE X (.Call fe (e :: es) [] pos) (tCallAt X tf t) := by
  refine ⟨fun pins s σ H Q I h => ?_⟩
  refine Call_ (thn (hf.run pins s σ H _ I h) fun u s1 ⟨y, H1, I1, ry, f, sp, ey, ⟨k, fd, ps, F, hr, hk, hb⟩, q⟩ => ?_) ht
  subst ey
  obtain rfl : u = Value.ref f := ry
  refine PySem.W.callWith_K (h₀ := X.base) I1.ok.mod.kin hk (thn (ha.run pos pins s1 σ H1 _ I1 q) fun us s2 ⟨vs, H2, I2, r, q2⟩ => ⟨I2.kIn, ?_⟩) he hpl
  exact run_fn (dvs := []) F hr hb .nil pass0 I2 r (by rw [List.append_nil]; exact q2)
end
end Bed
namespace Bed
open PySem PySem.Spec PyProof.Rows L2
/-! ### the bed as it lies in the heap -/
def bF (w h : Int) (b g e : Addr) : List (Str × V) := [("width", .int w), ("height", .int h), ("blocked", .ref b), ("grains", .ref g), ("earlier", .ref e)]
theorem lk_here {k : Str} {v : V} {r : List (Str × V)} : List.lookup k ((k, v) :: r) = some v := by
  have e : (k == k) = true := beq_self_eq_true k
  simp only [List.lookup, e]
theorem lk_past {k g : Str} {v : V} {r : List (Str × V)} (h : (k == g) = false) : List.lookup k ((g, v) :: r) = List.lookup k r := by
  simp only [List.lookup, h]
theorem put_here {f : Str} {v x : V} {r : List (Str × V)} : putF f v ((f, x) :: r) = (f, v) :: r := if_pos rfl
theorem put_past {f g : Str} {v x : V} {r : List (Str × V)} (h : ¬ g = f) : putF f v ((g, x) :: r) = (g, x) :: putF f v r := if_neg h
section
variable (w h : Int) (b g e : Addr)
theorem bF_w : (bF w h b g e).lookup ("width" : Str) = some (.int w) := lk_here
theorem bF_h : (bF w h b g e).lookup ("height" : Str) = some (.int h) := (lk_past (by decide +kernel)).trans lk_here
theorem bF_b : (bF w h b g e).lookup ("blocked" : Str) = some (.ref b) := (lk_past (by decide +kernel)).trans ((lk_past (by decide +kernel)).trans lk_here)
theorem bF_g : (bF w h b g e).lookup ("grains" : Str) = some (.ref g) := (lk_past (by decide +kernel)).trans ((lk_past (by decide +kernel)).trans ((lk_past (by decide +kernel)).trans lk_here))
theorem bF_e : (bF w h b g e).lookup ("earlier" : Str) = some (.ref e) := (lk_past (by decide +kernel)).trans ((lk_past (by decide +kernel)).trans ((lk_past (by decide +kernel)).trans ((lk_past (by decide +kernel)).trans lk_here)))
theorem put_w (y : Int) : putF "width" (.int y) (bF w h b g e) = bF y h b g e := put_here
theorem put_h (y : Int) : putF "height" (.int y) (bF w h b g e) = bF w y b g e := (put_past (by decide +kernel)).trans (congrArg _ put_here)
theorem put_b (y : Addr) : putF "blocked" (.ref y) (bF w h b g e) = bF w h y g e := (put_past (by decide +kernel)).trans (congrArg _ ((put_past (by decide +kernel)).trans (congrArg _ put_here)))
theorem put_g (y : Addr) : putF "grains" (.ref y) (bF w h b g e) = bF w h b y e := (put_past (by decide +kernel)).trans (congrArg _ ((put_past (by decide +kernel)).trans (congrArg _ ((put_past (by decide +kernel)).trans (congrArg _ put_here)))))
theorem put_e (y : Addr) : putF "earlier" (.ref y) (bF w h b g e) = bF w h b g y := (put_past (by decide +kernel)).trans (congrArg _ ((put_past (by decide +kernel)).trans (congrArg _ ((put_past (by decide +kernel)).trans (congrArg _ ((put_past (by decide +kernel)).trans (congrArg _ put_here)))))))
theorem put_new : putF "earlier" (.ref e) (putF "grains" (.ref g) (putF "blocked" (.ref b) (putF "height" (.int h) (putF "width" (.int w) [])))) = bF w h b g e := by
  have e1 : putF "width" (.int w) [] = [(("width" : Str), V.int w)] := rfl
  have e2 : putF "height" (.int h) [(("width" : Str), V.int w)] = [(("width" : Str), V.int w), (("height" : Str), V.int h)] := (put_past (by decide +kernel)).trans rfl
  have e3 : putF "blocked" (.ref b) [(("width" : Str), V.int w), (("height" : Str), V.int h)] = [(("width" : Str), V.int w), (("height" : Str), V.int h), (("blocked" : Str), V.ref b)] := (put_past (by decide +kernel)).trans (congrArg _ ((put_past (by decide +kernel)).trans rfl))
  have e4 : putF "grains" (.ref g) [(("width" : Str), V.int w), (("height" : Str), V.int h), (("blocked" : Str), V.ref b)] = [(("width" : Str), V.int w), (("height" : Str), V.int h), (("blocked" : Str), V.ref b), (("grains" : Str), V.ref g)] :=
    (put_past (by decide +kernel)).trans (congrArg _ ((put_past (by decide +kernel)).trans (congrArg _ ((put_past (by decide +kernel)).trans rfl))))
  rw [e1, e2, e3, e4]
  exact (put_past (by decide +kernel)).trans (congrArg _ ((put_past (by decide +kernel)).trans (congrArg _ ((put_past (by decide +kernel)).trans (congrArg _ ((put_past (by decide +kernel)).trans rfl))))))
end
/-- what can be taken back; Z: what the bed has no part in -/
def Undo (Z : Addr → Prop) (H : Hp) : List Addr → List (List Nat × List Nat) → Prop
  | [], [] => True
  | t :: ts, x :: un => (∃ b g, H t = some (.tup [.ref b, .ref g]) ∧ H b = some (.lst (nv x.1)) ∧ H g = some (.lst (nv x.2)) ∧ ¬ Z t ∧ ¬ Z b ∧ ¬ Z g) ∧ Undo Z H ts un
  | _, _ => False
theorem Undo.len {Z : Addr → Prop} {H : Hp} : ∀ {ts : List Addr} {un : List (List Nat × List Nat)}, Undo Z H ts un → ts.length = un.length
  | [], [], _ => rfl
  | _ :: _, _ :: _, ⟨_, h⟩ => congrArg (· + 1) h.len
theorem Undo.mono {Z : Addr → Prop} {H H' : Hp} {p : Addr} {C dx : Addr} {fs : List (Str × V)} (b : But p H H') (hp : H p = some (.ins C dx fs)) : ∀ {ts : List Addr} {un : List (List Nat × List Nat)}, Undo Z H ts un → Undo Z H' ts un
  | [], [], _ => trivial
  | _ :: _, _ :: _, ⟨⟨x, g, h1, h2, h3, z⟩, h⟩ =>
    ⟨⟨x, g, b _ _ h1 (ne_of h1 hp (by intro z; cases z)), b _ _ h2 (ne_of h2 hp (by intro z; cases z)), b _ _ h3 (ne_of h3 hp (by intro z; cases z)), z⟩, h.mono b hp⟩
/-- what the bed has no part in may change -/
theorem Undo.off {Z : Addr → Prop} {H H' : Hp} (b : ∀ x o, ¬ Z x → H x = some o → H' x = some o) : ∀ {ts : List Addr} {un : List (List Nat × List Nat)}, Undo Z H ts un → Undo Z H' ts un
  | [], [], _ => trivial
  | _ :: _, _ :: _, ⟨⟨x, g, h1, h2, h3, z1, z2, z3⟩, h⟩ => ⟨⟨x, g, b _ _ z1 h1, b _ _ z2 h2, b _ _ z3 h3, z1, z2, z3⟩, h.off b⟩
theorem Undo.fresh {H : Hp} {t : Addr} (ht : H t = none) : ∀ {ts : List Addr} {un : List (List Nat × List Nat)}, Undo (fun _ => False) H ts un → Undo (fun x => x = t) H ts un
  | [], [], _ => trivial
  | _ :: _, _ :: _, ⟨⟨x, g, h1, h2, h3, _⟩, h⟩ => ⟨⟨x, g, h1, h2, h3, ne_of_none h1 ht, ne_of_none h2 ht, ne_of_none h3 ht⟩, h.fresh ht⟩
theorem Undo.drop {Z : Addr → Prop} {H : Hp} : ∀ (k : Nat) {ts : List Addr} {un : List (List Nat × List Nat)}, Undo Z H ts un → Undo Z H (ts.drop k) (un.drop k)
  | 0, _, _, h => h
  | _ + 1, [], [], _ => trivial
  | k + 1, _ :: _, _ :: _, ⟨_, h⟩ => h.drop k
theorem Undo.snoc {Z : Addr → Prop} {H : Hp} {t b g : Addr} {x : List Nat × List Nat} (h1 : H t = some (.tup [.ref b, .ref g])) (h2 : H b = some (.lst (nv x.1))) (h3 : H g = some (.lst (nv x.2))) (z1 : ¬ Z t) (z2 : ¬ Z b) (z3 : ¬ Z g) :
    ∀ {ts : List Addr} {un : List (List Nat × List Nat)}, Undo Z H ts un → Undo Z H (ts ++ [t]) (un ++ [x])
  | [], [], _ => ⟨⟨b, g, h1, h2, h3, z1, z2, z3⟩, trivial⟩
  | _ :: _, _ :: _, ⟨h, r⟩ => ⟨h, r.snoc h1 h2 h3 z1 z2 z3⟩
theorem Undo.last {Z : Addr → Prop} {H : Hp} {x : List Nat × List Nat} : ∀ {ts : List Addr} {un : List (List Nat × List Nat)}, Undo Z H ts (un ++ [x]) → ∃ ts' t b g, ts = ts' ++ [t] ∧ Undo Z H ts' un ∧ H t = some (.tup [.ref b, .ref g]) ∧ H b = some (.lst (nv x.1)) ∧ H g = some (.lst (nv x.2)) ∧ ¬ Z t ∧ ¬ Z b ∧ ¬ Z g
  | [t], [], ⟨⟨b, g, h1, h2, h3, z⟩, _⟩ => ⟨[], t, b, g, rfl, trivial, h1, h2, h3, z⟩
  | [], [], h => by cases h
  | t :: u :: ts, [], h => by cases h.2
  | t :: ts, _ :: un, ⟨h, r⟩ => by
    obtain ⟨ts', t', b, g, rfl, r', h1, h2, h3, z⟩ := r.last
    exact ⟨t :: ts', t', b, g, rfl, ⟨h, r'⟩, h1, h2, h3, z⟩
  | [], _ :: _, h => by cases h
structure BedIn (Z : Addr → Prop) (C : Addr) (H : Hp) (p dx b g e : Addr) (ts : List Addr) (w h : Int) (bl gr : List Nat) (un : List (List Nat × List Nat)) : Prop where
  at_ : H p = some (.ins C dx (bF w h b g e))
  hb : H b = some (.lst (nv bl))
  hg : H g = some (.lst (nv gr))
  he : H e = some (.lst (ts.map V.ref))
  hu : Undo Z H ts un
  zl : ∀ x, Z x → ∃ o, H x = some o
  zp : ¬ Z p
  zb : ¬ Z b
  zg : ¬ Z g
  ze : ¬ Z e
def BedAt (Z : Addr → Prop) (C : Addr) (H : Hp) (p : Addr) (w h : Int) (bl gr : List Nat) (un : List (List Nat × List Nat)) : Prop := ∃ dx b g e ts, BedIn Z C H p dx b g e ts w h bl gr un
section
variable {Z : Addr → Prop} {C : Addr} {H H' : Hp} {p dx b g e : Addr} {ts : List Addr} {w h : Int} {bl gr : List Nat} {un : List (List Nat × List Nat)}
theorem BedIn.nb (B : BedIn Z C H p dx b g e ts w h bl gr un) : b ≠ p := ne_of B.hb B.at_ (by intro z; cases z)
theorem BedIn.ng (B : BedIn Z C H p dx b g e ts w h bl gr un) : g ≠ p := ne_of B.hg B.at_ (by intro z; cases z)
theorem BedIn.ne (B : BedIn Z C H p dx b g e ts w h bl gr un) : e ≠ p := ne_of B.he B.at_ (by intro z; cases z)
/-- what is new is none of Z -/
theorem BedIn.new (B : BedIn Z C H p dx b g e ts w h bl gr un) {r : Addr} (hr : H r = none) : ¬ Z r := fun z => by
  obtain ⟨o, ho⟩ := B.zl r z
  rw [ho] at hr
  cases hr
theorem BedIn.live (B : BedIn Z C H p dx b g e ts w h bl gr un) (s : But p H H') : ∀ x, Z x → ∃ o, H' x = some o := fun x z => by
  obtain ⟨o, ho⟩ := B.zl x z
  exact ⟨o, s x o ho fun q => B.zp (q ▸ z)⟩
theorem BedAt.same (s : Same H H') (B : BedAt Z C H p w h bl gr un) : BedAt Z C H' p w h bl gr un := by
  obtain ⟨dx, b, g, e, ts, B⟩ := B
  exact ⟨dx, b, g, e, ts, s _ _ B.at_, s _ _ B.hb, s _ _ B.hg, s _ _ B.he, B.hu.mono (But.of_same s) B.at_, B.live (But.of_same s), B.zp, B.zb, B.zg, B.ze⟩
theorem BedAt.off {t : Addr} {o : HO} (B : BedAt (fun x => x = t) C H p w h bl gr un) : BedAt (fun x => x = t) C (upd H t o) p w h bl gr un := by
  obtain ⟨dx, b, g, e, ts, B⟩ := B
  have f : ∀ x u, ¬ x = t → H x = some u → upd H t o x = some u := fun x u n h => by
    rw [upd_ne n]
    exact h
  exact ⟨dx, b, g, e, ts, f _ _ B.zp B.at_, f _ _ B.zb B.hb, f _ _ B.zg B.hg, f _ _ B.ze B.he, B.hu.off f, fun x z => ⟨o, by rw [z]; exact upd_same⟩, B.zp, B.zb, B.zg, B.ze⟩
theorem BedAt.fresh {t : Addr} {o : HO} (ht : H t = none) (B : BedAt (fun _ => False) C H p w h bl gr un) : BedAt (fun x => x = t) C (upd H t o) p w h bl gr un := by
  obtain ⟨dx, b, g, e, ts, B⟩ := B
  have f : ∀ x u, ¬ x = t → H x = some u → upd H t o x = some u := fun x u n h => by
    rw [upd_ne n]
    exact h
  have z1 := ne_of_none B.at_ ht
  have z2 := ne_of_none B.hb ht
  have z3 := ne_of_none B.hg ht
  have z4 := ne_of_none B.he ht
  exact ⟨dx, b, g, e, ts, f _ _ z1 B.at_, f _ _ z2 B.hb, f _ _ z3 B.hg, f _ _ z4 B.he, (B.hu.fresh ht).off f, fun x z => ⟨o, by rw [z]; exact upd_same⟩, z1, z2, z3, z4⟩
end
/-- the specification's state as the program holds it: lists in the order in which things came -/
def rv (x : List Nat × List Nat) : List Nat × List Nat := (x.1.reverse, x.2.reverse)
def BedS (Z : Addr → Prop) (C : Addr) (H : Hp) (p : Addr) : Option Kh363.Abs → Prop
  | none => BedAt Z C H p 0 0 [] [] []
  | some a => BedAt Z C H p a.wide a.high a.blocked.reverse a.grains.reverse (a.undo.reverse.map rv)
section
variable {Z : Addr → Prop} {C : Addr} {H H' : Hp} {p : Addr} {s : Option Kh363.Abs}
theorem BedS.same (q : Same H H') (B : BedS Z C H p s) : BedS Z C H' p s := by
  cases s with
  | none => exact BedAt.same q B
  | some a => exact BedAt.same q B
theorem BedS.off {t : Addr} {o : HO} (B : BedS (fun x => x = t) C H p s) : BedS (fun x => x = t) C (upd H t o) p s := by
  cases s with
  | none => exact BedAt.off B
  | some a => exact BedAt.off B
theorem BedS.fresh {t : Addr} {o : HO} (ht : H t = none) (B : BedS (fun _ => False) C H p s) : BedS (fun x => x = t) C (upd H t o) p s := by
  cases s with
  | none => exact BedAt.fresh ht B
  | some a => exact BedAt.fresh ht B
end
/-! ### what holds of every state -/
structure Fits (w h : Nat) (bl gr : List Nat) : Prop where
  bin : ∀ c ∈ bl, c < w * h
  bnd : bl.Nodup
  gin : ∀ c ∈ gr, c < w * h ∧ c ∉ bl
  gnd : gr.Nodup
  gmost : gr.length ≤ 6
structure Good (a : Kh363.Abs) : Prop where
  ok : Ok a
  fits : Fits a.wide a.high a.blocked a.grains
  undo : ∀ x ∈ a.undo, Fits a.wide a.high x.1 x.2
  most : a.undo.length ≤ 10
theorem Good.len_b {a : Kh363.Abs} (G : Good a) : a.blocked.length ≤ 25 := Nat.le_trans (nodup_len G.fits.bnd G.fits.bin) (cells_le G.ok)
theorem Good.free {a : Kh363.Abs} (G : Good a) : AllFree a a.grains := fun c hc => isFree_iff.mpr (G.fits.gin c hc)
theorem same_rev (l : List Nat) : SameCells l.reverse l := fun c => List.mem_reverse
/-! ### promises -/
def ansL (x : Kh363.Ans) : List Int := x.ret :: x.out.map Int.ofNat
def Did (Z : Addr → Prop) (C : Addr) (H : Hp) (p : Addr) (s : Option Kh363.Abs) (l : List Int) (Q : VK) : Prop := ∀ H' r, But p H H' → BedS Z C H' p s → H r = none → H' r = some (.lst (iv l)) → Q (.ref r) H'
def DidR (Z : Addr → Prop) (C : Addr) (H : Hp) (p : Addr) (x : Option Kh363.Abs × Kh363.Ans) (Q : VK) : Prop := Did Z C H p x.1 (ansL x.2) Q
def spC1 (C : Addr) (f : Nat → Kh363.Call) : Sp := fun vs H Q _ => ∃ (Z : Addr → Prop) (p : Addr) (a : Kh363.Abs) (c : Nat), vs = [.ref p, .int c] ∧ BedS Z C H p (some a) ∧ Good a ∧ DidR Z C H p (Kh363.doing (some a) (f c)) Q
def spC0 (C : Addr) (f : Kh363.Call) : Sp := fun vs H Q _ => ∃ (Z : Addr → Prop) (p : Addr) (a : Kh363.Abs), vs = [.ref p] ∧ BedS Z C H p (some a) ∧ Good a ∧ DidR Z C H p (Kh363.doing (some a) f) Q
/-- a new list is given back, and nothing else is changed -/
theorem Did.new {Z : Addr → Prop} {C : Addr} {H H1 : Hp} {p : Addr} {s : Option Kh363.Abs} {l : List Int} {Q : VK} (D : Did Z C H p s l Q) (B : BedS Z C H p s) (q : Same H H1) {r : Addr} (hr : H1 r = none) : Q (.ref r) (upd H1 r (.lst (iv l))) :=
  D _ r (But.of_same (Same.new q hr)) (BedS.same (Same.new q hr) B) (q.free hr) upd_same
/-- what the top has written of the class -/
structure TxtBed (K : PySem.W.Frag) (C : Addr) : Prop where
  cl : Cls K C
  nW : NoAttr K C "width"
  nH : NoAttr K C "height"
  nB : NoAttr K C "blocked"
  nG : NoAttr K C "grains"
  nE : NoAttr K C "earlier"
end Bed
namespace Bed
open PySem PySem.Spec PyProof.Rows L2
section
variable {P : Program} {w : World} {K : PySem.W.Frag} {mg : Str → Option Value} {base : Heap}
theorem nodup_rev {l : List Nat} (h : l.Nodup) : l.reverse.Nodup := (List.reverse_perm l).nodup_iff.mpr h
/-! ### Bed.__init__ -/
abbrev sInit : Stmt := inClass (top 29) 0
def spInit (C : Addr) : Sp := fun vs H Q _ => ∃ (p dx : Addr), vs = [.ref p] ∧ H p = some (.ins C dx []) ∧ ∀ H' : Hp, But p H H' → BedS (fun _ => False) C H' p none → Q .non H'
theorem scInit : FnScope ["self"] ["self"] (defScope sInit) := ⟨rfl, rfl, rfl, by decide +kernel, rfl, by decide +kernel, by decide +kernel⟩
theorem ok_init {f C : Addr} {fd : FuncData} (F : Fun K "__init__" "Bed.__init__" sInit f fd) (T : TxtBed K C) : FnOk P w K mg base CX0 1 f fd ["self"] (spInit C) := by
  refine F.ok scInit (fun vs H Q E h => ?_) (fun cdv A outer s H vs Q E hr h => ?_)
  · obtain ⟨p, dx, rfl, _⟩ := h
    rfl
  · obtain ⟨p, dx, rfl, hp, k⟩ := h
    refine ⟨_, pss_cons (ps_fld (pv 0) pe_int rfl) (pss_cons (ps_fld (pv 0) pe_int rfl) (pss_cons (ps_fld (pv 0) (pe_lst pa_nil) rfl) (pss_cons (ps_fld (pv 0) (pe_lst pa_nil) rfl) (pss_one (ps_fld (pv 0) (pe_lst pa_nil) rfl))))), ?_⟩
    refine ⟨_, rfl, p, C, dx, _, rfl, hp, T.cl, T.nW, (by show 0 < 1000; decide), ?_⟩
    refine ⟨_, rfl, p, C, dx, _, rfl, upd_same, T.cl, T.nH, (by show 1 < 1000; decide), ?_⟩
    refine ⟨Nat.zero_le _, fun b hb => ⟨_, rfl, p, C, dx, _, rfl, Eq.trans (upd_ne (ne_of_none upd_same hb)) upd_same, T.cl, T.nB, (by show 2 < 1000; decide), ?_⟩⟩
    have pb : p ≠ b := ne_of_none upd_same hb
    refine ⟨Nat.zero_le _, fun g hg => ?_⟩
    have pg : p ≠ g := ne_of_none upd_same hg
    refine ⟨_, rfl, p, C, dx, _, rfl, Eq.trans (upd_ne pg) upd_same, T.cl, T.nG, (by show 3 < 1000; decide), ?_⟩
    refine ⟨Nat.zero_le _, fun e he => ?_⟩
    have pe : p ≠ e := ne_of_none upd_same he
    refine ⟨_, rfl, p, C, dx, _, rfl, Eq.trans (upd_ne pe) upd_same, T.cl, T.nE, (by show 4 < 1000; decide), ?_⟩
    have bg : b ≠ g := by
      rintro rfl
      rw [upd_ne pb.symm, upd_same] at hg
      cases hg
    have be : b ≠ e := by
      rintro rfl
      rw [upd_ne pb.symm, upd_ne bg, upd_ne pb.symm, upd_same] at he
      cases he
    have ge : g ≠ e := by
      rintro rfl
      rw [upd_ne pg.symm, upd_same] at he
      cases he
    have hb0 : H b = none := by rw [upd_ne pb.symm, upd_ne pb.symm] at hb; exact hb
    have hg0 : H g = none := by rw [upd_ne pg.symm, upd_ne bg.symm, upd_ne pg.symm, upd_ne pg.symm] at hg; exact hg
    have he0 : H e = none := by rw [upd_ne pe.symm, upd_ne ge.symm, upd_ne pe.symm, upd_ne be.symm, upd_ne pe.symm, upd_ne pe.symm] at he; exact he
    refine k _ (fun c o hc n => ?_) ⟨dx, b, g, e, [], ?_, ?_, ?_, ?_, trivial, fun x z => z.elim, id, id, id, id⟩
    · rw [upd_ne n, upd_ne (ne_of_none hc he0), upd_ne n, upd_ne (ne_of_none hc hg0), upd_ne n, upd_ne (ne_of_none hc hb0), upd_ne n, upd_ne n]
      exact hc
    · rw [upd_same, put_new]
    · rw [upd_ne pb.symm, upd_ne be, upd_ne pb.symm, upd_ne bg, upd_ne pb.symm, upd_same]
      rfl
    · rw [upd_ne pg.symm, upd_ne ge, upd_ne pg.symm, upd_same]
      rfl
    · rw [upd_ne pe.symm, upd_same]
      rfl
/-! ### has_cell -/
abbrev sHas : Stmt := top 30
def spHas (C : Addr) : Sp := fun vs H Q _ => ∃ (Z : Addr → Prop) (p : Addr) (a : Kh363.Abs) (c : Nat), vs = [.ref p, .int c] ∧ BedS Z C H p (some a) ∧ Ok a ∧ Q (.bl (decide (c < Kh363.cells a))) H
theorem scHas : FnScope ["bed", "cell"] ["bed", "cell"] (defScope sHas) := ⟨rfl, rfl, rfl, by decide +kernel, rfl, by decide +kernel, by decide +kernel⟩
theorem ok_has {f C : Addr} {fd : FuncData} (F : Fun K "has_cell" "has_cell" sHas f fd) (T : TxtBed K C) : FnOk P w K mg base CX0 1 f fd ["bed", "cell"] (spHas C) := by
  refine F.ok scHas (fun vs H Q E h => ?_) (fun cdv A outer s H vs Q E hr h => ?_)
  · obtain ⟨Z, p, a, c, rfl, _⟩ := h
    rfl
  · obtain ⟨Z, p, a, c, rfl, ⟨dx, b, g, e, ts, B⟩, o, k⟩ := h
    have w5 := o.w5
    refine ⟨_, pss_one (ps_ret (pe_cmpR op_lt (pv 1) (pe_op op_mul (pe_fld (pv 0) rfl) (pe_fld (pv 0) rfl)) (nomark _))), ?_⟩
    refine ⟨_, rfl, _, rfl, p, C, dx, _, _, rfl, B.at_, T.cl, T.nW, bF_w _ _ _ _ _, _, rfl, p, C, dx, _, _, rfl, B.at_, T.cl, T.nH, bF_h _ _ _ _ _, _, _, rfl, rfl, .inl ⟨by omega, by omega⟩, _, _, rfl, rfl, ?_⟩
    have e : decide ((c : Int) < (a.wide : Int) * (a.high : Int)) = decide (c < Kh363.cells a) := by
      unfold Kh363.cells
      have : ((a.wide : Int) * (a.high : Int)) = ((a.wide * a.high : Nat) : Int) := by simp
      rw [this]
      by_cases q : c < a.wide * a.high
      · rw [decide_eq_true q, decide_eq_true (by omega)]
      · rw [decide_eq_false q, decide_eq_false (by omega)]
    show Q (.bl (decide ((c : Int) < (a.wide : Int) * (a.high : Int)))) H
    rw [e]
    exact k
/-! ### days_of -/
abbrev sDays : Stmt := top 31
def spDays (C : Addr) : Sp := fun vs H Q _ => ∃ (Z : Addr → Prop) (p : Addr) (a : Kh363.Abs), vs = [.ref p] ∧ BedS Z C H p (some a) ∧ Good a ∧ ∀ H' r, Same H H' → H r = none → H' r = some (.lst (iv (daysOf a a.grains))) → Q (.ref r) H'
theorem scDays : FnScope ["bed"] ["bed"] (defScope sDays) := ⟨rfl, rfl, rfl, by decide +kernel, rfl, by decide +kernel, by decide +kernel⟩
theorem ok_days {f C fs : Addr} {fd fds : FuncData} (F : Fun K "days_of" "days_of" sDays f fd) (T : TxtBed K C) (GS : FnOk P w K mg base CX0 3 fs fds ["width", "height", "blocked", "grains"] (spSpread K)) (FS : Fun K "spread_days" "spread_days" sSpread fs fds) (bS : Binds K fds ["width", "height", "blocked", "grains"] []) (mS : mg "spread_days" = some (.ref fs)) :
    FnOk P w K mg base CX0 4 f fd ["bed"] (spDays C) := by
  refine F.ok scDays (fun vs H Q E h => ?_) (fun cdv A outer s H vs Q E hr h => ?_)
  · obtain ⟨Z, p, a, rfl, _⟩ := h
    rfl
  · obtain ⟨Z, p, a, rfl, ⟨dx, b, g, e, ts, B⟩, G, k⟩ := h
    refine ⟨_, pss_one (ps_ret (pe_call GS hr rfl mS FS.kp bS .nil pass0 (pa_cons (pe_fld (pv 0) rfl) (pa_cons (pe_fld (pv 0) rfl) (pa_cons (pe_fld (pv 0) rfl) (pa_cons (pe_fld (pv 0) rfl) pa_nil)))))), ?_⟩
    refine ⟨_, rfl, p, C, dx, _, _, rfl, B.at_, T.cl, T.nW, bF_w _ _ _ _ _, _, rfl, p, C, dx, _, _, rfl, B.at_, T.cl, T.nH, bF_h _ _ _ _ _, _, rfl, p, C, dx, _, _, rfl, B.at_, T.cl, T.nB, bF_b _ _ _ _ _, _, rfl, p, C, dx, _, _, rfl, B.at_, T.cl, T.nG, bF_g _ _ _ _ _, ?_⟩
    refine ⟨a, b, g, _, _, a.grains, rfl, G.ok, SqL.of B.hb, SqL.of B.hg, fun c hc => G.free c (List.mem_reverse.mp hc), same_rev _, same_rev _, (by have := G.fits.gmost; rw [List.length_reverse]; omega), fun H' r s1 hr1 hr2 => k H' r s1 hr1 hr2⟩
/-! ### without_cell -/
abbrev sWithout : Stmt := top 33
def spWithout (K : PySem.W.Frag) : Sp := fun vs H Q _ => ∃ (l : Addr) (xs : List Nat) (c : Nat), vs = [.ref l, .int c] ∧ SqL K H l (nv xs) ∧ xs.length ≤ 1000 ∧ ∀ H' r, Same H H' → H r = none → H' r = some (.lst (nv (xs.filter fun x => x != c))) → Q (.ref r) H'
theorem scWithout : FnScope ["cells", "cell", "other"] ["cells", "cell"] (defScope sWithout) := ⟨rfl, rfl, rfl, by decide +kernel, rfl, by decide +kernel, by decide +kernel⟩
theorem ok_without {f : Addr} {fd : FuncData} (F : Fun K "without_cell" "without_cell" sWithout f fd) : FnOk P w K mg base CX0 1 f fd ["cells", "cell"] (spWithout K) := by
  refine F.ok scWithout (fun vs H Q E h => ?_) (fun cdv A outer s H vs Q E hr h => ?_)
  · obtain ⟨l, xs, c, rfl, _⟩ := h
    rfl
  · obtain ⟨l, xs, c, rfl, hl, xl, k⟩ := h
    refine ⟨_, pss_one (ps_ret (pe_lc (own := [("other", 2)]) (g := gName 2) (tt := tTest (tOp rNe (tVar 2) (tVar 1))) (te := tVar 2) rfl scWithout.nd (pi_list (pv 0)) (blkOk_by (N := ["cells", "cell", "other"]) (sc := defScope sWithout) (by decide +kernel))
      (fun _ _ _ _ _ => pg_name (i := 2) scWithout.nd rfl (Or.inl rfl)) (fun _ _ _ _ _ => pts_one (pt_cmpR op_ne (pv 2) (pv 1) (nomark _))) (fun _ _ _ _ _ => pv 2))), ?_⟩
    refine ⟨_, rfl, l, rfl, ⟨_, hl⟩, fun D hD => ?_⟩
    refine lc_list (K := K) (a := l) (xs := nv xs) (fun i H' => Same H H' ∧ H' D = some (.lst (nv ((xs.take i).filter fun x => x != c)))) ⟨Same.new (Same.refl H) hD, upd_same⟩ (fun i H' _ ⟨s5, _⟩ => s5.seq hl) ?_ ?_
    · rintro i y H' hi ⟨s5, hD5⟩
      obtain ⟨x, hx, rfl⟩ := nv_get hi
      have hfl := List.length_filter_le (fun x => x != c) (xs.take i)
      rw [List.length_take] at hfl
      refine ⟨rfl, _, rfl, _, rfl, rfl, _, rfl, ?_⟩
      refine ite2 (fun q1 => ?_) (fun q1 => ?_)
      · refine ⟨_, rfl, _, hD5, ?_, Same.upd s5 hD, ?_⟩
        · rw [nv_len, sizeLine_eq]
          omega
        · have q2 : (x != c) = true := by
            simp at q1 ⊢
            omega
          rw [upd_same, take_more hx, List.filter_append, nv_app]
          simp [q2, nv]
      · refine ⟨s5, ?_⟩
        have q2 : (x != c) = false := by
          simp at q1 ⊢
          omega
        rw [take_more hx, List.filter_append]
        simpa [q2] using hD5
    · rintro H' ⟨s5, hD5⟩
      rw [nv_len, List.take_length] at hD5
      exact k H' D s5 hD hD5
/-! ### counted -/
abbrev sCounted : Stmt := top 44
def spCounted : Sp := fun vs H Q _ => ∃ (l : Addr) (xs : List Nat), vs = [.ref l] ∧ H l = some (.lst (nv xs)) ∧ xs.length ≤ 1000 ∧ ∀ H' r, Same H H' → H r = none → H' r = some (.lst (iv ((xs.length : Int) :: xs.map Int.ofNat))) → Q (.ref r) H'
theorem scCounted : FnScope ["cells"] ["cells"] (defScope sCounted) := ⟨rfl, rfl, rfl, by decide +kernel, rfl, by decide +kernel, by decide +kernel⟩
theorem iv_counted (xs : List Nat) : iv ((xs.length : Int) :: xs.map Int.ofNat) = [V.int (xs.length : Int)] ++ nv xs := by
  unfold iv nv
  rw [List.map_cons, List.map_map]
  rfl
theorem ok_counted {f : Addr} {fd : FuncData} (F : Fun K "counted" "counted" sCounted f fd) (len : mg "len" = none) : FnOk P w K mg base CX0 1 f fd ["cells"] spCounted := by
  refine F.ok scCounted (fun vs H Q E h => ?_) (fun cdv A outer s H vs Q E hr h => ?_)
  · obtain ⟨l, xs, rfl, _⟩ := h
    rfl
  · obtain ⟨l, xs, rfl, hl, xl, k⟩ := h
    refine ⟨_, pss_one (ps_ret (pe_op op_cat (pe_lst (pa_cons (pe_callB call_len_seq rfl len PySem.boot_len (pa_cons (pv 0) pa_nil)) pa_nil)) (pv 0))), ?_⟩
    refine ⟨_, rfl, l, _, rfl, .inl (SqL.of hl), (by show 1 ≤ sizeLine; decide), fun q hq => ?_⟩
    have s1 : Same H (upd H q (.lst [V.int ((nv xs).length : Nat)])) := Same.new (Same.refl H) hq
    refine ⟨_, rfl, q, l, _, _, rfl, rfl, upd_same, s1 _ _ hl, ?_, fun r hr => ?_⟩
    · rw [nv_len, sizeLine_eq]
      show 1 + _ ≤ _
      omega
    · refine k _ r (Same.new s1 hr) (s1.free hr) ?_
      rw [upd_same, iv_counted, nv_len]
end
end Bed
namespace Bed
open PySem PySem.Spec PyProof.Rows L2
theorem cutV_tail (xs : List V) (k : Nat) (hk : 0 < k) : cutV xs (some (-(k : Int))) none = xs.drop (xs.length - k) := by
  unfold cutV
  have e1 : HT.sIx xs.length 0 (some (-(k : Int))) = xs.length - k := by
    show (if -(k : Int) < 0 then (-(k : Int) + (xs.length : Int)).toNat else min (-(k : Int)).toNat xs.length) = _
    rw [if_pos (by omega)]
    omega
  have e2 : HT.sIx xs.length xs.length none = xs.length := rfl
  rw [e1, e2]
  apply List.take_of_length_le
  rw [List.length_drop]
  omega
theorem cutV_init (xs : List V) (x : V) : cutV (xs ++ [x]) none (some (-1)) = xs := by
  unfold cutV
  have e1 : HT.sIx (xs ++ [x]).length 0 none = 0 := rfl
  have e2 : HT.sIx (xs ++ [x]).length (xs ++ [x]).length (some (-1)) = xs.length := by
    show (if (-1 : Int) < 0 then (-1 + ((xs ++ [x]).length : Int)).toNat else min (-1 : Int).toNat (xs ++ [x]).length) = _
    rw [if_pos (by omega), List.length_append, List.length_singleton]
    omega
  rw [e1, e2]
  simp
section
variable {P : Program} {w : World} {K : PySem.W.Frag} {mg : Str → Option Value} {base : Heap}
/-! ### change -/
abbrev sChange : Stmt := top 34
def spChange (C : Addr) : Sp := fun vs H Q _ => ∃ (Z : Addr → Prop) (p b' g' : Addr) (w h : Int) (bl gr bl' gr' : List Nat) (un : List (List Nat × List Nat)), vs = [.ref p, .ref b', .ref g'] ∧ BedAt Z C H p w h bl gr un ∧ ¬ Z b' ∧ ¬ Z g' ∧
  H b' = some (.lst (nv bl')) ∧ H g' = some (.lst (nv gr')) ∧ un.length ≤ 10 ∧ ∀ H' : Hp, But p H H' → BedAt Z C H' p w h bl' gr' ((un ++ [(bl, gr)]).drop (un.length + 1 - 10)) → Q .non H'
theorem scChange : FnScope ["bed", "blocked", "grains", "kept"] ["bed", "blocked", "grains"] (defScope sChange) := ⟨rfl, rfl, rfl, by decide +kernel, rfl, by decide +kernel, by decide +kernel⟩
theorem ok_change {f C : Addr} {fd : FuncData} (F : Fun K "change" "change" sChange f fd) (T : TxtBed K C) (mB : MgInt mg "MOST_BACK" 10) : FnOk P w K mg base CX0 1 f fd ["bed", "blocked", "grains"] (spChange C) := by
  refine F.ok scChange (fun vs H Q E h => ?_) (fun cdv A outer s H vs Q E hr h => ?_)
  · obtain ⟨Z, p, b', g', w, h, bl, gr, bl', gr', un, rfl, _⟩ := h
    rfl
  · obtain ⟨Z, p, b', g', w, h, bl, gr, bl', gr', un, rfl, ⟨dx, b, g, e, ts, B⟩, zb', zg', hb', hg', hun, k⟩ := h
    refine ⟨_, pss_cons (ps_set (i := 3) scChange.nd rfl (Or.inl rfl) (pe_op op_cat (pe_fld (pv 0) rfl) (pe_lst (pa_cons (pe_tup (pa_cons (pe_fld (pv 0) rfl) (pa_cons (pe_fld (pv 0) rfl) pa_nil))) pa_nil))))
      (pss_cons (ps_fld (pv 0) (pe_slice sl_list (pv 3) (po_some (pe_un un_neg (pe_globI rfl mB))) po_none) rfl)
      (pss_cons (ps_fld (pv 0) (pv 1) rfl) (pss_one (ps_fld (pv 0) (pv 2) rfl)))), ?_⟩
    refine ⟨_, rfl, p, C, dx, _, _, rfl, B.at_, T.cl, T.nE, bF_e _ _ _ _ _, _, rfl, p, C, dx, _, _, rfl, B.at_, T.cl, T.nB, bF_b _ _ _ _ _, _, rfl, p, C, dx, _, _, rfl, B.at_, T.cl, T.nG, bF_g _ _ _ _ _, (by show 2 ≤ sizeLine; decide), fun t ht => ?_⟩
    have s1 : Same H (upd H t (.tup [.ref b, .ref g])) := Same.new (Same.refl H) ht
    refine ⟨(by show 1 ≤ sizeLine; decide), fun q hq => ?_⟩
    have s2 := Same.new (o := .lst [.ref t]) s1 hq
    have lts := B.hu.len
    refine ⟨e, q, _, _, rfl, rfl, s2 _ _ B.he, upd_same, ?_, fun r hr => ?_⟩
    · rw [List.length_map, sizeLine_eq]
      show _ + 1 ≤ _
      omega
    have s3 := Same.new (o := .lst (ts.map V.ref ++ [.ref t])) s2 hr
    refine ⟨_, rfl, _, rfl, _, rfl, r, _, rfl, SqL.of upd_same, fun u hu => ?_⟩
    have s4 := Same.new (o := .lst (cutV (ts.map V.ref ++ [.ref t]) (some (-10)) none)) s3 hu
    refine ⟨_, rfl, p, C, dx, _, rfl, s4 _ _ B.at_, T.cl, T.nE, (by show 5 < 1000; decide), ?_⟩
    refine ⟨_, rfl, _, rfl, p, C, dx, _, rfl, upd_same, T.cl, T.nB, (by rw [put_e]; show 5 < 1000; decide), ?_⟩
    refine ⟨_, rfl, _, rfl, p, C, dx, _, rfl, upd_same, T.cl, T.nG, (by rw [put_e, put_b]; show 5 < 1000; decide), ?_⟩
    rw [put_e, put_b, put_g, upd_upd, upd_upd]
    have bb : But p H (upd (upd (upd (upd (upd H t (.tup [.ref b, .ref g])) q (.lst [.ref t])) r (.lst (ts.map V.ref ++ [.ref t]))) u (.lst (cutV (ts.map V.ref ++ [.ref t]) (some (-10)) none))) p (.ins C dx (bF w h b' g' u))) := (But.of_same s4).upd
    have nb' : b' ≠ p := ne_of hb' B.at_ (by intro z; cases z)
    have ng' : g' ≠ p := ne_of hg' B.at_ (by intro z; cases z)
    have pu : u ≠ p := (ne_of_none (s3 _ _ B.at_) hu).symm
    refine k _ bb ⟨dx, b', g', u, (ts ++ [t]).drop (un.length + 1 - 10), upd_same, bb _ _ hb' nb', bb _ _ hg' ng', ?_, ?_, B.live bb, B.zp, zb', zg', B.new (s3.free hu)⟩
    · rw [upd_ne pu, upd_same, show (-10 : Int) = -((10 : Nat) : Int) from rfl, cutV_tail _ _ (by decide), List.length_append, List.length_map, List.length_singleton, lts]
      rw [List.map_drop, List.map_append]
      rfl
    · have tp : t ≠ p := (ne_of_none B.at_ ht).symm
      have ht4 : (upd (upd (upd (upd H t (.tup [.ref b, .ref g])) q (.lst [.ref t])) r (.lst (ts.map V.ref ++ [.ref t]))) u (.lst (cutV (ts.map V.ref ++ [.ref t]) (some (-10)) none))) t = some (.tup [.ref b, .ref g]) := by
        have a1 : (upd H t (.tup [.ref b, .ref g])) t = some (.tup [.ref b, .ref g]) := upd_same
        have a2 := Same.new (o := .lst [.ref t]) (Same.refl _) hq _ _ a1
        have a3 := Same.new (o := .lst (ts.map V.ref ++ [.ref t])) (Same.refl _) hr _ _ a2
        exact Same.new (o := .lst (cutV (ts.map V.ref ++ [.ref t]) (some (-10)) none)) (Same.refl _) hu _ _ a3
      refine Undo.drop _ (Undo.snoc (b := b) (g := g) ?_ (bb _ _ B.hb B.nb) (bb _ _ B.hg B.ng) (B.new ht) B.zb B.zg (B.hu.mono bb B.at_))
      rw [upd_ne tp]
      exact ht4
end
end Bed
namespace Bed
open PySem PySem.Spec PyProof.Rows L2
theorem keep_undo (a : Kh363.Abs) : ((((a.blocked, a.grains) :: a.undo).take 10).reverse.map rv) = ((a.undo.reverse.map rv) ++ [(a.blocked.reverse, a.grains.reverse)]).drop ((a.undo.reverse.map rv).length + 1 - 10) := by
  rw [List.reverse_take, List.map_drop, List.reverse_cons, List.map_append, List.length_map, List.length_reverse]
  rfl
theorem BedS.some_at {Z : Addr → Prop} {C : Addr} {H : Hp} {p : Addr} {s : Option Kh363.Abs} (B : BedS Z C H p s) : ∃ o, H p = some o := by
  cases s with
  | none =>
    obtain ⟨dx, b, g, e, ts, B⟩ := B
    exact ⟨_, B.at_⟩
  | some a =>
    obtain ⟨dx, b, g, e, ts, B⟩ := B
    exact ⟨_, B.at_⟩
theorem But.free {Z : Addr → Prop} {C : Addr} {H H' : Hp} {p : Addr} {s : Option Kh363.Abs} (bb : But p H H') (B' : BedS Z C H' p s) {r : Addr} (hr : H' r = none) : H r = none := by
  obtain ⟨o, ho⟩ := B'.some_at
  cases e : H r with
  | none => rfl
  | some u =>
    by_cases q : r = p
    · subst q
      rw [ho] at hr
      cases hr
    · rw [bb r u e q] at hr
      cases hr
theorem Did.made {Z : Addr → Prop} {C : Addr} {H H' : Hp} {p : Addr} {s : Option Kh363.Abs} {l : List Int} {Q : VK} (D : Did Z C H p s l Q) (bb : But p H H') (B' : BedS Z C H' p s) {r : Addr} (hr : H' r = none) : Q (.ref r) (upd H' r (.lst (iv l))) :=
  D _ r (fun b o h n => by
    have h' := bb b o h n
    rw [upd_ne (ne_of_none h' hr)]
    exact h') (BedS.same (Same.new (Same.refl H') hr) B') (bb.free B' hr) upd_same
theorem inV_rev {c : Nat} {l : List Nat} : inV (.int (c : Int)) (nv l.reverse) = decide (c ∈ l) := by
  rw [inV_nv]
  simp
/-- the numbers that the module names -/
structure TxtN (mg : Str → Option Value) : Prop where
  missing : MgInt mg "MISSING" (-2)
  barred : MgInt mg "BARRED" (-16)
  already : MgInt mg "ALREADY" (-17)
  badSize : MgInt mg "OUT_OF_RANGE" (-22)
  tooMany : MgInt mg "TOO_MANY" (-28)
  notBegun : MgInt mg "NOT_BEGUN" (-61)
  longest : MgInt mg "LONGEST_SIDE" 5
  mostG : MgInt mg "MOST_GRAINS" 6
  mostB : MgInt mg "MOST_BACK" 10
  enough : MgInt mg "MOST_ENOUGH" 3
  latest : MgInt mg "LATEST_DAY" 50
  begin_ : MgInt mg "BEGIN" 0
  never : MgInt mg "NEVER" (-33)
  len : mg "len" = none
  range : mg "range" = none
  max : mg "max" = none
  list : mg "list" = none
  min : mg "min" = none
  sum : mg "sum" = none
  sorted : mg "sorted" = none
section
variable {P : Program} {w : World} {K : PySem.W.Frag} {mg : Str → Option Value} {base : Heap}
/-! ### block_refusal -/
abbrev sRefuse : Stmt := top 36
/-- why it can't be blocked -/
def blockRef (a : Kh363.Abs) (c : Nat) : List Int := if Kh363.cells a ≤ c then [-2] else if a.blocked.contains c then [-17] else if a.grains.contains c then [-16] else []
def spRefuse (C : Addr) : Sp := fun vs H Q _ => ∃ (Z : Addr → Prop) (p : Addr) (a : Kh363.Abs) (c : Nat), vs = [.ref p, .int c] ∧ BedS Z C H p (some a) ∧ Ok a ∧ ∀ H' r, Same H H' → H r = none → H' r = some (.lst (iv (blockRef a c))) → Q (.ref r) H'
theorem scRefuse : FnScope ["bed", "cell"] ["bed", "cell"] (defScope sRefuse) := ⟨rfl, rfl, rfl, by decide +kernel, rfl, by decide +kernel, by decide +kernel⟩
theorem ok_refuse {f C fh : Addr} {fd fdh : FuncData} (F : Fun K "block_refusal" "block_refusal" sRefuse f fd) (T : TxtBed K C) (N : TxtN mg)
    (FH : Fun K "has_cell" "has_cell" sHas fh fdh) (bH : Binds K fdh ["bed", "cell"] []) (mH : mg "has_cell" = some (.ref fh)) : FnOk P w K mg base CX0 2 f fd ["bed", "cell"] (spRefuse C) := by
  have GH : FnOk P w K mg base CX0 1 fh fdh ["bed", "cell"] (spHas C) := ok_has FH T
  refine F.ok scRefuse (fun vs H Q E h => ?_) (fun cdv A outer s H vs Q E hr h => ?_)
  · obtain ⟨Z, p, a, c, rfl, _⟩ := h
    rfl
  · obtain ⟨Z, p, a, c, rfl, B0, oa, k⟩ := h
    obtain ⟨dx, b, g, e, ts, B⟩ := id B0
    refine ⟨_, pss_cons (ps_if (pt_not (pt_val (pe_call GH hr rfl mH FH.kp bH .nil pass0 (pa_cons (pv 0) (pa_cons (pv 1) pa_nil))))) (pss_one (ps_ret (pe_lst (pa_cons (pe_globI rfl N.missing) pa_nil)))) pss_nil)
      (pss_cons (ps_if (pt_cmpR op_in_seq (pv 1) (pe_fld (pv 0) rfl) rfl) (pss_one (ps_ret (pe_lst (pa_cons (pe_globI rfl N.already) pa_nil)))) pss_nil)
      (pss_cons (ps_if (pt_cmpR op_in_seq (pv 1) (pe_fld (pv 0) rfl) rfl) (pss_one (ps_ret (pe_lst (pa_cons (pe_globI rfl N.barred) pa_nil)))) pss_nil)
      (pss_one (ps_ret (pe_lst pa_nil))))), ?_⟩
    have fin : ∀ l, blockRef a c = l → ∀ r, H r = none → Q (.ref r) (upd H r (.lst (iv l))) := fun l el r hr => by
      subst el
      exact k _ r (Same.new (Same.refl H) hr) hr upd_same
    refine ⟨_, rfl, _, rfl, Z, p, a, c, rfl, B0, oa, _, rfl, ?_⟩
    by_cases h1 : c < Kh363.cells a
    · refine if_false_of (by simp [h1]) ?_
      refine ⟨_, rfl, _, rfl, p, C, dx, _, _, rfl, B.at_, T.cl, T.nB, bF_b _ _ _ _ _, b, _, rfl, .inl (SqL.of B.hb), rfl, nv_flat _, _, rfl, ?_⟩
      by_cases h2 : c ∈ a.blocked
      · refine if_true_of (by simp [inV_rev, h2]) ?_
        exact ⟨(by show 1 ≤ sizeLine; decide), fin [-17] ((if_neg (by omega)).trans (if_pos (by simpa using h2)))⟩
      · refine if_false_of (by simp [inV_rev, h2]) ?_
        refine ⟨_, rfl, _, rfl, p, C, dx, _, _, rfl, B.at_, T.cl, T.nG, bF_g _ _ _ _ _, g, _, rfl, .inl (SqL.of B.hg), rfl, nv_flat _, _, rfl, ?_⟩
        by_cases h3 : c ∈ a.grains
        · refine if_true_of (by simp [inV_rev, h3]) ?_
          exact ⟨(by show 1 ≤ sizeLine; decide), fin [-16] ((if_neg (by omega)).trans ((if_neg (by simpa using h2)).trans (if_pos (by simpa using h3))))⟩
        · refine if_false_of (by simp [inV_rev, h3]) ?_
          exact ⟨Nat.zero_le _, fin [] ((if_neg (by omega)).trans ((if_neg (by simpa using h2)).trans (if_neg (by simpa using h3))))⟩
    · refine if_true_of (by simp [h1]) ?_
      exact ⟨(by show 1 ≤ sizeLine; decide), fin [-2] (if_pos (by omega))⟩
theorem blockRef_some {a : Kh363.Abs} {c : Nat} (h : blockRef a c ≠ []) : ∃ z : Int, blockRef a c = [z] ∧ Kh363.doing (some a) (.block c) = (some a, Kh363.say z) ∧ Kh363.doing (some a) (.ifBlock c) = (some a, Kh363.say z) := by
  unfold blockRef at h ⊢
  unfold Kh363.doing
  dsimp only
  by_cases h1 : Kh363.cells a ≤ c
  · exact ⟨-2, by rw [if_pos h1], by rw [if_pos h1], by rw [if_pos h1]⟩
  · rw [if_neg h1, if_neg h1, if_neg h1] at *
    by_cases h2 : a.blocked.contains c = true
    · exact ⟨-17, by rw [if_pos h2], by rw [if_pos h2], by rw [if_pos h2]⟩
    · rw [if_neg h2, if_neg h2, if_neg h2] at *
      by_cases h3 : a.grains.contains c = true
      · exact ⟨-16, by rw [if_pos h3], by rw [if_pos h3], by rw [if_pos h3]⟩
      · rw [if_neg h3] at h
        exact absurd rfl h
theorem blockRef_none {a : Kh363.Abs} {c : Nat} (h : blockRef a c = []) : c < Kh363.cells a ∧ c ∉ a.blocked ∧ c ∉ a.grains ∧
    Kh363.doing (some a) (.block c) = (some (Kh363.keep a { a with blocked := c :: a.blocked }), Kh363.say (a.blocked.length + 1 : Nat)) ∧ Kh363.doing (some a) (.ifBlock c) = (some a, Kh363.orNever (Kh363.full { a with blocked := c :: a.blocked })) := by
  unfold blockRef at h
  by_cases h1 : Kh363.cells a ≤ c
  · rw [if_pos h1] at h
    cases h
  · rw [if_neg h1] at h
    by_cases h2 : a.blocked.contains c = true
    · rw [if_pos h2] at h
      cases h
    · rw [if_neg h2] at h
      by_cases h3 : a.grains.contains c = true
      · rw [if_pos h3] at h
        cases h
      · exact ⟨by omega, by simpa using h2, by simpa using h3, (if_neg h1).trans ((if_neg h2).trans (if_neg h3)), (if_neg h1).trans ((if_neg h2).trans (if_neg h3))⟩
/-! ### block_cell -/
abbrev sBlock : Stmt := top 37
theorem scBlock : FnScope ["bed", "cell", "refused"] ["bed", "cell"] (defScope sBlock) := ⟨rfl, rfl, rfl, by decide +kernel, rfl, by decide +kernel, by decide +kernel⟩
theorem ok_block {f C fh fc : Addr} {fd fdh fdc : FuncData} (F : Fun K "block_cell" "block_cell" sBlock f fd) (T : TxtBed K C) (N : TxtN mg)
    (FH : Fun K "block_refusal" "block_refusal" sRefuse fh fdh) (GH : FnOk P w K mg base CX0 2 fh fdh ["bed", "cell"] (spRefuse C)) (bH : Binds K fdh ["bed", "cell"] []) (mH : mg "block_refusal" = some (.ref fh)) (FC : Fun K "change" "change" sChange fc fdc) (bC : Binds K fdc ["bed", "blocked", "grains"] []) (mC : mg "change" = some (.ref fc)) :
    FnOk P w K mg base CX0 3 f fd ["bed", "cell"] (spC1 C .block) := by
  have GC : FnOk P w K mg base CX0 1 fc fdc ["bed", "blocked", "grains"] (spChange C) := ok_change FC T N.mostB
  refine F.ok scBlock (fun vs H Q E h => ?_) (fun cdv A outer s H vs Q E hr h => ?_)
  · obtain ⟨Z, p, a, c, rfl, _⟩ := h
    rfl
  · obtain ⟨Z, p, a, c, rfl, B0, G, D⟩ := h
    have hr1 : Room 1 _ := hr.mono (by decide)
    refine ⟨_, pss_cons (ps_set (i := 2) scBlock.nd rfl (Or.inl rfl) (pe_call GH hr rfl mH FH.kp bH .nil pass0 (pa_cons (pv 0) (pa_cons (pv 1) pa_nil))))
      (pss_cons (ps_if (pt_cmpR op_gt (pe_callB call_len_seq rfl N.len PySem.boot_len (pa_cons (pv 2) pa_nil)) pe_int (nomark _)) (pss_one (ps_ret (pv 2))) pss_nil)
      (pss_cons (ps_expr (pe_call GC hr1 rfl mC FC.kp bC .nil pass0 (pa_cons (pv 0) (pa_cons (pe_op op_cat (pe_fld (pv 0) rfl) (pe_lst (pa_cons (pv 1) pa_nil))) (pa_cons (pe_fld (pv 0) rfl) pa_nil)))))
      (pss_one (ps_ret (pe_lst (pa_cons (pe_callB call_len_seq rfl N.len PySem.boot_len (pa_cons (pe_fld (pv 0) rfl) pa_nil)) pa_nil)))))), ?_⟩
    refine ⟨_, rfl, _, rfl, Z, p, a, c, rfl, B0, G.ok, fun H0 r0 s0 hr0 hr1' => ?_⟩
    refine ⟨_, rfl, r0, _, rfl, .inl (SqL.of hr1'), _, _, rfl, rfl, _, rfl, ?_⟩
    have B1 : BedS Z C H0 p (some a) := BedS.same s0 B0
    obtain ⟨dx, b, g, e, ts, B⟩ := id B1
    by_cases h1 : blockRef a c = []
    · refine if_false_of (by rw [h1]; rfl) ?_
      obtain ⟨hc, h2, h3, e, _⟩ := blockRef_none h1
      rw [DidR, e] at D
      have lb := G.len_b
      have lu := G.most
      refine ⟨_, rfl, _, rfl, p, C, dx, _, _, rfl, B.at_, T.cl, T.nB, bF_b _ _ _ _ _, _, rfl, (by show 1 ≤ sizeLine; decide), fun q hq => ?_⟩
      have s1 : Same H0 (upd H0 q (.lst [.int c])) := Same.new (Same.refl H0) hq
      refine ⟨b, q, _, _, rfl, rfl, s1 _ _ B.hb, upd_same, ?_, fun r hr => ?_⟩
      · rw [nv_len, List.length_reverse, sizeLine_eq]
        show _ + 1 ≤ _
        omega
      have s2 := Same.new (o := .lst (nv a.blocked.reverse ++ [.int c])) s1 hr
      refine ⟨_, rfl, p, C, dx, _, _, rfl, s2 _ _ B.at_, T.cl, T.nG, bF_g _ _ _ _ _, ?_⟩
      refine ⟨Z, p, r, g, _, _, _, _, a.blocked.reverse ++ [c], _, _, rfl, BedAt.same s2 B1, B.new (s1.free hr), B.zg, ?_, s2 _ _ B.hg, ?_, fun H' bb BA => ?_⟩
      · rw [upd_same, nv_app]
        rfl
      · rw [List.length_map, List.length_reverse]
        exact lu
      · have BN : BedS Z C H' p (some (Kh363.keep a { a with blocked := c :: a.blocked })) := by
          show BedAt Z C H' p a.wide a.high (c :: a.blocked).reverse a.grains.reverse ((((a.blocked, a.grains) :: a.undo).take 10).reverse.map rv)
          rw [keep_undo, List.reverse_cons]
          exact BA
        obtain ⟨dx', b', g', e', ts', B'⟩ := id BA
        refine ⟨_, rfl, p, C, dx', _, _, rfl, B'.at_, T.cl, T.nB, bF_b _ _ _ _ _, b', _, rfl, .inl (SqL.of B'.hb), (by show 1 ≤ sizeLine; decide), fun z hz => ?_⟩
        have lenE : (nv (a.blocked.reverse ++ [c])).length = a.blocked.length + 1 := by simp [nv]
        rw [lenE]
        exact Did.made D ((But.of_same (s0.trans s2)).trans bb) BN hz
    · obtain ⟨z, ez, e, _⟩ := blockRef_some h1
      refine if_true_of (by rw [ez]; rfl) ?_
      rw [DidR, e] at D
      rw [ez] at hr1'
      exact ⟨_, rfl, D H0 r0 (But.of_same s0) B1 hr0 hr1'⟩
end
end Bed
namespace Bed
open PySem PySem.Spec PyProof.Rows L2
theorem filter_rev (l : List Nat) (c : Nat) : (l.filter fun x => x != c).reverse = l.reverse.filter fun x => x != c := List.filter_reverse.symm
theorem filter_out {l : List Nat} (hn : l.Nodup) {c : Nat} (hc : c ∈ l) : (l.filter fun x => x != c).length = l.length - 1 := by
  induction l with
  | nil => cases hc
  | cons x r ih =>
    obtain ⟨h1, h2⟩ := List.nodup_cons.mp hn
    by_cases q : x = c
    · subst q
      have e : (r.filter fun y => y != x) = r := List.filter_eq_self.mpr fun y hy => by
        simp
        rintro rfl
        exact h1 hy
      simp [e]
    · have hr : c ∈ r := by
        rcases List.mem_cons.mp hc with z | z
        · exact absurd z.symm q
        · exact z
      have := ih h2 hr
      have pos : 0 < r.length := List.length_pos_of_mem hr
      have q2 : (x != c) = true := by simp [q]
      rw [List.filter_cons_of_pos (by simpa using q2), List.length_cons, List.length_cons, this]
      omega
section
variable {P : Program} {w : World} {K : PySem.W.Frag} {mg : Str → Option Value} {base : Heap}
/-! ### clear_cell -/
abbrev sClear : Stmt := top 38
theorem scClear : FnScope ["bed", "cell"] ["bed", "cell"] (defScope sClear) := ⟨rfl, rfl, rfl, by decide +kernel, rfl, by decide +kernel, by decide +kernel⟩
theorem ok_clear {f C fo fc : Addr} {fd fdo fdc : FuncData} (F : Fun K "clear_cell" "clear_cell" sClear f fd) (T : TxtBed K C) (N : TxtN mg)
    (FO : Fun K "without_cell" "without_cell" sWithout fo fdo) (bO : Binds K fdo ["cells", "cell"] []) (mO : mg "without_cell" = some (.ref fo)) (FC : Fun K "change" "change" sChange fc fdc) (bC : Binds K fdc ["bed", "blocked", "grains"] []) (mC : mg "change" = some (.ref fc)) :
    FnOk P w K mg base CX0 2 f fd ["bed", "cell"] (spC1 C .clear) := by
  have GO : FnOk P w K mg base CX0 1 fo fdo ["cells", "cell"] (spWithout K) := ok_without FO
  have GC : FnOk P w K mg base CX0 1 fc fdc ["bed", "blocked", "grains"] (spChange C) := ok_change FC T N.mostB
  refine F.ok scClear (fun vs H Q E h => ?_) (fun cdv A outer s H vs Q E hr h => ?_)
  · obtain ⟨Z, p, a, c, rfl, _⟩ := h
    rfl
  · obtain ⟨Z, p, a, c, rfl, B0, G, D⟩ := h
    obtain ⟨dx, b, g, e, ts, B⟩ := id B0
    refine ⟨_, pss_cons (ps_if (pt_cmpR op_notIn_seq (pv 1) (pe_fld (pv 0) rfl) rfl) (pss_one (ps_ret (pe_lst (pa_cons (pe_globI rfl N.missing) pa_nil)))) pss_nil)
      (pss_cons (ps_expr (pe_call GC hr rfl mC FC.kp bC .nil pass0 (pa_cons (pv 0) (pa_cons (pe_call GO hr rfl mO FO.kp bO .nil pass0 (pa_cons (pe_fld (pv 0) rfl) (pa_cons (pv 1) pa_nil))) (pa_cons (pe_fld (pv 0) rfl) pa_nil)))))
      (pss_one (ps_ret (pe_lst (pa_cons (pe_callB call_len_seq rfl N.len PySem.boot_len (pa_cons (pe_fld (pv 0) rfl) pa_nil)) pa_nil))))), ?_⟩
    refine ⟨_, rfl, _, rfl, p, C, dx, _, _, rfl, B.at_, T.cl, T.nB, bF_b _ _ _ _ _, b, _, rfl, .inl (SqL.of B.hb), rfl, nv_flat _, _, rfl, ?_⟩
    by_cases h2 : c ∈ a.blocked
    · refine if_false_of (by simp [inV_rev, h2]) ?_
      have e : Kh363.doing (some a) (.clear c) = (some (Kh363.keep a { a with blocked := a.blocked.filter fun x => x != c }), Kh363.say (a.blocked.length - 1 : Nat)) := if_neg (by simpa using h2)
      rw [DidR, e] at D
      have lb := G.len_b
      have lu := G.most
      refine ⟨_, rfl, _, rfl, p, C, dx, _, _, rfl, B.at_, T.cl, T.nB, bF_b _ _ _ _ _, _, rfl, b, _, c, rfl, SqL.of B.hb, (by rw [List.length_reverse]; omega), fun H1 r s2 hr hr1 => ?_⟩
      refine ⟨_, rfl, p, C, dx, _, _, rfl, s2 _ _ B.at_, T.cl, T.nG, bF_g _ _ _ _ _, ?_⟩
      refine ⟨Z, p, r, g, _, _, _, _, _, _, _, rfl, BedAt.same s2 B0, B.new hr, B.zg, hr1, s2 _ _ B.hg, ?_, fun H' bb BA => ?_⟩
      · rw [List.length_map, List.length_reverse]
        exact lu
      · have BN : BedS Z C H' p (some (Kh363.keep a { a with blocked := a.blocked.filter fun x => x != c })) := by
          show BedAt Z C H' p a.wide a.high (a.blocked.filter fun x => x != c).reverse a.grains.reverse ((((a.blocked, a.grains) :: a.undo).take 10).reverse.map rv)
          rw [keep_undo, filter_rev]
          exact BA
        obtain ⟨dx', b', g', e', ts', B'⟩ := id BA
        refine ⟨_, rfl, p, C, dx', _, _, rfl, B'.at_, T.cl, T.nB, bF_b _ _ _ _ _, b', _, rfl, .inl (SqL.of B'.hb), (by show 1 ≤ sizeLine; decide), fun z hz => ?_⟩
        have lenE : (nv (a.blocked.reverse.filter fun x => x != c)).length = a.blocked.length - 1 := by
          rw [nv_len, ← filter_rev, List.length_reverse]
          exact filter_out G.fits.bnd h2
        rw [lenE]
        exact Did.made D ((But.of_same s2).trans bb) BN hz
    · refine if_true_of (by simp [inV_rev, h2]) ?_
      have e : Kh363.doing (some a) (.clear c) = (some a, Kh363.say (-2)) := if_pos (by simpa using h2)
      rw [DidR, e] at D
      exact ⟨(by show 1 ≤ sizeLine; decide), fun r hr => Did.new D B0 (Same.refl H) hr⟩
/-! ### take_grain -/
abbrev sTake : Stmt := top 40
theorem scTake : FnScope ["bed", "cell"] ["bed", "cell"] (defScope sTake) := ⟨rfl, rfl, rfl, by decide +kernel, rfl, by decide +kernel, by decide +kernel⟩
theorem ok_take {f C fo fc : Addr} {fd fdo fdc : FuncData} (F : Fun K "take_grain" "take_grain" sTake f fd) (T : TxtBed K C) (N : TxtN mg)
    (FO : Fun K "without_cell" "without_cell" sWithout fo fdo) (bO : Binds K fdo ["cells", "cell"] []) (mO : mg "without_cell" = some (.ref fo)) (FC : Fun K "change" "change" sChange fc fdc) (bC : Binds K fdc ["bed", "blocked", "grains"] []) (mC : mg "change" = some (.ref fc)) :
    FnOk P w K mg base CX0 2 f fd ["bed", "cell"] (spC1 C .take) := by
  have GO : FnOk P w K mg base CX0 1 fo fdo ["cells", "cell"] (spWithout K) := ok_without FO
  have GC : FnOk P w K mg base CX0 1 fc fdc ["bed", "blocked", "grains"] (spChange C) := ok_change FC T N.mostB
  refine F.ok scTake (fun vs H Q E h => ?_) (fun cdv A outer s H vs Q E hr h => ?_)
  · obtain ⟨Z, p, a, c, rfl, _⟩ := h
    rfl
  · obtain ⟨Z, p, a, c, rfl, B0, G, D⟩ := h
    obtain ⟨dx, b, g, e, ts, B⟩ := id B0
    refine ⟨_, pss_cons (ps_if (pt_cmpR op_notIn_seq (pv 1) (pe_fld (pv 0) rfl) rfl) (pss_one (ps_ret (pe_lst (pa_cons (pe_globI rfl N.missing) pa_nil)))) pss_nil)
      (pss_cons (ps_expr (pe_call GC hr rfl mC FC.kp bC .nil pass0 (pa_cons (pv 0) (pa_cons (pe_fld (pv 0) rfl) (pa_cons (pe_call GO hr rfl mO FO.kp bO .nil pass0 (pa_cons (pe_fld (pv 0) rfl) (pa_cons (pv 1) pa_nil))) pa_nil)))))
      (pss_one (ps_ret (pe_lst (pa_cons (pe_callB call_len_seq rfl N.len PySem.boot_len (pa_cons (pe_fld (pv 0) rfl) pa_nil)) pa_nil))))), ?_⟩
    refine ⟨_, rfl, _, rfl, p, C, dx, _, _, rfl, B.at_, T.cl, T.nG, bF_g _ _ _ _ _, g, _, rfl, .inl (SqL.of B.hg), rfl, nv_flat _, _, rfl, ?_⟩
    by_cases h2 : c ∈ a.grains
    · refine if_false_of (by simp [inV_rev, h2]) ?_
      have e : Kh363.doing (some a) (.take c) = (some (Kh363.keep a { a with grains := a.grains.filter fun x => x != c }), Kh363.say (a.grains.length - 1 : Nat)) := if_neg (by simpa using h2)
      rw [DidR, e] at D
      have lg := G.fits.gmost
      have lu := G.most
      refine ⟨_, rfl, _, rfl, p, C, dx, _, _, rfl, B.at_, T.cl, T.nB, bF_b _ _ _ _ _, _, rfl, p, C, dx, _, _, rfl, B.at_, T.cl, T.nG, bF_g _ _ _ _ _, _, rfl, g, _, c, rfl, SqL.of B.hg, (by rw [List.length_reverse]; omega), fun H1 r s2 hr hr1 => ?_⟩
      refine ⟨Z, p, b, r, _, _, _, _, _, _, _, rfl, BedAt.same s2 B0, B.zb, B.new hr, s2 _ _ B.hb, hr1, ?_, fun H' bb BA => ?_⟩
      · rw [List.length_map, List.length_reverse]
        exact lu
      · have BN : BedS Z C H' p (some (Kh363.keep a { a with grains := a.grains.filter fun x => x != c })) := by
          show BedAt Z C H' p a.wide a.high a.blocked.reverse (a.grains.filter fun x => x != c).reverse ((((a.blocked, a.grains) :: a.undo).take 10).reverse.map rv)
          rw [keep_undo, filter_rev]
          exact BA
        obtain ⟨dx', b', g', e', ts', B'⟩ := id BA
        refine ⟨_, rfl, p, C, dx', _, _, rfl, B'.at_, T.cl, T.nG, bF_g _ _ _ _ _, g', _, rfl, .inl (SqL.of B'.hg), (by show 1 ≤ sizeLine; decide), fun z hz => ?_⟩
        have lenE : (nv (a.grains.reverse.filter fun x => x != c)).length = a.grains.length - 1 := by
          rw [nv_len, ← filter_rev, List.length_reverse]
          exact filter_out G.fits.gnd h2
        rw [lenE]
        exact Did.made D ((But.of_same s2).trans bb) BN hz
    · refine if_true_of (by simp [inV_rev, h2]) ?_
      have e : Kh363.doing (some a) (.take c) = (some a, Kh363.say (-2)) := if_pos (by simpa using h2)
      rw [DidR, e] at D
      exact ⟨(by show 1 ≤ sizeLine; decide), fun r hr => Did.new D B0 (Same.refl H) hr⟩
/-! ### lay_grain -/
abbrev sGrain : Stmt := top 39
theorem scGrain : FnScope ["bed", "cell"] ["bed", "cell"] (defScope sGrain) := ⟨rfl, rfl, rfl, by decide +kernel, rfl, by decide +kernel, by decide +kernel⟩
theorem ok_grain {f C fh fc : Addr} {fd fdh fdc : FuncData} (F : Fun K "lay_grain" "lay_grain" sGrain f fd) (T : TxtBed K C) (N : TxtN mg)
    (FH : Fun K "has_cell" "has_cell" sHas fh fdh) (bH : Binds K fdh ["bed", "cell"] []) (mH : mg "has_cell" = some (.ref fh)) (FC : Fun K "change" "change" sChange fc fdc) (bC : Binds K fdc ["bed", "blocked", "grains"] []) (mC : mg "change" = some (.ref fc)) :
    FnOk P w K mg base CX0 2 f fd ["bed", "cell"] (spC1 C .grain) := by
  have GH : FnOk P w K mg base CX0 1 fh fdh ["bed", "cell"] (spHas C) := ok_has FH T
  have GC : FnOk P w K mg base CX0 1 fc fdc ["bed", "blocked", "grains"] (spChange C) := ok_change FC T N.mostB
  refine F.ok scGrain (fun vs H Q E h => ?_) (fun cdv A outer s H vs Q E hr h => ?_)
  · obtain ⟨Z, p, a, c, rfl, _⟩ := h
    rfl
  · obtain ⟨Z, p, a, c, rfl, B0, G, D⟩ := h
    obtain ⟨dx, b, g, e, ts, B⟩ := id B0
    refine ⟨_, pss_cons (ps_if (pt_not (pt_val (pe_call GH hr rfl mH FH.kp bH .nil pass0 (pa_cons (pv 0) (pa_cons (pv 1) pa_nil))))) (pss_one (ps_ret (pe_lst (pa_cons (pe_globI rfl N.missing) pa_nil)))) pss_nil)
      (pss_cons (ps_if (pt_cmpR op_in_seq (pv 1) (pe_fld (pv 0) rfl) rfl) (pss_one (ps_ret (pe_lst (pa_cons (pe_globI rfl N.barred) pa_nil)))) pss_nil)
      (pss_cons (ps_if (pt_cmpR op_in_seq (pv 1) (pe_fld (pv 0) rfl) rfl) (pss_one (ps_ret (pe_lst (pa_cons (pe_globI rfl N.already) pa_nil)))) pss_nil)
      (pss_cons (ps_if (pt_cmpR op_ge (pe_callB call_len_seq rfl N.len PySem.boot_len (pa_cons (pe_fld (pv 0) rfl) pa_nil)) (pe_globI rfl N.mostG) (nomark _)) (pss_one (ps_ret (pe_lst (pa_cons (pe_globI rfl N.tooMany) pa_nil)))) pss_nil)
      (pss_cons (ps_expr (pe_call GC hr rfl mC FC.kp bC .nil pass0 (pa_cons (pv 0) (pa_cons (pe_fld (pv 0) rfl) (pa_cons (pe_op op_cat (pe_fld (pv 0) rfl) (pe_lst (pa_cons (pv 1) pa_nil))) pa_nil)))))
      (pss_one (ps_ret (pe_lst (pa_cons (pe_callB call_len_seq rfl N.len PySem.boot_len (pa_cons (pe_fld (pv 0) rfl) pa_nil)) pa_nil)))))))), ?_⟩
    refine ⟨_, rfl, _, rfl, Z, p, a, c, rfl, B0, G.ok, _, rfl, ?_⟩
    by_cases h1 : c < Kh363.cells a
    · refine if_false_of (by simp [h1]) ?_
      refine ⟨_, rfl, _, rfl, p, C, dx, _, _, rfl, B.at_, T.cl, T.nB, bF_b _ _ _ _ _, b, _, rfl, .inl (SqL.of B.hb), rfl, nv_flat _, _, rfl, ?_⟩
      by_cases h2 : c ∈ a.blocked
      · refine if_true_of (by simp [inV_rev, h2]) ?_
        have e : Kh363.doing (some a) (.grain c) = (some a, Kh363.say (-16)) := (if_neg (by omega)).trans (if_pos (by simpa using h2))
        rw [DidR, e] at D
        exact ⟨(by show 1 ≤ sizeLine; decide), fun r hr => Did.new D B0 (Same.refl H) hr⟩
      · refine if_false_of (by simp [inV_rev, h2]) ?_
        refine ⟨_, rfl, _, rfl, p, C, dx, _, _, rfl, B.at_, T.cl, T.nG, bF_g _ _ _ _ _, g, _, rfl, .inl (SqL.of B.hg), rfl, nv_flat _, _, rfl, ?_⟩
        by_cases h3 : c ∈ a.grains
        · refine if_true_of (by simp [inV_rev, h3]) ?_
          have e : Kh363.doing (some a) (.grain c) = (some a, Kh363.say (-17)) := (if_neg (by omega)).trans ((if_neg (by simpa using h2)).trans (if_pos (by simpa using h3)))
          rw [DidR, e] at D
          exact ⟨(by show 1 ≤ sizeLine; decide), fun r hr => Did.new D B0 (Same.refl H) hr⟩
        · refine if_false_of (by simp [inV_rev, h3]) ?_
          refine ⟨_, rfl, p, C, dx, _, _, rfl, B.at_, T.cl, T.nG, bF_g _ _ _ _ _, g, _, rfl, .inl (SqL.of B.hg), _, _, rfl, rfl, _, rfl, ?_⟩
          have lenG : (nv a.grains.reverse).length = a.grains.length := by simp [nv]
          by_cases h4 : 6 ≤ a.grains.length
          · refine if_true_of (by rw [lenG]; simp; omega) ?_
            have e : Kh363.doing (some a) (.grain c) = (some a, Kh363.say (-28)) := (if_neg (by omega)).trans ((if_neg (by simpa using h2)).trans ((if_neg (by simpa using h3)).trans (if_pos h4)))
            rw [DidR, e] at D
            exact ⟨(by show 1 ≤ sizeLine; decide), fun r hr => Did.new D B0 (Same.refl H) hr⟩
          · refine if_false_of (by rw [lenG]; simp; omega) ?_
            have e : Kh363.doing (some a) (.grain c) = (some (Kh363.keep a { a with grains := c :: a.grains }), Kh363.say (a.grains.length + 1 : Nat)) := (if_neg (by omega)).trans ((if_neg (by simpa using h2)).trans ((if_neg (by simpa using h3)).trans (if_neg h4)))
            rw [DidR, e] at D
            have lu := G.most
            refine ⟨_, rfl, _, rfl, p, C, dx, _, _, rfl, B.at_, T.cl, T.nB, bF_b _ _ _ _ _, _, rfl, p, C, dx, _, _, rfl, B.at_, T.cl, T.nG, bF_g _ _ _ _ _, _, rfl, (by show 1 ≤ sizeLine; decide), fun q hq => ?_⟩
            have s1 : Same H (upd H q (.lst [.int c])) := Same.new (Same.refl H) hq
            refine ⟨g, q, _, _, rfl, rfl, s1 _ _ B.hg, upd_same, ?_, fun r hr => ?_⟩
            · rw [lenG, sizeLine_eq]
              show _ + 1 ≤ _
              omega
            have s2 := Same.new (o := .lst (nv a.grains.reverse ++ [.int c])) s1 hr
            refine ⟨Z, p, b, r, _, _, _, _, _, a.grains.reverse ++ [c], _, rfl, BedAt.same s2 B0, B.zb, B.new (s1.free hr), s2 _ _ B.hb, ?_, ?_, fun H' bb BA => ?_⟩
            · rw [upd_same, nv_app]
              rfl
            · rw [List.length_map, List.length_reverse]
              exact lu
            · have BN : BedS Z C H' p (some (Kh363.keep a { a with grains := c :: a.grains })) := by
                show BedAt Z C H' p a.wide a.high a.blocked.reverse (c :: a.grains).reverse ((((a.blocked, a.grains) :: a.undo).take 10).reverse.map rv)
                rw [keep_undo, List.reverse_cons]
                exact BA
              obtain ⟨dx', b', g', e', ts', B'⟩ := id BA
              refine ⟨_, rfl, p, C, dx', _, _, rfl, B'.at_, T.cl, T.nG, bF_g _ _ _ _ _, g', _, rfl, .inl (SqL.of B'.hg), (by show 1 ≤ sizeLine; decide), fun z hz => ?_⟩
              have lenE : (nv (a.grains.reverse ++ [c])).length = a.grains.length + 1 := by simp [nv]
              rw [lenE]
              exact Did.made D ((But.of_same s2).trans bb) BN hz
    · refine if_true_of (by simp [h1]) ?_
      have e : Kh363.doing (some a) (.grain c) = (some a, Kh363.say (-2)) := if_pos (by omega)
      rw [DidR, e] at D
      exact ⟨(by show 1 ≤ sizeLine; decide), fun r hr => Did.new D B0 (Same.refl H) hr⟩
/-! ### take_back -/
abbrev sBack : Stmt := top 41
theorem scBack : FnScope ["bed", "before"] ["bed"] (defScope sBack) := ⟨rfl, rfl, rfl, by decide +kernel, rfl, by decide +kernel, by decide +kernel⟩
theorem ok_back {f C : Addr} {fd : FuncData} (F : Fun K "take_back" "take_back" sBack f fd) (T : TxtBed K C) (N : TxtN mg) : FnOk P w K mg base CX0 1 f fd ["bed"] (spC0 C .back) := by
  refine F.ok scBack (fun vs H Q E h => ?_) (fun cdv A outer s H vs Q E hr h => ?_)
  · obtain ⟨Z, p, a, rfl, _⟩ := h
    rfl
  · obtain ⟨Z, p, a, rfl, B0, G, D⟩ := h
    obtain ⟨dx, b, g, e, ts, B⟩ := id B0
    refine ⟨_, pss_cons (ps_if (pt_cmpR op_eq (pe_callB call_len_seq rfl N.len PySem.boot_len (pa_cons (pe_fld (pv 0) rfl) pa_nil)) pe_int (nomark _)) (pss_one (ps_ret (pe_lst (pa_cons (pe_globI rfl N.missing) pa_nil)))) pss_nil)
      (pss_cons (ps_set (i := 1) scBack.nd rfl (Or.inl rfl) (pe_ix ix_list (pe_fld (pv 0) rfl) (pe_un un_neg pe_int) (fun _ _ => rfl)))
      (pss_cons (ps_fld (pv 0) (pe_slice sl_list (pe_fld (pv 0) rfl) po_none (po_some (pe_un un_neg pe_int))) rfl)
      (pss_cons (ps_fld (pv 0) (pe_ix ix_tup (pv 1) pe_int (fun _ _ => rfl)) rfl)
      (pss_cons (ps_fld (pv 0) (pe_ix ix_tup (pv 1) pe_int (fun _ _ => rfl)) rfl)
      (pss_one (ps_ret (pe_lst (pa_cons (pe_callB call_len_seq rfl N.len PySem.boot_len (pa_cons (pe_fld (pv 0) rfl) pa_nil)) pa_nil)))))))), ?_⟩
    refine ⟨_, rfl, p, C, dx, _, _, rfl, B.at_, T.cl, T.nE, bF_e _ _ _ _ _, e, _, rfl, .inl (SqL.of B.he), rfl, _, rfl, ?_⟩
    have lts := B.hu.len
    rw [List.length_map, List.length_reverse] at lts
    cases hu : a.undo with
    | nil =>
      rw [hu] at lts
      refine if_true_of (by simp [lts]) ?_
      have e : Kh363.doing (some a) .back = (some a, Kh363.say (-2)) := by
        show (match a.undo with
          | x :: u => (some { a with blocked := x.1, grains := x.2, undo := u }, Kh363.say u.length)
          | [] => (some a, Kh363.say (-2))) = _
        rw [hu]
      rw [DidR, e] at D
      exact ⟨(by show 1 ≤ sizeLine; decide), fun r hr => Did.new D B0 (Same.refl H) hr⟩
    | cons x u =>
      have eD : Kh363.doing (some a) .back = (some { a with blocked := x.1, grains := x.2, undo := u }, Kh363.say u.length) := by
        show (match a.undo with
          | x :: u => (some { a with blocked := x.1, grains := x.2, undo := u }, Kh363.say u.length)
          | [] => (some a, Kh363.say (-2))) = _
        rw [hu]
      rw [DidR, eD] at D
      rw [hu] at lts
      refine if_false_of (by simp [lts]; omega) ?_
      have hU := B.hu
      rw [hu, List.reverse_cons, List.map_append] at hU
      obtain ⟨ts', t, b1, g1, rfl, U', ht, hb1, hg1, zt, zb1, zg1⟩ := hU.last
      refine ⟨_, rfl, p, C, dx, _, _, rfl, B.at_, T.cl, T.nE, bF_e _ _ _ _ _, _, rfl, _, _, _, _, rfl, rfl, SqL.of B.he, (by rw [List.map_append]; exact atI_last _ _), ?_⟩
      refine ⟨_, rfl, p, C, dx, _, _, rfl, B.at_, T.cl, T.nE, bF_e _ _ _ _ _, _, rfl, _, rfl, e, _, rfl, SqL.of B.he, fun q hq => ?_⟩
      have s1 := Same.new (o := .lst (cutV ((ts' ++ [t]).map V.ref) none (some (-1)))) (Same.refl H) hq
      refine ⟨_, rfl, p, C, dx, _, rfl, s1 _ _ B.at_, T.cl, T.nE, (by show 5 < 1000; decide), ?_⟩
      have tp : t ≠ p := ne_of ht B.at_ (by intro z; cases z)
      have pq : q ≠ p := (ne_of_none B.at_ hq).symm
      refine ⟨_, rfl, t, _, _, _, rfl, rfl, SqT.of (by rw [upd_ne tp]; exact s1 _ _ ht), atI_nat (j := 0) rfl, _, rfl, p, C, dx, _, rfl, upd_same, T.cl, T.nB, (by rw [put_e]; show 5 < 1000; decide), ?_⟩
      refine ⟨_, rfl, t, _, _, _, rfl, rfl, SqT.of (by rw [upd_ne tp, upd_ne tp]; exact s1 _ _ ht), atI_nat (j := 1) rfl, _, rfl, p, C, dx, _, rfl, upd_same, T.cl, T.nG, (by rw [put_e, put_b]; show 5 < 1000; decide), ?_⟩
      rw [put_e, put_b, put_g, upd_upd, upd_upd]
      have bb := (But.of_same s1).upd (p := p) (o := .ins C dx (bF a.wide a.high b1 g1 q))
      have BN : BedS Z C (upd (upd H q (.lst (cutV ((ts' ++ [t]).map V.ref) none (some (-1))))) p (.ins C dx (bF a.wide a.high b1 g1 q))) p (some { a with blocked := x.1, grains := x.2, undo := u }) := by
        refine ⟨dx, b1, g1, q, ts', upd_same, bb _ _ hb1 (ne_of hb1 B.at_ (by intro z; cases z)), bb _ _ hg1 (ne_of hg1 B.at_ (by intro z; cases z)), ?_, U'.mono bb B.at_, B.live bb, B.zp, zb1, zg1, B.new hq⟩
        rw [upd_ne pq, upd_same, List.map_append]
        exact congrArg (fun l => some (HO.lst l)) (cutV_init _ _)
      refine ⟨_, rfl, p, C, dx, _, _, rfl, upd_same, T.cl, T.nE, bF_e _ _ _ _ _, q, _, rfl, .inl (SqL.of (by rw [upd_ne pq]; exact upd_same)), (by show 1 ≤ sizeLine; decide), fun r hr => ?_⟩
      have lenE : (cutV ((ts' ++ [t]).map V.ref) none (some (-1))).length = u.length := by
        rw [List.map_append, List.map_singleton, cutV_init, List.length_map]
        have := U'.len
        rw [List.length_map, List.length_reverse] at this
        exact this
      rw [lenE]
      exact Did.made D bb BN hr
end
end Bed
namespace Bed
open PySem PySem.Spec PyProof.Rows L2
theorem BedS.ins {Z : Addr → Prop} {C : Addr} {H : Hp} {p : Addr} {s : Option Kh363.Abs} (B : BedS Z C H p s) : ∃ dx w h b g e, H p = some (.ins C dx (bF w h b g e)) ∧ (∀ x, Z x → ∃ o, H x = some o) ∧ ¬ Z p := by
  cases s with
  | none =>
    obtain ⟨dx, b, g, e, ts, B⟩ := B
    exact ⟨_, _, _, _, _, _, B.at_, B.zl, B.zp⟩
  | some a =>
    obtain ⟨dx, b, g, e, ts, B⟩ := B
    exact ⟨_, _, _, _, _, _, B.at_, B.zl, B.zp⟩
section
variable {P : Program} {w : World} {K : PySem.W.Frag} {mg : Str → Option Value} {base : Heap}
/-! ### begin_bed -/
abbrev sBegin : Stmt := top 35
def spBegin (C : Addr) : Sp := fun vs H Q _ => ∃ (Z : Addr → Prop) (p : Addr) (s : Option Kh363.Abs) (w h : Nat), vs = [.ref p, .int w, .int h] ∧ BedS Z C H p s ∧ DidR Z C H p (Kh363.doing s (.begin_ w h)) Q
theorem scBegin : FnScope ["bed", "width", "height"] ["bed", "width", "height"] (defScope sBegin) := ⟨rfl, rfl, rfl, by decide +kernel, rfl, by decide +kernel, by decide +kernel⟩
theorem ok_begin {f C : Addr} {fd : FuncData} (F : Fun K "begin_bed" "begin_bed" sBegin f fd) (T : TxtBed K C) (N : TxtN mg) : FnOk P w K mg base CX0 1 f fd ["bed", "width", "height"] (spBegin C) := by
  refine F.ok scBegin (fun vs H Q E h => ?_) (fun cdv A outer s H vs Q E hr h => ?_)
  · obtain ⟨Z, p, s, w, h, rfl, _⟩ := h
    rfl
  · obtain ⟨Z, p, st, w, h, rfl, B0, D⟩ := h
    obtain ⟨dx, w0, h0, b0, g0, e0, hp, zl, zp⟩ := B0.ins
    refine ⟨_, pss_cons (ps_if (PW.pt (pw_or (pt_cmpR op_lt (pv 1) pe_int (nomark _)) (pw_or (pt_cmpR op_gt (pv 1) (pe_globI rfl N.longest) (nomark _)) (pw_or (pt_cmpR op_lt (pv 2) pe_int (nomark _)) (pw_or1 (pt_cmpR op_gt (pv 2) (pe_globI rfl N.longest) (nomark _)))))))
        (pss_one (ps_ret (pe_lst (pa_cons (pe_globI rfl N.badSize) pa_nil)))) pss_nil)
      (pss_cons (ps_fld (pv 0) (pv 1) rfl) (pss_cons (ps_fld (pv 0) (pv 2) rfl) (pss_cons (ps_fld (pv 0) (pe_lst pa_nil) rfl) (pss_cons (ps_fld (pv 0) (pe_lst pa_nil) rfl) (pss_cons (ps_fld (pv 0) (pe_lst pa_nil) rfl)
      (pss_one (ps_ret (pe_lst (pa_cons pe_int pa_nil))))))))), ?_⟩
    have bad : (w < 1 ∨ 5 < w ∨ h < 1 ∨ 5 < h) → Kh363.doing st (.begin_ w h) = (st, Kh363.say (-22)) := fun q => if_pos q
    have fin : (w < 1 ∨ 5 < w ∨ h < 1 ∨ 5 < h) → 1 ≤ sizeLine ∧ ∀ r, H r = none → Q (.ref r) (upd H r (.lst [V.int (-22)])) := fun q => by
      rw [DidR, bad q] at D
      exact ⟨(by decide), fun r hr => Did.new D B0 (Same.refl H) hr⟩
    refine ⟨_, rfl, _, _, rfl, rfl, _, rfl, ?_⟩
    refine ite2 (fun q1 => iteT (fin (by simp at q1; omega))) (fun q1 => ?_)
    refine ⟨_, rfl, _, _, rfl, rfl, _, rfl, ?_⟩
    refine ite2 (fun q2 => iteT (fin (by simp at q2; omega))) (fun q2 => ?_)
    refine ⟨_, rfl, _, _, rfl, rfl, _, rfl, ?_⟩
    refine ite2 (fun q3 => iteT (fin (by simp at q3; omega))) (fun q3 => ?_)
    refine ⟨_, rfl, _, _, rfl, rfl, _, rfl, ?_⟩
    refine ite2 (fun q4 => fin (by simp at q4; omega)) (fun q4 => ?_)
    have good : ¬ (w < 1 ∨ 5 < w ∨ h < 1 ∨ 5 < h) := by simp at q1 q2 q3 q4; omega
    have eD : Kh363.doing st (.begin_ w h) = (some (Kh363.begun w h), Kh363.say 0) := if_neg good
    rw [DidR, eD] at D
    refine ⟨_, rfl, _, rfl, p, C, dx, _, rfl, hp, T.cl, T.nW, (by show 5 < 1000; decide), ?_⟩
    refine ⟨_, rfl, _, rfl, p, C, dx, _, rfl, upd_same, T.cl, T.nH, (by rw [put_w]; show 5 < 1000; decide), ?_⟩
    rw [put_w, put_h, upd_upd]
    refine ⟨Nat.zero_le _, fun b hb => ?_⟩
    have pb : p ≠ b := ne_of_none upd_same hb
    refine ⟨_, rfl, p, C, dx, _, rfl, Eq.trans (upd_ne pb) upd_same, T.cl, T.nB, (by show 5 < 1000; decide), ?_⟩
    rw [put_b]
    refine ⟨Nat.zero_le _, fun g hg => ?_⟩
    have pg : p ≠ g := ne_of_none upd_same hg
    refine ⟨_, rfl, p, C, dx, _, rfl, Eq.trans (upd_ne pg) upd_same, T.cl, T.nG, (by show 5 < 1000; decide), ?_⟩
    rw [put_g]
    refine ⟨Nat.zero_le _, fun e he => ?_⟩
    have pe : p ≠ e := ne_of_none upd_same he
    refine ⟨_, rfl, p, C, dx, _, rfl, Eq.trans (upd_ne pe) upd_same, T.cl, T.nE, (by show 5 < 1000; decide), ?_⟩
    rw [put_e]
    have bg : b ≠ g := by
      rintro rfl
      rw [upd_ne pb.symm, upd_same] at hg
      cases hg
    have be : b ≠ e := by
      rintro rfl
      rw [upd_ne pb.symm, upd_ne bg, upd_ne pb.symm, upd_same] at he
      cases he
    have ge : g ≠ e := by
      rintro rfl
      rw [upd_ne pg.symm, upd_same] at he
      cases he
    have hb0 : H b = none := by rw [upd_ne pb.symm] at hb; exact hb
    have hg0 : H g = none := by rw [upd_ne pg.symm, upd_ne bg.symm, upd_ne pg.symm] at hg; exact hg
    have he0 : H e = none := by rw [upd_ne pe.symm, upd_ne ge.symm, upd_ne pe.symm, upd_ne be.symm, upd_ne pe.symm] at he; exact he
    refine ⟨(by show 1 ≤ sizeLine; decide), fun r hr => ?_⟩
    have bb : But p H (upd (upd (upd (upd (upd (upd (upd H p (.ins C dx (bF w h b0 g0 e0))) b (.lst [])) p (.ins C dx (bF w h b g0 e0))) g (.lst [])) p (.ins C dx (bF w h b g e0))) e (.lst [])) p (.ins C dx (bF w h b g e))) := fun c o hc n => by
      rw [upd_ne n, upd_ne (ne_of_none hc he0), upd_ne n, upd_ne (ne_of_none hc hg0), upd_ne n, upd_ne (ne_of_none hc hb0), upd_ne n]
      exact hc
    have new : ∀ r, H r = none → ¬ Z r := fun r hr z => by
      obtain ⟨o, ho⟩ := zl r z
      rw [ho] at hr
      cases hr
    refine Did.made (l := [0]) D bb ⟨dx, b, g, e, [], upd_same, ?_, ?_, ?_, trivial, fun x z => ?_, zp, new b hb0, new g hg0, new e he0⟩ hr
    · rw [upd_ne pb.symm, upd_ne be, upd_ne pb.symm, upd_ne bg, upd_ne pb.symm, upd_same]
      rfl
    · rw [upd_ne pg.symm, upd_ne ge, upd_ne pg.symm, upd_same]
      rfl
    · rw [upd_ne pe.symm, upd_same]
      rfl
    · obtain ⟨o, ho⟩ := zl x z
      exact ⟨o, bb x o ho fun q => zp (q ▸ z)⟩
end
end Bed
namespace Bed
open PySem PySem.Spec PyProof.Rows L2
theorem ansL_never (o : Option Nat) : ansL (Kh363.orNever o) = [enc o] := by
  cases o <;> rfl
theorem ansL_list (l : List Nat) : ansL (Kh363.list l) = (l.length : Int) :: l.map Int.ofNat := rfl
section
variable {P : Program} {w : World} {K : PySem.W.Frag} {mg : Str → Option Value} {base : Heap}
/-! ### day_of_cell -/
abbrev sDay : Stmt := top 42
theorem scDay : FnScope ["bed", "cell"] ["bed", "cell"] (defScope sDay) := ⟨rfl, rfl, rfl, by decide +kernel, rfl, by decide +kernel, by decide +kernel⟩
theorem ok_day {f C fh fy : Addr} {fd fdh fdy : FuncData} (F : Fun K "day_of_cell" "day_of_cell" sDay f fd) (T : TxtBed K C) (N : TxtN mg)
    (FH : Fun K "has_cell" "has_cell" sHas fh fdh) (bH : Binds K fdh ["bed", "cell"] []) (mH : mg "has_cell" = some (.ref fh)) (FY : Fun K "days_of" "days_of" sDays fy fdy) (GY : FnOk P w K mg base CX0 4 fy fdy ["bed"] (spDays C)) (bY : Binds K fdy ["bed"] []) (mY : mg "days_of" = some (.ref fy)) :
    FnOk P w K mg base CX0 5 f fd ["bed", "cell"] (spC1 C .day) := by
  have GH : FnOk P w K mg base CX0 1 fh fdh ["bed", "cell"] (spHas C) := ok_has FH T
  refine F.ok scDay (fun vs H Q E h => ?_) (fun cdv A outer s H vs Q E hr h => ?_)
  · obtain ⟨Z, p, a, c, rfl, _⟩ := h
    rfl
  · obtain ⟨Z, p, a, c, rfl, B0, G, D⟩ := h
    obtain ⟨dx, b, g, e, ts, B⟩ := id B0
    have hr1 : Room 1 _ := hr.mono (by decide)
    refine ⟨_, pss_cons (ps_if (pt_not (pt_val (pe_call GH hr1 rfl mH FH.kp bH .nil pass0 (pa_cons (pv 0) (pa_cons (pv 1) pa_nil))))) (pss_one (ps_ret (pe_lst (pa_cons (pe_globI rfl N.missing) pa_nil)))) pss_nil)
      (pss_cons (ps_if (pt_cmpR op_in_seq (pv 1) (pe_fld (pv 0) rfl) rfl) (pss_one (ps_ret (pe_lst (pa_cons (pe_globI rfl N.barred) pa_nil)))) pss_nil)
      (pss_one (ps_ret (pe_lst (pa_cons (pe_ix ix_list (pe_call GY hr rfl mY FY.kp bY .nil pass0 (pa_cons (pv 0) pa_nil)) (pv 1) (fun _ _ => rfl)) pa_nil))))), ?_⟩
    refine ⟨_, rfl, _, rfl, Z, p, a, c, rfl, B0, G.ok, _, rfl, ?_⟩
    by_cases h1 : c < Kh363.cells a
    · refine if_false_of (by simp [h1]) ?_
      refine ⟨_, rfl, _, rfl, p, C, dx, _, _, rfl, B.at_, T.cl, T.nB, bF_b _ _ _ _ _, b, _, rfl, .inl (SqL.of B.hb), rfl, nv_flat _, _, rfl, ?_⟩
      by_cases h2 : c ∈ a.blocked
      · refine if_true_of (by simp [inV_rev, h2]) ?_
        have e : Kh363.doing (some a) (.day c) = (some a, Kh363.say (-16)) := (if_neg (by omega)).trans (if_pos (by simpa using h2))
        rw [DidR, e] at D
        exact ⟨(by show 1 ≤ sizeLine; decide), fun r hr => Did.new D B0 (Same.refl H) hr⟩
      · refine if_false_of (by simp [inV_rev, h2]) ?_
        have e : Kh363.doing (some a) (.day c) = (some a, Kh363.orNever (Kh363.day a c)) := (if_neg (by omega)).trans (if_neg (by simpa using h2))
        rw [DidR, e] at D
        have D : Did Z C H p (some a) (ansL (Kh363.orNever (Kh363.day a c))) Q := D
        refine ⟨_, rfl, Z, p, a, rfl, B0, G, fun H1 r s1 hr hr1 => ?_⟩
        refine ⟨_, rfl, r, _, _, _, rfl, rfl, SqL.of hr1, iv_at (by rw [daysOf_len]; exact h1), (by show 1 ≤ sizeLine; decide), fun z hz => ?_⟩
        rw [ansL_never] at D
        have := Did.new D B0 s1 hz
        rw [daysOf_get h1]
        exact this
    · refine if_true_of (by simp [h1]) ?_
      have e : Kh363.doing (some a) (.day c) = (some a, Kh363.say (-2)) := if_pos (by omega)
      rw [DidR, e] at D
      exact ⟨(by show 1 ≤ sizeLine; decide), fun r hr => Did.new D B0 (Same.refl H) hr⟩
end
end Bed
namespace Bed
open PySem PySem.Spec PyProof.Rows L2
section
variable {P : Program} {w : World} {K : PySem.W.Frag} {mg : Str → Option Value} {base : Heap}
/-! ### full_day_if -/
abbrev sFullIf : Stmt := top 32
/-- a: the bed; c: the bed as it would be -/
def spFullIf (K : PySem.W.Frag) (C : Addr) : Sp := fun vs H Q _ => ∃ (Z : Addr → Prop) (p b' g' : Addr) (a c : Kh363.Abs) (bl gr gs : List Nat), vs = [.ref p, .ref b', .ref g'] ∧ BedS Z C H p (some a) ∧ c.wide = a.wide ∧ c.high = a.high ∧ Ok c ∧
  SqL K H b' (nv bl) ∧ SqL K H g' (nv gr) ∧ AllFree c gr ∧ SameCells bl c.blocked ∧ SameCells gr gs ∧ gr.length ≤ 25 ∧ ∀ H', Same H H' → Q (.int (enc (Kh363.fullBy c gs))) H'
theorem scFullIf : FnScope ["bed", "blocked", "grains"] ["bed", "blocked", "grains"] (defScope sFullIf) := ⟨rfl, rfl, rfl, by decide +kernel, rfl, by decide +kernel, by decide +kernel⟩
theorem ok_fullIf {f C fa fs : Addr} {fd fda fds : FuncData} (F : Fun K "full_day_if" "full_day_if" sFullIf f fd) (T : TxtBed K C)
    (FA : Fun K "day_of_all" "day_of_all" sAll fa fda) (GA : FnOk P w K mg base CX0 1 fa fda ["days", "blocked"] (spAll K)) (bA : Binds K fda ["days", "blocked"] []) (mA : mg "day_of_all" = some (.ref fa))
    (FS : Fun K "spread_days" "spread_days" sSpread fs fds) (GS : FnOk P w K mg base CX0 3 fs fds ["width", "height", "blocked", "grains"] (spSpread K)) (bS : Binds K fds ["width", "height", "blocked", "grains"] []) (mS : mg "spread_days" = some (.ref fs)) :
    FnOk P w K mg base CX0 4 f fd ["bed", "blocked", "grains"] (spFullIf K C) := by
  refine F.ok scFullIf (fun vs H Q E h => ?_) (fun cdv A outer s H vs Q E hr h => ?_)
  · obtain ⟨Z, p, b', g', a, c, bl, gr, gs, rfl, _⟩ := h
    rfl
  · obtain ⟨Z, p, b', g', a, c, bl, gr, gs, rfl, B0, ew, eh, oc, hb', hg', af, sb, sg, gl, k⟩ := h
    obtain ⟨dx, b, g, e, ts, B⟩ := id B0
    have hr1 : Room 1 _ := hr.mono (by decide)
    refine ⟨_, pss_one (ps_ret (pe_call GA hr1 rfl mA FA.kp bA .nil pass0 (pa_cons (pe_call GS hr rfl mS FS.kp bS .nil pass0 (pa_cons (pe_fld (pv 0) rfl) (pa_cons (pe_fld (pv 0) rfl) (pa_cons (pv 1) (pa_cons (pv 2) pa_nil))))) (pa_cons (pv 1) pa_nil)))), ?_⟩
    refine ⟨_, rfl, p, C, dx, _, _, rfl, B.at_, T.cl, T.nW, bF_w _ _ _ _ _, _, rfl, p, C, dx, _, _, rfl, B.at_, T.cl, T.nH, bF_h _ _ _ _ _, _, rfl, _, rfl, ?_⟩
    refine ⟨c, b', g', bl, gr, gs, by rw [ew, eh]; rfl, oc, hb', hg', af, sb, sg, gl, fun H1 r s1 hr1 hr2 => ?_⟩
    refine ⟨_, rfl, r, b', _, _, rfl, SqL.of hr2, s1.seq hb', (by rw [daysOf_len]; exact cells_le oc), fun H2 z hz s2 => ?_⟩
    rw [isAll_full sb hz]
    exact k H2 (s1.trans s2)
/-! ### full_day -/
abbrev sFull : Stmt := top 43
theorem scFull : FnScope ["bed"] ["bed"] (defScope sFull) := ⟨rfl, rfl, rfl, by decide +kernel, rfl, by decide +kernel, by decide +kernel⟩
theorem ok_full {f C fi : Addr} {fd fdi : FuncData} (F : Fun K "full_day" "full_day" sFull f fd) (T : TxtBed K C)
    (FI : Fun K "full_day_if" "full_day_if" sFullIf fi fdi) (GI : FnOk P w K mg base CX0 4 fi fdi ["bed", "blocked", "grains"] (spFullIf K C)) (bI : Binds K fdi ["bed", "blocked", "grains"] []) (mI : mg "full_day_if" = some (.ref fi)) :
    FnOk P w K mg base CX0 5 f fd ["bed"] (spC0 C .full) := by
  refine F.ok scFull (fun vs H Q E h => ?_) (fun cdv A outer s H vs Q E hr h => ?_)
  · obtain ⟨Z, p, a, rfl, _⟩ := h
    rfl
  · obtain ⟨Z, p, a, rfl, B0, G, D⟩ := h
    obtain ⟨dx, b, g, e, ts, B⟩ := id B0
    refine ⟨_, pss_one (ps_ret (pe_lst (pa_cons (pe_call GI hr rfl mI FI.kp bI .nil pass0 (pa_cons (pv 0) (pa_cons (pe_fld (pv 0) rfl) (pa_cons (pe_fld (pv 0) rfl) pa_nil)))) pa_nil))), ?_⟩
    have D : Did Z C H p (some a) (ansL (Kh363.orNever (Kh363.full a))) Q := D
    rw [ansL_never] at D
    have gm := G.fits.gmost
    refine ⟨_, rfl, _, rfl, p, C, dx, _, _, rfl, B.at_, T.cl, T.nB, bF_b _ _ _ _ _, _, rfl, p, C, dx, _, _, rfl, B.at_, T.cl, T.nG, bF_g _ _ _ _ _, ?_⟩
    refine ⟨Z, p, b, g, a, a, _, _, a.grains, rfl, B0, rfl, rfl, G.ok, SqL.of B.hb, SqL.of B.hg, fun c hc => G.free c (List.mem_reverse.mp hc), same_rev _, same_rev _, by rw [List.length_reverse]; omega, fun H1 s1 => ?_⟩
    exact ⟨(by show 1 ≤ sizeLine; decide), fun q hq => Did.new D B0 s1 hq⟩
/-! ### cells_by_day -/
abbrev sRun : Stmt := top 45
theorem scRun : FnScope ["bed", "day"] ["bed", "day"] (defScope sRun) := ⟨rfl, rfl, rfl, by decide +kernel, rfl, by decide +kernel, by decide +kernel⟩
theorem TxtN.toC {mg : Str → Option Value} (N : TxtN mg) : TxtC mg := ⟨N.never, N.len, N.range, N.max⟩
theorem ok_run {f C fc fy fb : Addr} {fd fdc fdy fdb : FuncData} (F : Fun K "cells_by_day" "cells_by_day" sRun f fd) (N : TxtN mg)
    (FC : Fun K "counted" "counted" sCounted fc fdc) (bC : Binds K fdc ["cells"] []) (mC : mg "counted" = some (.ref fc)) (FY : Fun K "days_of" "days_of" sDays fy fdy) (GY : FnOk P w K mg base CX0 4 fy fdy ["bed"] (spDays C)) (bY : Binds K fdy ["bed"] []) (mY : mg "days_of" = some (.ref fy))
    (FB : Fun K "reached_by" "reached_by" sBy fb fdb) (bB : Binds K fdb ["days", "day"] []) (mB : mg "reached_by" = some (.ref fb)) :
    FnOk P w K mg base CX0 5 f fd ["bed", "day"] (spC1 C .run) := by
  have GC : FnOk P w K mg base CX0 1 fc fdc ["cells"] spCounted := ok_counted FC N.len
  have GB : FnOk P w K mg base CX0 1 fb fdb ["days", "day"] (spBy K) := ok_by FB N.toC
  refine F.ok scRun (fun vs H Q E h => ?_) (fun cdv A outer s H vs Q E hr h => ?_)
  · obtain ⟨Z, p, a, c, rfl, _⟩ := h
    rfl
  · obtain ⟨Z, p, a, c, rfl, B0, G, D⟩ := h
    have hr1 : Room 1 _ := hr.mono (by decide)
    refine ⟨_, pss_one (ps_ret (pe_call GC hr1 rfl mC FC.kp bC .nil pass0 (pa_cons (pe_call GB hr1 rfl mB FB.kp bB .nil pass0 (pa_cons (pe_call GY hr rfl mY FY.kp bY .nil pass0 (pa_cons (pv 0) pa_nil)) (pa_cons (pv 1) pa_nil))) pa_nil))), ?_⟩
    have D : Did Z C H p (some a) (ansL (Kh363.list (Kh363.run a c))) Q := D
    have c25 := cells_le G.ok
    have rl := reachBy_len (a := a) (g := a.grains) (d := c)
    refine ⟨_, rfl, Z, p, a, rfl, B0, G, fun H1 d s1 hd hd1 => ?_⟩
    refine ⟨_, rfl, a, a.grains, d, c, rfl, G.ok, SqL.of hd1, fun H2 l s2 hl hl2 => ?_⟩
    refine ⟨l, _, rfl, hl2, by omega, fun H3 r s3 hr hr3 => ?_⟩
    have s4 : Same H H3 := (s1.trans s2).trans s3
    rw [run_reach] at D
    exact D H3 r (But.of_same s4) (BedS.same s4 B0) ((s1.trans s2).free hr) hr3
/-! ### cells_on_day -/
abbrev sOnDay : Stmt := top 46
theorem scOnDay : FnScope ["bed", "day", "days", "cell"] ["bed", "day"] (defScope sOnDay) := ⟨rfl, rfl, rfl, by decide +kernel, rfl, by decide +kernel, by decide +kernel⟩
theorem ok_onDay {f C fc fy : Addr} {fd fdc fdy : FuncData} (F : Fun K "cells_on_day" "cells_on_day" sOnDay f fd) (N : TxtN mg)
    (FC : Fun K "counted" "counted" sCounted fc fdc) (bC : Binds K fdc ["cells"] []) (mC : mg "counted" = some (.ref fc)) (FY : Fun K "days_of" "days_of" sDays fy fdy) (GY : FnOk P w K mg base CX0 4 fy fdy ["bed"] (spDays C)) (bY : Binds K fdy ["bed"] []) (mY : mg "days_of" = some (.ref fy)) :
    FnOk P w K mg base CX0 5 f fd ["bed", "day"] (spC1 C .onDay) := by
  have GC : FnOk P w K mg base CX0 1 fc fdc ["cells"] spCounted := ok_counted FC N.len
  refine F.ok scOnDay (fun vs H Q E h => ?_) (fun cdv A outer s H vs Q E hr h => ?_)
  · obtain ⟨Z, p, a, c, rfl, _⟩ := h
    rfl
  · obtain ⟨Z, p, a, n, rfl, B0, G, D⟩ := h
    have hr1 : Room 1 _ := hr.mono (by decide)
    refine ⟨_, pss_cons (ps_set (i := 2) scOnDay.nd rfl (Or.inr rfl) (pe_call GY hr rfl mY FY.kp bY .nil pass0 (pa_cons (pv 0) pa_nil)))
      (pss_one (ps_ret (pe_call GC hr1 rfl mC FC.kp bC .nil pass0 (pa_cons (pe_lc (own := [("cell", 3)]) (g := gName 3) (tt := tTest (tOp rEq (tOp (rIxL K) (tVar 2) (tVar 3)) (tVar 1))) (te := tVar 3)
        rfl scOnDay.nd (pi_range1 rfl N.range (pa_cons (pe_callB call_len_seq rfl N.len PySem.boot_len (pa_cons (pv 2) pa_nil)) pa_nil)) (blkOk_by (N := ["bed", "day", "days", "cell"]) (sc := defScope sOnDay) (by decide +kernel))
        (fun _ _ _ _ _ => pg_name (i := 3) scOnDay.nd rfl (Or.inl rfl)) (fun _ _ _ _ _ => pts_one (pt_cmpR op_eq (pe_ix ix_list (pv 2) (pv 3) (fun _ _ => rfl)) (pv 1) (nomark _))) (fun _ _ _ _ _ => pv 3)) pa_nil)))), ?_⟩
    have c25 := cells_le G.ok
    have D : Did Z C H p (some a) (ansL (Kh363.list (Kh363.onDay a n))) Q := D
    refine ⟨_, rfl, Z, p, a, rfl, B0, G, fun H1 d s1 hd hd1 => ?_⟩
    have dl : (iv (daysOf a a.grains)).length ≤ 25 := by rw [iv_len, daysOf_len]; exact c25
    refine ⟨_, rfl, d, _, rfl, .inl (SqL.of hd1), _, rfl, by omega, by omega, fun L hL => ?_⟩
    generalize hdays : daysOf a a.grains = days at *
    refine lc_range (lo := 0) (n := ((iv days).length : Int).toNat) (fun i H' => Same H1 H' ∧ H' L = some (.lst (nv ((List.range i).filter fun x => decide (days.getD x 0 = (n : Int)))))) ⟨Same.new (Same.refl H1) hL, upd_same⟩ ?_ ?_
    · rintro i H' hi ⟨s5, hL5⟩
      rw [Int.toNat_natCast, iv_len] at hi
      rw [iv_len] at dl
      have hi2 : (0 : Int) + (i : Int) = (i : Int) := by omega
      have hfl := filter_range_len (fun x => decide (days.getD x 0 = (n : Int))) i
      refine ⟨rfl, _, rfl, _, rfl, d, _, _, _, rfl, rfl, SqL.of (s5 _ _ hd1), (by rw [hi2]; exact iv_at hi), _, rfl, rfl, _, rfl, ?_⟩
      refine ite2 (fun q1 => ?_) (fun q1 => ⟨s5, ?_⟩)
      · refine ⟨_, rfl, _, hL5, ?_, Same.upd s5 hL, ?_⟩
        · rw [nv_len, sizeLine_eq]
          omega
        · rw [upd_same, range_more, if_pos, nv_app, hi2]
          · rfl
          · simp at q1
            simp
            exact q1
      · rw [range_more, if_neg, List.append_nil]
        · exact hL5
        · simp at q1
          simp
          exact q1
    · rintro H' ⟨s5, hL5⟩
      rw [Int.toNat_natCast, iv_len] at hL5
      have eR : ((List.range days.length).filter fun x => decide (days.getD x 0 = (n : Int))) = Kh363.onDay a n := by
        rw [← hdays]
        exact onDay_eq n
      rw [eR] at hL5
      have lr : (Kh363.onDay a n).length ≤ 25 := by
        rw [← eR]
        have := filter_range_len (fun x => decide (days.getD x 0 = (n : Int))) days.length
        rw [iv_len] at dl
        omega
      refine ⟨L, _, rfl, hL5, by omega, fun H2 r s6 hr hr1 => ?_⟩
      have s7 : Same H H2 := (s1.trans s5).trans s6
      exact D H2 r (But.of_same s7) (BedS.same s7 B0) ((s1.trans s5).free hr) hr1
/-! ### last_cells -/
abbrev sLast : Stmt := top 47
theorem scLast : FnScope ["bed", "full"] ["bed"] (defScope sLast) := ⟨rfl, rfl, rfl, by decide +kernel, rfl, by decide +kernel, by decide +kernel⟩
theorem ok_last {f C fu fo : Addr} {fd fdu fdo : FuncData} (F : Fun K "last_cells" "last_cells" sLast f fd) (N : TxtN mg)
    (FU : Fun K "full_day" "full_day" sFull fu fdu) (GU : FnOk P w K mg base CX0 5 fu fdu ["bed"] (spC0 C .full)) (bU : Binds K fdu ["bed"] []) (mU : mg "full_day" = some (.ref fu))
    (FO : Fun K "cells_on_day" "cells_on_day" sOnDay fo fdo) (GO : FnOk P w K mg base CX0 5 fo fdo ["bed", "day"] (spC1 C .onDay)) (bO : Binds K fdo ["bed", "day"] []) (mO : mg "cells_on_day" = some (.ref fo)) :
    FnOk P w K mg base CX0 6 f fd ["bed"] (spC0 C .last) := by
  refine F.ok scLast (fun vs H Q E h => ?_) (fun cdv A outer s H vs Q E hr h => ?_)
  · obtain ⟨Z, p, a, rfl, _⟩ := h
    rfl
  · obtain ⟨Z, p, a, rfl, B0, G, D⟩ := h
    refine ⟨_, pss_cons (ps_set (i := 1) scLast.nd rfl (Or.inl rfl) (pe_call GU hr rfl mU FU.kp bU .nil pass0 (pa_cons (pv 0) pa_nil)))
      (pss_cons (ps_if (pt_cmpR (op_eqD hr.units) (pv 1) (pe_lst (pa_cons (pe_globI rfl N.never) pa_nil)) (nomark _)) (pss_one (ps_ret (pv 1))) pss_nil)
      (pss_one (ps_ret (pe_call GO hr rfl mO FO.kp bO .nil pass0 (pa_cons (pv 0) (pa_cons (pe_ix ix_list (pv 1) pe_int (fun _ _ => rfl)) pa_nil)))))), ?_⟩
    refine ⟨_, rfl, Z, p, a, rfl, B0, G, fun H1 r b1 B1 hr0 hr1 => ?_⟩
    have hr1 : H1 r = some (.lst (iv (ansL (Kh363.orNever (Kh363.full a))))) := hr1
    have B1 : BedS Z C H1 p (some a) := B1
    rw [ansL_never] at hr1
    refine ⟨_, rfl, (by show 1 ≤ sizeLine; decide), fun q hq => ?_⟩
    have s2 : Same H1 (upd H1 q (.lst [.int (-33)])) := Same.new (Same.refl H1) hq
    have b2 : But p H (upd H1 q (.lst [.int (-33)])) := b1.trans (But.of_same s2)
    have B2 : BedS Z C (upd H1 q (.lst [.int (-33)])) p (some a) := BedS.same s2 B1
    refine ⟨_, _, .lst (SqL.of (s2 _ _ hr1)) (.cons (.int _) .nil), .lst (SqL.of upd_same) (.cons (.int _) .nil), rfl, rfl, _, rfl, ?_⟩
    cases hf : Kh363.full a with
    | none =>
      refine if_true_of rfl ?_
      have eD : Kh363.doing (some a) .last = (some a, Kh363.say (-33)) := by
        show (match Kh363.full a with
          | none => (some a, Kh363.say (-33))
          | some d => (some a, Kh363.list (Kh363.onDay a d))) = _
        rw [hf]
      rw [DidR, eD] at D
      rw [hf] at hr1
      exact ⟨_, rfl, D _ r b2 B2 hr0 (s2 _ _ hr1)⟩
    | some n =>
      have ne : PyData.eqv (.list [.int (enc (some n))]) (.list [.int (-33)]) = false := by
        show ((((n : Int) == -33) && true)) = false
        have : ((n : Int) == -33) = false := by
          rw [beq_eq_false_iff_ne]
          omega
        rw [this]
        rfl
      refine if_false_of ne ?_
      have eD : Kh363.doing (some a) .last = (some a, Kh363.list (Kh363.onDay a n)) := by
        show (match Kh363.full a with
          | none => (some a, Kh363.say (-33))
          | some d => (some a, Kh363.list (Kh363.onDay a d))) = _
        rw [hf]
      rw [DidR, eD] at D
      rw [hf] at hr1
      refine ⟨_, rfl, _, rfl, r, _, _, _, rfl, rfl, SqL.of (s2 _ _ hr1), atI_nat (j := 0) rfl, ?_⟩
      refine ⟨Z, p, a, n, rfl, B2, G, fun H3 r3 b3 B3 hr3 hr33 => ?_⟩
      exact D H3 r3 (b2.trans b3) B3 (b2.free B2 hr3) hr33
end
end Bed
namespace Bed
open PySem PySem.Spec PyProof.Rows L2
theorem way_day {a : Kh363.Abs} {c : Nat} : ∃ z : Int, Kh363.doing (some a) (.day c) = (some a, Kh363.say z) ∧ ((z < 0 ∧ Kh363.doing (some a) (.way c) = (some a, Kh363.say z)) ∨
    ∃ n : Nat, z = n ∧ c < Kh363.cells a ∧ (Kh363.mapBy a a.grains).getD c none = some n ∧ Kh363.doing (some a) (.way c) = (some a, Kh363.list (Kh363.wayBack a (Kh363.mapBy a a.grains) n c).reverse)) := by
  by_cases h1 : Kh363.cells a ≤ c
  · exact ⟨-2, if_pos h1, .inl ⟨by omega, if_pos h1⟩⟩
  · by_cases h2 : a.blocked.contains c = true
    · exact ⟨-16, (if_neg h1).trans (if_pos h2), .inl ⟨by omega, (if_neg h1).trans (if_pos h2)⟩⟩
    · have e1 : Kh363.doing (some a) (.day c) = (some a, Kh363.orNever (Kh363.day a c)) := (if_neg h1).trans (if_neg h2)
      have e2 : Kh363.doing (some a) (.way c) = (match Kh363.day a c with
        | none => (some a, Kh363.say (-33))
        | some _ => (some a, Kh363.list (Kh363.way a c))) := (if_neg h1).trans (if_neg h2)
      rw [e1, e2]
      cases hd : Kh363.day a c with
      | none => exact ⟨-33, rfl, .inl ⟨by omega, rfl⟩⟩
      | some n =>
        refine ⟨n, rfl, .inr ⟨n, rfl, by omega, hd, ?_⟩⟩
        show (some a, Kh363.list (Kh363.wayBack a (Kh363.map_ a) ((Kh363.day a c).getD 0) c).reverse) = _
        rw [hd]
        rfl
theorem toNat_back : ∀ (l : List Int), (∀ x ∈ l, 0 ≤ x) → (l.map Int.toNat).map (fun (n : Nat) => (n : Int)) = l
  | [], _ => rfl
  | x :: l, h => by
    rw [List.map_cons, List.map_cons, toNat_back l fun y hy => h y (by simp [hy]), Int.toNat_of_nonneg (h x (by simp))]
section
variable {P : Program} {w : World} {K : PySem.W.Frag} {mg : Str → Option Value} {base : Heap}
/-! ### way_to_cell -/
abbrev sWayTo : Stmt := top 48
theorem scWayTo : FnScope ["bed", "cell", "day"] ["bed", "cell"] (defScope sWayTo) := ⟨rfl, rfl, rfl, by decide +kernel, rfl, by decide +kernel, by decide +kernel⟩
theorem ok_wayTo {f C fd' fw fc fy : Addr} {fd fdd fdw fdc fdy : FuncData} (F : Fun K "way_to_cell" "way_to_cell" sWayTo f fd) (T : TxtBed K C) (N : TxtN mg)
    (FD : Fun K "day_of_cell" "day_of_cell" sDay fd' fdd) (GD : FnOk P w K mg base CX0 5 fd' fdd ["bed", "cell"] (spC1 C .day)) (bD : Binds K fdd ["bed", "cell"] []) (mD : mg "day_of_cell" = some (.ref fd'))
    (FW : Fun K "way_to" "way_to" sWay fw fdw) (GW : FnOk P w K mg base CX0 3 fw fdw ["width", "height", "days", "cell"] (spWay K)) (bW : Binds K fdw ["width", "height", "days", "cell"] []) (mW : mg "way_to" = some (.ref fw))
    (FC : Fun K "counted" "counted" sCounted fc fdc) (bC : Binds K fdc ["cells"] []) (mC : mg "counted" = some (.ref fc)) (FY : Fun K "days_of" "days_of" sDays fy fdy) (GY : FnOk P w K mg base CX0 4 fy fdy ["bed"] (spDays C)) (bY : Binds K fdy ["bed"] []) (mY : mg "days_of" = some (.ref fy)) :
    FnOk P w K mg base CX0 6 f fd ["bed", "cell"] (spC1 C .way) := by
  have GC : FnOk P w K mg base CX0 1 fc fdc ["cells"] spCounted := ok_counted FC N.len
  refine F.ok scWayTo (fun vs H Q E h => ?_) (fun cdv A outer s H vs Q E hr h => ?_)
  · obtain ⟨Z, p, a, c, rfl, _⟩ := h
    rfl
  · obtain ⟨Z, p, a, c, rfl, B0, G, D⟩ := h
    have hr1 : Room 1 _ := hr.mono (by decide)
    have hr3 : Room 3 _ := hr.mono (by decide)
    have hr4 : Room 4 _ := hr.mono (by decide)
    refine ⟨_, pss_cons (ps_set (i := 2) scWayTo.nd rfl (Or.inl rfl) (pe_call GD hr rfl mD FD.kp bD .nil pass0 (pa_cons (pv 0) (pa_cons (pv 1) pa_nil))))
      (pss_cons (ps_if (pt_cmpR op_lt (pe_ix ix_list (pv 2) pe_int (fun _ _ => rfl)) pe_int (nomark _)) (pss_one (ps_ret (pv 2))) pss_nil)
      (pss_one (ps_ret (pe_call GC hr1 rfl mC FC.kp bC .nil pass0 (pa_cons (pe_call GW hr3 rfl mW FW.kp bW .nil pass0 (pa_cons (pe_fld (pv 0) rfl) (pa_cons (pe_fld (pv 0) rfl) (pa_cons (pe_call GY hr4 rfl mY FY.kp bY .nil pass0 (pa_cons (pv 0) pa_nil)) (pa_cons (pv 1) pa_nil))))) pa_nil))))), ?_⟩
    obtain ⟨z, e1, e2⟩ := way_day (a := a) (c := c)
    refine ⟨_, rfl, _, rfl, Z, p, a, c, rfl, B0, G, ?_⟩
    rw [DidR, e1]
    intro H1 r b1 B1 hr0 hr1'
    have B1 : BedS Z C H1 p (some a) := B1
    have hr1' : H1 r = some (.lst (iv [z])) := hr1'
    obtain ⟨dx, b, g, e, ts, B⟩ := id B1
    refine ⟨_, rfl, r, _, _, _, rfl, rfl, SqL.of hr1', atI_nat (j := 0) rfl, _, _, rfl, rfl, _, rfl, ?_⟩
    rcases e2 with ⟨hz, e3⟩ | ⟨n, rfl, hc, hm, e3⟩
    · refine if_true_of (decide_eq_true hz) ?_
      rw [DidR, e3] at D
      exact ⟨_, rfl, D H1 r b1 B1 hr0 hr1'⟩
    · refine if_false_of (decide_eq_false (by omega)) ?_
      rw [DidR, e3] at D
      refine ⟨_, rfl, p, C, dx, _, _, rfl, B.at_, T.cl, T.nW, bF_w _ _ _ _ _, _, rfl, p, C, dx, _, _, rfl, B.at_, T.cl, T.nH, bF_h _ _ _ _ _, _, rfl, ?_⟩
      refine ⟨Z, p, a, rfl, B1, G, fun H2 d s2 hd hd2 => ?_⟩
      refine ⟨_, rfl, a, a.grains, d, c, n, rfl, G.ok, SqL.of hd2, hm, fun H3 l s3 hl hl3 ll => ?_⟩
      refine ⟨l, _, rfl, hl3, by rw [List.length_reverse]; omega, fun H4 r4 s4 hr4 hr44 => ?_⟩
      have s5 : Same H1 H3 := s2.trans s3
      have B4 := BedS.same (s5.trans s4) B1
      exact D H4 r4 (b1.trans (But.of_same (s5.trans s4))) B4 (b1.free B1 (s5.free hr4)) hr44
/-! ### fewest_grains -/
abbrev sFew : Stmt := top 50
theorem scFew : FnScope ["bed", "day", "found"] ["bed", "day"] (defScope sFew) := ⟨rfl, rfl, rfl, by decide +kernel, rfl, by decide +kernel, by decide +kernel⟩
theorem ok_few {f C ff fc : Addr} {fd fdf fdc : FuncData} (F : Fun K "fewest_grains" "fewest_grains" sFew f fd) (T : TxtBed K C) (N : TxtN mg)
    (FF : Fun K "fewest_cells" "fewest_cells" sFewest ff fdf) (GF : FnOk P w K mg base CX0 4 ff fdf ["width", "height", "blocked", "day", "most"] (spFewest K)) (bF : Binds K fdf ["width", "height", "blocked", "day", "most"] []) (mF : mg "fewest_cells" = some (.ref ff))
    (FC : Fun K "counted" "counted" sCounted fc fdc) (bC : Binds K fdc ["cells"] []) (mC : mg "counted" = some (.ref fc)) :
    FnOk P w K mg base CX0 5 f fd ["bed", "day"] (spC1 C .fewest) := by
  have GC : FnOk P w K mg base CX0 1 fc fdc ["cells"] spCounted := ok_counted FC N.len
  refine F.ok scFew (fun vs H Q E h => ?_) (fun cdv A outer s H vs Q E hr h => ?_)
  · obtain ⟨Z, p, a, c, rfl, _⟩ := h
    rfl
  · obtain ⟨Z, p, a, d, rfl, B0, G, D⟩ := h
    obtain ⟨dx, b, g, e, ts, B⟩ := id B0
    have hr1 : Room 1 _ := hr.mono (by decide)
    refine ⟨_, pss_cons (ps_if (pt_cmpR op_gt (pv 1) (pe_globI rfl N.latest) (nomark _)) (pss_one (ps_ret (pe_lst (pa_cons (pe_globI rfl N.badSize) pa_nil)))) pss_nil)
      (pss_cons (ps_set (i := 2) scFew.nd rfl (Or.inl rfl) (pe_call GF hr rfl mF FF.kp bF .nil pass0 (pa_cons (pe_fld (pv 0) rfl) (pa_cons (pe_fld (pv 0) rfl) (pa_cons (pe_fld (pv 0) rfl) (pa_cons (pv 1) (pa_cons (pe_globI rfl N.enough) pa_nil)))))))
      (pss_cons (ps_if (pt_cmpR op_isN (pv 2) pe_non (nomark _)) (pss_one (ps_ret (pe_lst (pa_cons (pe_globI rfl N.never) pa_nil)))) pss_nil)
      (pss_one (ps_ret (pe_call GC hr1 rfl mC FC.kp bC .nil pass0 (pa_cons (pv 2) pa_nil)))))), ?_⟩
    refine ⟨_, rfl, _, _, rfl, rfl, _, rfl, ?_⟩
    by_cases h1 : 50 < d
    · refine if_true_of (decide_eq_true (by omega)) ?_
      have eD : Kh363.doing (some a) (.fewest d) = (some a, Kh363.say (-22)) := if_pos h1
      rw [DidR, eD] at D
      exact ⟨(by show 1 ≤ sizeLine; decide), fun r hr => Did.new D B0 (Same.refl H) hr⟩
    · refine if_false_of (decide_eq_false (by omega)) ?_
      have eD : Kh363.doing (some a) (.fewest d) = (match Kh363.fewest a d with
        | none => (some a, Kh363.say (-33))
        | some l => (some a, Kh363.list l)) := if_neg h1
      rw [DidR, eD] at D
      refine ⟨_, rfl, p, C, dx, _, _, rfl, B.at_, T.cl, T.nW, bF_w _ _ _ _ _, _, rfl, p, C, dx, _, _, rfl, B.at_, T.cl, T.nH, bF_h _ _ _ _ _, _, rfl, p, C, dx, _, _, rfl, B.at_, T.cl, T.nB, bF_b _ _ _ _ _, _, rfl, ?_⟩
      refine ⟨a, b, _, d, rfl, G.ok, SqL.of B.hb, same_rev _, fun hn H1 s1 => ?_, fun l H1 q hl ll s1 hq => ?_⟩
      · rw [hn] at D
        refine ⟨_, rfl, rfl, _, rfl, if_true_of rfl ?_⟩
        exact ⟨(by show 1 ≤ sizeLine; decide), fun r hr => Did.new D B0 s1 hr⟩
      · rw [hl] at D
        refine ⟨_, rfl, rfl, _, rfl, if_false_of rfl ?_⟩
        refine ⟨_, rfl, q, l, rfl, hq, by omega, fun H2 r s2 hr hr2 => ?_⟩
        have s3 := s1.trans s2
        exact D H2 r (But.of_same s3) (BedS.same s3 B0) (s1.free hr) hr2
/-! ### day_without -/
abbrev sDayWo : Stmt := top 51
theorem scDayWo : FnScope ["bed", "cell"] ["bed", "cell"] (defScope sDayWo) := ⟨rfl, rfl, rfl, by decide +kernel, rfl, by decide +kernel, by decide +kernel⟩
theorem ok_dayWo {f C fi fo : Addr} {fd fdi fdo : FuncData} (F : Fun K "day_without" "day_without" sDayWo f fd) (T : TxtBed K C) (N : TxtN mg)
    (FI : Fun K "full_day_if" "full_day_if" sFullIf fi fdi) (GI : FnOk P w K mg base CX0 4 fi fdi ["bed", "blocked", "grains"] (spFullIf K C)) (bI : Binds K fdi ["bed", "blocked", "grains"] []) (mI : mg "full_day_if" = some (.ref fi))
    (FO : Fun K "without_cell" "without_cell" sWithout fo fdo) (bO : Binds K fdo ["cells", "cell"] []) (mO : mg "without_cell" = some (.ref fo)) :
    FnOk P w K mg base CX0 5 f fd ["bed", "cell"] (spC1 C .without) := by
  have GO : FnOk P w K mg base CX0 1 fo fdo ["cells", "cell"] (spWithout K) := ok_without FO
  refine F.ok scDayWo (fun vs H Q E h => ?_) (fun cdv A outer s H vs Q E hr h => ?_)
  · obtain ⟨Z, p, a, c, rfl, _⟩ := h
    rfl
  · obtain ⟨Z, p, a, c, rfl, B0, G, D⟩ := h
    obtain ⟨dx, b, g, e, ts, B⟩ := id B0
    have hr1 : Room 1 _ := hr.mono (by decide)
    refine ⟨_, pss_cons (ps_if (pt_cmpR op_notIn_seq (pv 1) (pe_fld (pv 0) rfl) rfl) (pss_one (ps_ret (pe_lst (pa_cons (pe_globI rfl N.missing) pa_nil)))) pss_nil)
      (pss_one (ps_ret (pe_lst (pa_cons (pe_call GI hr rfl mI FI.kp bI .nil pass0 (pa_cons (pv 0) (pa_cons (pe_fld (pv 0) rfl) (pa_cons (pe_call GO hr1 rfl mO FO.kp bO .nil pass0 (pa_cons (pe_fld (pv 0) rfl) (pa_cons (pv 1) pa_nil))) pa_nil)))) pa_nil)))), ?_⟩
    refine ⟨_, rfl, _, rfl, p, C, dx, _, _, rfl, B.at_, T.cl, T.nG, bF_g _ _ _ _ _, g, _, rfl, .inl (SqL.of B.hg), rfl, nv_flat _, _, rfl, ?_⟩
    have lg := G.fits.gmost
    by_cases h2 : c ∈ a.grains
    · refine if_false_of (by simp [inV_rev, h2]) ?_
      have e : Kh363.doing (some a) (.without c) = (some a, Kh363.orNever (Kh363.fullBy a (a.grains.filter fun x => x != c))) := if_neg (by simpa using h2)
      rw [DidR, e] at D
      have D : Did Z C H p (some a) (ansL (Kh363.orNever (Kh363.fullBy a (a.grains.filter fun x => x != c)))) Q := D
      rw [ansL_never] at D
      refine ⟨_, rfl, _, rfl, p, C, dx, _, _, rfl, B.at_, T.cl, T.nB, bF_b _ _ _ _ _, _, rfl, p, C, dx, _, _, rfl, B.at_, T.cl, T.nG, bF_g _ _ _ _ _, _, rfl, g, _, c, rfl, SqL.of B.hg, (by rw [List.length_reverse]; omega), fun H1 r s1 hr hr1 => ?_⟩
      refine ⟨Z, p, b, r, a, a, _, _, a.grains.filter fun x => x != c, rfl, BedS.same s1 B0, rfl, rfl, G.ok, s1.seq (SqL.of B.hb), SqL.of hr1, fun x hx => ?_, same_rev _, fun x => ?_, ?_, fun H2 s2 => ?_⟩
      · exact G.free x (List.mem_reverse.mp (List.mem_filter.mp hx).1)
      · rw [List.mem_filter, List.mem_filter, List.mem_reverse]
      · have := List.length_filter_le (fun x => x != c) a.grains.reverse
        rw [List.length_reverse] at this
        omega
      · exact ⟨(by show 1 ≤ sizeLine; decide), fun q hq => Did.new D B0 (s1.trans s2) hq⟩
    · refine if_true_of (by simp [inV_rev, h2]) ?_
      have e : Kh363.doing (some a) (.without c) = (some a, Kh363.say (-2)) := if_pos (by simpa using h2)
      rw [DidR, e] at D
      exact ⟨(by show 1 ≤ sizeLine; decide), fun r hr => Did.new D B0 (Same.refl H) hr⟩
/-! ### day_if_blocked -/
abbrev sIfB : Stmt := top 52
theorem scIfB : FnScope ["bed", "cell", "refused"] ["bed", "cell"] (defScope sIfB) := ⟨rfl, rfl, rfl, by decide +kernel, rfl, by decide +kernel, by decide +kernel⟩
theorem ok_ifB {f C fi fh : Addr} {fd fdi fdh : FuncData} (F : Fun K "day_if_blocked" "day_if_blocked" sIfB f fd) (T : TxtBed K C) (N : TxtN mg)
    (FI : Fun K "full_day_if" "full_day_if" sFullIf fi fdi) (GI : FnOk P w K mg base CX0 4 fi fdi ["bed", "blocked", "grains"] (spFullIf K C)) (bI : Binds K fdi ["bed", "blocked", "grains"] []) (mI : mg "full_day_if" = some (.ref fi))
    (FH : Fun K "block_refusal" "block_refusal" sRefuse fh fdh) (GH : FnOk P w K mg base CX0 2 fh fdh ["bed", "cell"] (spRefuse C)) (bH : Binds K fdh ["bed", "cell"] []) (mH : mg "block_refusal" = some (.ref fh)) :
    FnOk P w K mg base CX0 5 f fd ["bed", "cell"] (spC1 C .ifBlock) := by
  refine F.ok scIfB (fun vs H Q E h => ?_) (fun cdv A outer s H vs Q E hr h => ?_)
  · obtain ⟨Z, p, a, c, rfl, _⟩ := h
    rfl
  · obtain ⟨Z, p, a, c, rfl, B0, G, D⟩ := h
    have hr2 : Room 2 _ := hr.mono (by decide)
    refine ⟨_, pss_cons (ps_set (i := 2) scIfB.nd rfl (Or.inl rfl) (pe_call GH hr2 rfl mH FH.kp bH .nil pass0 (pa_cons (pv 0) (pa_cons (pv 1) pa_nil))))
      (pss_cons (ps_if (pt_cmpR op_gt (pe_callB call_len_seq rfl N.len PySem.boot_len (pa_cons (pv 2) pa_nil)) pe_int (nomark _)) (pss_one (ps_ret (pv 2))) pss_nil)
      (pss_one (ps_ret (pe_lst (pa_cons (pe_call GI hr rfl mI FI.kp bI .nil pass0 (pa_cons (pv 0) (pa_cons (pe_op op_cat (pe_fld (pv 0) rfl) (pe_lst (pa_cons (pv 1) pa_nil))) (pa_cons (pe_fld (pv 0) rfl) pa_nil)))) pa_nil))))), ?_⟩
    refine ⟨_, rfl, _, rfl, Z, p, a, c, rfl, B0, G.ok, fun H0 r0 s0 hr0 hr1' => ?_⟩
    refine ⟨_, rfl, r0, _, rfl, .inl (SqL.of hr1'), _, _, rfl, rfl, _, rfl, ?_⟩
    have B1 : BedS Z C H0 p (some a) := BedS.same s0 B0
    obtain ⟨dx, b, g, e, ts, B⟩ := id B1
    by_cases h1 : blockRef a c = []
    · refine if_false_of (by rw [h1]; rfl) ?_
      obtain ⟨hc, h2, h3, _, e⟩ := blockRef_none h1
      rw [DidR, e] at D
      have D : Did Z C H p (some a) (ansL (Kh363.orNever (Kh363.full { a with blocked := c :: a.blocked }))) Q := D
      rw [ansL_never] at D
      have lb := G.len_b
      have gm := G.fits.gmost
      refine ⟨_, rfl, _, rfl, p, C, dx, _, _, rfl, B.at_, T.cl, T.nB, bF_b _ _ _ _ _, _, rfl, (by show 1 ≤ sizeLine; decide), fun q hq => ?_⟩
      have s1 : Same H0 (upd H0 q (.lst [.int c])) := Same.new (Same.refl H0) hq
      refine ⟨b, q, _, _, rfl, rfl, s1 _ _ B.hb, upd_same, ?_, fun r hr => ?_⟩
      · rw [nv_len, List.length_reverse, sizeLine_eq]
        show _ + 1 ≤ _
        omega
      have s2 := Same.new (o := .lst (nv a.blocked.reverse ++ [.int c])) s1 hr
      refine ⟨_, rfl, p, C, dx, _, _, rfl, s2 _ _ B.at_, T.cl, T.nG, bF_g _ _ _ _ _, ?_⟩
      refine ⟨Z, p, r, g, a, { a with blocked := c :: a.blocked }, a.blocked.reverse ++ [c], _, a.grains, rfl, BedS.same s2 B1, rfl, rfl, ⟨G.ok.w1, G.ok.w5, G.ok.h1, G.ok.h5⟩, SqL.of ?_, s2.seq (SqL.of B.hg), fun x hx => ?_, fun x => ?_, same_rev _, by rw [List.length_reverse]; omega, fun H2 s3 => ?_⟩
      · rw [upd_same, nv_app]
        rfl
      · have hx := List.mem_reverse.mp hx
        have := G.fits.gin x hx
        refine isFree_iff.mpr ⟨this.1, fun z => ?_⟩
        rcases List.mem_cons.mp z with z | z
        · subst z
          exact h3 hx
        · exact this.2 z
      · show x ∈ a.blocked.reverse ++ [c] ↔ x ∈ c :: a.blocked
        simp [or_comm]
      · exact ⟨(by show 1 ≤ sizeLine; decide), fun z hz => Did.new D B0 ((s0.trans s2).trans s3) hz⟩
    · obtain ⟨z, ez, _, e⟩ := blockRef_some h1
      refine if_true_of (by rw [ez]; rfl) ?_
      rw [DidR, e] at D
      rw [ez] at hr1'
      exact ⟨_, rfl, D H0 r0 (But.of_same s0) B1 hr0 hr1'⟩
/-! ### area_counts -/
abbrev sAreaC : Stmt := top 53
theorem scAreaC : FnScope ["bed"] ["bed"] (defScope sAreaC) := ⟨rfl, rfl, rfl, by decide +kernel, rfl, by decide +kernel, by decide +kernel⟩
theorem ok_areaC {f C fa fc : Addr} {fd fda fdc : FuncData} (F : Fun K "area_counts" "area_counts" sAreaC f fd) (T : TxtBed K C) (N : TxtN mg)
    (FA : Fun K "area_sizes" "area_sizes" sAreas fa fda) (GA : FnOk P w K mg base CX0 4 fa fda ["width", "height", "blocked"] (spAreas K)) (bA : Binds K fda ["width", "height", "blocked"] []) (mA : mg "area_sizes" = some (.ref fa))
    (FC : Fun K "counted" "counted" sCounted fc fdc) (bC : Binds K fdc ["cells"] []) (mC : mg "counted" = some (.ref fc)) : FnOk P w K mg base CX0 5 f fd ["bed"] (spC0 C .areas) := by
  have GC : FnOk P w K mg base CX0 1 fc fdc ["cells"] spCounted := ok_counted FC N.len
  refine F.ok scAreaC (fun vs H Q E h => ?_) (fun cdv A outer s H vs Q E hr h => ?_)
  · obtain ⟨Z, p, a, rfl, _⟩ := h
    rfl
  · obtain ⟨Z, p, a, rfl, B0, G, D⟩ := h
    obtain ⟨dx, b, g, e, ts, B⟩ := id B0
    have hr1 : Room 1 _ := hr.mono (by decide)
    refine ⟨_, pss_one (ps_ret (pe_call GC hr1 rfl mC FC.kp bC .nil pass0 (pa_cons (pe_call GA hr rfl mA FA.kp bA .nil pass0 (pa_cons (pe_fld (pv 0) rfl) (pa_cons (pe_fld (pv 0) rfl) (pa_cons (pe_fld (pv 0) rfl) pa_nil)))) pa_nil))), ?_⟩
    have D : Did Z C H p (some a) (ansL (Kh363.list ((Kh363.areas a).map (Kh363.sizeOf a)))) Q := D
    have c25 := cells_le G.ok
    refine ⟨_, rfl, p, C, dx, _, _, rfl, B.at_, T.cl, T.nW, bF_w _ _ _ _ _, _, rfl, p, C, dx, _, _, rfl, B.at_, T.cl, T.nH, bF_h _ _ _ _ _, _, rfl, p, C, dx, _, _, rfl, B.at_, T.cl, T.nB, bF_b _ _ _ _ _, ?_⟩
    refine ⟨a, b, _, rfl, G.ok, SqL.of B.hb, same_rev _, fun H1 l s1 hl hl1 => ?_⟩
    refine ⟨l, _, rfl, hl1, ?_, fun H2 r s2 hr hr2 => ?_⟩
    · rw [List.length_map, areas_filter]
      have := List.length_filter_le (leastOf a) (Kh363.free a)
      have := free_len (a := a)
      omega
    · have s3 := s1.trans s2
      exact D H2 r (But.of_same s3) (BedS.same s3 B0) (s1.free hr) hr2
/-! ### day_map -/
abbrev sMap : Stmt := top 54
theorem scMap : FnScope ["bed", "day"] ["bed"] (defScope sMap) := ⟨rfl, rfl, rfl, by decide +kernel, rfl, by decide +kernel, by decide +kernel⟩
theorem iv_get {l : List Int} {i : Nat} {y : V} (h : (iv l)[i]? = some y) : ∃ c, l[i]? = some c ∧ y = V.int c := by
  unfold iv at h
  rw [List.getElem?_map] at h
  cases e : l[i]? with
  | none => rw [e] at h; cases h
  | some z => rw [e] at h; exact ⟨z, rfl, (Option.some.inj h).symm⟩
theorem ok_map {f C fc fy : Addr} {fd fdc fdy : FuncData} (F : Fun K "day_map" "day_map" sMap f fd) (N : TxtN mg)
    (FC : Fun K "counted" "counted" sCounted fc fdc) (bC : Binds K fdc ["cells"] []) (mC : mg "counted" = some (.ref fc)) (FY : Fun K "days_of" "days_of" sDays fy fdy) (GY : FnOk P w K mg base CX0 4 fy fdy ["bed"] (spDays C)) (bY : Binds K fdy ["bed"] []) (mY : mg "days_of" = some (.ref fy)) :
    FnOk P w K mg base CX0 5 f fd ["bed"] (spC0 C .map_) := by
  have GC : FnOk P w K mg base CX0 1 fc fdc ["cells"] spCounted := ok_counted FC N.len
  refine F.ok scMap (fun vs H Q E h => ?_) (fun cdv A outer s H vs Q E hr h => ?_)
  · obtain ⟨Z, p, a, rfl, _⟩ := h
    rfl
  · obtain ⟨Z, p, a, rfl, B0, G, D⟩ := h
    have hr1 : Room 1 _ := hr.mono (by decide)
    refine ⟨_, pss_one (ps_ret (pe_call GC hr1 rfl mC FC.kp bC .nil pass0 (pa_cons (pe_lc (own := [("day", 1)]) (g := gName 1) (tt := tYes) (te := tIf (tTest (tOp rEq (tVar 1) (tC (.int (-33))))) (tC (.int 0)) (tOp (rI0 fun i j => .int (i + j)) (tVar 1) (tC (.int 1))))
        rfl scMap.nd (pi_list (pe_call GY hr rfl mY FY.kp bY .nil pass0 (pa_cons (pv 0) pa_nil))) (blkOk_by (N := ["bed", "day"]) (sc := defScope sMap) (by decide +kernel))
        (fun _ _ _ _ _ => pg_name (i := 1) scMap.nd rfl (Or.inl rfl)) (fun _ _ _ _ _ => pts_nil) (fun _ _ _ _ _ => pe_ifExp (pt_cmpR op_eq (pv 1) (pe_globI rfl N.never) (nomark _)) pe_int (pe_op op_add (pv 1) pe_int))) pa_nil))), ?_⟩
    have c25 := cells_le G.ok
    have D : Did Z C H p (some a) (ansL (Kh363.list ((Kh363.map_ a).map told1))) Q := D
    refine ⟨_, rfl, Z, p, a, rfl, B0, G, fun H1 d s1 hd hd1 => ?_⟩
    refine ⟨d, rfl, ⟨_, SqL.of hd1⟩, fun L hL => ?_⟩
    have ml : (Kh363.mapBy a a.grains).length = Kh363.cells a := by rw [mapBy_eq, mapT_len]
    refine lc_list (K := K) (a := d) (xs := iv (daysOf a a.grains)) (fun i H' => Same H1 H' ∧ H' L = some (.lst (nv (((Kh363.mapBy a a.grains).take i).map told1)))) ⟨Same.new (Same.refl H1) hL, upd_same⟩ (fun i H' _ ⟨s5, _⟩ => SqL.of (s5 _ _ hd1)) ?_ ?_
    · rintro i y H' hi ⟨s5, hL5⟩
      obtain ⟨z, hz, rfl⟩ := iv_get hi
      have il := get_lt hz
      rw [daysOf_len] at il
      unfold daysOf at hz
      rw [List.getElem?_map] at hz
      obtain ⟨o, ho⟩ : ∃ o, (Kh363.mapBy a a.grains)[i]? = some o := ⟨_, List.getElem?_eq_getElem (by omega)⟩
      rw [ho] at hz
      have ez : enc o = z := Option.some.inj hz
      subst ez
      refine ⟨rfl, ?_⟩
      unfold tYes
      dsimp only
      rw [if_pos rfl]
      have bnd : (nv (((Kh363.mapBy a a.grains).take i).map told1)).length < sizeLine := by
        rw [nv_len, List.length_map, List.length_take, sizeLine_eq]
        omega
      have fin : ∀ v : Int, v = ((told1 o : Nat) : Int) → ∃ acc, H' L = some (.lst acc) ∧ acc.length < sizeLine ∧ Same H1 (upd H' L (.lst (acc ++ [V.int v]))) ∧ (upd H' L (.lst (acc ++ [V.int v]))) L = some (.lst (nv (((Kh363.mapBy a a.grains).take (i + 1)).map told1))) := fun v hv => by
        refine ⟨_, hL5, bnd, Same.upd s5 hL, ?_⟩
        rw [upd_same, take_more ho, List.map_append, nv_app, hv]
        rfl
      refine ⟨_, rfl, rfl, _, rfl, ?_⟩
      have et := told1_enc o
      refine ite2 (fun q1 => ?_) (fun q1 => ?_)
      · refine fin 0 ?_
        rw [et, if_pos (by simpa using q1)]
      · refine ⟨_, rfl, _, _, rfl, rfl, ?_⟩
        refine fin (enc o + 1) ?_
        rw [et, if_neg (by simpa using q1)]
    · rintro H' ⟨s5, hL5⟩
      rw [iv_len, daysOf_len, ← ml, List.take_length] at hL5
      refine ⟨L, _, rfl, hL5, by rw [List.length_map]; omega, fun H2 r s6 hr hr1 => ?_⟩
      have s7 : Same H H2 := (s1.trans s5).trans s6
      exact D H2 r (But.of_same s7) (BedS.same s7 B0) ((s1.trans s5).free hr) hr1
/-! ### grain_cells -/
abbrev sGrains : Stmt := top 55
theorem scGrains : FnScope ["bed"] ["bed"] (defScope sGrains) := ⟨rfl, rfl, rfl, by decide +kernel, rfl, by decide +kernel, by decide +kernel⟩
theorem nv_ints (l : List Nat) : nv l = (l.map fun (n : Nat) => (n : Int)).map V.int := by
  unfold nv
  rw [List.map_map]
  rfl
theorem ok_grains {f C fc : Addr} {fd fdc : FuncData} (F : Fun K "grain_cells" "grain_cells" sGrains f fd) (T : TxtBed K C) (N : TxtN mg)
    (FC : Fun K "counted" "counted" sCounted fc fdc) (bC : Binds K fdc ["cells"] []) (mC : mg "counted" = some (.ref fc)) : FnOk P w K mg base CX0 2 f fd ["bed"] (spC0 C .grains) := by
  have GC : FnOk P w K mg base CX0 1 fc fdc ["cells"] spCounted := ok_counted FC N.len
  refine F.ok scGrains (fun vs H Q E h => ?_) (fun cdv A outer s H vs Q E hr h => ?_)
  · obtain ⟨Z, p, a, rfl, _⟩ := h
    rfl
  · obtain ⟨Z, p, a, rfl, B0, G, D⟩ := h
    obtain ⟨dx, b, g, e, ts, B⟩ := id B0
    refine ⟨_, pss_one (ps_ret (pe_call GC hr rfl mC FC.kp bC .nil pass0 (pa_cons (pe_callB cr_sorted rfl N.sorted (by decide +kernel) (pa_cons (pe_fld (pv 0) rfl) pa_nil)) pa_nil))), ?_⟩
    have D : Did Z C H p (some a) (ansL (Kh363.list (Kh363.sorted a.grains))) Q := D
    have gm := G.fits.gmost
    refine ⟨_, rfl, p, C, dx, _, _, rfl, B.at_, T.cl, T.nG, bF_g _ _ _ _ _, g, a.grains.reverse.map (fun (n : Nat) => (n : Int)), rfl, ?_, ?_, fun ns' q hp hs hq => ?_⟩
    · rw [← nv_ints]
      exact SqL.of B.hg
    · rw [List.length_map, List.length_reverse]
      omega
    · have e1 : ns' = (ns'.map Int.toNat).map fun (n : Nat) => (n : Int) := by
        refine (toNat_back ns' fun x hx => ?_).symm
        obtain ⟨n, _, rfl⟩ := List.mem_map.mp (hp.mem_iff.mp hx)
        omega
      have e2 : (ns'.map Int.toNat).Perm a.grains := by
        have h1 := hp.map Int.toNat
        rw [List.map_map] at h1
        have h2 : (a.grains.reverse.map (Int.toNat ∘ fun (n : Nat) => (n : Int))) = a.grains.reverse := by
          have : (Int.toNat ∘ fun (n : Nat) => (n : Int)) = id := by funext n; rfl
          rw [this, List.map_id]
        rw [h2] at h1
        exact h1.trans (List.reverse_perm _)
      have e3 : (ns'.map Int.toNat).Pairwise (· ≤ ·) := List.pairwise_map.mpr (hs.imp fun z => by omega)
      have e4 := sorted_is e2 e3
      rw [e1, ← nv_ints, e4]
      have s1 := Same.new (o := .lst (nv (Kh363.sorted a.grains))) (Same.refl H) hq
      have sl : (Kh363.sorted a.grains).length ≤ 1000 := by
        rw [← e4, e2.length_eq]
        omega
      refine ⟨q, _, rfl, upd_same, sl, fun H2 r s2 hr hr2 => ?_⟩
      have s3 := s1.trans s2
      exact D H2 r (But.of_same s3) (BedS.same s3 B0) (s1.free hr) hr2
/-! ### state_of -/
abbrev sState : Stmt := top 56
theorem scState : FnScope ["bed"] ["bed"] (defScope sState) := ⟨rfl, rfl, rfl, by decide +kernel, rfl, by decide +kernel, by decide +kernel⟩
theorem ok_state {f C : Addr} {fd : FuncData} (F : Fun K "state_of" "state_of" sState f fd) (T : TxtBed K C) (N : TxtN mg) : FnOk P w K mg base CX0 1 f fd ["bed"] (spC0 C .state) := by
  refine F.ok scState (fun vs H Q E h => ?_) (fun cdv A outer s H vs Q E hr h => ?_)
  · obtain ⟨Z, p, a, rfl, _⟩ := h
    rfl
  · obtain ⟨Z, p, a, rfl, B0, G, D⟩ := h
    obtain ⟨dx, b, g, e, ts, B⟩ := id B0
    refine ⟨_, pss_one (ps_ret (pe_lst (pa_cons (pe_fld (pv 0) rfl) (pa_cons (pe_fld (pv 0) rfl) (pa_cons (pe_callB call_len_seq rfl N.len PySem.boot_len (pa_cons (pe_fld (pv 0) rfl) pa_nil)) (pa_cons (pe_callB call_len_seq rfl N.len PySem.boot_len (pa_cons (pe_fld (pv 0) rfl) pa_nil)) (pa_cons (pe_callB call_len_seq rfl N.len PySem.boot_len (pa_cons (pe_fld (pv 0) rfl) pa_nil)) pa_nil))))))), ?_⟩
    have D : Did Z C H p (some a) [(a.wide : Int), (a.high : Int), (a.blocked.length : Int), (a.grains.length : Int), (a.undo.length : Int)] Q := D
    refine ⟨_, rfl, p, C, dx, _, _, rfl, B.at_, T.cl, T.nW, bF_w _ _ _ _ _, _, rfl, p, C, dx, _, _, rfl, B.at_, T.cl, T.nH, bF_h _ _ _ _ _, _, rfl, p, C, dx, _, _, rfl, B.at_, T.cl, T.nB, bF_b _ _ _ _ _, b, _, rfl, .inl (SqL.of B.hb), _, rfl, p, C, dx, _, _, rfl, B.at_, T.cl, T.nG, bF_g _ _ _ _ _, g, _, rfl, .inl (SqL.of B.hg),
      _, rfl, p, C, dx, _, _, rfl, B.at_, T.cl, T.nE, bF_e _ _ _ _ _, e, _, rfl, .inl (SqL.of B.he), (by show 5 ≤ sizeLine; decide), fun q hq => ?_⟩
    have lts := B.hu.len
    rw [List.length_map, List.length_reverse] at lts
    have e1 : (nv a.blocked.reverse).length = a.blocked.length := by simp [nv]
    have e2 : (nv a.grains.reverse).length = a.grains.length := by simp [nv]
    have e3 : (ts.map V.ref).length = a.undo.length := by rw [List.length_map, lts]
    rw [e1, e2, e3]
    exact Did.new D B0 (Same.refl H) hq
end
end Bed
namespace Bed
open PySem PySem.Spec PyProof.Rows L2
theorem helped_more {a : Kh363.Abs} {l : List Nat} {i c : Nat} (h : l[i]? = some c) : helped a (l.take (i + 1)) = helped a (l.take i) ++ (match Kh363.fullBy a (c :: a.grains) with | none => [] | some d => [(d, c)]) := by
  unfold helped
  rw [take_more h, List.filterMap_append]
  congr 1
  cases e : Kh363.fullBy a (c :: a.grains) <;> simp [e]
theorem helped_len (a : Kh363.Abs) (l : List Nat) : (helped a l).length ≤ l.length := List.length_filterMap_le _ _
section
variable {P : Program} {w : World} {K : PySem.W.Frag} {mg : Str → Option Value} {base : Heap}
/-! ### best_cell -/
abbrev sBest : Stmt := top 49
theorem scBest : FnScope ["bed", "helped", "cell", "day", "soonest"] ["bed"] (defScope sBest) := ⟨rfl, rfl, rfl, by decide +kernel, rfl, by decide +kernel, by decide +kernel⟩
theorem ok_best {f C fi ff : Addr} {fd fdi fdf : FuncData} (F : Fun K "best_cell" "best_cell" sBest f fd) (T : TxtBed K C) (N : TxtN mg)
    (FI : Fun K "full_day_if" "full_day_if" sFullIf fi fdi) (GI : FnOk P w K mg base CX0 4 fi fdi ["bed", "blocked", "grains"] (spFullIf K C)) (bI : Binds K fdi ["bed", "blocked", "grains"] []) (mI : mg "full_day_if" = some (.ref fi))
    (FF : Fun K "free_cells" "free_cells" sFree ff fdf) (bF : Binds K fdf ["width", "height", "blocked"] []) (mF : mg "free_cells" = some (.ref ff)) : FnOk P w K mg base CX0 5 f fd ["bed"] (spC0 C .best) := by
  have GF : FnOk P w K mg base CX0 1 ff fdf ["width", "height", "blocked"] (spFree K) := ok_free FF N.toC
  refine F.ok scBest (fun vs H Q E h => ?_) (fun cdv A outer s H vs Q E hr h => ?_)
  · obtain ⟨Z, p, a, rfl, _⟩ := h
    rfl
  · obtain ⟨Z, p, a, rfl, B0, G, D⟩ := h
    have hr1 : Room 1 _ := hr.mono (by decide)
    have hu10 := Nat.lt_of_le_of_lt (Nat.add_le_add_left (show 10 ≤ 64 by decide) _) hr.units
    refine ⟨_, pss_cons (ps_set (i := 1) scBest.nd rfl (Or.inl rfl) (pe_lst pa_nil))
      (pss_cons (ps_for PassesOwn.never rfl (pi_list (pe_call GF hr1 rfl mF FF.kp bF .nil pass0 (pa_cons (pe_fld (pv 0) rfl) (pa_cons (pe_fld (pv 0) rfl) (pa_cons (pe_fld (pv 0) rfl) pa_nil))))) (pg_name (i := 2) scBest.nd rfl (Or.inl rfl))
        (pss_cons (ps_set (i := 3) scBest.nd rfl (Or.inl rfl) (pe_call GI hr rfl mI FI.kp bI .nil pass0 (pa_cons (pv 0) (pa_cons (pe_fld (pv 0) rfl) (pa_cons (pe_op op_cat (pe_fld (pv 0) rfl) (pe_lst (pa_cons (pv 2) pa_nil))) pa_nil)))))
        (pss_one (ps_if (pt_cmpR op_ne (pv 3) (pe_globI rfl N.never) (nomark _)) (pss_one (ps_expr (pe_bm PySem.F.plainAttrs_list PySem.F.slot_list_append PySem.F.type_list_append mt_append (pv 1) (pa_cons (pe_tup (pa_cons (pv 3) (pa_cons (pv 2) pa_nil))) pa_nil)))) pss_nil))))
      (pss_cons (ps_if (pt_cmpR op_eq (pe_callB call_len_seq rfl N.len PySem.boot_len (pa_cons (pv 1) pa_nil)) pe_int (nomark _)) (pss_one (ps_ret (pe_lst (pa_cons (pe_globI rfl N.never) pa_nil)))) pss_nil)
      (pss_cons (ps_set (i := 4) scBest.nd rfl (Or.inl rfl) (pe_callB (cr_minP rfl hu10) rfl N.min (by decide +kernel) (pa_cons (pv 1) pa_nil)))
      (pss_one (ps_ret (pe_lst (pa_cons (pe_ix ix_tup (pv 4) pe_int (fun _ _ => rfl)) (pa_cons (pe_ix ix_tup (pv 4) pe_int (fun _ _ => rfl)) pa_nil)))))))), ?_⟩
    have c25 := cells_le G.ok
    have fl := free_len (a := a)
    have gm := G.fits.gmost
    refine ⟨Nat.zero_le _, fun hp hhp => ?_⟩
    have s1 : Same H (upd H hp (.lst [])) := Same.new (Same.refl H) hhp
    obtain ⟨dx, b, g, e, ts0, B⟩ := id B0
    refine ⟨_, rfl, p, C, dx, _, _, rfl, s1 _ _ B.at_, T.cl, T.nW, bF_w _ _ _ _ _, _, rfl, p, C, dx, _, _, rfl, s1 _ _ B.at_, T.cl, T.nH, bF_h _ _ _ _ _, _, rfl, p, C, dx, _, _, rfl, s1 _ _ B.at_, T.cl, T.nB, bF_b _ _ _ _ _, ?_⟩
    refine ⟨a, b, _, rfl, G.ok, s1.seq (SqL.of B.hb), same_rev _, fun H1 q s2 hq hq1 => ?_⟩
    have nqh : q ≠ hp := fun z => by
      rw [z, upd_same] at hq
      cases hq
    refine ⟨q, rfl, ⟨_, SqL.of hq1⟩, for_list (K := K) (a := q) (xs := nv (Kh363.free a)) (fun i σ H' => ∃ (v2 v3 : Option V) (ts : List Addr), σ = [some (.ref p), some (.ref hp), v2, v3, none] ∧ But hp H1 H' ∧ H' hp = some (.lst (ts.map V.ref)) ∧ Pairs H' ts (helped a ((Kh363.free a).take i)))
      ⟨none, none, [], rfl, But.refl hp H1, s2 _ _ upd_same, trivial⟩ (fun i σ H' _ ⟨_, _, _, _, b5, _⟩ => SqL.of (b5 _ _ hq1 nqh)) ?_ ?_⟩
    · rintro i y σ H' hi ⟨v2, v3, ts, rfl, b5, hh5, hP5⟩
      obtain ⟨c, hc, rfl⟩ := nv_get hi
      have il := get_lt hc
      have hcf : Kh363.isFree a c = true := free_mem.mp (List.mem_of_getElem? hc)
      have s5 : Same H H' := Same.but (s1.trans s2) b5 hhp
      have lts := hP5.len
      have hl2 := helped_len a ((Kh363.free a).take i)
      rw [List.length_take] at hl2
      have nx := helped_more (a := a) hc
      refine ⟨_, rfl, _, rfl, p, C, dx, _, _, rfl, s5 _ _ B.at_, T.cl, T.nB, bF_b _ _ _ _ _, _, rfl, p, C, dx, _, _, rfl, s5 _ _ B.at_, T.cl, T.nG, bF_g _ _ _ _ _, _, rfl, (by show 1 ≤ sizeLine; decide), fun l hl => ?_⟩
      have s6 : Same H' (upd H' l (.lst [.int c])) := Same.new (Same.refl H') hl
      refine ⟨g, l, _, _, rfl, rfl, s6 _ _ (s5 _ _ B.hg), upd_same, ?_, fun r hr => ?_⟩
      · rw [nv_len, List.length_reverse, sizeLine_eq]
        show _ + 1 ≤ _
        omega
      have s7 := Same.new (o := .lst (nv a.grains.reverse ++ [.int c])) s6 hr
      refine ⟨Z, p, b, r, a, a, _, a.grains.reverse ++ [c], c :: a.grains, rfl, BedS.same (s5.trans s7) B0, rfl, rfl, G.ok, (s5.trans s7).seq (SqL.of B.hb), SqL.of ?_, fun x hx => ?_, same_rev _, fun x => ?_, ?_, fun H2 s8 => ?_⟩
      · rw [upd_same, nv_app]
        rfl
      · rcases List.mem_append.mp hx with hx | hx
        · exact G.free x (List.mem_reverse.mp hx)
        · have : x = c := by simpa using hx
          subst this
          exact hcf
      · simp [or_comm]
      · rw [List.length_append, List.length_reverse]
        show _ + 1 ≤ _
        omega
      have s9 : Same H' H2 := s7.trans s8
      refine ⟨_, rfl, rfl, _, rfl, ?_⟩
      cases hf : Kh363.fullBy a (c :: a.grains) with
      | none =>
        refine if_false_of rfl ?_
        rw [hf] at nx
        refine ⟨_, _, ts, rfl, b5.trans (But.of_same s9), s9 _ _ hh5, ?_⟩
        rw [nx, List.append_nil]
        exact hP5.same s9
      | some n =>
        refine if_true_of (by simp [enc]) ?_
        rw [hf] at nx
        refine ⟨_, rfl, .inl ⟨rfl, _, SqL.of (s9 _ _ hh5)⟩, _, rfl, _, rfl, (by show 2 ≤ sizeLine; decide), fun t ht => ?_⟩
        have s10 := Same.new (o := .tup [.int (enc (some n)), .int (c : Nat)]) s9 ht
        refine ⟨hp, _, _, rfl, rfl, s10 _ _ hh5, ?_, ?_⟩
        · rw [List.length_map, sizeLine_eq]
          omega
        · have b6 := (b5.trans (But.of_same s10)).upd (o := .lst (ts.map V.ref ++ [.ref t]))
          have nth : t ≠ hp := (ne_of_none (s9 _ _ hh5) ht).symm
          refine ⟨_, _, ts ++ [t], rfl, b6, ?_, ?_⟩
          · rw [upd_same, List.map_append]
            rfl
          · rw [nx]
            refine Pairs.snoc ?_ ((hP5.same s10).but (s10 _ _ hh5) (But.refl hp _).upd)
            rw [upd_ne nth, upd_same]
            rfl
    · rintro σ H' ⟨v2, v3, ts, rfl, b5, hh5, hP5⟩
      rw [nv_len, List.take_length] at hP5
      have s5 : Same H H' := Same.but (s1.trans s2) b5 hhp
      have lts := hP5.len
      refine ⟨_, rfl, hp, _, rfl, .inl (SqL.of hh5), rfl, _, rfl, ?_⟩
      have eD : Kh363.doing (some a) .best = (match Kh363.best a with
        | none => (some a, Kh363.say (-33))
        | some x => (some a, ⟨x.1, [x.2]⟩)) := rfl
      rw [DidR, eD] at D
      rcases best_is a with ⟨e1, e2⟩ | ⟨x, e1, hx⟩
      · rw [e2] at lts
        refine if_true_of (by simp [List.eq_nil_of_length_eq_zero lts]) ?_
        rw [e1] at D
        exact ⟨(by show 1 ≤ sizeLine; decide), fun r hr => Did.new D B0 s5 hr⟩
      · have ne : helped a (Kh363.free a) ≠ [] := fun z => by
          have := hx.mem
          rw [z] at this
          cases this
        have pos : 0 < (helped a (Kh363.free a)).length := List.length_pos_iff.mpr ne
        refine if_false_of (decide_eq_false fun z => by injection z with z; rw [List.length_map] at z; omega) ?_
        rw [e1] at D
        refine ⟨_, rfl, hp, ts, _, rfl, SqL.of hh5, hP5, ne, fun t y ht hy hle => ?_⟩
        have hb : IsBest (helped a (Kh363.free a)) (y.2, y.1) := ⟨hy, hle⟩
        have ex := hx.unique hb
        subst ex
        refine ⟨_, rfl, t, _, _, _, rfl, rfl, SqT.of ht, atI_nat (j := 1) rfl, _, rfl, t, _, _, _, rfl, rfl, SqT.of ht, atI_nat (j := 0) rfl, (by show 2 ≤ sizeLine; decide), fun r hr => ?_⟩
        exact Did.new D B0 s5 hr
end
end Bed
namespace Bed
/-! ### every state is good -/
def GoodO (s : Option Kh363.Abs) : Prop := ∀ a, s = some a → Good a
theorem good_begun {w h : Nat} (q : ¬ (w < 1 ∨ 5 < w ∨ h < 1 ∨ 5 < h)) : Good (Kh363.begun w h) :=
  ⟨⟨by show 1 ≤ w; omega, by show w ≤ 5; omega, by show 1 ≤ h; omega, by show h ≤ 5; omega⟩, ⟨(fun c hc => nomatch hc), List.nodup_nil, (fun c hc => nomatch hc), List.nodup_nil, (by show 0 ≤ 6; omega)⟩, (fun x hx => nomatch hx), (by show 0 ≤ 10; omega)⟩
theorem good_keep {a b : Kh363.Abs} (G : Good a) (ew : b.wide = a.wide) (eh : b.high = a.high) (F : Fits a.wide a.high b.blocked b.grains) : Good (Kh363.keep a b) := by
  refine ⟨⟨?_, ?_, ?_, ?_⟩, ?_, ?_, ?_⟩
  · show 1 ≤ b.wide; rw [ew]; exact G.ok.w1
  · show b.wide ≤ 5; rw [ew]; exact G.ok.w5
  · show 1 ≤ b.high; rw [eh]; exact G.ok.h1
  · show b.high ≤ 5; rw [eh]; exact G.ok.h5
  · show Fits b.wide b.high b.blocked b.grains
    rw [ew, eh]
    exact F
  · intro x hx
    show Fits b.wide b.high x.1 x.2
    rw [ew, eh]
    have hx : x ∈ (((a.blocked, a.grains) :: a.undo).take 10) := hx
    rcases List.mem_cons.mp (List.mem_of_mem_take hx) with rfl | h
    · exact G.fits
    · exact G.undo x h
  · show (((a.blocked, a.grains) :: a.undo).take 10).length ≤ 10
    rw [List.length_take]
    omega
theorem good_doing {s : Option Kh363.Abs} (G : GoodO s) (c : Kh363.Call) : GoodO (Kh363.doing s c).1 := by
  intro a' ha
  cases s with
  | none =>
    cases c with
    | begin_ w h =>
      have ha : (if w < 1 ∨ 5 < w ∨ h < 1 ∨ 5 < h then ((none : Option Kh363.Abs), Kh363.say (-22)) else (some (Kh363.begun w h), Kh363.say 0)).1 = some a' := ha
      by_cases q : w < 1 ∨ 5 < w ∨ h < 1 ∨ 5 < h
      · rw [if_pos q] at ha
        cases ha
      · rw [if_neg q] at ha
        cases ha
        exact good_begun q
    | _ => cases ha
  | some a =>
    have Ga := G a rfl
    cases c with
    | begin_ w h =>
      have ha : (if w < 1 ∨ 5 < w ∨ h < 1 ∨ 5 < h then (some a, Kh363.say (-22)) else (some (Kh363.begun w h), Kh363.say 0)).1 = some a' := ha
      by_cases q : w < 1 ∨ 5 < w ∨ h < 1 ∨ 5 < h
      · rw [if_pos q] at ha
        cases ha
        exact Ga
      · rw [if_neg q] at ha
        cases ha
        exact good_begun q
    | block c =>
      have ha : (if Kh363.cells a ≤ c then (some a, Kh363.say (-2)) else if a.blocked.contains c then (some a, Kh363.say (-17)) else if a.grains.contains c then (some a, Kh363.say (-16)) else (some (Kh363.keep a { a with blocked := c :: a.blocked }), Kh363.say (a.blocked.length + 1 : Nat))).1 = some a' := ha
      by_cases q1 : Kh363.cells a ≤ c
      · rw [if_pos q1] at ha
        cases ha
        exact Ga
      rw [if_neg q1] at ha
      by_cases q2 : a.blocked.contains c = true
      · rw [if_pos q2] at ha
        cases ha
        exact Ga
      rw [if_neg q2] at ha
      by_cases q3 : a.grains.contains c = true
      · rw [if_pos q3] at ha
        cases ha
        exact Ga
      rw [if_neg q3] at ha
      cases ha
      simp at q2 q3
      refine good_keep Ga rfl rfl ⟨?_, List.nodup_cons.mpr ⟨q2, Ga.fits.bnd⟩, ?_, Ga.fits.gnd, Ga.fits.gmost⟩
      · intro x hx
        rcases List.mem_cons.mp hx with rfl | hx
        · unfold Kh363.cells at q1; omega
        · exact Ga.fits.bin x hx
      · intro x hx
        refine ⟨(Ga.fits.gin x hx).1, fun z => ?_⟩
        rcases List.mem_cons.mp z with rfl | z
        · exact q3 hx
        · exact (Ga.fits.gin x hx).2 z
    | clear c =>
      have ha : (if a.blocked.contains c = false then (some a, Kh363.say (-2)) else (some (Kh363.keep a { a with blocked := a.blocked.filter fun x => x != c }), Kh363.say (a.blocked.length - 1 : Nat))).1 = some a' := ha
      by_cases q : a.blocked.contains c = false
      · rw [if_pos q] at ha
        cases ha
        exact Ga
      rw [if_neg q] at ha
      cases ha
      exact good_keep Ga rfl rfl ⟨fun x hx => Ga.fits.bin x (List.mem_filter.mp hx).1, Ga.fits.bnd.filter _, fun x hx => ⟨(Ga.fits.gin x hx).1, fun z => (Ga.fits.gin x hx).2 (List.mem_filter.mp z).1⟩, Ga.fits.gnd, Ga.fits.gmost⟩
    | grain c =>
      have ha : (if Kh363.cells a ≤ c then (some a, Kh363.say (-2)) else if a.blocked.contains c then (some a, Kh363.say (-16)) else if a.grains.contains c then (some a, Kh363.say (-17)) else if 6 ≤ a.grains.length then (some a, Kh363.say (-28)) else (some (Kh363.keep a { a with grains := c :: a.grains }), Kh363.say (a.grains.length + 1 : Nat))).1 = some a' := ha
      by_cases q1 : Kh363.cells a ≤ c
      · rw [if_pos q1] at ha
        cases ha
        exact Ga
      rw [if_neg q1] at ha
      by_cases q2 : a.blocked.contains c = true
      · rw [if_pos q2] at ha
        cases ha
        exact Ga
      rw [if_neg q2] at ha
      by_cases q3 : a.grains.contains c = true
      · rw [if_pos q3] at ha
        cases ha
        exact Ga
      rw [if_neg q3] at ha
      by_cases q4 : 6 ≤ a.grains.length
      · rw [if_pos q4] at ha
        cases ha
        exact Ga
      rw [if_neg q4] at ha
      cases ha
      simp at q2 q3
      refine good_keep Ga rfl rfl ⟨Ga.fits.bin, Ga.fits.bnd, ?_, List.nodup_cons.mpr ⟨q3, Ga.fits.gnd⟩, by show (c :: a.grains).length ≤ 6; rw [List.length_cons]; omega⟩
      intro x hx
      rcases List.mem_cons.mp hx with rfl | hx
      · refine ⟨?_, q2⟩
        unfold Kh363.cells at q1; omega
      · exact Ga.fits.gin x hx
    | take c =>
      have ha : (if a.grains.contains c = false then (some a, Kh363.say (-2)) else (some (Kh363.keep a { a with grains := a.grains.filter fun x => x != c }), Kh363.say (a.grains.length - 1 : Nat))).1 = some a' := ha
      by_cases q : a.grains.contains c = false
      · rw [if_pos q] at ha
        cases ha
        exact Ga
      rw [if_neg q] at ha
      cases ha
      exact good_keep Ga rfl rfl ⟨Ga.fits.bin, Ga.fits.bnd, fun x hx => Ga.fits.gin x (List.mem_filter.mp hx).1, Ga.fits.gnd.filter _, Nat.le_trans (List.length_filter_le _ _) Ga.fits.gmost⟩
    | back =>
      have ha : (match a.undo with
        | x :: u => (some { a with blocked := x.1, grains := x.2, undo := u }, Kh363.say u.length)
        | [] => (some a, Kh363.say (-2))).1 = some a' := ha
      cases hu : a.undo with
      | nil =>
        rw [hu] at ha
        cases ha
        exact Ga
      | cons x u =>
        rw [hu] at ha
        cases ha
        have m := Ga.most
        have un := Ga.undo
        rw [hu] at m un
        exact ⟨⟨Ga.ok.w1, Ga.ok.w5, Ga.ok.h1, Ga.ok.h5⟩, un x (by simp), fun y hy => un y (by simp [hy]), by simp at m; show u.length ≤ 10; omega⟩
    | day c =>
      have ha : (if Kh363.cells a ≤ c then (some a, Kh363.say (-2)) else if a.blocked.contains c then (some a, Kh363.say (-16)) else (some a, Kh363.orNever (Kh363.day a c))).1 = some a' := ha
      have : some a = some a' := by
        split at ha
        · exact ha
        · split at ha <;> exact ha
      cases this
      exact Ga
    | way c =>
      have ha : (if Kh363.cells a ≤ c then (some a, Kh363.say (-2)) else if a.blocked.contains c then (some a, Kh363.say (-16)) else (match Kh363.day a c with
        | none => (some a, Kh363.say (-33))
        | some _ => (some a, Kh363.list (Kh363.way a c)))).1 = some a' := ha
      have : some a = some a' := by
        split at ha
        · exact ha
        · split at ha
          · exact ha
          · split at ha <;> exact ha
      cases this
      exact Ga
    | last =>
      have ha : (match Kh363.full a with
        | none => (some a, Kh363.say (-33))
        | some d => (some a, Kh363.list (Kh363.onDay a d))).1 = some a' := ha
      have : some a = some a' := by
        split at ha <;> exact ha
      cases this
      exact Ga
    | best =>
      have ha : (match Kh363.best a with
        | none => (some a, Kh363.say (-33))
        | some x => (some a, ⟨x.1, [x.2]⟩)).1 = some a' := ha
      have : some a = some a' := by
        split at ha <;> exact ha
      cases this
      exact Ga
    | fewest d =>
      have ha : (if 50 < d then (some a, Kh363.say (-22)) else (match Kh363.fewest a d with
        | none => (some a, Kh363.say (-33))
        | some l => (some a, Kh363.list l))).1 = some a' := ha
      have : some a = some a' := by
        split at ha
        · exact ha
        · split at ha <;> exact ha
      cases this
      exact Ga
    | without c =>
      have ha : (if a.grains.contains c = false then (some a, Kh363.say (-2)) else (some a, Kh363.orNever (Kh363.fullBy a (a.grains.filter fun x => x != c)))).1 = some a' := ha
      have : some a = some a' := by
        split at ha <;> exact ha
      cases this
      exact Ga
    | ifBlock c =>
      have ha : (if Kh363.cells a ≤ c then (some a, Kh363.say (-2)) else if a.blocked.contains c then (some a, Kh363.say (-17)) else if a.grains.contains c then (some a, Kh363.say (-16)) else (some a, Kh363.orNever (Kh363.full { a with blocked := c :: a.blocked }))).1 = some a' := ha
      have : some a = some a' := by
        split at ha
        · exact ha
        · split at ha
          · exact ha
          · split at ha <;> exact ha
      cases this
      exact Ga
    | _ =>
      cases ha
      exact Ga
/-! ### the calls, read off the list -/
theorem whole_eq (c : List (List Int)) : PyKh363.whole c = c := by
  unfold PyKh363.whole
  split <;> rfl
theorem ite_some {c : Prop} [Decidable c] {a b : Option (Nat × Nat)} {r : Nat × Nat} (h : (if c then a else b) = some r) : (c ∧ a = some r) ∨ b = some r := by
  by_cases q : c
  · rw [if_pos q] at h
    exact .inl ⟨q, h⟩
  · rw [if_neg q] at h
    exact .inr h
theorem shape_cs {p : Int} {n k : Nat} (h : PyKh363.shape p = some (n, k)) : k = 0 ∧ 0 ≤ p ∧ p ≤ 19 := by
  unfold PyKh363.shape at h
  iterate 20 (rcases ite_some h with ⟨q, h⟩ | h; · (cases h; exact ⟨rfl, by omega, by omega⟩))
  cases h
theorem shape_rows {p : Int} {n k : Nat} (h : PyKh363.shape p = some (n, k)) : k = 0 := (shape_cs h).1
theorem shape_in {p : Int} {n k : Nat} (h : PyKh363.shape p = some (n, k)) : 0 ≤ p ∧ p ≤ 19 := (shape_cs h).2
def nums : List Nat := [2, 1, 1, 1, 1, 0, 1, 0, 1, 0, 1, 1, 0, 1, 0, 1, 1, 0, 0, 0]
theorem shape_num {p : Nat} {n k : Nat} (h : PyKh363.shape p = some (n, k)) : nums[p]? = some n := by
  obtain ⟨_, h2⟩ := shape_in h
  have h2 : p ≤ 19 := by omega
  have e : ∀ p, p ≤ 19 → ∀ n k, PyKh363.shape ((p : Nat) : Int) = some (n, k) → nums[p]? = some n := by
    intro p hp n k h
    have hk := shape_rows h
    subst hk
    have cs : p = 0 ∨ p = 1 ∨ p = 2 ∨ p = 3 ∨ p = 4 ∨ p = 5 ∨ p = 6 ∨ p = 7 ∨ p = 8 ∨ p = 9 ∨ p = 10 ∨ p = 11 ∨ p = 12 ∨ p = 13 ∨ p = 14 ∨ p = 15 ∨ p = 16 ∨ p = 17 ∨ p = 18 ∨ p = 19 := by omega
    rcases cs with rfl | rfl | rfl | rfl | rfl | rfl | rfl | rfl | rfl | rfl | rfl | rfl | rfl | rfl | rfl | rfl | rfl | rfl | rfl | rfl <;> (cases h; rfl)
  exact e p h2 n k h
/-- one call as it stands in the list -/
structure Row (c : List (List Int)) (r : List Int) : Prop where
  eq : c = [r]
  ex : ∃ p n xs, r = p :: xs ∧ PyKh363.shape p = some (n, 0) ∧ xs.length = n
theorem call_row {l : List Int} {c : List (List Int)} {t : List Int} (h : PyFlat.call PyKh363.shape l = some (c, t)) : ∃ r, Row c r ∧ l = r ++ t := by
  cases l with
  | nil => cases h
  | cons p r =>
    unfold PyFlat.call at h
    dsimp only at h
    cases e : PyKh363.shape p with
    | none =>
      rw [e] at h
      cases h
    | some nk =>
      obtain ⟨n, k⟩ := nk
      have hk := shape_rows e
      subst hk
      rw [e] at h
      dsimp only at h
      by_cases q : r.length < n
      · rw [if_pos q] at h
        cases h
      · rw [if_neg q] at h
        have h : some ((p :: r.take n) :: [], r.drop n) = some (c, t) := h
        cases h
        exact ⟨p :: r.take n, ⟨rfl, p, n, _, rfl, e, by rw [List.length_take]; omega⟩, by rw [List.cons_append, List.take_append_drop]⟩
theorem calls_rows : ∀ (f : Nat) (l : List Int) (cs : List (List (List Int))), PyFlat.calls PyKh363.shape f l = some cs → ∃ rs : List (List Int), cs = rs.map (fun r => [r]) ∧ (∀ r ∈ rs, Row [r] r) ∧ l = rs.flatten
  | _, [], cs, h => by
    have h : some [] = some cs := by
      cases h' : (0 : Nat) <;> (unfold PyFlat.calls at h; exact h)
    cases h
    exact ⟨[], rfl, (fun r hr => nomatch hr), rfl⟩
  | 0, _ :: _, cs, h => by
    unfold PyFlat.calls at h
    cases h
  | f + 1, p :: r, cs, h => by
    unfold PyFlat.calls at h
    cases e : PyFlat.call PyKh363.shape (p :: r) with
    | none =>
      rw [e] at h
      cases h
    | some ct =>
      obtain ⟨c, t⟩ := ct
      rw [e] at h
      dsimp only at h
      obtain ⟨r0, R, el⟩ := call_row e
      cases e2 : PyFlat.calls PyKh363.shape f t with
      | none =>
        rw [e2] at h
        cases h
      | some cs2 =>
        rw [e2] at h
        cases h
        obtain ⟨rs, ecs, hR, et⟩ := calls_rows f t cs2 e2
        have ec := R.eq
        subst ec
        refine ⟨r0 :: rs, by rw [List.map_cons, ecs], fun x hx => ?_, by rw [List.flatten_cons, ← et]; exact el⟩
        rcases List.mem_cons.mp hx with rfl | hx
        · exact R
        · exact hR x hx
/-- the state behind some calls -/
def after (s : Option Kh363.Abs) (rs : List (List Int)) : Option Kh363.Abs := rs.foldl (fun s r => (Kh363Neutral.step s [r]).1) s
def toldOf (s : Option Kh363.Abs) (rs : List (List Int)) : List Int := PyFlat.told (PyFlat.played Kh363Neutral.step s (rs.map fun r => [r]))
theorem toldOf_app : ∀ (s : Option Kh363.Abs) (rs qs : List (List Int)), toldOf s (rs ++ qs) = toldOf s rs ++ toldOf (after s rs) qs
  | s, [], qs => rfl
  | s, r :: rs, qs => by
    have ih := toldOf_app (Kh363Neutral.step s [r]).1 rs qs
    unfold toldOf at ih ⊢
    show PyFlat.told ((Kh363Neutral.step s [r]).2 :: PyFlat.played Kh363Neutral.step (Kh363Neutral.step s [r]).1 ((rs ++ qs).map fun r => [r])) = _
    unfold PyFlat.told at ih ⊢
    rw [List.flatMap_cons, ih]
    show _ = ((Kh363Neutral.step s [r]).2 :: PyFlat.played Kh363Neutral.step (Kh363Neutral.step s [r]).1 (rs.map fun r => [r])).flatMap _ ++ _
    rw [List.flatMap_cons, List.append_assoc]
    rfl
theorem toldOf_one (s : Option Kh363.Abs) (r : List Int) : toldOf s [r] = (((Kh363Neutral.step s [r]).2.length : Int)) :: (Kh363Neutral.step s [r]).2 := by
  show ((Kh363Neutral.step s [r]).2 :: []).flatMap (fun a => (a.length : Int) :: a) = _
  simp
theorem after_app (s : Option Kh363.Abs) (rs qs : List (List Int)) : after s (rs ++ qs) = after (after s rs) qs := List.foldl_append
theorem good_after : ∀ (rs : List (List Int)) (s : Option Kh363.Abs), GoodO s → GoodO (after s rs)
  | [], _, h => h
  | r :: rs, s, h => good_after rs _ (good_doing h _)
end Bed
namespace Bed
open PySem PySem.Spec PyProof.Rows L2
theorem cutV_mid (u v t : List V) : cutV (u ++ v ++ t) (some ((u.length : Nat) : Int)) (some ((u.length + v.length : Nat) : Int)) = v := by
  unfold cutV
  have e1 : HT.sIx (u ++ v ++ t).length 0 (some ((u.length : Nat) : Int)) = u.length := by
    show (if ((u.length : Nat) : Int) < 0 then (((u.length : Nat) : Int) + ((u ++ v ++ t).length : Int)).toNat else min ((u.length : Nat) : Int).toNat (u ++ v ++ t).length) = _
    rw [if_neg (by omega), Int.toNat_natCast, List.length_append, List.length_append]
    omega
  have e2 : HT.sIx (u ++ v ++ t).length (u ++ v ++ t).length (some ((u.length + v.length : Nat) : Int)) = u.length + v.length := by
    show (if ((u.length + v.length : Nat) : Int) < 0 then (((u.length + v.length : Nat) : Int) + ((u ++ v ++ t).length : Int)).toNat else min ((u.length + v.length : Nat) : Int).toNat (u ++ v ++ t).length) = _
    rw [if_neg (by omega), Int.toNat_natCast, List.length_append, List.length_append]
    omega
  rw [e1, e2, List.append_assoc, List.drop_left, Nat.add_sub_cancel_left, List.take_left]
theorem iv_app (l m : List Int) : iv (l ++ m) = iv l ++ iv m := List.map_append
theorem iv_geti {l : List Int} {i : Nat} {x : Int} (h : l[i]? = some x) : atI (iv l) (i : Int) = some (V.int x) := by
  refine atI_nat ?_
  unfold iv
  rw [List.getElem?_map, h]
  rfl
/-! ### answer_of's promise, answers -/
def spAnswer (C : Addr) : Sp := fun vs H Q _ => ∃ (Z : Addr → Prop) (p : Addr) (s : Option Kh363.Abs) (k : Nat) (q : Addr) (xs : List Int), vs = [.ref p, .int k, .ref q] ∧ H q = some (.lst (iv xs)) ∧ Row [(k : Int) :: xs] ((k : Int) :: xs) ∧ (∀ x ∈ xs, 0 ≤ x) ∧
  BedS Z C H p s ∧ GoodO s ∧ Did Z C H p (Kh363Neutral.step s [(k : Int) :: xs]).1 (Kh363Neutral.step s [(k : Int) :: xs]).2 Q
def spAnswers (K : PySem.W.Frag) : Sp := fun vs H Q _ => ∃ (a : Addr) (rs : List (List Int)), vs = [.ref a] ∧ SqL K H a (iv rs.flatten) ∧ (∀ r ∈ rs, Row [r] r) ∧ (∀ x ∈ rs.flatten, 0 ≤ x) ∧ rs.flatten.length ≤ 400 ∧ (toldOf none rs).length ≤ 10000000 ∧
  ∀ (H' : Hp) (p : Addr), H' p = some (.lst (iv (toldOf none rs))) → Q (.ref p) H'
abbrev sAnswers : Stmt := top 60
structure TxtE (K : PySem.W.Frag) (mg : Str → Option Value) (C tb fa : Addr) : Prop where
  gC : mg "Bed" = some (.ref C)
  gN : mg "NUMBERS_BEHIND" = some (.ref tb)
  nbT : ∀ H, SqT K H tb (nv nums)
  gA : mg "answer_of" = some (.ref fa)
  len : mg "len" = none
section
variable {P : Program} {w : World} {K : PySem.W.Frag} {mg : Str → Option Value} {base : Heap}
theorem scAnswers : FnScope ["calls", "bed", "told", "place", "call", "behind", "answer"] ["calls"] (defScope sAnswers) := ⟨rfl, rfl, rfl, by decide +kernel, rfl, by decide +kernel, by decide +kernel⟩
theorem ok_answers {f C tb fI fa : Addr} {fd fdI fda : FuncData} {ka : Nat} (F : Fun K "answers" "answers" sAnswers f fd) (T : TxtE K mg C tb fa) (M : Mk K C fI) (GI : FnOk P w K mg base CX0 1 fI fdI ["self"] (spInit C)) (bI : Binds K fdI ["self"] []) (hka : 1 ≤ ka)
    (GA : FnOk P w K mg base CX0 (ka + 1) fa fda ["bed", "call", "numbers"] (spAnswer C)) (kA : PySem.W.keepIn K (.ref fa) = true) (bA : Binds K fda ["bed", "call", "numbers"] []) : FnOk P w K mg base CX0 (ka + 2) f fd ["calls"] (spAnswers K) := by
  refine F.ok scAnswers (fun vs H Q E h => ?_) (fun cdv A outer s H vs Q E hr h => ?_)
  · obtain ⟨a, rs, rfl, _⟩ := h
    rfl
  · obtain ⟨a, rs, rfl, hS, hR, hN, hL, hT, k⟩ := h
    have hr2 : Room 2 _ := hr.mono (by omega)
    refine ⟨_, pss_cons (ps_set (i := 1) scAnswers.nd rfl (Or.inl rfl) (pe_make0 M GI hr2 rfl T.gC bI .nil pass0))
      (pss_cons (ps_set (i := 2) scAnswers.nd rfl (Or.inl rfl) (pe_lst pa_nil))
      (pss_cons (ps_set (i := 3) scAnswers.nd rfl (Or.inl rfl) pe_int)
      (pss_cons (ps_while PassesOwn.never (pt_cmpR op_lt (pv 3) (pe_callB call_len_seq rfl T.len PySem.boot_len (pa_cons (pv 0) pa_nil)) (nomark _))
        (pss_cons (ps_set (i := 4) scAnswers.nd rfl (Or.inl rfl) (pe_ix ix_list (pv 0) (pv 3) (fun _ _ => rfl)))
        (pss_cons (ps_set (i := 5) scAnswers.nd rfl (Or.inl rfl) (pe_op op_add (pe_op op_add (pv 3) pe_int) (pe_ix ix_tup (pe_glob (v := .ref tb) rfl T.gN rfl) (pv 4) (fun _ _ => rfl))))
        (pss_cons (ps_set (i := 6) scAnswers.nd rfl (Or.inl rfl) (pe_call GA hr rfl T.gA kA bA .nil pass0 (pa_cons (pv 1) (pa_cons (pv 4) (pa_cons (pe_slice sl_list (pv 0) (po_some (pe_op op_add (pv 3) pe_int)) (po_some (pv 5))) pa_nil)))))
        (pss_cons (ps_expr (pe_bm PySem.F.plainAttrs_list PySem.F.slot_list_append PySem.F.type_list_append mt_append (pv 2) (pa_cons (pe_callB call_len_seq rfl T.len PySem.boot_len (pa_cons (pv 6) pa_nil)) pa_nil)))
        (pss_cons (ps_expr (pe_bm PySem.F.plainAttrs_list PySem.F.slot_list_extend PySem.F.type_list_extend mt_extend (pv 2) (pa_cons (pv 6) pa_nil)))
        (pss_one (ps_set (i := 3) scAnswers.nd rfl (Or.inl rfl) (pv 5)))))))))
      (pss_one (ps_ret (pv 2)))))), ?_⟩
    intro x dx nx nd ne
    refine ⟨x, dx, rfl, upd_same, fun H1 b1 BS1 => ⟨rfl, ?_⟩⟩
    have s1 : Same H H1 := fun b o h => b1 b o (by rw [upd_ne (ne_of_none h nx), upd_ne (ne_of_none h nd)]; exact h) (ne_of_none h nx)
    refine ⟨Nat.zero_le _, fun t ht => ?_⟩
    have xt : x ≠ t := by
      obtain ⟨o, ho⟩ := BS1.some_at
      exact ne_of_none ho ht
    have ht0 : H t = none := s1.free ht
    refine while_by (fun σ H' => ∃ (c1 c2 : List (List Int)) (v4 v5 v6 : Option V), rs = c1 ++ c2 ∧ σ = [some (.ref a), some (.ref x), some (.ref t), some (.int (c1.flatten.length : Nat)), v4, v5, v6] ∧ Same H H' ∧ BedS (fun y => y = t) C H' x (after none c1) ∧ H' t = some (.lst (iv (toldOf none c1))))
      (fun (σ : L2.St) _ => match σ[3]? with
        | some (some (V.int t)) => rs.flatten.length - t.toNat
        | _ => 0) ⟨[], rs, none, none, none, rfl, rfl, Same.new s1 ht, BedS.fresh ht BS1, upd_same⟩ ?_ ?_
    · rintro σ H' ⟨c1, c2, v4, v5, v6, ers, rfl, s5, B5, t5⟩
      refine ⟨_, rfl, _, rfl, a, _, rfl, .inl (s5.seq hS), _, _, rfl, rfl, _, rfl, ?_⟩
      refine ite2 (fun q1 => ?_) (fun q1 => ?_)
      · rw [decide_eq_true_eq, iv_len] at q1
        cases c2 with
        | nil =>
          rw [ers, List.append_nil] at q1
          exact absurd q1 (by omega)
        | cons r c2 =>
          have hRr := hR r (by rw [ers]; simp)
          obtain ⟨kz, n, xs, er, hsh, hxn⟩ := id hRr.ex
          subst er
          obtain ⟨k0, k19⟩ := shape_in hsh
          obtain ⟨kn, rfl⟩ := Int.eq_ofNat_of_zero_le k0
          have hnum := shape_num hsh
          have eflat : rs.flatten = c1.flatten ++ (((kn : Int) :: xs) ++ c2.flatten) := by rw [ers]; simp
          have hget : rs.flatten[c1.flatten.length]? = some (kn : Int) := by
            rw [eflat, List.getElem?_append_right (Nat.le_refl _), Nat.sub_self]
            rfl
          have hpos : ∀ z ∈ xs, 0 ≤ z := fun z hz => hN z (by rw [eflat]; simp [hz])
          refine ⟨_, rfl, _, rfl, a, _, _, _, rfl, rfl, s5.seq hS, iv_geti hget, ?_⟩
          refine ⟨_, rfl, _, _, rfl, rfl, _, rfl, tb, _, _, _, rfl, rfl, T.nbT H', atI_nat (nv_at hnum), _, _, rfl, rfl, ?_⟩
          refine ⟨_, rfl, _, rfl, _, rfl, _, rfl, _, _, rfl, rfl, _, rfl, _, rfl, _, rfl, a, _, rfl, s5.seq hS, fun q hq => ?_⟩
          have s6 := Same.new (o := .lst (cutV (iv rs.flatten) (some ((c1.flatten.length : Nat) + 1)) (some (((c1.flatten.length : Nat) : Int) + 1 + (n : Int))))) (Same.refl H') hq
          have ecut : cutV (iv rs.flatten) (some (((c1.flatten.length : Nat) : Int) + 1)) (some (((c1.flatten.length : Nat) : Int) + 1 + (n : Int))) = iv xs := by
            have e := cutV_mid (iv (c1.flatten ++ [(kn : Int)])) (iv xs) (iv c2.flatten)
            have el : iv rs.flatten = iv (c1.flatten ++ [(kn : Int)]) ++ iv xs ++ iv c2.flatten := by
              rw [eflat, ← iv_app, ← iv_app]
              simp
            rw [el]
            rw [iv_len, iv_len, List.length_append, List.length_singleton, hxn] at e
            have z1 : (((c1.flatten.length + 1 : Nat)) : Int) = ((c1.flatten.length : Nat) : Int) + 1 := by omega
            have z2 : (((c1.flatten.length + 1 + n : Nat)) : Int) = ((c1.flatten.length : Nat) : Int) + 1 + (n : Int) := by omega
            rw [z1, z2] at e
            exact e
          have told1 : toldOf none (c1 ++ [(kn : Int) :: xs]) = toldOf none c1 ++ ((((Kh363Neutral.step (after none c1) [(kn : Int) :: xs]).2.length : Int)) :: (Kh363Neutral.step (after none c1) [(kn : Int) :: xs]).2) := by
            rw [toldOf_app, toldOf_one]
          have told2 : toldOf none rs = toldOf none (c1 ++ [(kn : Int) :: xs]) ++ toldOf (after none (c1 ++ [(kn : Int) :: xs])) c2 := by
            rw [← toldOf_app, ers]
            simp
          have bound : (toldOf none c1).length + 1 + (Kh363Neutral.step (after none c1) [(kn : Int) :: xs]).2.length ≤ 10000000 := by
            rw [told2, told1] at hT
            simp at hT
            omega
          have after1 : after none (c1 ++ [(kn : Int) :: xs]) = (Kh363Neutral.step (after none c1) [(kn : Int) :: xs]).1 := by
            rw [after_app]
            rfl
          refine ⟨fun y => y = t, x, after none c1, kn, q, xs, rfl, by rw [upd_same, ecut], hRr, hpos, BedS.same s6 B5, good_after _ _ (by intro a h; cases h), fun H2 r b2 B2 hr2' hr2 => ?_⟩
          have nxt : x ≠ t := xt
          have t6 : H2 t = some (.lst (iv (toldOf none c1))) := b2 _ _ (s6 _ _ t5) xt.symm
          have rt : r ≠ t := fun z => by
            rw [z, s6 _ _ t5] at hr2'
            cases hr2'
          have s7 : Same H H2 := Same.but (s5.trans s6) b2 nx
          refine ⟨_, rfl, .inl ⟨rfl, _, SqL.of t6⟩, _, rfl, r, _, rfl, .inl (SqL.of hr2), t, _, _, rfl, rfl, t6, ?_, ?_⟩
          · rw [iv_len, sizeLine_eq]
            omega
          refine ⟨_, rfl, .inl ⟨rfl, _, SqL.of upd_same⟩, _, rfl, t, r, _, _, rfl, rfl, upd_same, Eq.trans (upd_ne rt) hr2, ?_, ?_⟩
          · rw [List.length_append, iv_len, iv_len, sizeLine_eq]
            show _ + 1 + _ ≤ _
            omega
          refine ⟨_, rfl, ⟨c1 ++ [(kn : Int) :: xs], c2, some (.int kn), some (.int (((c1.flatten.length : Nat) : Int) + 1 + (n : Int))), some (.ref r), by rw [ers]; simp, ?_, ?_, ?_, ?_⟩, ?_⟩
          · have z : (((c1 ++ [(kn : Int) :: xs]).flatten.length : Nat) : Int) = ((c1.flatten.length : Nat) : Int) + 1 + (n : Int) := by
              simp [hxn]
              omega
            rw [z]
            rfl
          · exact Same.upd (Same.upd s7 ht0) ht0
          · rw [after1, upd_upd]
            exact BedS.off B2
          · rw [upd_same, told1, iv_app, iv_len]
            simp [iv]
          · show rs.flatten.length - (((c1.flatten.length : Nat) : Int) + 1 + (n : Int)).toNat < rs.flatten.length - (((c1.flatten.length : Nat) : Int)).toNat
            omega
      · rw [decide_eq_true_eq, iv_len] at q1
        have e2 : c2 = [] := by
          cases c2 with
          | nil => rfl
          | cons r c2 =>
            exfalso
            obtain ⟨kz, n, xs, er, _⟩ := (hR r (by rw [ers]; simp)).ex
            rw [ers, er] at q1
            simp at q1
            omega
        rw [e2, List.append_nil] at ers
        rw [← ers] at t5
        exact ⟨_, rfl, k H' t t5⟩
    · rintro σ H1 Q1 Q2 hq ⟨v, hv, v', hv', p1, ys, e, hs, i, j, e1, e2, k1, e3, q⟩
      exact ⟨v, hv, v', hv', p1, ys, e, hs, i, j, e1, e2, k1, e3, hq _ _ q⟩
end
end Bed
namespace Bed
open PySem PySem.Spec PyProof.Rows L2
abbrev sAnswer : Stmt := top 59
theorem row_none {k : Nat} {xs : List Int} (R : Row [(k : Int) :: xs] ((k : Int) :: xs)) (h : nums[k]? = some 0) : xs = [] := by
  obtain ⟨p, n, ys, e, hs, hl⟩ := R.ex
  cases e
  have := shape_num hs
  rw [h] at this
  cases this
  exact List.eq_nil_of_length_eq_zero hl
theorem row_one {k : Nat} {xs : List Int} (R : Row [(k : Int) :: xs] ((k : Int) :: xs)) (h : nums[k]? = some 1) (hp : ∀ x ∈ xs, 0 ≤ x) : ∃ c : Nat, xs = [(c : Int)] := by
  obtain ⟨p, n, ys, e, hs, hl⟩ := R.ex
  cases e
  have := shape_num hs
  rw [h] at this
  cases this
  match xs, hl, hp with
  | [x], _, hp =>
    obtain ⟨c, hc⟩ := Int.eq_ofNat_of_zero_le (hp x (by simp))
    exact ⟨c, by rw [hc]⟩
theorem row_two {k : Nat} {xs : List Int} (R : Row [(k : Int) :: xs] ((k : Int) :: xs)) (h : nums[k]? = some 2) (hp : ∀ x ∈ xs, 0 ≤ x) : ∃ c d : Nat, xs = [(c : Int), (d : Int)] := by
  obtain ⟨p, n, ys, e, hs, hl⟩ := R.ex
  cases e
  have := shape_num hs
  rw [h] at this
  cases this
  match xs, hl, hp with
  | [x, y], _, hp =>
    obtain ⟨c, hc⟩ := Int.eq_ofNat_of_zero_le (hp x (by simp))
    obtain ⟨d, hd⟩ := Int.eq_ofNat_of_zero_le (hp y (by simp))
    exact ⟨c, d, by rw [hc, hd]⟩
theorem step_none {k : Nat} (hk : k ≠ 0) (hk2 : k < 20) (xs : List Int) : Kh363Neutral.step none [(k : Int) :: xs] = (none, [-61]) := by
  have cs : k = 1 ∨ k = 2 ∨ k = 3 ∨ k = 4 ∨ k = 5 ∨ k = 6 ∨ k = 7 ∨ k = 8 ∨ k = 9 ∨ k = 10 ∨ k = 11 ∨ k = 12 ∨ k = 13 ∨ k = 14 ∨ k = 15 ∨ k = 16 ∨ k = 17 ∨ k = 18 ∨ k = 19 := by omega
  rcases cs with rfl | rfl | rfl | rfl | rfl | rfl | rfl | rfl | rfl | rfl | rfl | rfl | rfl | rfl | rfl | rfl | rfl | rfl | rfl <;> rfl
/-- each def, by the call that it answers -/
structure Defs0 (X : Cx) (C : Addr) (t0 t1 : List (Int × Addr)) : Prop where
  d5 : ∃ f, t0.lookup 5 = some f ∧ Can X f (spC0 C .back)
  d7 : ∃ f, t0.lookup 7 = some f ∧ Can X f (spC0 C .full)
  d9 : ∃ f, t0.lookup 9 = some f ∧ Can X f (spC0 C .last)
  d12 : ∃ f, t0.lookup 12 = some f ∧ Can X f (spC0 C .best)
  d14 : ∃ f, t0.lookup 14 = some f ∧ Can X f (spC0 C .areas)
  d17 : ∃ f, t0.lookup 17 = some f ∧ Can X f (spC0 C .map_)
  d18 : ∃ f, t0.lookup 18 = some f ∧ Can X f (spC0 C .grains)
  d19 : ∃ f, t0.lookup 19 = some f ∧ Can X f (spC0 C .state)
  d1 : ∃ f, t1.lookup 1 = some f ∧ Can X f (spC1 C .block)
  d2 : ∃ f, t1.lookup 2 = some f ∧ Can X f (spC1 C .clear)
  d3 : ∃ f, t1.lookup 3 = some f ∧ Can X f (spC1 C .grain)
  d4 : ∃ f, t1.lookup 4 = some f ∧ Can X f (spC1 C .take)
  d6 : ∃ f, t1.lookup 6 = some f ∧ Can X f (spC1 C .day)
  d8 : ∃ f, t1.lookup 8 = some f ∧ Can X f (spC1 C .run)
  d10 : ∃ f, t1.lookup 10 = some f ∧ Can X f (spC1 C .onDay)
  d11 : ∃ f, t1.lookup 11 = some f ∧ Can X f (spC1 C .way)
  d13 : ∃ f, t1.lookup 13 = some f ∧ Can X f (spC1 C .fewest)
  d15 : ∃ f, t1.lookup 15 = some f ∧ Can X f (spC1 C .without)
  d16 : ∃ f, t1.lookup 16 = some f ∧ Can X f (spC1 C .ifBlock)
  n1 : t0.lookup 1 = none
  n2 : t0.lookup 2 = none
  n3 : t0.lookup 3 = none
  n4 : t0.lookup 4 = none
  n6 : t0.lookup 6 = none
  n8 : t0.lookup 8 = none
  n10 : t0.lookup 10 = none
  n11 : t0.lookup 11 = none
  n13 : t0.lookup 13 = none
  n15 : t0.lookup 15 = none
  n16 : t0.lookup 16 = none
section
variable {P : Program} {w : World} {K : PySem.W.Frag} {mg : Str → Option Value} {base : Heap}
theorem row_lt {k : Nat} {xs : List Int} (R : Row [(k : Int) :: xs] ((k : Int) :: xs)) : k < 20 := by
  obtain ⟨p, n, ys, e, hs, hl⟩ := R.ex
  cases e
  have := shape_in hs
  omega
theorem scAnswer : FnScope ["bed", "call", "numbers"] ["bed", "call", "numbers"] (defScope sAnswer) := ⟨rfl, rfl, rfl, by decide +kernel, rfl, by decide +kernel, by decide +kernel⟩
theorem ok_answer {f C d0 d1 fB : Addr} {fd fdB : FuncData} {t0 t1 : List (Int × Addr)} (F : Fun K "answer_of" "answer_of" sAnswer f fd) (T : TxtBed K C) (N : TxtN mg) (D0 : KTab K d0 t0) (D1 : KTab K d1 t1) (m0 : mg "WITH_NO_NUMBER" = some (.ref d0)) (m1 : mg "WITH_ONE_NUMBER" = some (.ref d1))
    (FB : Fun K "begin_bed" "begin_bed" sBegin fB fdB) (bB : Binds K fdB ["bed", "width", "height"] []) (mB : mg "begin_bed" = some (.ref fB))
    (DF : ∀ X : Cx, X.prog = P → X.w = w → X.K = K → X.mg = mg → X.base = base → Room 6 X.A → Defs0 X C t0 t1) : FnOk P w K mg base CX0 7 f fd ["bed", "call", "numbers"] (spAnswer C) := by
  have GB : FnOk P w K mg base CX0 1 fB fdB ["bed", "width", "height"] (spBegin C) := ok_begin FB T N
  refine F.ok scAnswer (fun vs H Q E h => ?_) (fun cdv A outer s H vs Q E hr h => ?_)
  · obtain ⟨Z, p, s, k, q, xs, rfl, _⟩ := h
    rfl
  · obtain ⟨Z, p, st, k, q, xs, rfl, hq, hR, hp, B0, G, D⟩ := h
    have k20 := row_lt hR
    have hr1 : Room 1 _ := hr.mono (by decide)
    refine ⟨_, pss_cons (ps_if (pt_cmpR op_eq (pv 1) (pe_globI rfl N.begin_) (nomark _)) (pss_one (ps_ret (pe_call GB hr1 rfl mB FB.kp bB .nil pass0 (pa_cons (pv 0) (pa_cons (pe_ix ix_list (pv 2) pe_int (fun _ _ => rfl)) (pa_cons (pe_ix ix_list (pv 2) pe_int (fun _ _ => rfl)) pa_nil)))))) pss_nil)
      (pss_cons (ps_if (pt_cmpR op_eq (pe_fld (pv 0) rfl) pe_int (nomark _)) (pss_one (ps_ret (pe_lst (pa_cons (pe_globI rfl N.notBegun) pa_nil)))) pss_nil)
      (pss_cons (ps_if (pt_cmpR (op_in_tab D0) (pv 1) (pe_glob (v := .ref d0) rfl m0 rfl) rfl) (pss_one (ps_ret (pe_callAt (pe_ix (ix_tab D0) (pe_glob (v := .ref d0) rfl m0 rfl) (pv 1) (fun _ _ => rfl)) (pa_cons (pv 0) pa_nil)))) pss_nil)
      (pss_one (ps_ret (pe_callAt (pe_ix (ix_tab D1) (pe_glob (v := .ref d1) rfl m1 rfl) (pv 1) (fun _ _ => rfl)) (pa_cons (pv 0) (pa_cons (pe_ix ix_list (pv 2) pe_int (fun _ _ => rfl)) pa_nil))))))), ?_⟩
    have DD := DF (cxOf CX0 P w K mg base ["bed", "call", "numbers"] "answer_of" (defScope sAnswer) f cdv A outer s H E).nox rfl rfl rfl rfl rfl hr
    refine ⟨_, rfl, rfl, _, rfl, ?_⟩
    by_cases hk : k = 0
    · subst hk
      refine if_true_of rfl ?_
      obtain ⟨c, d, rfl⟩ := row_two hR rfl hp
      refine ⟨_, rfl, _, rfl, q, _, _, _, rfl, rfl, SqL.of hq, atI_nat (j := 0) rfl, _, rfl, q, _, _, _, rfl, rfl, SqL.of hq, atI_nat (j := 1) rfl, ?_⟩
      exact ⟨Z, p, st, c, d, rfl, B0, D⟩
    · refine if_false_of (decide_eq_false fun z => by injection z with z; omega) ?_
      cases st with
      | none =>
        obtain ⟨dx, b, g, e, ts, B⟩ := id B0
        refine ⟨_, rfl, p, C, dx, _, _, rfl, B.at_, T.cl, T.nW, bF_w _ _ _ _ _, rfl, _, rfl, ?_⟩
        refine if_true_of rfl ?_
        rw [step_none hk (by omega)] at D
        exact ⟨(by show 1 ≤ sizeLine; decide), fun r hr => Did.new D B0 (Same.refl H) hr⟩
      | some a =>
        have Ga := G a rfl
        obtain ⟨dx, b, g, e, ts, B⟩ := id B0
        refine ⟨_, rfl, p, C, dx, _, _, rfl, B.at_, T.cl, T.nW, bF_w _ _ _ _ _, rfl, _, rfl, ?_⟩
        refine if_false_of (decide_eq_false fun z => by injection z with z; have := Ga.ok.w1; omega) ?_
        refine ⟨_, rfl, _, rfl, rfl, _, rfl, ?_⟩
        have cs : k = 1 ∨ k = 2 ∨ k = 3 ∨ k = 4 ∨ k = 5 ∨ k = 6 ∨ k = 7 ∨ k = 8 ∨ k = 9 ∨ k = 10 ∨ k = 11 ∨ k = 12 ∨ k = 13 ∨ k = 14 ∨ k = 15 ∨ k = 16 ∨ k = 17 ∨ k = 18 ∨ k = 19 := by omega
        rcases cs with rfl | rfl | rfl | rfl | rfl | rfl | rfl | rfl | rfl | rfl | rfl | rfl | rfl | rfl | rfl | rfl | rfl | rfl | rfl
        · obtain ⟨f1, l1, c1⟩ := DD.d1
          obtain ⟨c, rfl⟩ := row_one hR rfl hp
          refine if_false_of (congrArg Option.isSome DD.n1) ?_
          exact ⟨_, rfl, 1, f1, rfl, rfl, l1, f1, _, rfl, c1, _, rfl, _, rfl, q, _, _, _, rfl, rfl, SqL.of hq, atI_nat (j := 0) rfl, Z, p, a, c, rfl, B0, Ga, D⟩
        · obtain ⟨f1, l1, c1⟩ := DD.d2
          obtain ⟨c, rfl⟩ := row_one hR rfl hp
          refine if_false_of (congrArg Option.isSome DD.n2) ?_
          exact ⟨_, rfl, 2, f1, rfl, rfl, l1, f1, _, rfl, c1, _, rfl, _, rfl, q, _, _, _, rfl, rfl, SqL.of hq, atI_nat (j := 0) rfl, Z, p, a, c, rfl, B0, Ga, D⟩
        · obtain ⟨f1, l1, c1⟩ := DD.d3
          obtain ⟨c, rfl⟩ := row_one hR rfl hp
          refine if_false_of (congrArg Option.isSome DD.n3) ?_
          exact ⟨_, rfl, 3, f1, rfl, rfl, l1, f1, _, rfl, c1, _, rfl, _, rfl, q, _, _, _, rfl, rfl, SqL.of hq, atI_nat (j := 0) rfl, Z, p, a, c, rfl, B0, Ga, D⟩
        · obtain ⟨f1, l1, c1⟩ := DD.d4
          obtain ⟨c, rfl⟩ := row_one hR rfl hp
          refine if_false_of (congrArg Option.isSome DD.n4) ?_
          exact ⟨_, rfl, 4, f1, rfl, rfl, l1, f1, _, rfl, c1, _, rfl, _, rfl, q, _, _, _, rfl, rfl, SqL.of hq, atI_nat (j := 0) rfl, Z, p, a, c, rfl, B0, Ga, D⟩
        · obtain ⟨f1, l1, c1⟩ := DD.d5
          have e := row_none hR rfl
          subst e
          refine if_true_of (congrArg Option.isSome l1) ?_
          exact ⟨_, rfl, 5, f1, rfl, rfl, l1, f1, _, rfl, c1, _, rfl, Z, p, a, rfl, B0, Ga, D⟩
        · obtain ⟨f1, l1, c1⟩ := DD.d6
          obtain ⟨c, rfl⟩ := row_one hR rfl hp
          refine if_false_of (congrArg Option.isSome DD.n6) ?_
          exact ⟨_, rfl, 6, f1, rfl, rfl, l1, f1, _, rfl, c1, _, rfl, _, rfl, q, _, _, _, rfl, rfl, SqL.of hq, atI_nat (j := 0) rfl, Z, p, a, c, rfl, B0, Ga, D⟩
        · obtain ⟨f1, l1, c1⟩ := DD.d7
          have e := row_none hR rfl
          subst e
          refine if_true_of (congrArg Option.isSome l1) ?_
          exact ⟨_, rfl, 7, f1, rfl, rfl, l1, f1, _, rfl, c1, _, rfl, Z, p, a, rfl, B0, Ga, D⟩
        · obtain ⟨f1, l1, c1⟩ := DD.d8
          obtain ⟨c, rfl⟩ := row_one hR rfl hp
          refine if_false_of (congrArg Option.isSome DD.n8) ?_
          exact ⟨_, rfl, 8, f1, rfl, rfl, l1, f1, _, rfl, c1, _, rfl, _, rfl, q, _, _, _, rfl, rfl, SqL.of hq, atI_nat (j := 0) rfl, Z, p, a, c, rfl, B0, Ga, D⟩
        · obtain ⟨f1, l1, c1⟩ := DD.d9
          have e := row_none hR rfl
          subst e
          refine if_true_of (congrArg Option.isSome l1) ?_
          exact ⟨_, rfl, 9, f1, rfl, rfl, l1, f1, _, rfl, c1, _, rfl, Z, p, a, rfl, B0, Ga, D⟩
        · obtain ⟨f1, l1, c1⟩ := DD.d10
          obtain ⟨c, rfl⟩ := row_one hR rfl hp
          refine if_false_of (congrArg Option.isSome DD.n10) ?_
          exact ⟨_, rfl, 10, f1, rfl, rfl, l1, f1, _, rfl, c1, _, rfl, _, rfl, q, _, _, _, rfl, rfl, SqL.of hq, atI_nat (j := 0) rfl, Z, p, a, c, rfl, B0, Ga, D⟩
        · obtain ⟨f1, l1, c1⟩ := DD.d11
          obtain ⟨c, rfl⟩ := row_one hR rfl hp
          refine if_false_of (congrArg Option.isSome DD.n11) ?_
          exact ⟨_, rfl, 11, f1, rfl, rfl, l1, f1, _, rfl, c1, _, rfl, _, rfl, q, _, _, _, rfl, rfl, SqL.of hq, atI_nat (j := 0) rfl, Z, p, a, c, rfl, B0, Ga, D⟩
        · obtain ⟨f1, l1, c1⟩ := DD.d12
          have e := row_none hR rfl
          subst e
          refine if_true_of (congrArg Option.isSome l1) ?_
          exact ⟨_, rfl, 12, f1, rfl, rfl, l1, f1, _, rfl, c1, _, rfl, Z, p, a, rfl, B0, Ga, D⟩
        · obtain ⟨f1, l1, c1⟩ := DD.d13
          obtain ⟨c, rfl⟩ := row_one hR rfl hp
          refine if_false_of (congrArg Option.isSome DD.n13) ?_
          exact ⟨_, rfl, 13, f1, rfl, rfl, l1, f1, _, rfl, c1, _, rfl, _, rfl, q, _, _, _, rfl, rfl, SqL.of hq, atI_nat (j := 0) rfl, Z, p, a, c, rfl, B0, Ga, D⟩
        · obtain ⟨f1, l1, c1⟩ := DD.d14
          have e := row_none hR rfl
          subst e
          refine if_true_of (congrArg Option.isSome l1) ?_
          exact ⟨_, rfl, 14, f1, rfl, rfl, l1, f1, _, rfl, c1, _, rfl, Z, p, a, rfl, B0, Ga, D⟩
        · obtain ⟨f1, l1, c1⟩ := DD.d15
          obtain ⟨c, rfl⟩ := row_one hR rfl hp
          refine if_false_of (congrArg Option.isSome DD.n15) ?_
          exact ⟨_, rfl, 15, f1, rfl, rfl, l1, f1, _, rfl, c1, _, rfl, _, rfl, q, _, _, _, rfl, rfl, SqL.of hq, atI_nat (j := 0) rfl, Z, p, a, c, rfl, B0, Ga, D⟩
        · obtain ⟨f1, l1, c1⟩ := DD.d16
          obtain ⟨c, rfl⟩ := row_one hR rfl hp
          refine if_false_of (congrArg Option.isSome DD.n16) ?_
          exact ⟨_, rfl, 16, f1, rfl, rfl, l1, f1, _, rfl, c1, _, rfl, _, rfl, q, _, _, _, rfl, rfl, SqL.of hq, atI_nat (j := 0) rfl, Z, p, a, c, rfl, B0, Ga, D⟩
        · obtain ⟨f1, l1, c1⟩ := DD.d17
          have e := row_none hR rfl
          subst e
          refine if_true_of (congrArg Option.isSome l1) ?_
          exact ⟨_, rfl, 17, f1, rfl, rfl, l1, f1, _, rfl, c1, _, rfl, Z, p, a, rfl, B0, Ga, D⟩
        · obtain ⟨f1, l1, c1⟩ := DD.d18
          have e := row_none hR rfl
          subst e
          refine if_true_of (congrArg Option.isSome l1) ?_
          exact ⟨_, rfl, 18, f1, rfl, rfl, l1, f1, _, rfl, c1, _, rfl, Z, p, a, rfl, B0, Ga, D⟩
        · obtain ⟨f1, l1, c1⟩ := DD.d19
          have e := row_none hR rfl
          subst e
          refine if_true_of (congrArg Option.isSome l1) ?_
          exact ⟨_, rfl, 19, f1, rfl, rfl, l1, f1, _, rfl, c1, _, rfl, Z, p, a, rfl, B0, Ga, D⟩
end
end Bed
namespace Bed
open PySem PySem.Spec PyProof.Rows L2
open PySem.W (Codec)
/-! ### a written tuple of whole numbers -/
def TupIs : List Nat → List Value → Prop
  | [], [] => True
  | n :: r, v :: vs => (∃ t, v = .int (n : Int) t) ∧ TupIs r vs
  | _, _ => False
theorem TupIs.vals : ∀ {l : List Nat} {vs : List Value}, TupIs l vs → Vals (nv l) vs
  | [], [], _ => .nil
  | _ :: _, _ :: _, ⟨⟨t, h⟩, r⟩ => .cons ⟨t, h⟩ r.vals
theorem TupIs.len : ∀ {l : List Nat} {vs : List Value}, TupIs l vs → vs.length = l.length
  | [], [], _ => rfl
  | _ :: _, _ :: _, ⟨_, r⟩ => congrArg (· + 1) r.len
theorem tup_sq {K : PySem.W.Frag} {tb : Addr} {od : Option Addr} {ls : List Value} {n : Nat} {sl : Array (Option Value)} {l : List Nat} (h : K.lookup tb = some ⟨.type "tuple", od, .seq ls.toArray n, sl⟩) (v : TupIs l ls) (hl : l.length ≤ 1000) (H : Hp) : SqT K H tb (nv l) :=
  .inr ⟨_, ls.toArray, n, h, rfl, rfl, by
    have := v.len
    rw [List.size_toArray, sizeLine_eq]
    omega, by simpa using v.vals⟩
/-! ### the request -/
theorem asked_rows {l : List Int} (h : PyKh363.answers_asked l = true) : ∃ rs : List (List Int), l = rs.flatten ∧ (∀ r ∈ rs, Row [r] r) ∧ PyKh363.answers l = toldOf none rs ∧ (toldOf none rs).length ≤ 10000000 := by
  unfold PyKh363.answers_asked at h
  cases e : PyFlat.calls PyKh363.shape l.length l with
  | none =>
    rw [e] at h
    cases h
  | some raw =>
    rw [e] at h
    dsimp only at h
    rw [Bool.and_eq_true] at h
    obtain ⟨rs, er, hR, el⟩ := calls_rows _ _ _ e
    have ea : PyKh363.answers l = toldOf none rs := by
      have e2 : PyKh363.calls l = some (raw.map PyKh363.whole) := by
        unfold PyKh363.calls
        rw [e]
      unfold PyKh363.answers
      rw [e2]
      have e3 : raw.map PyKh363.whole = raw := by
        have : (PyKh363.whole : List (List Int) → List (List Int)) = id := funext whole_eq
        rw [this, List.map_id]
      rw [e3, er]
      rfl
    refine ⟨rs, el, hR, ea, ?_⟩
    have := h.2
    unfold PyFlat.short at this
    rw [ea] at this
    exact of_decide_eq_true this
theorem request {K : PySem.W.Frag} {H : Hp} {xs : List V} {a : Codec.denoteAll PySem.Challenge.rw_spawnbed_s01_answers.args} (hwi : Codec.withinAll PySem.Challenge.rw_spawnbed_s01_answers.args a = true)
    (hask : Codec.app PySem.Challenge.rw_spawnbed_s01_answers.args PySem.Challenge.rw_spawnbed_s01_answers.asked a = true) (hx : DwAll K H xs (Codec.encAll PySem.Challenge.rw_spawnbed_s01_answers.args a)) :
    spAnswers K xs H (fun v H' => Dw K H' v (PySem.Challenge.rw_spawnbed_s01_answers.ret.enc (Codec.app PySem.Challenge.rw_spawnbed_s01_answers.args PySem.Challenge.rw_spawnbed_s01_answers.f a))) (fun _ _ _ => False) := by
  cases hx with
  | cons h1 h2 =>
    cases h2
    cases h1 with
    | lst hs ha =>
      have e := L2.ints_dw a.1 _ ha
      subst e
      have q : ((Codec.inLen 0 400 a.1 && a.1.all (Codec.inInt 0 4294967295)) && true) = true := hwi
      rw [Bool.and_eq_true, Bool.and_eq_true] at q
      obtain ⟨rs, el, hR, ea, hT⟩ := asked_rows (l := a.1) hask
      refine ⟨_, rs, rfl, by rw [← el]; exact hs, hR, fun x hx => ?_, ?_, hT, fun H' p hp => ?_⟩
      · rw [← el] at hx
        exact (Codec.inInt_iff.mp (List.all_eq_true.mp q.1.2 x hx)).1
      · rw [← el]
        exact (Codec.inNat_iff.mp q.1.1).2
      · rw [← ea] at hp
        exact .lst (L2.SqL.of hp) (L2.dw_ints _)
end Bed
namespace Bed
open PySem PySem.Spec PyProof.Rows L2
theorem all_mk {P : Program} {w : World} {K : PySem.W.Frag} {h : Heap} {mg : Str → Option Value} {fa C fI f2 f3 f4 f5 f6 f7 f8 f9 f10 f11 f12 f13 f14 f30 f31 f32 f33 f34 f35 f36 f37 f38 f39 f40 f41 f42 f43 f44 f45 f46 f47 f48 f49 f50 f51 f52 f53 f54 f55 f56 f59 f60 tb d0 d1 : Addr} (X : K.In h) (G : h.Ns mainGlobals mg) (hfa : mg "answers" = some (.ref fa))
    {odI anI od2 an2 od3 an3 od4 an4 od5 an5 od6 an6 od7 an7 od8 an8 od9 an9 od10 an10 od11 an11 od12 an12 od13 an13 od14 an14 od30 an30 od31 an31 od32 an32 od33 an33 od34 an34 od35 an35 od36 an36 od37 an37 od38 an38 od39 an39 od40 an40 od41 an41 od42 an42 od43 an43 od44 an44 od45 an45 od46 an46 od47 an47 od48 an48 od49 an49 od50 an50 od51 an51 od52 an52 od53 an53 od54 an54 od55 an55 od56 an56 od59 an59 od60 an60 : Option Addr} {slI sl2 sl3 sl4 sl5 sl6 sl7 sl8 sl9 sl10 sl11 sl12 sl13 sl14 sl30 sl31 sl32 sl33 sl34 sl35 sl36 sl37 sl38 sl39 sl40 sl41 sl42 sl43 sl44 sl45 sl46 sl47 sl48 sl49 sl50 sl51 sl52 sl53 sl54 sl55 sl56 sl59 sl60 : Array (Option Value)} {ocI kVI dcI pmI cdI ctI oc2 kV2 dc2 pm2 cd2 ct2 oc3 kV3 dc3 pm3 cd3 ct3 oc4 kV4 dc4 pm4 cd4 ct4 oc5 kV5 dc5 pm5 cd5 ct5 oc6 kV6 dc6 pm6 cd6 ct6 oc7 kV7 dc7 pm7 cd7 ct7 oc8 kV8 dc8 pm8 cd8 ct8 oc9 kV9 dc9 pm9 cd9 ct9 oc10 kV10 dc10 pm10 cd10 ct10 oc11 kV11 dc11 pm11 cd11 ct11 oc12 kV12 dc12 pm12 cd12 ct12 oc13 kV13 dc13 pm13 cd13 ct13 oc14 kV14 dc14 pm14 cd14 ct14 oc30 kV30 dc30 pm30 cd30 ct30 oc31 kV31 dc31 pm31 cd31 ct31 oc32 kV32 dc32 pm32 cd32 ct32 oc33 kV33 dc33 pm33 cd33 ct33 oc34 kV34 dc34 pm34 cd34 ct34 oc35 kV35 dc35 pm35 cd35 ct35 oc36 kV36 dc36 pm36 cd36 ct36 oc37 kV37 dc37 pm37 cd37 ct37 oc38 kV38 dc38 pm38 cd38 ct38 oc39 kV39 dc39 pm39 cd39 ct39 oc40 kV40 dc40 pm40 cd40 ct40 oc41 kV41 dc41 pm41 cd41 ct41 oc42 kV42 dc42 pm42 cd42 ct42 oc43 kV43 dc43 pm43 cd43 ct43 oc44 kV44 dc44 pm44 cd44 ct44 oc45 kV45 dc45 pm45 cd45 ct45 oc46 kV46 dc46 pm46 cd46 ct46 oc47 kV47 dc47 pm47 cd47 ct47 oc48 kV48 dc48 pm48 cd48 ct48 oc49 kV49 dc49 pm49 cd49 ct49 oc50 kV50 dc50 pm50 cd50 ct50 oc51 kV51 dc51 pm51 cd51 ct51 oc52 kV52 dc52 pm52 cd52 ct52 oc53 kV53 dc53 pm53 cd53 ct53 oc54 kV54 dc54 pm54 cd54 ct54 oc55 kV55 dc55 pm55 cd55 ct55 oc56 kV56 dc56 pm56 cd56 ct56 oc59 kV59 dc59 pm59 cd59 ct59 oc60 kV60 dc60 pm60 cd60 ct60 : Value} {t0 t1 t2 t3 t4 t5 t6 t7 t8 t9 t10 t11 t12 : Tok} {odT : Option Addr} {lsT : List Value} {nT : Nat} {slT : Array (Option Value)} {es0 : Array DictEntry} {ne0 : Nat} {es1 : Array DictEntry} {ne1 : Nat}
    (aC : PySem.W.nsIn K mainGlobals "Bed" = some (some (.ref C)))
    (aI : PySem.W.findIn K (.ref C) "__init__" = some (some (.ref fI)))
    (iI : PySem.W.isFn K (.ref fI) = true)
    (lI : K.lookup fI = some ⟨ocI, odI, .func (PySem.W.fnOf "__init__" "Bed.__init__" (defArgs sInit) (defBody sInit) (defScope sInit) .none kVI dcI pmI anI cdI ctI), slI⟩)
    (cI : PySem.W.codeIn K cdI "Bed.__init__" = true)
    (kI : PySem.W.keepIn K (.ref fI) = true)
    (a2 : PySem.W.nsIn K mainGlobals "beside" = some (some (.ref f2)))
    (l2 : K.lookup f2 = some ⟨oc2, od2, .func (PySem.W.fnOf "beside" "beside" (defArgs sBeside) (defBody sBeside) (defScope sBeside) .none kV2 dc2 pm2 an2 cd2 ct2), sl2⟩)
    (c2 : PySem.W.codeIn K cd2 "beside" = true)
    (k2 : PySem.W.keepIn K (.ref f2) = true)
    (a3 : PySem.W.nsIn K mainGlobals "reached_from" = some (some (.ref f3)))
    (l3 : K.lookup f3 = some ⟨oc3, od3, .func (PySem.W.fnOf "reached_from" "reached_from" (defArgs sReached) (defBody sReached) (defScope sReached) .none kV3 dc3 pm3 an3 cd3 ct3), sl3⟩)
    (c3 : PySem.W.codeIn K cd3 "reached_from" = true)
    (k3 : PySem.W.keepIn K (.ref f3) = true)
    (a4 : PySem.W.nsIn K mainGlobals "spread_days" = some (some (.ref f4)))
    (l4 : K.lookup f4 = some ⟨oc4, od4, .func (PySem.W.fnOf "spread_days" "spread_days" (defArgs sSpread) (defBody sSpread) (defScope sSpread) .none kV4 dc4 pm4 an4 cd4 ct4), sl4⟩)
    (c4 : PySem.W.codeIn K cd4 "spread_days" = true)
    (k4 : PySem.W.keepIn K (.ref f4) = true)
    (a5 : PySem.W.nsIn K mainGlobals "day_of_all" = some (some (.ref f5)))
    (l5 : K.lookup f5 = some ⟨oc5, od5, .func (PySem.W.fnOf "day_of_all" "day_of_all" (defArgs sAll) (defBody sAll) (defScope sAll) .none kV5 dc5 pm5 an5 cd5 ct5), sl5⟩)
    (c5 : PySem.W.codeIn K cd5 "day_of_all" = true)
    (k5 : PySem.W.keepIn K (.ref f5) = true)
    (a6 : PySem.W.nsIn K mainGlobals "free_cells" = some (some (.ref f6)))
    (l6 : K.lookup f6 = some ⟨oc6, od6, .func (PySem.W.fnOf "free_cells" "free_cells" (defArgs sFree) (defBody sFree) (defScope sFree) .none kV6 dc6 pm6 an6 cd6 ct6), sl6⟩)
    (c6 : PySem.W.codeIn K cd6 "free_cells" = true)
    (k6 : PySem.W.keepIn K (.ref f6) = true)
    (a7 : PySem.W.nsIn K mainGlobals "cell_before" = some (some (.ref f7)))
    (l7 : K.lookup f7 = some ⟨oc7, od7, .func (PySem.W.fnOf "cell_before" "cell_before" (defArgs sBefore) (defBody sBefore) (defScope sBefore) .none kV7 dc7 pm7 an7 cd7 ct7), sl7⟩)
    (c7 : PySem.W.codeIn K cd7 "cell_before" = true)
    (k7 : PySem.W.keepIn K (.ref f7) = true)
    (a8 : PySem.W.nsIn K mainGlobals "way_to" = some (some (.ref f8)))
    (l8 : K.lookup f8 = some ⟨oc8, od8, .func (PySem.W.fnOf "way_to" "way_to" (defArgs sWay) (defBody sWay) (defScope sWay) .none kV8 dc8 pm8 an8 cd8 ct8), sl8⟩)
    (c8 : PySem.W.codeIn K cd8 "way_to" = true)
    (k8 : PySem.W.keepIn K (.ref f8) = true)
    (a9 : PySem.W.nsIn K mainGlobals "reached_by" = some (some (.ref f9)))
    (l9 : K.lookup f9 = some ⟨oc9, od9, .func (PySem.W.fnOf "reached_by" "reached_by" (defArgs sBy) (defBody sBy) (defScope sBy) .none kV9 dc9 pm9 an9 cd9 ct9), sl9⟩)
    (c9 : PySem.W.codeIn K cd9 "reached_by" = true)
    (k9 : PySem.W.keepIn K (.ref f9) = true)
    (a10 : PySem.W.nsIn K mainGlobals "area_sizes" = some (some (.ref f10)))
    (l10 : K.lookup f10 = some ⟨oc10, od10, .func (PySem.W.fnOf "area_sizes" "area_sizes" (defArgs sAreas) (defBody sAreas) (defScope sAreas) .none kV10 dc10 pm10 an10 cd10 ct10), sl10⟩)
    (c10 : PySem.W.codeIn K cd10 "area_sizes" = true)
    (k10 : PySem.W.keepIn K (.ref f10) = true)
    (a11 : PySem.W.nsIn K mainGlobals "bits_of" = some (some (.ref f11)))
    (l11 : K.lookup f11 = some ⟨oc11, od11, .func (PySem.W.fnOf "bits_of" "bits_of" (defArgs sBits) (defBody sBits) (defScope sBits) .none kV11 dc11 pm11 an11 cd11 ct11), sl11⟩)
    (c11 : PySem.W.codeIn K cd11 "bits_of" = true)
    (k11 : PySem.W.keepIn K (.ref f11) = true)
    (a12 : PySem.W.nsIn K mainGlobals "with_one_more" = some (some (.ref f12)))
    (l12 : K.lookup f12 = some ⟨oc12, od12, .func (PySem.W.fnOf "with_one_more" "with_one_more" (defArgs sWider) (defBody sWider) (defScope sWider) .none kV12 dc12 pm12 an12 cd12 ct12), sl12⟩)
    (c12 : PySem.W.codeIn K cd12 "with_one_more" = true)
    (k12 : PySem.W.keepIn K (.ref f12) = true)
    (a13 : PySem.W.nsIn K mainGlobals "first_that_covers" = some (some (.ref f13)))
    (l13 : K.lookup f13 = some ⟨oc13, od13, .func (PySem.W.fnOf "first_that_covers" "first_that_covers" (defArgs sCovers) (defBody sCovers) (defScope sCovers) .none kV13 dc13 pm13 an13 cd13 ct13), sl13⟩)
    (c13 : PySem.W.codeIn K cd13 "first_that_covers" = true)
    (k13 : PySem.W.keepIn K (.ref f13) = true)
    (a14 : PySem.W.nsIn K mainGlobals "fewest_cells" = some (some (.ref f14)))
    (l14 : K.lookup f14 = some ⟨oc14, od14, .func (PySem.W.fnOf "fewest_cells" "fewest_cells" (defArgs sFewest) (defBody sFewest) (defScope sFewest) .none kV14 dc14 pm14 an14 cd14 ct14), sl14⟩)
    (c14 : PySem.W.codeIn K cd14 "fewest_cells" = true)
    (k14 : PySem.W.keepIn K (.ref f14) = true)
    (a30 : PySem.W.nsIn K mainGlobals "has_cell" = some (some (.ref f30)))
    (l30 : K.lookup f30 = some ⟨oc30, od30, .func (PySem.W.fnOf "has_cell" "has_cell" (defArgs sHas) (defBody sHas) (defScope sHas) .none kV30 dc30 pm30 an30 cd30 ct30), sl30⟩)
    (c30 : PySem.W.codeIn K cd30 "has_cell" = true)
    (k30 : PySem.W.keepIn K (.ref f30) = true)
    (a31 : PySem.W.nsIn K mainGlobals "days_of" = some (some (.ref f31)))
    (l31 : K.lookup f31 = some ⟨oc31, od31, .func (PySem.W.fnOf "days_of" "days_of" (defArgs sDays) (defBody sDays) (defScope sDays) .none kV31 dc31 pm31 an31 cd31 ct31), sl31⟩)
    (c31 : PySem.W.codeIn K cd31 "days_of" = true)
    (k31 : PySem.W.keepIn K (.ref f31) = true)
    (a32 : PySem.W.nsIn K mainGlobals "full_day_if" = some (some (.ref f32)))
    (l32 : K.lookup f32 = some ⟨oc32, od32, .func (PySem.W.fnOf "full_day_if" "full_day_if" (defArgs sFullIf) (defBody sFullIf) (defScope sFullIf) .none kV32 dc32 pm32 an32 cd32 ct32), sl32⟩)
    (c32 : PySem.W.codeIn K cd32 "full_day_if" = true)
    (k32 : PySem.W.keepIn K (.ref f32) = true)
    (a33 : PySem.W.nsIn K mainGlobals "without_cell" = some (some (.ref f33)))
    (l33 : K.lookup f33 = some ⟨oc33, od33, .func (PySem.W.fnOf "without_cell" "without_cell" (defArgs sWithout) (defBody sWithout) (defScope sWithout) .none kV33 dc33 pm33 an33 cd33 ct33), sl33⟩)
    (c33 : PySem.W.codeIn K cd33 "without_cell" = true)
    (k33 : PySem.W.keepIn K (.ref f33) = true)
    (a34 : PySem.W.nsIn K mainGlobals "change" = some (some (.ref f34)))
    (l34 : K.lookup f34 = some ⟨oc34, od34, .func (PySem.W.fnOf "change" "change" (defArgs sChange) (defBody sChange) (defScope sChange) .none kV34 dc34 pm34 an34 cd34 ct34), sl34⟩)
    (c34 : PySem.W.codeIn K cd34 "change" = true)
    (k34 : PySem.W.keepIn K (.ref f34) = true)
    (a35 : PySem.W.nsIn K mainGlobals "begin_bed" = some (some (.ref f35)))
    (l35 : K.lookup f35 = some ⟨oc35, od35, .func (PySem.W.fnOf "begin_bed" "begin_bed" (defArgs sBegin) (defBody sBegin) (defScope sBegin) .none kV35 dc35 pm35 an35 cd35 ct35), sl35⟩)
    (c35 : PySem.W.codeIn K cd35 "begin_bed" = true)
    (k35 : PySem.W.keepIn K (.ref f35) = true)
    (a36 : PySem.W.nsIn K mainGlobals "block_refusal" = some (some (.ref f36)))
    (l36 : K.lookup f36 = some ⟨oc36, od36, .func (PySem.W.fnOf "block_refusal" "block_refusal" (defArgs sRefuse) (defBody sRefuse) (defScope sRefuse) .none kV36 dc36 pm36 an36 cd36 ct36), sl36⟩)
    (c36 : PySem.W.codeIn K cd36 "block_refusal" = true)
    (k36 : PySem.W.keepIn K (.ref f36) = true)
    (a37 : PySem.W.nsIn K mainGlobals "block_cell" = some (some (.ref f37)))
    (l37 : K.lookup f37 = some ⟨oc37, od37, .func (PySem.W.fnOf "block_cell" "block_cell" (defArgs sBlock) (defBody sBlock) (defScope sBlock) .none kV37 dc37 pm37 an37 cd37 ct37), sl37⟩)
    (c37 : PySem.W.codeIn K cd37 "block_cell" = true)
    (k37 : PySem.W.keepIn K (.ref f37) = true)
    (a38 : PySem.W.nsIn K mainGlobals "clear_cell" = some (some (.ref f38)))
    (l38 : K.lookup f38 = some ⟨oc38, od38, .func (PySem.W.fnOf "clear_cell" "clear_cell" (defArgs sClear) (defBody sClear) (defScope sClear) .none kV38 dc38 pm38 an38 cd38 ct38), sl38⟩)
    (c38 : PySem.W.codeIn K cd38 "clear_cell" = true)
    (k38 : PySem.W.keepIn K (.ref f38) = true)
    (a39 : PySem.W.nsIn K mainGlobals "lay_grain" = some (some (.ref f39)))
    (l39 : K.lookup f39 = some ⟨oc39, od39, .func (PySem.W.fnOf "lay_grain" "lay_grain" (defArgs sGrain) (defBody sGrain) (defScope sGrain) .none kV39 dc39 pm39 an39 cd39 ct39), sl39⟩)
    (c39 : PySem.W.codeIn K cd39 "lay_grain" = true)
    (k39 : PySem.W.keepIn K (.ref f39) = true)
    (a40 : PySem.W.nsIn K mainGlobals "take_grain" = some (some (.ref f40)))
    (l40 : K.lookup f40 = some ⟨oc40, od40, .func (PySem.W.fnOf "take_grain" "take_grain" (defArgs sTake) (defBody sTake) (defScope sTake) .none kV40 dc40 pm40 an40 cd40 ct40), sl40⟩)
    (c40 : PySem.W.codeIn K cd40 "take_grain" = true)
    (k40 : PySem.W.keepIn K (.ref f40) = true)
    (a41 : PySem.W.nsIn K mainGlobals "take_back" = some (some (.ref f41)))
    (l41 : K.lookup f41 = some ⟨oc41, od41, .func (PySem.W.fnOf "take_back" "take_back" (defArgs sBack) (defBody sBack) (defScope sBack) .none kV41 dc41 pm41 an41 cd41 ct41), sl41⟩)
    (c41 : PySem.W.codeIn K cd41 "take_back" = true)
    (k41 : PySem.W.keepIn K (.ref f41) = true)
    (a42 : PySem.W.nsIn K mainGlobals "day_of_cell" = some (some (.ref f42)))
    (l42 : K.lookup f42 = some ⟨oc42, od42, .func (PySem.W.fnOf "day_of_cell" "day_of_cell" (defArgs sDay) (defBody sDay) (defScope sDay) .none kV42 dc42 pm42 an42 cd42 ct42), sl42⟩)
    (c42 : PySem.W.codeIn K cd42 "day_of_cell" = true)
    (k42 : PySem.W.keepIn K (.ref f42) = true)
    (a43 : PySem.W.nsIn K mainGlobals "full_day" = some (some (.ref f43)))
    (l43 : K.lookup f43 = some ⟨oc43, od43, .func (PySem.W.fnOf "full_day" "full_day" (defArgs sFull) (defBody sFull) (defScope sFull) .none kV43 dc43 pm43 an43 cd43 ct43), sl43⟩)
    (c43 : PySem.W.codeIn K cd43 "full_day" = true)
    (k43 : PySem.W.keepIn K (.ref f43) = true)
    (a44 : PySem.W.nsIn K mainGlobals "counted" = some (some (.ref f44)))
    (l44 : K.lookup f44 = some ⟨oc44, od44, .func (PySem.W.fnOf "counted" "counted" (defArgs sCounted) (defBody sCounted) (defScope sCounted) .none kV44 dc44 pm44 an44 cd44 ct44), sl44⟩)
    (c44 : PySem.W.codeIn K cd44 "counted" = true)
    (k44 : PySem.W.keepIn K (.ref f44) = true)
    (a45 : PySem.W.nsIn K mainGlobals "cells_by_day" = some (some (.ref f45)))
    (l45 : K.lookup f45 = some ⟨oc45, od45, .func (PySem.W.fnOf "cells_by_day" "cells_by_day" (defArgs sRun) (defBody sRun) (defScope sRun) .none kV45 dc45 pm45 an45 cd45 ct45), sl45⟩)
    (c45 : PySem.W.codeIn K cd45 "cells_by_day" = true)
    (k45 : PySem.W.keepIn K (.ref f45) = true)
    (a46 : PySem.W.nsIn K mainGlobals "cells_on_day" = some (some (.ref f46)))
    (l46 : K.lookup f46 = some ⟨oc46, od46, .func (PySem.W.fnOf "cells_on_day" "cells_on_day" (defArgs sOnDay) (defBody sOnDay) (defScope sOnDay) .none kV46 dc46 pm46 an46 cd46 ct46), sl46⟩)
    (c46 : PySem.W.codeIn K cd46 "cells_on_day" = true)
    (k46 : PySem.W.keepIn K (.ref f46) = true)
    (a47 : PySem.W.nsIn K mainGlobals "last_cells" = some (some (.ref f47)))
    (l47 : K.lookup f47 = some ⟨oc47, od47, .func (PySem.W.fnOf "last_cells" "last_cells" (defArgs sLast) (defBody sLast) (defScope sLast) .none kV47 dc47 pm47 an47 cd47 ct47), sl47⟩)
    (c47 : PySem.W.codeIn K cd47 "last_cells" = true)
    (k47 : PySem.W.keepIn K (.ref f47) = true)
    (a48 : PySem.W.nsIn K mainGlobals "way_to_cell" = some (some (.ref f48)))
    (l48 : K.lookup f48 = some ⟨oc48, od48, .func (PySem.W.fnOf "way_to_cell" "way_to_cell" (defArgs sWayTo) (defBody sWayTo) (defScope sWayTo) .none kV48 dc48 pm48 an48 cd48 ct48), sl48⟩)
    (c48 : PySem.W.codeIn K cd48 "way_to_cell" = true)
    (k48 : PySem.W.keepIn K (.ref f48) = true)
    (a49 : PySem.W.nsIn K mainGlobals "best_cell" = some (some (.ref f49)))
    (l49 : K.lookup f49 = some ⟨oc49, od49, .func (PySem.W.fnOf "best_cell" "best_cell" (defArgs sBest) (defBody sBest) (defScope sBest) .none kV49 dc49 pm49 an49 cd49 ct49), sl49⟩)
    (c49 : PySem.W.codeIn K cd49 "best_cell" = true)
    (k49 : PySem.W.keepIn K (.ref f49) = true)
    (a50 : PySem.W.nsIn K mainGlobals "fewest_grains" = some (some (.ref f50)))
    (l50 : K.lookup f50 = some ⟨oc50, od50, .func (PySem.W.fnOf "fewest_grains" "fewest_grains" (defArgs sFew) (defBody sFew) (defScope sFew) .none kV50 dc50 pm50 an50 cd50 ct50), sl50⟩)
    (c50 : PySem.W.codeIn K cd50 "fewest_grains" = true)
    (k50 : PySem.W.keepIn K (.ref f50) = true)
    (a51 : PySem.W.nsIn K mainGlobals "day_without" = some (some (.ref f51)))
    (l51 : K.lookup f51 = some ⟨oc51, od51, .func (PySem.W.fnOf "day_without" "day_without" (defArgs sDayWo) (defBody sDayWo) (defScope sDayWo) .none kV51 dc51 pm51 an51 cd51 ct51), sl51⟩)
    (c51 : PySem.W.codeIn K cd51 "day_without" = true)
    (k51 : PySem.W.keepIn K (.ref f51) = true)
    (a52 : PySem.W.nsIn K mainGlobals "day_if_blocked" = some (some (.ref f52)))
    (l52 : K.lookup f52 = some ⟨oc52, od52, .func (PySem.W.fnOf "day_if_blocked" "day_if_blocked" (defArgs sIfB) (defBody sIfB) (defScope sIfB) .none kV52 dc52 pm52 an52 cd52 ct52), sl52⟩)
    (c52 : PySem.W.codeIn K cd52 "day_if_blocked" = true)
    (k52 : PySem.W.keepIn K (.ref f52) = true)
    (a53 : PySem.W.nsIn K mainGlobals "area_counts" = some (some (.ref f53)))
    (l53 : K.lookup f53 = some ⟨oc53, od53, .func (PySem.W.fnOf "area_counts" "area_counts" (defArgs sAreaC) (defBody sAreaC) (defScope sAreaC) .none kV53 dc53 pm53 an53 cd53 ct53), sl53⟩)
    (c53 : PySem.W.codeIn K cd53 "area_counts" = true)
    (k53 : PySem.W.keepIn K (.ref f53) = true)
    (a54 : PySem.W.nsIn K mainGlobals "day_map" = some (some (.ref f54)))
    (l54 : K.lookup f54 = some ⟨oc54, od54, .func (PySem.W.fnOf "day_map" "day_map" (defArgs sMap) (defBody sMap) (defScope sMap) .none kV54 dc54 pm54 an54 cd54 ct54), sl54⟩)
    (c54 : PySem.W.codeIn K cd54 "day_map" = true)
    (k54 : PySem.W.keepIn K (.ref f54) = true)
    (a55 : PySem.W.nsIn K mainGlobals "grain_cells" = some (some (.ref f55)))
    (l55 : K.lookup f55 = some ⟨oc55, od55, .func (PySem.W.fnOf "grain_cells" "grain_cells" (defArgs sGrains) (defBody sGrains) (defScope sGrains) .none kV55 dc55 pm55 an55 cd55 ct55), sl55⟩)
    (c55 : PySem.W.codeIn K cd55 "grain_cells" = true)
    (k55 : PySem.W.keepIn K (.ref f55) = true)
    (a56 : PySem.W.nsIn K mainGlobals "state_of" = some (some (.ref f56)))
    (l56 : K.lookup f56 = some ⟨oc56, od56, .func (PySem.W.fnOf "state_of" "state_of" (defArgs sState) (defBody sState) (defScope sState) .none kV56 dc56 pm56 an56 cd56 ct56), sl56⟩)
    (c56 : PySem.W.codeIn K cd56 "state_of" = true)
    (k56 : PySem.W.keepIn K (.ref f56) = true)
    (a59 : PySem.W.nsIn K mainGlobals "answer_of" = some (some (.ref f59)))
    (l59 : K.lookup f59 = some ⟨oc59, od59, .func (PySem.W.fnOf "answer_of" "answer_of" (defArgs sAnswer) (defBody sAnswer) (defScope sAnswer) .none kV59 dc59 pm59 an59 cd59 ct59), sl59⟩)
    (c59 : PySem.W.codeIn K cd59 "answer_of" = true)
    (k59 : PySem.W.keepIn K (.ref f59) = true)
    (a60 : PySem.W.nsIn K mainGlobals "answers" = some (some (.ref f60)))
    (l60 : K.lookup f60 = some ⟨oc60, od60, .func (PySem.W.fnOf "answers" "answers" (defArgs sAnswers) (defBody sAnswers) (defScope sAnswers) .none kV60 dc60 pm60 an60 cd60 ct60), sl60⟩)
    (c60 : PySem.W.codeIn K cd60 "answers" = true)
    (k60 : PySem.W.keepIn K (.ref f60) = true)
    (pg : PySem.W.plainGet K C Str.empty = true)
    (hd : PySem.W.hasDictIn K C = true)
    (po : PySem.W.plainOver K C = true)
    (sa : PySem.W.findIn K (.ref C) "__setattr__" = some (some (.builtin "object.__setattr__")))
    (mk : PySem.W.makesIn K C = true)
    (kc : PySem.W.keepIn K (.ref C) = true)
    (n0 : PySem.W.findIn K (.ref C) "width" = some none)
    (n1 : PySem.W.findIn K (.ref C) "height" = some none)
    (n2 : PySem.W.findIn K (.ref C) "blocked" = some none)
    (n3 : PySem.W.findIn K (.ref C) "grains" = some none)
    (n4 : PySem.W.findIn K (.ref C) "earlier" = some none)
    (z0 : PySem.W.nsIn K mainGlobals "NEVER" = some (some (.int (-33) t0)))
    (z1 : PySem.W.nsIn K mainGlobals "MISSING" = some (some (.int (-2) t1)))
    (z2 : PySem.W.nsIn K mainGlobals "BARRED" = some (some (.int (-16) t2)))
    (z3 : PySem.W.nsIn K mainGlobals "ALREADY" = some (some (.int (-17) t3)))
    (z4 : PySem.W.nsIn K mainGlobals "OUT_OF_RANGE" = some (some (.int (-22) t4)))
    (z5 : PySem.W.nsIn K mainGlobals "TOO_MANY" = some (some (.int (-28) t5)))
    (z6 : PySem.W.nsIn K mainGlobals "NOT_BEGUN" = some (some (.int (-61) t6)))
    (z7 : PySem.W.nsIn K mainGlobals "LONGEST_SIDE" = some (some (.int (5) t7)))
    (z8 : PySem.W.nsIn K mainGlobals "MOST_GRAINS" = some (some (.int (6) t8)))
    (z9 : PySem.W.nsIn K mainGlobals "MOST_BACK" = some (some (.int (10) t9)))
    (z10 : PySem.W.nsIn K mainGlobals "MOST_ENOUGH" = some (some (.int (3) t10)))
    (z11 : PySem.W.nsIn K mainGlobals "LATEST_DAY" = some (some (.int (50) t11)))
    (z12 : PySem.W.nsIn K mainGlobals "BEGIN" = some (some (.int (0) t12)))
    (e0 : PySem.W.nsIn K mainGlobals "len" = some none)
    (e1 : PySem.W.nsIn K mainGlobals "range" = some none)
    (e2 : PySem.W.nsIn K mainGlobals "max" = some none)
    (e3 : PySem.W.nsIn K mainGlobals "list" = some none)
    (e4 : PySem.W.nsIn K mainGlobals "min" = some none)
    (e5 : PySem.W.nsIn K mainGlobals "sum" = some none)
    (e6 : PySem.W.nsIn K mainGlobals "sorted" = some none)
    (aT : PySem.W.nsIn K mainGlobals "NUMBERS_BEHIND" = some (some (.ref tb)))
    (lT : K.lookup tb = some ⟨.type "tuple", odT, .seq lsT.toArray nT, slT⟩)
    (vT : TupIs (nums) lsT)
    (aD0 : PySem.W.nsIn K mainGlobals "WITH_NO_NUMBER" = some (some (.ref d0)))
    (lD0 : K.lookup d0 = some ⟨.type "dict", none, .dict es0 ne0, #[]⟩)
    (vD0 : TabIs [(5, f41), (7, f43), (9, f47), (12, f49), (14, f53), (17, f54), (18, f55), (19, f56)] es0.toList)
    (oD0 : (d0 == sysModules) = false)
    (aD1 : PySem.W.nsIn K mainGlobals "WITH_ONE_NUMBER" = some (some (.ref d1)))
    (lD1 : K.lookup d1 = some ⟨.type "dict", none, .dict es1 ne1, #[]⟩)
    (vD1 : TabIs [(1, f37), (2, f38), (3, f39), (4, f40), (6, f42), (8, f45), (10, f46), (11, f48), (13, f50), (15, f51), (16, f52)] es1.toList)
    (oD1 : (d1 == sysModules) = false)
    : ∃ fd : FuncData, (∀ (s : Shared) (us : List Value), us.length = (["calls"] : List Str).length → BindsTo s fd ⟨us, []⟩ ((["calls"] : List Str).zip us)) ∧ ∀ base : Heap, K.In base → base.Ns mainGlobals mg → FnOk P w K mg base CX0 8 fa fd ["calls"] (spAnswers K) := by
  have e := hfa.symm.trans (PySem.W.mg_of X G a60)
  cases e
  have FI := fun_mk (st := sInit) lI cI kI
  have bI := FI.binds (ps := ["self"]) fun _ _ _ _ _ _ us hl => match us, hl with | [_], _ => rfl
  have F2 := fun_mk (st := sBeside) l2 c2 k2
  have m2 := PySem.W.mg_of X G a2
  have b2 := F2.binds (ps := ["width", "height", "cell"]) fun _ _ _ _ _ _ us hl => match us, hl with | [_, _, _], _ => rfl
  have F3 := fun_mk (st := sReached) l3 c3 k3
  have m3 := PySem.W.mg_of X G a3
  have b3 := F3.binds (ps := ["width", "height", "blocked", "days", "front"]) fun _ _ _ _ _ _ us hl => match us, hl with | [_, _, _, _, _], _ => rfl
  have F4 := fun_mk (st := sSpread) l4 c4 k4
  have m4 := PySem.W.mg_of X G a4
  have b4 := F4.binds (ps := ["width", "height", "blocked", "grains"]) fun _ _ _ _ _ _ us hl => match us, hl with | [_, _, _, _], _ => rfl
  have F5 := fun_mk (st := sAll) l5 c5 k5
  have m5 := PySem.W.mg_of X G a5
  have b5 := F5.binds (ps := ["days", "blocked"]) fun _ _ _ _ _ _ us hl => match us, hl with | [_, _], _ => rfl
  have F6 := fun_mk (st := sFree) l6 c6 k6
  have m6 := PySem.W.mg_of X G a6
  have b6 := F6.binds (ps := ["width", "height", "blocked"]) fun _ _ _ _ _ _ us hl => match us, hl with | [_, _, _], _ => rfl
  have F7 := fun_mk (st := sBefore) l7 c7 k7
  have m7 := PySem.W.mg_of X G a7
  have b7 := F7.binds (ps := ["width", "height", "days", "cell"]) fun _ _ _ _ _ _ us hl => match us, hl with | [_, _, _, _], _ => rfl
  have F8 := fun_mk (st := sWay) l8 c8 k8
  have m8 := PySem.W.mg_of X G a8
  have b8 := F8.binds (ps := ["width", "height", "days", "cell"]) fun _ _ _ _ _ _ us hl => match us, hl with | [_, _, _, _], _ => rfl
  have F9 := fun_mk (st := sBy) l9 c9 k9
  have m9 := PySem.W.mg_of X G a9
  have b9 := F9.binds (ps := ["days", "day"]) fun _ _ _ _ _ _ us hl => match us, hl with | [_, _], _ => rfl
  have F10 := fun_mk (st := sAreas) l10 c10 k10
  have m10 := PySem.W.mg_of X G a10
  have b10 := F10.binds (ps := ["width", "height", "blocked"]) fun _ _ _ _ _ _ us hl => match us, hl with | [_, _, _], _ => rfl
  have F11 := fun_mk (st := sBits) l11 c11 k11
  have m11 := PySem.W.mg_of X G a11
  have b11 := F11.binds (ps := ["cells"]) fun _ _ _ _ _ _ us hl => match us, hl with | [_], _ => rfl
  have F12 := fun_mk (st := sWider) l12 c12 k12
  have m12 := PySem.W.mg_of X G a12
  have b12 := F12.binds (ps := ["choices", "cells"]) fun _ _ _ _ _ _ us hl => match us, hl with | [_, _], _ => rfl
  have F13 := fun_mk (st := sCovers) l13 c13 k13
  have m13 := PySem.W.mg_of X G a13
  have b13 := F13.binds (ps := ["choices", "reach", "wanted"]) fun _ _ _ _ _ _ us hl => match us, hl with | [_, _, _], _ => rfl
  have F14 := fun_mk (st := sFewest) l14 c14 k14
  have m14 := PySem.W.mg_of X G a14
  have b14 := F14.binds (ps := ["width", "height", "blocked", "day", "most"]) fun _ _ _ _ _ _ us hl => match us, hl with | [_, _, _, _, _], _ => rfl
  have F30 := fun_mk (st := sHas) l30 c30 k30
  have m30 := PySem.W.mg_of X G a30
  have b30 := F30.binds (ps := ["bed", "cell"]) fun _ _ _ _ _ _ us hl => match us, hl with | [_, _], _ => rfl
  have F31 := fun_mk (st := sDays) l31 c31 k31
  have m31 := PySem.W.mg_of X G a31
  have b31 := F31.binds (ps := ["bed"]) fun _ _ _ _ _ _ us hl => match us, hl with | [_], _ => rfl
  have F32 := fun_mk (st := sFullIf) l32 c32 k32
  have m32 := PySem.W.mg_of X G a32
  have b32 := F32.binds (ps := ["bed", "blocked", "grains"]) fun _ _ _ _ _ _ us hl => match us, hl with | [_, _, _], _ => rfl
  have F33 := fun_mk (st := sWithout) l33 c33 k33
  have m33 := PySem.W.mg_of X G a33
  have b33 := F33.binds (ps := ["cells", "cell"]) fun _ _ _ _ _ _ us hl => match us, hl with | [_, _], _ => rfl
  have F34 := fun_mk (st := sChange) l34 c34 k34
  have m34 := PySem.W.mg_of X G a34
  have b34 := F34.binds (ps := ["bed", "blocked", "grains"]) fun _ _ _ _ _ _ us hl => match us, hl with | [_, _, _], _ => rfl
  have F35 := fun_mk (st := sBegin) l35 c35 k35
  have m35 := PySem.W.mg_of X G a35
  have b35 := F35.binds (ps := ["bed", "width", "height"]) fun _ _ _ _ _ _ us hl => match us, hl with | [_, _, _], _ => rfl
  have F36 := fun_mk (st := sRefuse) l36 c36 k36
  have m36 := PySem.W.mg_of X G a36
  have b36 := F36.binds (ps := ["bed", "cell"]) fun _ _ _ _ _ _ us hl => match us, hl with | [_, _], _ => rfl
  have F37 := fun_mk (st := sBlock) l37 c37 k37
  have m37 := PySem.W.mg_of X G a37
  have b37 := F37.binds (ps := ["bed", "cell"]) fun _ _ _ _ _ _ us hl => match us, hl with | [_, _], _ => rfl
  have F38 := fun_mk (st := sClear) l38 c38 k38
  have m38 := PySem.W.mg_of X G a38
  have b38 := F38.binds (ps := ["bed", "cell"]) fun _ _ _ _ _ _ us hl => match us, hl with | [_, _], _ => rfl
  have F39 := fun_mk (st := sGrain) l39 c39 k39
  have m39 := PySem.W.mg_of X G a39
  have b39 := F39.binds (ps := ["bed", "cell"]) fun _ _ _ _ _ _ us hl => match us, hl with | [_, _], _ => rfl
  have F40 := fun_mk (st := sTake) l40 c40 k40
  have m40 := PySem.W.mg_of X G a40
  have b40 := F40.binds (ps := ["bed", "cell"]) fun _ _ _ _ _ _ us hl => match us, hl with | [_, _], _ => rfl
  have F41 := fun_mk (st := sBack) l41 c41 k41
  have m41 := PySem.W.mg_of X G a41
  have b41 := F41.binds (ps := ["bed"]) fun _ _ _ _ _ _ us hl => match us, hl with | [_], _ => rfl
  have F42 := fun_mk (st := sDay) l42 c42 k42
  have m42 := PySem.W.mg_of X G a42
  have b42 := F42.binds (ps := ["bed", "cell"]) fun _ _ _ _ _ _ us hl => match us, hl with | [_, _], _ => rfl
  have F43 := fun_mk (st := sFull) l43 c43 k43
  have m43 := PySem.W.mg_of X G a43
  have b43 := F43.binds (ps := ["bed"]) fun _ _ _ _ _ _ us hl => match us, hl with | [_], _ => rfl
  have F44 := fun_mk (st := sCounted) l44 c44 k44
  have m44 := PySem.W.mg_of X G a44
  have b44 := F44.binds (ps := ["cells"]) fun _ _ _ _ _ _ us hl => match us, hl with | [_], _ => rfl
  have F45 := fun_mk (st := sRun) l45 c45 k45
  have m45 := PySem.W.mg_of X G a45
  have b45 := F45.binds (ps := ["bed", "day"]) fun _ _ _ _ _ _ us hl => match us, hl with | [_, _], _ => rfl
  have F46 := fun_mk (st := sOnDay) l46 c46 k46
  have m46 := PySem.W.mg_of X G a46
  have b46 := F46.binds (ps := ["bed", "day"]) fun _ _ _ _ _ _ us hl => match us, hl with | [_, _], _ => rfl
  have F47 := fun_mk (st := sLast) l47 c47 k47
  have m47 := PySem.W.mg_of X G a47
  have b47 := F47.binds (ps := ["bed"]) fun _ _ _ _ _ _ us hl => match us, hl with | [_], _ => rfl
  have F48 := fun_mk (st := sWayTo) l48 c48 k48
  have m48 := PySem.W.mg_of X G a48
  have b48 := F48.binds (ps := ["bed", "cell"]) fun _ _ _ _ _ _ us hl => match us, hl with | [_, _], _ => rfl
  have F49 := fun_mk (st := sBest) l49 c49 k49
  have m49 := PySem.W.mg_of X G a49
  have b49 := F49.binds (ps := ["bed"]) fun _ _ _ _ _ _ us hl => match us, hl with | [_], _ => rfl
  have F50 := fun_mk (st := sFew) l50 c50 k50
  have m50 := PySem.W.mg_of X G a50
  have b50 := F50.binds (ps := ["bed", "day"]) fun _ _ _ _ _ _ us hl => match us, hl with | [_, _], _ => rfl
  have F51 := fun_mk (st := sDayWo) l51 c51 k51
  have m51 := PySem.W.mg_of X G a51
  have b51 := F51.binds (ps := ["bed", "cell"]) fun _ _ _ _ _ _ us hl => match us, hl with | [_, _], _ => rfl
  have F52 := fun_mk (st := sIfB) l52 c52 k52
  have m52 := PySem.W.mg_of X G a52
  have b52 := F52.binds (ps := ["bed", "cell"]) fun _ _ _ _ _ _ us hl => match us, hl with | [_, _], _ => rfl
  have F53 := fun_mk (st := sAreaC) l53 c53 k53
  have m53 := PySem.W.mg_of X G a53
  have b53 := F53.binds (ps := ["bed"]) fun _ _ _ _ _ _ us hl => match us, hl with | [_], _ => rfl
  have F54 := fun_mk (st := sMap) l54 c54 k54
  have m54 := PySem.W.mg_of X G a54
  have b54 := F54.binds (ps := ["bed"]) fun _ _ _ _ _ _ us hl => match us, hl with | [_], _ => rfl
  have F55 := fun_mk (st := sGrains) l55 c55 k55
  have m55 := PySem.W.mg_of X G a55
  have b55 := F55.binds (ps := ["bed"]) fun _ _ _ _ _ _ us hl => match us, hl with | [_], _ => rfl
  have F56 := fun_mk (st := sState) l56 c56 k56
  have m56 := PySem.W.mg_of X G a56
  have b56 := F56.binds (ps := ["bed"]) fun _ _ _ _ _ _ us hl => match us, hl with | [_], _ => rfl
  have F59 := fun_mk (st := sAnswer) l59 c59 k59
  have m59 := PySem.W.mg_of X G a59
  have b59 := F59.binds (ps := ["bed", "call", "numbers"]) fun _ _ _ _ _ _ us hl => match us, hl with | [_, _, _], _ => rfl
  have F60 := fun_mk (st := sAnswers) l60 c60 k60
  have m60 := PySem.W.mg_of X G a60
  have b60 := F60.binds (ps := ["calls"]) fun _ _ _ _ _ _ us hl => match us, hl with | [_], _ => rfl
  have T : TxtBed K C := ⟨⟨pg, hd, po, sa⟩, n0, n1, n2, n3, n4⟩
  have i_NEVER : MgInt mg "NEVER" (-33) := ⟨_, PySem.W.mg_of X G z0⟩
  have i_MISSING : MgInt mg "MISSING" (-2) := ⟨_, PySem.W.mg_of X G z1⟩
  have i_BARRED : MgInt mg "BARRED" (-16) := ⟨_, PySem.W.mg_of X G z2⟩
  have i_ALREADY : MgInt mg "ALREADY" (-17) := ⟨_, PySem.W.mg_of X G z3⟩
  have i_OUT_OF_RANGE : MgInt mg "OUT_OF_RANGE" (-22) := ⟨_, PySem.W.mg_of X G z4⟩
  have i_TOO_MANY : MgInt mg "TOO_MANY" (-28) := ⟨_, PySem.W.mg_of X G z5⟩
  have i_NOT_BEGUN : MgInt mg "NOT_BEGUN" (-61) := ⟨_, PySem.W.mg_of X G z6⟩
  have i_LONGEST_SIDE : MgInt mg "LONGEST_SIDE" (5) := ⟨_, PySem.W.mg_of X G z7⟩
  have i_MOST_GRAINS : MgInt mg "MOST_GRAINS" (6) := ⟨_, PySem.W.mg_of X G z8⟩
  have i_MOST_BACK : MgInt mg "MOST_BACK" (10) := ⟨_, PySem.W.mg_of X G z9⟩
  have i_MOST_ENOUGH : MgInt mg "MOST_ENOUGH" (3) := ⟨_, PySem.W.mg_of X G z10⟩
  have i_LATEST_DAY : MgInt mg "LATEST_DAY" (50) := ⟨_, PySem.W.mg_of X G z11⟩
  have i_BEGIN : MgInt mg "BEGIN" (0) := ⟨_, PySem.W.mg_of X G z12⟩
  have o_len := PySem.W.mg_none_of X G e0
  have o_range := PySem.W.mg_none_of X G e1
  have o_max := PySem.W.mg_none_of X G e2
  have o_list := PySem.W.mg_none_of X G e3
  have o_min := PySem.W.mg_none_of X G e4
  have o_sum := PySem.W.mg_none_of X G e5
  have o_sorted := PySem.W.mg_none_of X G e6
  have mD0 := PySem.W.mg_of X G aD0
  have D0 : KTab K d0 _ := ⟨⟨_, _, lD0, vD0⟩, oD0⟩
  have mD1 := PySem.W.mg_of X G aD1
  have D1 : KTab K d1 _ := ⟨⟨_, _, lD1, vD1⟩, oD1⟩
  have mT := PySem.W.mg_of X G aT
  have N : TxtN mg := ⟨i_MISSING, i_BARRED, i_ALREADY, i_OUT_OF_RANGE, i_TOO_MANY, i_NOT_BEGUN, i_LONGEST_SIDE, i_MOST_GRAINS, i_MOST_BACK, i_MOST_ENOUGH, i_LATEST_DAY, i_BEGIN, i_NEVER, o_len, o_range, o_max, o_list, o_min, o_sum, o_sorted⟩
  refine ⟨PySem.W.fnOf "answers" "answers" (defArgs sAnswers) (defBody sAnswers) (defScope sAnswers) .none kV60 dc60 pm60 an60 cd60 ct60, fun s us hu => match us, hu with | [_], _ => .of_eq rfl, fun base _ _ => ?_⟩
  have G4 : FnOk P w K mg base CX0 3 f4 _ ["width", "height", "blocked", "grains"] (spSpread K) := ok_spread F4 ⟨⟨i_NEVER, m2⟩, m3, o_len, o_list⟩ F3 b3 F2 b2
  have G5 : FnOk P w K mg base CX0 1 f5 _ ["days", "blocked"] (spAll K) := ok_all F5 N.toC
  have G7 : FnOk P w K mg base CX0 2 f7 _ ["width", "height", "days", "cell"] (spBefore K) := ok_before F7 m2 F2 b2
  have G8 : FnOk P w K mg base CX0 3 f8 _ ["width", "height", "days", "cell"] (spWay K) := ok_way F8 G7 m7 F7 b7
  have G10 : FnOk P w K mg base CX0 4 f10 _ ["width", "height", "blocked"] (spAreas K) := ok_areas F10 N.toC F6 b6 m6 F4 G4 b4 m4 F9 b9 m9
  have G14 : FnOk P w K mg base CX0 4 f14 _ ["width", "height", "blocked", "day", "most"] (spFewest K) := ok_fewest F14 N.toC ⟨m6, m4, m9, m11, m12, m13⟩ o_sum F6 b6 F4 G4 b4 F9 b9 F11 b11 F12 b12 F13 b13
  have G31 : FnOk P w K mg base CX0 4 f31 _ ["bed"] (spDays C) := ok_days F31 T G4 F4 b4 m4
  have GI : FnOk P w K mg base CX0 1 fI _ ["self"] (spInit C) := ok_init FI T
  have G32 : FnOk P w K mg base CX0 4 f32 _ ["bed", "blocked", "grains"] (spFullIf K C) := ok_fullIf F32 T F5 G5 b5 m5 F4 G4 b4 m4
  have G36 : FnOk P w K mg base CX0 2 f36 _ ["bed", "cell"] (spRefuse C) := ok_refuse F36 T N F30 b30 m30
  have G37 : FnOk P w K mg base CX0 3 f37 _ ["bed", "cell"] (spC1 C .block) := ok_block F37 T N F36 G36 b36 m36 F34 b34 m34
  have G38 : FnOk P w K mg base CX0 2 f38 _ ["bed", "cell"] (spC1 C .clear) := ok_clear F38 T N F33 b33 m33 F34 b34 m34
  have G39 : FnOk P w K mg base CX0 2 f39 _ ["bed", "cell"] (spC1 C .grain) := ok_grain F39 T N F30 b30 m30 F34 b34 m34
  have G40 : FnOk P w K mg base CX0 2 f40 _ ["bed", "cell"] (spC1 C .take) := ok_take F40 T N F33 b33 m33 F34 b34 m34
  have G41 : FnOk P w K mg base CX0 1 f41 _ ["bed"] (spC0 C .back) := ok_back F41 T N
  have G42 : FnOk P w K mg base CX0 5 f42 _ ["bed", "cell"] (spC1 C .day) := ok_day F42 T N F30 b30 m30 F31 G31 b31 m31
  have G43 : FnOk P w K mg base CX0 5 f43 _ ["bed"] (spC0 C .full) := ok_full F43 T F32 G32 b32 m32
  have G45 : FnOk P w K mg base CX0 5 f45 _ ["bed", "day"] (spC1 C .run) := ok_run F45 N F44 b44 m44 F31 G31 b31 m31 F9 b9 m9
  have G46 : FnOk P w K mg base CX0 5 f46 _ ["bed", "day"] (spC1 C .onDay) := ok_onDay F46 N F44 b44 m44 F31 G31 b31 m31
  have G47 : FnOk P w K mg base CX0 6 f47 _ ["bed"] (spC0 C .last) := ok_last F47 N F43 G43 b43 m43 F46 G46 b46 m46
  have G48 : FnOk P w K mg base CX0 6 f48 _ ["bed", "cell"] (spC1 C .way) := ok_wayTo F48 T N F42 G42 b42 m42 F8 G8 b8 m8 F44 b44 m44 F31 G31 b31 m31
  have G49 : FnOk P w K mg base CX0 5 f49 _ ["bed"] (spC0 C .best) := ok_best F49 T N F32 G32 b32 m32 F6 b6 m6
  have G50 : FnOk P w K mg base CX0 5 f50 _ ["bed", "day"] (spC1 C .fewest) := ok_few F50 T N F14 G14 b14 m14 F44 b44 m44
  have G51 : FnOk P w K mg base CX0 5 f51 _ ["bed", "cell"] (spC1 C .without) := ok_dayWo F51 T N F32 G32 b32 m32 F33 b33 m33
  have G52 : FnOk P w K mg base CX0 5 f52 _ ["bed", "cell"] (spC1 C .ifBlock) := ok_ifB F52 T N F32 G32 b32 m32 F36 G36 b36 m36
  have G53 : FnOk P w K mg base CX0 5 f53 _ ["bed"] (spC0 C .areas) := ok_areaC F53 T N F10 G10 b10 m10 F44 b44 m44
  have G54 : FnOk P w K mg base CX0 5 f54 _ ["bed"] (spC0 C .map_) := ok_map F54 N F44 b44 m44 F31 G31 b31 m31
  have G55 : FnOk P w K mg base CX0 2 f55 _ ["bed"] (spC0 C .grains) := ok_grains F55 T N F44 b44 m44
  have G56 : FnOk P w K mg base CX0 1 f56 _ ["bed"] (spC0 C .state) := ok_state F56 T N
  have G59 : FnOk P w K mg base CX0 (6 + 1) f59 (PySem.W.fnOf "answer_of" "answer_of" (defArgs sAnswer) (defBody sAnswer) (defScope sAnswer) .none kV59 dc59 pm59 an59 cd59 ct59) ["bed", "call", "numbers"] (spAnswer C) := ok_answer F59 T N D0 D1 mD0 mD1 F35 b35 m35 fun X y1 y2 y3 y4 y5 hr => by
    subst y1 y2 y3 y4 y5
    exact ⟨⟨f41, rfl, _, _, _, G41, hr.mono (by decide), F41.kp, b41⟩, ⟨f43, rfl, _, _, _, G43, hr.mono (by decide), F43.kp, b43⟩, ⟨f47, rfl, _, _, _, G47, hr.mono (by decide), F47.kp, b47⟩, ⟨f49, rfl, _, _, _, G49, hr.mono (by decide), F49.kp, b49⟩, ⟨f53, rfl, _, _, _, G53, hr.mono (by decide), F53.kp, b53⟩, ⟨f54, rfl, _, _, _, G54, hr.mono (by decide), F54.kp, b54⟩, ⟨f55, rfl, _, _, _, G55, hr.mono (by decide), F55.kp, b55⟩, ⟨f56, rfl, _, _, _, G56, hr.mono (by decide), F56.kp, b56⟩, ⟨f37, rfl, _, _, _, G37, hr.mono (by decide), F37.kp, b37⟩, ⟨f38, rfl, _, _, _, G38, hr.mono (by decide), F38.kp, b38⟩, ⟨f39, rfl, _, _, _, G39, hr.mono (by decide), F39.kp, b39⟩, ⟨f40, rfl, _, _, _, G40, hr.mono (by decide), F40.kp, b40⟩, ⟨f42, rfl, _, _, _, G42, hr.mono (by decide), F42.kp, b42⟩, ⟨f45, rfl, _, _, _, G45, hr.mono (by decide), F45.kp, b45⟩, ⟨f46, rfl, _, _, _, G46, hr.mono (by decide), F46.kp, b46⟩, ⟨f48, rfl, _, _, _, G48, hr.mono (by decide), F48.kp, b48⟩, ⟨f50, rfl, _, _, _, G50, hr.mono (by decide), F50.kp, b50⟩, ⟨f51, rfl, _, _, _, G51, hr.mono (by decide), F51.kp, b51⟩, ⟨f52, rfl, _, _, _, G52, hr.mono (by decide), F52.kp, b52⟩, rfl, rfl, rfl, rfl, rfl, rfl, rfl, rfl, rfl, rfl, rfl⟩
  exact ok_answers F60 ⟨PySem.W.mg_of X G aC, mT, tup_sq lT vT (by decide), m59, o_len⟩ ⟨mk, aI, iI, kc⟩ GI bI (by decide) G59 F59.kp b59
end Bed
open PySem PySem.W PyProof.Rows
set_option maxRecDepth 100000 in
set_option maxHeartbeats 8000000 in
theorem PySem.Challenge.cw_spawnbed_s01_answers_holds : PySem.Challenge.rw_spawnbed_s01_answers.Holds := by
  w_on; k_headS; (case hw => exact ⟨[.list [.int 7]], by decide +kernel, by decide +kernel⟩)
  k_fillS
  refine L2.walk_specK (r := PySem.Challenge.rw_spawnbed_s01_answers) (k := 8) (CX := L2.CX0) (ps := ["calls"]) (sp := Bed.spAnswers) (by decide +kernel) rfl rfl ⟨rfl, by decide, by decide⟩ (fun w h Y => PySem.W.kIn_of Y) ?F ?S (fun _ _ _ _ z => z)
  case F =>
    intro w mg fa h Y KX G hmg
    refine' Bed.all_mk KX G hmg ?aC ?aI ?iI ?lI ?cI ?kI ?a2 ?l2 ?c2 ?k2 ?a3 ?l3 ?c3 ?k3 ?a4 ?l4 ?c4 ?k4 ?a5 ?l5 ?c5 ?k5 ?a6 ?l6 ?c6 ?k6 ?a7 ?l7 ?c7 ?k7 ?a8 ?l8 ?c8 ?k8 ?a9 ?l9 ?c9 ?k9 ?a10 ?l10 ?c10 ?k10 ?a11 ?l11 ?c11 ?k11 ?a12 ?l12 ?c12 ?k12 ?a13 ?l13 ?c13 ?k13 ?a14 ?l14 ?c14 ?k14 ?a30 ?l30 ?c30 ?k30 ?a31 ?l31 ?c31 ?k31 ?a32 ?l32 ?c32 ?k32 ?a33 ?l33 ?c33 ?k33 ?a34 ?l34 ?c34 ?k34 ?a35 ?l35 ?c35 ?k35 ?a36 ?l36 ?c36 ?k36 ?a37 ?l37 ?c37 ?k37 ?a38 ?l38 ?c38 ?k38 ?a39 ?l39 ?c39 ?k39 ?a40 ?l40 ?c40 ?k40 ?a41 ?l41 ?c41 ?k41 ?a42 ?l42 ?c42 ?k42 ?a43 ?l43 ?c43 ?k43 ?a44 ?l44 ?c44 ?k44 ?a45 ?l45 ?c45 ?k45 ?a46 ?l46 ?c46 ?k46 ?a47 ?l47 ?c47 ?k47 ?a48 ?l48 ?c48 ?k48 ?a49 ?l49 ?c49 ?k49 ?a50 ?l50 ?c50 ?k50 ?a51 ?l51 ?c51 ?k51 ?a52 ?l52 ?c52 ?k52 ?a53 ?l53 ?c53 ?k53 ?a54 ?l54 ?c54 ?k54 ?a55 ?l55 ?c55 ?k55 ?a56 ?l56 ?c56 ?k56 ?a59 ?l59 ?c59 ?k59 ?a60 ?l60 ?c60 ?k60 ?pg ?hd ?po ?sa ?mk ?kc ?n0 ?n1 ?n2 ?n3 ?n4 ?z0 ?z1 ?z2 ?z3 ?z4 ?z5 ?z6 ?z7 ?z8 ?z9 ?z10 ?z11 ?z12 ?e0 ?e1 ?e2 ?e3 ?e4 ?e5 ?e6 ?aT ?lT ?vT ?aD0 ?lD0 ?vD0 ?oD0 ?aD1 ?lD1 ?vD1 ?oD1
    (case aC => k_is)
    (case aI => k_is)
    (case iI => k_is)
    (case lI => k_is)
    (case cI => k_is)
    (case kI => k_is)
    (case a2 => k_is)
    (case l2 => k_is)
    (case c2 => k_is)
    (case k2 => k_is)
    (case a3 => k_is)
    (case l3 => k_is)
    (case c3 => k_is)
    (case k3 => k_is)
    (case a4 => k_is)
    (case l4 => k_is)
    (case c4 => k_is)
    (case k4 => k_is)
    (case a5 => k_is)
    (case l5 => k_is)
    (case c5 => k_is)
    (case k5 => k_is)
    (case a6 => k_is)
    (case l6 => k_is)
    (case c6 => k_is)
    (case k6 => k_is)
    (case a7 => k_is)
    (case l7 => k_is)
    (case c7 => k_is)
    (case k7 => k_is)
    (case a8 => k_is)
    (case l8 => k_is)
    (case c8 => k_is)
    (case k8 => k_is)
    (case a9 => k_is)
    (case l9 => k_is)
    (case c9 => k_is)
    (case k9 => k_is)
    (case a10 => k_is)
    (case l10 => k_is)
    (case c10 => k_is)
    (case k10 => k_is)
    (case a11 => k_is)
    (case l11 => k_is)
    (case c11 => k_is)
    (case k11 => k_is)
    (case a12 => k_is)
    (case l12 => k_is)
    (case c12 => k_is)
    (case k12 => k_is)
    (case a13 => k_is)
    (case l13 => k_is)
    (case c13 => k_is)
    (case k13 => k_is)
    (case a14 => k_is)
    (case l14 => k_is)
    (case c14 => k_is)
    (case k14 => k_is)
    (case a30 => k_is)
    (case l30 => k_is)
    (case c30 => k_is)
    (case k30 => k_is)
    (case a31 => k_is)
    (case l31 => k_is)
    (case c31 => k_is)
    (case k31 => k_is)
    (case a32 => k_is)
    (case l32 => k_is)
    (case c32 => k_is)
    (case k32 => k_is)
    (case a33 => k_is)
    (case l33 => k_is)
    (case c33 => k_is)
    (case k33 => k_is)
    (case a34 => k_is)
    (case l34 => k_is)
    (case c34 => k_is)
    (case k34 => k_is)
    (case a35 => k_is)
    (case l35 => k_is)
    (case c35 => k_is)
    (case k35 => k_is)
    (case a36 => k_is)
    (case l36 => k_is)
    (case c36 => k_is)
    (case k36 => k_is)
    (case a37 => k_is)
    (case l37 => k_is)
    (case c37 => k_is)
    (case k37 => k_is)
    (case a38 => k_is)
    (case l38 => k_is)
    (case c38 => k_is)
    (case k38 => k_is)
    (case a39 => k_is)
    (case l39 => k_is)
    (case c39 => k_is)
    (case k39 => k_is)
    (case a40 => k_is)
    (case l40 => k_is)
    (case c40 => k_is)
    (case k40 => k_is)
    (case a41 => k_is)
    (case l41 => k_is)
    (case c41 => k_is)
    (case k41 => k_is)
    (case a42 => k_is)
    (case l42 => k_is)
    (case c42 => k_is)
    (case k42 => k_is)
    (case a43 => k_is)
    (case l43 => k_is)
    (case c43 => k_is)
    (case k43 => k_is)
    (case a44 => k_is)
    (case l44 => k_is)
    (case c44 => k_is)
    (case k44 => k_is)
    (case a45 => k_is)
    (case l45 => k_is)
    (case c45 => k_is)
    (case k45 => k_is)
    (case a46 => k_is)
    (case l46 => k_is)
    (case c46 => k_is)
    (case k46 => k_is)
    (case a47 => k_is)
    (case l47 => k_is)
    (case c47 => k_is)
    (case k47 => k_is)
    (case a48 => k_is)
    (case l48 => k_is)
    (case c48 => k_is)
    (case k48 => k_is)
    (case a49 => k_is)
    (case l49 => k_is)
    (case c49 => k_is)
    (case k49 => k_is)
    (case a50 => k_is)
    (case l50 => k_is)
    (case c50 => k_is)
    (case k50 => k_is)
    (case a51 => k_is)
    (case l51 => k_is)
    (case c51 => k_is)
    (case k51 => k_is)
    (case a52 => k_is)
    (case l52 => k_is)
    (case c52 => k_is)
    (case k52 => k_is)
    (case a53 => k_is)
    (case l53 => k_is)
    (case c53 => k_is)
    (case k53 => k_is)
    (case a54 => k_is)
    (case l54 => k_is)
    (case c54 => k_is)
    (case k54 => k_is)
    (case a55 => k_is)
    (case l55 => k_is)
    (case c55 => k_is)
    (case k55 => k_is)
    (case a56 => k_is)
    (case l56 => k_is)
    (case c56 => k_is)
    (case k56 => k_is)
    (case a59 => k_is)
    (case l59 => k_is)
    (case c59 => k_is)
    (case k59 => k_is)
    (case a60 => k_is)
    (case l60 => k_is)
    (case c60 => k_is)
    (case k60 => k_is)
    (case pg => k_is)
    (case hd => k_is)
    (case po => k_is)
    (case sa => k_is)
    (case mk => k_is)
    (case kc => k_is)
    (case n0 => k_is)
    (case n1 => k_is)
    (case n2 => k_is)
    (case n3 => k_is)
    (case n4 => k_is)
    (case z0 => k_is)
    (case z1 => k_is)
    (case z2 => k_is)
    (case z3 => k_is)
    (case z4 => k_is)
    (case z5 => k_is)
    (case z6 => k_is)
    (case z7 => k_is)
    (case z8 => k_is)
    (case z9 => k_is)
    (case z10 => k_is)
    (case z11 => k_is)
    (case z12 => k_is)
    (case e0 => k_is)
    (case e1 => k_is)
    (case e2 => k_is)
    (case e3 => k_is)
    (case e4 => k_is)
    (case e5 => k_is)
    (case e6 => k_is)
    (case aT => k_is)
    (case lT => k_is)
    (case vT => exact ⟨⟨_, rfl⟩, ⟨_, rfl⟩, ⟨_, rfl⟩, ⟨_, rfl⟩, ⟨_, rfl⟩, ⟨_, rfl⟩, ⟨_, rfl⟩, ⟨_, rfl⟩, ⟨_, rfl⟩, ⟨_, rfl⟩, ⟨_, rfl⟩, ⟨_, rfl⟩, ⟨_, rfl⟩, ⟨_, rfl⟩, ⟨_, rfl⟩, ⟨_, rfl⟩, ⟨_, rfl⟩, ⟨_, rfl⟩, ⟨_, rfl⟩, ⟨_, rfl⟩, trivial⟩)
    (case aD0 => k_is)
    (case lD0 => k_is)
    (case vD0 => exact ⟨⟨_, rfl⟩, ⟨_, rfl⟩, ⟨_, rfl⟩, ⟨_, rfl⟩, ⟨_, rfl⟩, ⟨_, rfl⟩, ⟨_, rfl⟩, ⟨_, rfl⟩, trivial⟩)
    (case oD0 => rfl)
    (case aD1 => k_is)
    (case lD1 => k_is)
    (case vD1 => exact ⟨⟨_, rfl⟩, ⟨_, rfl⟩, ⟨_, rfl⟩, ⟨_, rfl⟩, ⟨_, rfl⟩, ⟨_, rfl⟩, ⟨_, rfl⟩, ⟨_, rfl⟩, ⟨_, rfl⟩, ⟨_, rfl⟩, ⟨_, rfl⟩, trivial⟩)
    (case oD1 => rfl)
  case S =>
    intro K H xs a hO hwi hask hx
    exact Bed.request hwi hask hx
#print axioms PySem.Challenge.cw_spawnbed_s01_answers_holds
