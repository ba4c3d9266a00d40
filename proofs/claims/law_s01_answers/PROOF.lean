import PyProof.Rows.All
import Wide.All
import OpenK.AllK
import Wide.FinOn
import PyProof.EqAt
import PyProof.EqKinds
import PyProof.TupleCall
import Open.SpecLaws
import KE.OsGo
import HandS.ForSpec
import HandS.Comp
import HandS.Dict
import HandS.Iter
import HandS.Walk
import HandS.Wide
import PySem.Challenge.RW_earthheaps_s01_answers
import HandS.ExcSuper
set_option Elab.async false
set_option linter.all false
set_option maxRecDepth 100000
set_option maxHeartbeats 4000000
/-! Sums over the first n places, of rationals. -/
namespace OT
set_option linter.unusedVariables false

def S : Nat → (Nat → Rat) → Rat
  | 0, _ => 0
  | n + 1, f => S n f + f n

theorem S_congr : ∀ {n : Nat} {f g : Nat → Rat}, (∀ i, i < n → f i = g i) → S n f = S n g
  | 0, _, _, _ => rfl
  | n + 1, f, g, h => by
    show S n f + f n = S n g + g n
    rw [S_congr (n := n) (fun i hi => h i (by omega)), h n (by omega)]
theorem S_add : ∀ {n : Nat} {f g : Nat → Rat}, S n (fun i => f i + g i) = S n f + S n g
  | 0, _, _ => by show (0 : Rat) = 0 + 0; grind
  | n + 1, f, g => by
    show S n (fun i => f i + g i) + (f n + g n) = S n f + f n + (S n g + g n)
    rw [S_add (n := n)]; grind
theorem S_sub : ∀ {n : Nat} {f g : Nat → Rat}, S n (fun i => f i - g i) = S n f - S n g
  | 0, _, _ => by show (0 : Rat) = 0 - 0; grind
  | n + 1, f, g => by
    show S n (fun i => f i - g i) + (f n - g n) = S n f + f n - (S n g + g n)
    rw [S_sub (n := n)]; grind
theorem S_mul : ∀ {n : Nat} {c : Rat} {f : Nat → Rat}, S n (fun i => c * f i) = c * S n f
  | 0, c, _ => by show (0 : Rat) = c * 0; grind
  | n + 1, c, f => by
    show S n (fun i => c * f i) + c * f n = c * (S n f + f n)
    rw [S_mul (n := n)]; grind
theorem S_zero : ∀ {n : Nat}, S n (fun _ => 0) = 0
  | 0 => rfl
  | n + 1 => by
    show S n (fun _ => 0) + 0 = 0
    rw [S_zero]; grind
theorem S_zero' {n : Nat} {f : Nat → Rat} (h : ∀ i, i < n → f i = 0) : S n f = 0 := (S_congr h).trans S_zero
theorem S_comm : ∀ {n m : Nat} {f : Nat → Nat → Rat}, S n (fun i => S m (fun j => f i j)) = S m (fun j => S n (fun i => f i j))
  | 0, m, f => (S_zero (n := m)).symm
  | n + 1, m, f => by
    show S n (fun i => S m (fun j => f i j)) + S m (fun j => f n j) = S m (fun j => S n (fun i => f i j) + f n j)
    rw [S_comm (n := n), S_add]
theorem S_le : ∀ {n : Nat} {f g : Nat → Rat}, (∀ i, i < n → f i ≤ g i) → S n f ≤ S n g
  | 0, _, _, _ => by show (0 : Rat) ≤ 0; grind
  | n + 1, f, g, h => by
    show S n f + f n ≤ S n g + g n
    have a := S_le (n := n) (f := f) (g := g) (fun i hi => h i (by omega))
    have b := h n (by omega)
    grind
theorem S_nonneg {n : Nat} {f : Nat → Rat} (h : ∀ i, i < n → 0 ≤ f i) : 0 ≤ S n f := by
  have a := S_le (n := n) (f := fun _ => 0) (g := f) h
  rw [S_zero] at a; exact a
theorem S_eq_zero : ∀ {n : Nat} {f : Nat → Rat}, (∀ i, i < n → 0 ≤ f i) → S n f = 0 → ∀ i, i < n → f i = 0
  | 0, _, _, _ => fun i hi => by omega
  | n + 1, f, h, e => by
    have e' : S n f + f n = 0 := e
    have a := S_nonneg (n := n) (f := f) (fun i hi => h i (by omega))
    have b := h n (by omega)
    have c : S n f = 0 := by grind
    have d := S_eq_zero (n := n) (f := f) (fun i hi => h i (by omega)) c
    intro i hi
    by_cases q : i = n
    · subst q; grind
    · exact d i (by omega)
theorem S_one : ∀ {n k : Nat} {f : Nat → Rat}, k < n → (∀ i, i < n → i ≠ k → f i = 0) → S n f = f k
  | 0, _, _, h, _ => by omega
  | n + 1, k, f, h, z => by
    show S n f + f n = f k
    by_cases q : k = n
    · subst q
      rw [S_zero' (fun i hi => z i (by omega) (by omega))]; grind
    · rw [S_one (n := n) (k := k) (by omega) (fun i hi => z i (by omega)), z n (by omega) (fun e => q e.symm)]; grind
theorem S_ge_one {n k : Nat} {f : Nat → Rat} (hk : k < n) (h : ∀ i, i < n → 0 ≤ f i) : f k ≤ S n f := by
  have a : S n f = S n (fun i => (if i = k then f k else 0) + (if i = k then 0 else f i)) := S_congr fun i hi => by
    by_cases q : i = k
    · rw [if_pos q, if_pos q, q]; grind
    · rw [if_neg q, if_neg q]; grind
  rw [a, S_add, S_one (k := k) hk (fun i _ q => if_neg q), if_pos rfl]
  have b : 0 ≤ S n (fun i => if i = k then 0 else f i) := S_nonneg fun i hi => by
    by_cases q : i = k
    · rw [if_pos q]; grind
    · rw [if_neg q]; exact h i hi
  grind
/-- one place more or less -/
theorem S_at {n k : Nat} {f : Nat → Rat} {v : Rat} (hk : k < n) : S n (fun i => f i + (if i = k then v else 0)) = S n f + v := by
  rw [S_add, S_one (f := fun i => if i = k then v else 0) hk (fun i _ q => if_neg q), if_pos rfl]
theorem S_at_neg {n k : Nat} {f : Nat → Rat} {v : Rat} (hk : k < n) : S n (fun i => f i - (if i = k then v else 0)) = S n f - v := by
  rw [S_sub, S_one (f := fun i => if i = k then v else 0) hk (fun i _ q => if_neg q), if_pos rfl]
end OT

/-! Plans, costs, prices; the greatest of several plans. -/
namespace OT
set_option linter.unusedVariables false
abbrev Mat := Nat → Nat → Rat

structure Plan (n : Nat) (A B : Nat → Rat) (p : Mat) : Prop where
  nn : ∀ i j, i < n → j < n → 0 ≤ p i j
  row : ∀ i, i < n → S n (fun j => p i j) = A i
  col : ∀ j, j < n → S n (fun i => p i j) = B j
def cost (n : Nat) (d : Nat → Nat → Int) (p : Mat) : Rat := S n fun i => S n fun j => (d i j : Rat) * p i j
def Feas (n : Nat) (d : Nat → Nat → Int) (f : Nat → Int) : Prop := ∀ i j, i < n → j < n → f j - f i ≤ d i j
def Tight (n : Nat) (d : Nat → Nat → Int) (f : Nat → Int) (p : Mat) : Prop := ∀ i j, i < n → j < n → 0 < p i j → f j - f i = d i j
def value (n : Nat) (f : Nat → Int) (A B : Nat → Rat) : Rat := S n fun i => (f i : Rat) * (B i - A i)

theorem int_le {a b : Int} : (a : Rat) ≤ (b : Rat) ↔ a ≤ b := Rat.intCast_le_intCast
theorem int_sub {a b : Int} : ((a - b : Int) : Rat) = (a : Rat) - (b : Rat) := Rat.intCast_sub a b

theorem gap {n d f} {A B : Nat → Rat} {p : Mat} (h : Plan n A B p) :
    cost n d p = value n f A B + S n fun i => S n fun j => ((d i j - (f j - f i) : Int) : Rat) * p i j := by
  have e1 : value n f A B = S n (fun j => S n (fun i => (f j : Rat) * p i j)) - S n (fun i => S n (fun j => (f i : Rat) * p i j)) := by
    rw [← S_sub]
    refine S_congr fun i hi => ?_
    rw [S_mul, S_mul, h.row i hi, h.col i hi]; grind
  rw [e1, S_comm (n := n) (m := n) (f := fun j i => (f j : Rat) * p i j), ← S_sub, ← S_add]
  refine S_congr fun i hi => ?_
  show S n (fun j => (d i j : Rat) * p i j) = S n (fun j => (f j : Rat) * p i j) - S n (fun j => (f i : Rat) * p i j) + S n (fun j => ((d i j - (f j - f i) : Int) : Rat) * p i j)
  rw [← S_sub, ← S_add]
  refine S_congr fun j hj => ?_
  rw [int_sub, int_sub]; grind

theorem gap_term {n d f} {p : Mat} (hf : Feas n d f) (nn : ∀ i j, i < n → j < n → 0 ≤ p i j) : ∀ i j, i < n → j < n → 0 ≤ ((d i j - (f j - f i) : Int) : Rat) * p i j := by
  intro i j hi hj
  have a := hf i j hi hj
  have b : (0 : Rat) ≤ ((d i j - (f j - f i) : Int) : Rat) := by
    have := (int_le (a := 0) (b := d i j - (f j - f i))).mpr (by omega)
    simpa using this
  exact Rat.mul_nonneg b (nn i j hi hj)
/-- no prices tell more than a plan costs -/
theorem value_le {n d f} {A B : Nat → Rat} {p : Mat} (h : Plan n A B p) (hf : Feas n d f) : value n f A B ≤ cost n d p := by
  rw [gap (f := f) h]
  have a : 0 ≤ S n fun i => S n fun j => ((d i j - (f j - f i) : Int) : Rat) * p i j :=
    S_nonneg fun i hi => S_nonneg fun j hj => gap_term hf h.nn i j hi hj
  grind
theorem cost_of_tight {n d f} {A B : Nat → Rat} {p : Mat} (h : Plan n A B p) (t : Tight n d f p) : cost n d p = value n f A B := by
  rw [gap (f := f) h]
  have a : (S n fun i => S n fun j => ((d i j - (f j - f i) : Int) : Rat) * p i j) = 0 :=
    S_zero' fun i hi => S_zero' fun j hj => by
      rcases Rat.le_iff_lt_or_eq.mp (h.nn i j hi hj) with q | q
      · rw [t i j hi hj q]; simp
      · rw [← q]; grind
  rw [a]; grind
theorem tight_of_cost {n d f} {A B : Nat → Rat} {p : Mat} (h : Plan n A B p) (hf : Feas n d f) (e : cost n d p ≤ value n f A B) : Tight n d f p := by
  have a : 0 ≤ S n fun i => S n fun j => ((d i j - (f j - f i) : Int) : Rat) * p i j :=
    S_nonneg fun i hi => S_nonneg fun j hj => gap_term hf h.nn i j hi hj
  rw [gap (f := f) h] at e
  have z : (S n fun i => S n fun j => ((d i j - (f j - f i) : Int) : Rat) * p i j) = 0 := by grind
  intro i j hi hj q
  have z1 := S_eq_zero (fun i hi => S_nonneg fun j hj => gap_term hf h.nn i j hi hj) z i hi
  have z2 := S_eq_zero (fun j hj => gap_term hf h.nn i j hi hj) z1 j hj
  rcases Rat.mul_eq_zero.mp z2 with y | y
  · have := hf i j hi hj
    have y' : d i j - (f j - f i) = 0 := by exact_mod_cast y
    omega
  · grind

structure Optimal (n : Nat) (d : Nat → Nat → Int) (A B : Nat → Rat) (p : Mat) : Prop where
  plan : Plan n A B p
  least : ∀ q, Plan n A B q → cost n d p ≤ cost n d q
theorem optimal_of {n d f} {A B : Nat → Rat} {p : Mat} (h : Plan n A B p) (hf : Feas n d f) (t : Tight n d f p) : Optimal n d A B p :=
  ⟨h, fun q hq => by rw [cost_of_tight h t]; exact value_le hq hf⟩
/-- with prices that fit one optimal plan: the optimal plans are those that the prices fit -/
theorem optimal_iff {n d f} {A B : Nat → Rat} {p q : Mat} (h : Plan n A B p) (hf : Feas n d f) (t : Tight n d f p) : Optimal n d A B q ↔ Plan n A B q ∧ Tight n d f q :=
  ⟨fun o => ⟨o.plan, tight_of_cost o.plan hf (by rw [← cost_of_tight h t]; exact o.least p h)⟩, fun ⟨a, b⟩ => optimal_of a hf b⟩

/-! ### The greatest plan, entry by entry -/
def Before (i' j' i j : Nat) : Prop := i' < i ∨ (i' = i ∧ j' < j)
structure Lex (n : Nat) (X : Mat → Prop) (p : Mat) : Prop where
  mem : X p
  most : ∀ q, X q → ∀ i j, i < n → j < n → (∀ i' j', i' < n → j' < n → Before i' j' i j → q i' j' = p i' j') → q i j ≤ p i j
theorem lex_unique {n X} {p q : Mat} (hp : Lex n X p) (hq : Lex n X q) : ∀ i j, i < n → j < n → p i j = q i j := by
  intro i
  induction i using Nat.strongRecOn with
  | ind i ih1 =>
    intro j
    induction j using Nat.strongRecOn with
    | ind j ih2 =>
      intro hi hj
      have e : ∀ i' j', i' < n → j' < n → Before i' j' i j → p i' j' = q i' j' := by
        intro i' j' hi' hj' b
        rcases b with b | ⟨b, c⟩
        · exact ih1 i' b j' hi' hj'
        · subst b; exact ih2 j' c hi' hj'
      have a := hp.most q hq.mem i j hi hj fun i' j' h1 h2 b => (e i' j' h1 h2 b).symm
      have b := hq.most p hp.mem i j hi hj e
      grind
theorem Lex.congr {n X Y} {p : Mat} (h : ∀ q, X q ↔ Y q) (hp : Lex n X p) : Lex n Y p :=
  ⟨(h p).mp hp.mem, fun q hq => hp.most q ((h q).mpr hq)⟩
theorem cost_congr {n d} {p q : Mat} (h : ∀ i j, i < n → j < n → p i j = q i j) : cost n d p = cost n d q :=
  S_congr fun i hi => S_congr fun j hj => by rw [h i j hi hj]
/-- the greatest prices that tell the most -/
structure Prices (n : Nat) (d : Nat → Nat → Int) (A B : Nat → Rat) (f : Nat → Int) : Prop where
  zero : f 0 = 0
  feas : Feas n d f
  most : ∀ g, Feas n d g → value n g A B ≤ value n f A B
  great : ∀ g, Feas n d g → g 0 = 0 → value n f A B ≤ value n g A B → ∀ j, j < n → g j ≤ f j
theorem prices_unique {n d f g} {A B : Nat → Rat} (hf : Prices n d A B f) (hg : Prices n d A B g) : ∀ j, j < n → f j = g j := fun j hj => by
  have a := hf.great g hg.feas hg.zero (hg.most f hf.feas) j hj
  have b := hg.great f hf.feas hf.zero (hf.most g hg.feas) j hj
  omega
end OT

/-! Ways along weighted arcs; rounds that find the shortest. -/
namespace OT
set_option linter.unusedVariables false
abbrev Arcs := Nat → Nat → Int → Prop
/-- the places gone through, the last one first; where it ends; its length -/
inductive Way (src : Nat → Prop) (E : Arcs) : List Nat → Nat → Int → Prop
  | nil {s : Nat} : src s → Way src E [s] s 0
  | snoc {l : List Nat} {u v : Nat} {x w : Int} : Way src E l u x → E u v w → Way src E (v :: l) v (x + w)

theorem Way.head {src E l v x} (h : Way src E l v x) : ∃ r, l = v :: r := by
  cases h with
  | nil => exact ⟨_, rfl⟩
  | snoc => exact ⟨_, rfl⟩
theorem Way.mono {src src' : Nat → Prop} {E E' : Arcs} {l v x} (hs : ∀ s, src s → src' s) (he : ∀ u v w, E u v w → E' u v w) (h : Way src E l v x) : Way src' E' l v x := by
  induction h with
  | nil a => exact .nil (hs _ a)
  | snoc _ a ih => exact .snoc ih (he _ _ _ a)
/-- by prices that no arc beats: what a way's part to an earlier place leaves -/
theorem Way.part {src E} {f : Nat → Int} (hf : ∀ u v w, E u v w → f v ≤ f u + w) {l v x} (h : Way src E l v x) :
    ∀ u, u ∈ l → ∃ l' x', Way src E l' u x' ∧ l' <:+ l ∧ x' + f v - f u ≤ x := by
  induction h with
  | nil a =>
    intro u hu
    have : u = _ := List.mem_singleton.mp hu
    subst this
    exact ⟨_, _, .nil a, List.suffix_refl _, by omega⟩
  | @snoc l u' v' x' w' a b ih =>
    intro u hu
    rcases List.mem_cons.mp hu with q | q
    · subst q
      exact ⟨_, _, .snoc a b, List.suffix_refl _, by omega⟩
    · obtain ⟨l2, x2, c1, c2, c3⟩ := ih u q
      have := hf _ _ _ b
      exact ⟨l2, x2, c1, List.suffix_cons_iff.mpr (.inr c2), by omega⟩
theorem Way.simple {src E} {f : Nat → Int} (hf : ∀ u v w, E u v w → f v ≤ f u + w) {l v x} (h : Way src E l v x) :
    ∃ l' x', Way src E l' v x' ∧ x' ≤ x ∧ l'.Nodup ∧ ∀ z, z ∈ l' → z ∈ l := by
  induction h with
  | nil a => exact ⟨_, _, .nil a, by omega, by simp, fun z hz => hz⟩
  | @snoc l u v x w a b ih =>
    obtain ⟨l1, x1, c1, c2, c3, c4⟩ := ih
    by_cases q : v ∈ l1
    · obtain ⟨l2, x2, e1, e2, e3⟩ := c1.part hf v q
      have := hf _ _ _ b
      exact ⟨l2, x2, e1, by omega, c3.sublist e2.sublist, fun z hz => List.mem_cons_of_mem _ (c4 z (e2.sublist.subset hz))⟩
    · refine ⟨v :: l1, x1 + w, .snoc c1 b, by omega, List.nodup_cons.mpr ⟨q, c3⟩, fun z hz => ?_⟩
      rcases List.mem_cons.mp hz with y | y
      · subst y; exact List.mem_cons_self
      · exact List.mem_cons_of_mem _ (c4 z y)
theorem Way.atLeast {src E} {f : Nat → Int} (hf : ∀ u v w, E u v w → f v ≤ f u + w) (hs : ∀ s, src s → f s ≤ 0) {l v x} (h : Way src E l v x) : f v ≤ x := by
  induction h with
  | nil a => exact hs _ a
  | snoc _ b ih => have := hf _ _ _ b; omega
theorem Way.within {src : Nat → Prop} {E : Arcs} {N : Nat} (hs : ∀ s, src s → s < N) (he : ∀ u v w, E u v w → v < N) {l v x} (h : Way src E l v x) : ∀ z, z ∈ l → z < N := by
  induction h with
  | nil a => intro z hz; have := List.mem_singleton.mp hz; subst this; exact hs _ a
  | snoc _ b ih =>
    intro z hz
    rcases List.mem_cons.mp hz with q | q
    · subst q; exact he _ _ _ b
    · exact ih z q
theorem nodup_len {N : Nat} {l : List Nat} (h : l.Nodup) (hl : ∀ z, z ∈ l → z < N) : l.length ≤ N := by
  have := List.Nodup.length_le_of_subset (l₂ := List.range N) h (fun z hz => List.mem_range.mpr (hl z hz))
  simpa using this

/-- At most y is told. -/
def AtMost (o : Option Int) (x : Int) : Prop := ∃ y, o = some y ∧ y ≤ x
theorem AtMost.le {o x x'} (h : AtMost o x) (q : x ≤ x') : AtMost o x' := by
  obtain ⟨y, a, b⟩ := h; exact ⟨y, a, by omega⟩
/-- rounds: each makes every arc good by what stood before it -/
structure Rounds (src : Nat → Prop) (E : Arcs) (cur : Nat → Nat → Option Int) : Prop where
  start : ∀ s, src s → AtMost (cur 0 s) 0
  mono : ∀ k v x, AtMost (cur k v) x → AtMost (cur (k + 1) v) x
  relax : ∀ k u v w x, E u v w → AtMost (cur k u) x → AtMost (cur (k + 1) v) (x + w)
theorem Rounds.start' {src E cur} (R : Rounds src E cur) {s : Nat} (h : src s) : ∀ k, AtMost (cur k s) 0
  | 0 => R.start s h
  | k + 1 => R.mono k s 0 (R.start' h k)
theorem Rounds.reach {src E cur} (R : Rounds src E cur) {l v x} (h : Way src E l v x) : ∀ k, l.length ≤ k + 1 → AtMost (cur k v) x := by
  induction h with
  | nil a => exact fun k _ => R.start' a k
  | @snoc l u v x w a b ih =>
    intro k hk
    obtain ⟨r, hr⟩ := a.head
    cases k with
    | zero => rw [hr] at hk; simp at hk
    | succ k => exact R.relax k u v w x b (ih k (by simpa using hk))
/-- no arc goes round below 0, and the rounds were as many as there are places: what is told is the least of all ways -/
theorem Rounds.done {src E cur N} (R : Rounds src E cur) {f : Nat → Int} (hf : ∀ u v w, E u v w → f v ≤ f u + w) (hs : ∀ s, src s → s < N) (he : ∀ u v w, E u v w → v < N)
    {l v x} (h : Way src E l v x) (k : Nat) (hk : N ≤ k + 1) : AtMost (cur k v) x := by
  obtain ⟨l1, x1, a, b, c, d⟩ := h.simple hf
  have := nodup_len c (a.within hs he)
  exact (R.reach a k (by omega)).le b
end OT

/-! The specification's fractions as rationals. -/
namespace OT
set_option linter.unusedVariables false
open Sr58 (Frac frac plus times less whole total)
open Sr66 (minus over zero neg Fit)

def val (f : Frac) : Rat := mkRat f.n f.d
def fr (r : Rat) : Frac := ⟨r.num, r.den⟩
theorem val_fr (r : Rat) : val (fr r) = r := Rat.mkRat_self r
theorem fr_inj {a b : Rat} (h : fr a = fr b) : a = b := by rw [← val_fr a, h, val_fr]
theorem frac_eq (n : Int) (d : Nat) : frac n d = fr (mkRat n d) := by
  have e : fr (mkRat n d) = ⟨if d = 0 then 0 else n / (d.gcd n.natAbs : Nat), if d = 0 then 1 else d / d.gcd n.natAbs⟩ := by
    unfold fr; rw [Rat.num_mkRat, Rat.den_mkRat]
  rw [e]
  have c : Nat.gcd n.natAbs d = d.gcd n.natAbs := Nat.gcd_comm _ _
  show (if Nat.gcd n.natAbs d = 0 then (⟨0, 1⟩ : Frac) else if d / Nat.gcd n.natAbs d = 0 then ⟨0, 1⟩ else ⟨n / ((Nat.gcd n.natAbs d : Nat) : Int), d / Nat.gcd n.natAbs d⟩) = _
  rw [c]
  by_cases hd : d = 0
  · subst hd
    rw [if_pos rfl, if_pos rfl]
    by_cases q : Nat.gcd 0 n.natAbs = 0
    · rw [if_pos q]
    · rw [if_neg q, if_pos (Nat.zero_div _)]
  · rw [if_neg hd, if_neg hd]
    have g1 : d.gcd n.natAbs ≠ 0 := fun q => hd (Nat.eq_zero_of_gcd_eq_zero_left q)
    have g2 : d / d.gcd n.natAbs ≠ 0 := by
      have h1 := Nat.gcd_le_left n.natAbs (Nat.pos_of_ne_zero hd)
      have := Nat.div_pos h1 (Nat.pos_of_ne_zero g1)
      omega
    rw [if_neg g1, if_neg g2]
def Ok (f : Frac) : Prop := f = fr (val f)
theorem ok_fr (r : Rat) : Ok (fr r) := by unfold Ok; rw [val_fr]
theorem ok_frac (n : Int) (d : Nat) : Ok (frac n d) := by rw [frac_eq]; exact ok_fr _
theorem val_frac (n : Int) (d : Nat) : val (frac n d) = mkRat n d := by rw [frac_eq, val_fr]
theorem Ok.d {f : Frac} (h : Ok f) : f.d ≠ 0 := by
  have e : f.d = (val f).den := congrArg Frac.d h
  rw [e]; exact (val f).den_nz
theorem Ok.nn {f : Frac} (h : Ok f) : f.n = (val f).num := congrArg Frac.n h
theorem Ok.dd {f : Frac} (h : Ok f) : f.d = (val f).den := congrArg Frac.d h
theorem Ok.inj {a b : Frac} (ha : Ok a) (hb : Ok b) (h : val a = val b) : a = b := by rw [ha, hb, h]
theorem ok_whole (n : Int) : Ok (whole n) := by
  show (⟨n, 1⟩ : Frac) = fr (mkRat n 1)
  rw [← frac_eq]
  unfold frac
  simp
theorem val_whole (n : Int) : val (whole n) = (n : Rat) := by
  show mkRat n 1 = n
  rw [Rat.mkRat_eq_div]; simp; grind
theorem ok_zero : Ok zero := ok_whole 0
theorem val_zero : val zero = 0 := val_whole 0
theorem plus_eq {a b : Frac} (ha : a.d ≠ 0) (hb : b.d ≠ 0) : plus a b = fr (val a + val b) := by
  show frac _ _ = _
  rw [frac_eq]; unfold val; rw [Rat.mkRat_add_mkRat _ _ ha hb]
theorem plus_ok {a b : Frac} (ha : Ok a) (hb : Ok b) : plus a b = fr (val a + val b) := plus_eq ha.d hb.d
theorem times_eq (a b : Frac) : times a b = fr (val a * val b) := by
  show frac _ _ = _
  rw [frac_eq]; unfold val; rw [Rat.mkRat_mul_mkRat]
theorem ok_plus (a b : Frac) : Ok (plus a b) := ok_frac _ _
theorem val_plus {a b : Frac} (ha : Ok a) (hb : Ok b) : val (plus a b) = val a + val b := by rw [plus_ok ha hb, val_fr]
theorem ok_times (a b : Frac) : Ok (times a b) := ok_frac _ _
theorem val_times (a b : Frac) : val (times a b) = val a * val b := by rw [times_eq, val_fr]
theorem val_neg (a : Frac) : val (neg a) = - val a := by
  show mkRat (-a.n) a.d = - mkRat a.n a.d
  rw [Rat.neg_mkRat]
theorem ok_neg {a : Frac} (h : Ok a) : Ok (neg a) := by
  unfold Ok; rw [val_neg]
  show (⟨-a.n, a.d⟩ : Frac) = ⟨(-(val a)).num, (-(val a)).den⟩
  rw [Rat.neg_num, Rat.neg_den, ← h.nn, ← h.dd]
theorem ok_minus (a b : Frac) : Ok (minus a b) := ok_frac _ _
theorem val_minus {a b : Frac} (ha : Ok a) (hb : Ok b) : val (minus a b) = val a - val b := by
  unfold minus; rw [val_plus ha (ok_neg hb), val_neg]; grind
theorem ok_over (a b : Frac) : Ok (over a b) := by
  unfold over; split <;> exact ok_frac _ _
theorem val_over {a b : Frac} (ha : a.d ≠ 0) (hb : 0 < b.n) : val (over a b) = val a / val b := by
  unfold over
  rw [if_neg (by omega), val_frac, Rat.mkRat_eq_div]
  unfold val
  rw [Rat.mkRat_eq_div, Rat.mkRat_eq_div]
  have e : ((b.n.natAbs : Nat) : Rat) = (b.n : Rat) := by
    have : ((b.n.natAbs : Nat) : Int) = b.n := by omega
    rw [← Rat.intCast_natCast, this]
  have e1 : ((a.n * (b.d : Int) : Int) : Rat) = (a.n : Rat) * (b.d : Rat) := by rw [Rat.intCast_mul, Rat.intCast_natCast]
  have e2 : ((a.d * b.n.natAbs : Nat) : Rat) = (a.d : Rat) * (b.n : Rat) := by rw [Rat.natCast_mul, e]
  rw [e1, e2]
  have h1 : (b.n : Rat) ≠ 0 := by
    intro q
    have : (0 : Rat) < (b.n : Rat) := Rat.intCast_pos.mpr hb
    grind
  have h2 : (a.d : Rat) ≠ 0 := by
    intro q
    have : (0 : Rat) < (a.d : Rat) := Rat.natCast_pos.mpr (Nat.pos_of_ne_zero ha)
    grind
  by_cases h3 : (b.d : Rat) = 0
  · rw [h3]; grind
  · grind
theorem less_iff {a b : Frac} (ha : Ok a) (hb : Ok b) : less a b = true ↔ val a < val b := by
  unfold less
  rw [decide_eq_true_iff, Rat.lt_iff, ha.nn, hb.nn, ha.dd, hb.dd]
theorem pos_iff {a : Frac} (ha : Ok a) : 0 < a.n ↔ 0 < val a := by
  rw [ha.nn, Rat.lt_iff]
  simp
theorem nonneg_iff {a : Frac} (ha : Ok a) : 0 ≤ a.n ↔ 0 ≤ val a := by
  rw [ha.nn]; exact Rat.num_nonneg
theorem zero_iff {a : Frac} (ha : Ok a) : a.n = 0 ↔ val a = 0 := by
  rw [ha.nn]; exact Rat.num_eq_zero
theorem ok_least {a b : Frac} (ha : Ok a) (hb : Ok b) : Ok (Sr80.least a b) := by
  unfold Sr80.least; split <;> assumption
theorem val_least {a b : Frac} (ha : Ok a) (hb : Ok b) : val (Sr80.least a b) = if val b < val a then val b else val a := by
  unfold Sr80.least
  by_cases q : val b < val a
  · rw [if_pos q, if_pos ((less_iff hb ha).mpr q)]
  · rw [if_neg q, if_neg (fun z => q ((less_iff hb ha).mp z))]

/-! ### Totals -/
def sumL : List Rat → Rat
  | [] => 0
  | x :: l => x + sumL l
theorem sumL_append : ∀ (a b : List Rat), sumL (a ++ b) = sumL a + sumL b
  | [], b => by show sumL b = 0 + sumL b; grind
  | x :: a, b => by
    show x + sumL (a ++ b) = x + sumL a + sumL b
    rw [sumL_append a b]; grind
theorem sumL_range : ∀ (n : Nat) (g : Nat → Rat), sumL ((List.range n).map g) = S n g
  | 0, g => rfl
  | n + 1, g => by
    rw [List.range_succ, List.map_append, sumL_append, sumL_range n g]
    show S n g + (g n + 0) = S n g + g n
    grind
theorem sumL_flat : ∀ (l : List Nat) (G : Nat → List Rat), sumL (l.flatMap G) = sumL (l.map fun i => sumL (G i))
  | [], G => rfl
  | x :: l, G => by
    rw [List.flatMap_cons, sumL_append, sumL_flat l G]; rfl
theorem foldl_plus : ∀ (l : List Frac) (z : Frac), Ok z → (∀ x, x ∈ l → Ok x) → l.foldl plus z = fr (val z + sumL (l.map val))
  | [], z, hz, _ => by
    show z = fr (val z + 0)
    rw [Rat.add_zero]; exact hz
  | x :: l, z, hz, h => by
    rw [List.foldl_cons, foldl_plus l (plus z x) (ok_plus _ _) (fun y hy => h y (List.mem_cons_of_mem _ hy)), val_plus hz (h x List.mem_cons_self)]
    show fr (val z + val x + sumL (l.map val)) = fr (val z + (val x + sumL (l.map val)))
    rw [Rat.add_assoc]
theorem total_eq {l : List Frac} (h : ∀ x, x ∈ l → Ok x) : total l = fr (sumL (l.map val)) := by
  unfold total
  rw [foldl_plus l (whole 0) ok_zero h, show val (whole 0) = 0 from val_zero, Rat.zero_add]
theorem ok_total {l : List Frac} (h : ∀ x, x ∈ l → Ok x) : Ok (total l) := by rw [total_eq h]; exact ok_fr _
theorem total_range {n : Nat} {g : Nat → Frac} (h : ∀ i, i < n → Ok (g i)) : total ((List.range n).map g) = fr (S n fun i => val (g i)) := by
  rw [total_eq (by
    intro x hx
    obtain ⟨i, hi, rfl⟩ := List.mem_map.mp hx
    exact h i (List.mem_range.mp hi)), List.map_map]
  show fr (sumL ((List.range n).map fun i => val (g i))) = _
  rw [sumL_range]

/-! ### Spreads and plans: of lists the values by place -/
open Sr80 (Spread cAt pAt)
theorem getD_range {α : Type} {n i : Nat} {g : Nat → α} {z : α} (h : i < n) : ((List.range n).map g).getD i z = g i := by
  rw [List.getD_eq_getElem?_getD, List.getElem?_map, List.getElem?_range h]; rfl
theorem getD_range_out {α : Type} {n i : Nat} {g : Nat → α} {z : α} (h : ¬ i < n) : ((List.range n).map g).getD i z = z := by
  rw [List.getD_eq_getElem?_getD, List.getElem?_eq_none (by simp; omega)]; rfl
def sp (a : Spread) : Nat → Rat := fun i => val (cAt a i)
def mt (p : Sr80.Plan) : Nat → Nat → Rat := fun i j => val (pAt p i j)
def OkS (a : Spread) : Prop := ∀ x, x ∈ a → Ok x
def OkP (p : Sr80.Plan) : Prop := ∀ r, r ∈ p → OkS r
theorem ok_getD {a : Spread} (h : OkS a) (i : Nat) : Ok (a.getD i zero) := by
  rw [List.getD_eq_getElem?_getD]
  cases e : a[i]? with
  | none => exact ok_zero
  | some x => exact h x (List.mem_of_getElem? e)
theorem ok_cAt {a : Spread} (h : OkS a) (i : Nat) : Ok (cAt a i) := ok_getD h i
theorem ok_row {p : Sr80.Plan} (h : OkP p) (i : Nat) : OkS (p.getD i []) := by
  rw [List.getD_eq_getElem?_getD]
  cases e : p[i]? with
  | none => intro x hx; cases hx
  | some x => exact h x (List.mem_of_getElem? e)
theorem ok_pAt {p : Sr80.Plan} (h : OkP p) (i j : Nat) : Ok (pAt p i j) := ok_getD (ok_row h i) j
/-- n rows of n -/
structure Sq (n : Nat) (p : Sr80.Plan) : Prop where
  rows : p.length = n
  row : ∀ i, i < n → (p.getD i []).length = n
end OT

/-! The specification's distances are the shortest ways. -/
namespace OT
set_option linter.unusedVariables false
/-- the lesser of what is told -/
def mn (m c : Option Int) : Option Int := match c with
  | none => m
  | some z => match m with
    | none => some z
    | some y => some (min y z)
theorem mn_left {m c : Option Int} {x : Int} (h : AtMost m x) : AtMost (mn m c) x := by
  obtain ⟨y, rfl, hy⟩ := h
  cases c with
  | none => exact ⟨y, rfl, hy⟩
  | some z => exact ⟨min y z, rfl, by omega⟩
theorem mn_right {m c : Option Int} {x : Int} (h : AtMost c x) : AtMost (mn m c) x := by
  obtain ⟨y, rfl, hy⟩ := h
  cases m with
  | none => exact ⟨y, rfl, hy⟩
  | some z => exact ⟨min z y, rfl, by omega⟩
theorem mn_from {m c : Option Int} {x : Int} (h : mn m c = some x) : m = some x ∨ c = some x := by
  cases c with
  | none => exact .inl h
  | some z =>
    cases m with
    | none => exact .inr h
    | some y =>
      have e : min y z = x := Option.some.inj h
      by_cases q : y ≤ z
      · exact .inl (by rw [← e, Int.min_eq_left q])
      · exact .inr (by rw [← e, Int.min_eq_right (by omega)])
theorem fold_mn_keep {c : Nat → Option Int} : ∀ (l : List Nat) (m : Option Int) (x : Int), AtMost m x → AtMost (l.foldl (fun m i => mn m (c i)) m) x
  | [], m, x, h => h
  | i :: l, m, x, h => fold_mn_keep l _ x (mn_left h)
theorem fold_mn_item {c : Nat → Option Int} : ∀ (l : List Nat) (m : Option Int) (i : Nat) (x : Int), i ∈ l → AtMost (c i) x → AtMost (l.foldl (fun m i => mn m (c i)) m) x
  | j :: l, m, i, x, h, a => by
    rcases List.mem_cons.mp h with q | q
    · subst q; exact fold_mn_keep l _ x (mn_right a)
    · exact fold_mn_item l _ i x q a
theorem fold_mn_from {c : Nat → Option Int} : ∀ (l : List Nat) (m : Option Int) (x : Int), l.foldl (fun m i => mn m (c i)) m = some x → m = some x ∨ ∃ i, i ∈ l ∧ c i = some x
  | [], m, x, h => .inl h
  | j :: l, m, x, h => by
    rcases fold_mn_from l _ x h with q | ⟨i, a, b⟩
    · rcases mn_from q with y | y
      · exact .inl y
      · exact .inr ⟨j, List.mem_cons_self, y⟩
    · exact .inr ⟨i, List.mem_cons_of_mem _ a, b⟩

/-- What is told is the length of a shortest way; nothing is told where there is none. -/
structure Dist (src : Nat → Prop) (E : Arcs) (v : Nat) (o : Option Int) : Prop where
  least : ∀ l x, Way src E l v x → AtMost o x
  way : ∀ x, o = some x → ∃ l, Way src E l v x
theorem Dist.unique {src E v o o'} (h : Dist src E v o) (h' : Dist src E v o') : o = o' := by
  cases o with
  | none =>
    cases o' with
    | none => rfl
    | some x =>
      obtain ⟨l, w⟩ := h'.way x rfl
      obtain ⟨y, e, _⟩ := h.least l x w
      cases e
  | some x =>
    obtain ⟨l, w⟩ := h.way x rfl
    obtain ⟨y, e, q⟩ := h'.least l x w
    subst e
    obtain ⟨l2, w2⟩ := h'.way y rfl
    obtain ⟨y2, e2, q2⟩ := h.least l2 y w2
    cases e2
    exact congrArg some (by omega)

section
open Sr82 (way farStep rounds farFrom far hangs dist dAt Ways)
def toI (o : Option Nat) : Option Int := o.map fun x => (x : Int)
/-- the ways between two places -/
def WayArc (n : Nat) (g : Ways) : Arcs := fun u v w => u < n ∧ v < n ∧ way g u v ≠ 0 ∧ w = (way g u v : Int)
def farC (g : Ways) (d : List (Option Nat)) (j i : Nat) : Option Int := match d.getD i none with
  | none => none
  | some x => if way g i j = 0 then none else some ((x : Int) + (way g i j : Int))
theorem farStep_at {n : Nat} {g : Ways} {d : List (Option Nat)} {j : Nat} (hj : j < n) :
    toI ((farStep n g d).getD j none) = (List.range n).foldl (fun m i => mn m (farC g d j i)) (toI (d.getD j none)) := by
  unfold farStep
  rw [getD_range hj]
  refine (List.foldl_hom toI (g₁ := _) (g₂ := _) (H := ?_)).symm
  intro m i
  unfold farC
  cases d.getD i none with
  | none => rfl
  | some x =>
    by_cases q : way g i j = 0
    · simp only [q, if_pos]; rfl
    · simp only [q, if_false]
      cases m with
      | none => show some _ = some _; simp
      | some y => show some _ = some _; simp only [Option.some.injEq]; omega
theorem farStep_out {n : Nat} {g : Ways} {d : List (Option Nat)} {j : Nat} (hj : ¬ j < n) : (farStep n g d).getD j none = none := by
  unfold farStep; rw [getD_range_out hj]
theorem rounds_succ {n : Nat} {g : Ways} : ∀ (k : Nat) (d : List (Option Nat)), rounds n g (k + 1) d = farStep n g (rounds n g k d)
  | 0, d => rfl
  | k + 1, d => by
    show rounds n g (k + 1) (farStep n g d) = farStep n g (rounds n g k (farStep n g d))
    rw [rounds_succ k]
def far0 (n i : Nat) : List (Option Nat) := (List.range n).map fun j => if i = j then some 0 else none
def farCur (n : Nat) (g : Ways) (i k v : Nat) : Option Int := toI ((rounds n g k (far0 n i)).getD v none)
theorem farCur_succ {n g i k v} (hv : v < n) : farCur n g i (k + 1) v = (List.range n).foldl (fun m u => mn m (farC g (rounds n g k (far0 n i)) v u)) (farCur n g i k v) := by
  unfold farCur
  rw [rounds_succ, farStep_at hv]
theorem farCur_out {n g i k v} (hv : ¬ v < n) : farCur n g i k v = none := by
  unfold farCur
  cases k with
  | zero => show toI ((far0 n i).getD v none) = none; unfold far0; rw [getD_range_out hv]; rfl
  | succ k => rw [rounds_succ, farStep_out hv]; rfl
theorem far_rounds {n : Nat} {g : Ways} {i : Nat} (hi : i < n) : Rounds (fun s => s = i) (WayArc n g) (farCur n g i) where
  start := by
    rintro s rfl
    refine ⟨0, ?_, by omega⟩
    show toI ((far0 n s).getD s none) = some 0
    unfold far0; rw [getD_range hi, if_pos rfl]; rfl
  mono := by
    intro k v x h
    by_cases hv : v < n
    · rw [farCur_succ hv]; exact fold_mn_keep _ _ _ h
    · rw [farCur_out hv] at h
      obtain ⟨y, e, _⟩ := h
      cases e
  relax := by
    rintro k u v w x ⟨hu, hv, q, rfl⟩ h
    rw [farCur_succ hv]
    refine fold_mn_item _ _ u _ (List.mem_range.mpr hu) ?_
    obtain ⟨y, e, b⟩ := h
    unfold farCur at e
    unfold farC
    cases c : (rounds n g k (far0 n i)).getD u none with
    | none => rw [c] at e; cases e
    | some z =>
      rw [c] at e
      have e' : (z : Int) = y := Option.some.inj e
      simp only [q, if_false]
      exact ⟨_, rfl, by omega⟩
theorem far_sound {n : Nat} {g : Ways} {i : Nat} (hi : i < n) : ∀ (k v : Nat) (x : Int), farCur n g i k v = some x → ∃ l, Way (fun s => s = i) (WayArc n g) l v x
  | 0, v, x, h => by
    by_cases hv : v < n
    · have h' : toI ((far0 n i).getD v none) = some x := h
      unfold far0 at h'
      rw [getD_range hv] at h'
      by_cases q : i = v
      · rw [if_pos q] at h'
        have e : (0 : Int) = x := Option.some.inj h'
        subst q e
        exact ⟨_, .nil rfl⟩
      · rw [if_neg q] at h'; cases h'
    · rw [farCur_out hv] at h; cases h
  | k + 1, v, x, h => by
    by_cases hv : v < n
    · rw [farCur_succ hv] at h
      rcases fold_mn_from _ _ _ h with q | ⟨u, a, b⟩
      · exact far_sound hi k v x q
      · unfold farC at b
        cases c : (rounds n g k (far0 n i)).getD u none with
        | none => rw [c] at b; cases b
        | some z =>
          rw [c] at b
          by_cases q : way g u v = 0
          · simp only [q, if_pos] at b; cases b
          · simp only [q, if_false] at b
            have e : (z : Int) + (way g u v : Int) = x := Option.some.inj b
            obtain ⟨l, w⟩ := far_sound hi k u z (by unfold farCur; rw [c]; rfl)
            subst e
            exact ⟨_, .snoc w ⟨List.mem_range.mp a, hv, q, rfl⟩⟩
    · rw [farCur_out hv] at h; cases h
theorem WayArc.nn {n g u v w} (h : WayArc n g u v w) : 0 ≤ w := by obtain ⟨_, _, _, rfl⟩ := h; omega
theorem far_dist {n : Nat} {g : Ways} {i j : Nat} (hi : i < n) : Dist (fun s => s = i) (WayArc n g) j (toI (far n g i j)) where
  least := fun l x w => (far_rounds hi).done (f := fun _ => 0) (N := n) (fun u v w h => by have := h.nn; omega) (fun s h => h ▸ hi) (fun u v w h => h.2.1) w n (by omega)
  way := fun x h => far_sound hi n j x h
end
end OT

/-! More along a way on steps to the right, less on steps back. -/
namespace OT
set_option linter.unusedVariables false
def upd (p : Mat) (i j : Nat) (v : Rat) : Mat := fun i' j' => if i' = i ∧ j' = j then v else p i' j'
theorem upd_at {p : Mat} {i j : Nat} {v : Rat} : upd p i j v i j = v := if_pos ⟨rfl, rfl⟩
theorem upd_off {p : Mat} {i j i' j' : Nat} {v : Rat} (h : ¬ (i' = i ∧ j' = j)) : upd p i j v i' j' = p i' j' := if_neg h
def pushF (n : Nat) (v : Rat) : List Nat → Mat → Mat
  | x :: y :: l, p => pushF n v (y :: l) (if y < n then upd p y (x - n) (p y (x - n) + v) else upd p x (y - n) (p x (y - n) - v))
  | _, p => p
/-- x stands right ahead of y -/
def Adj : List Nat → Nat → Nat → Prop
  | a :: b :: l, x, y => (a = x ∧ b = y) ∨ Adj (b :: l) x y
  | _, _, _ => False
/-- places by turns of both sides -/
def Bip (n : Nat) (l : List Nat) : Prop := ∀ x y, Adj l x y → (y < n ∧ n ≤ x ∧ x < n + n) ∨ (x < n ∧ n ≤ y ∧ y < n + n)
theorem Adj.left {l x y} (h : Adj l x y) : x ∈ l := by
  induction l with
  | nil => cases h
  | cons a l ih =>
    cases l with
    | nil => cases h
    | cons b l =>
      rcases h with ⟨rfl, rfl⟩ | h
      · exact List.mem_cons_self
      · exact List.mem_cons_of_mem _ (ih h)
theorem Adj.right {l x y} (h : Adj l x y) : y ∈ l := by
  induction l with
  | nil => cases h
  | cons a l ih =>
    cases l with
    | nil => cases h
    | cons b l =>
      rcases h with ⟨rfl, rfl⟩ | h
      · exact List.mem_cons_of_mem _ List.mem_cons_self
      · exact List.mem_cons_of_mem _ (ih h)
theorem Bip.tail {n a b l} (h : Bip n (a :: b :: l)) : Bip n (b :: l) := fun x y q => h x y (.inr q)
theorem Bip.head {n a b l} (h : Bip n (a :: b :: l)) : (b < n ∧ n ≤ a ∧ a < n + n) ∨ (a < n ∧ n ≤ b ∧ b < n + n) := h a b (.inl ⟨rfl, rfl⟩)
/-- what stands at each pair behind a push -/
structure PushAt (n : Nat) (v : Rat) (l : List Nat) (p q : Mat) : Prop where
  up : ∀ i j, i < n → Adj l (n + j) i → q i j = p i j + v
  down : ∀ i j, i < n → Adj l i (n + j) → q i j = p i j - v
  same : ∀ i j, i < n → ¬ Adj l (n + j) i → ¬ Adj l i (n + j) → q i j = p i j
theorem push_at {n v} : ∀ (l : List Nat) (p : Mat), l.Nodup → Bip n l → PushAt n v l p (pushF n v l p)
  | [], p, _, _ => ⟨fun i j _ h => (nomatch h), fun i j _ h => (nomatch h), fun i j _ _ _ => rfl⟩
  | [a], p, _, _ => ⟨fun i j _ h => (nomatch h), fun i j _ h => (nomatch h), fun i j _ _ _ => rfl⟩
  | a :: b :: l, p, hn, hb => by
    obtain ⟨ha, hn'⟩ := List.nodup_cons.mp hn
    have hne : a ≠ b := fun e => ha (e ▸ List.mem_cons_self)
    rcases hb.head with ⟨q1, q2, q3⟩ | ⟨q1, q2, q3⟩
    · have e : pushF n v (a :: b :: l) p = pushF n v (b :: l) (upd p b (a - n) (p b (a - n) + v)) := by
        show pushF n v (b :: l) (if b < n then _ else _) = _
        rw [if_pos q1]
      rw [e]
      have R := push_at (v := v) (b :: l) (upd p b (a - n) (p b (a - n) + v)) hn' hb.tail
      refine ⟨fun i j hi h => ?_, fun i j hi h => ?_, fun i j hi h1 h2 => ?_⟩
      · rcases h with ⟨e1, e2⟩ | h
        · subst e2
          have e3 : j = a - n := by omega
          subst e3
          rw [R.same _ _ hi (fun z => ha (by have := z.left; rwa [← e1] at this)) (fun z => ha (by have := z.right; rwa [← e1] at this)), upd_at]
        · rw [R.up i j hi h, upd_off]
          rintro ⟨e1, e2⟩
          have : n + j = a := by omega
          exact ha (this ▸ h.left)
      · rcases h with ⟨e1, e2⟩ | h
        · omega
        · rw [R.down i j hi h, upd_off]
          rintro ⟨e1, e2⟩
          have : n + j = a := by omega
          exact ha (this ▸ h.right)
      · rw [R.same i j hi (fun z => h1 (.inr z)) (fun z => h2 (.inr z)), upd_off]
        rintro ⟨e1, e2⟩
        exact h1 (.inl ⟨by omega, e1.symm⟩)
    · have e : pushF n v (a :: b :: l) p = pushF n v (b :: l) (upd p a (b - n) (p a (b - n) - v)) := by
        show pushF n v (b :: l) (if b < n then _ else _) = _
        rw [if_neg (by omega)]
      rw [e]
      have R := push_at (v := v) (b :: l) (upd p a (b - n) (p a (b - n) - v)) hn' hb.tail
      refine ⟨fun i j hi h => ?_, fun i j hi h => ?_, fun i j hi h1 h2 => ?_⟩
      · rcases h with ⟨e1, e2⟩ | h
        · omega
        · rw [R.up i j hi h, upd_off]
          rintro ⟨e1, e2⟩
          exact ha (e1 ▸ h.right)
      · rcases h with ⟨e1, e2⟩ | h
        · subst e1
          have e3 : j = b - n := by omega
          subst e3
          rw [R.same _ _ hi (fun z => ha z.right) (fun z => ha z.left), upd_at]
        · rw [R.down i j hi h, upd_off]
          rintro ⟨e1, e2⟩
          exact ha (e1 ▸ h.left)
      · rw [R.same i j hi (fun z => h1 (.inr z)) (fun z => h2 (.inr z)), upd_off]
        rintro ⟨e1, e2⟩
        exact h2 (.inl ⟨e1.symm, by omega⟩)

theorem S_upd_row {n i j : Nat} {p : Mat} {v : Rat} (hj : j < n) (i' : Nat) : S n (fun j' => upd p i j (p i j + v) i' j') = S n (fun j' => p i' j') + (if i' = i then v else 0) := by
  by_cases q : i' = i
  · subst q
    rw [if_pos rfl, ← S_at (k := j) hj]
    refine S_congr fun j' _ => ?_
    by_cases y : j' = j
    · subst y; rw [upd_at, if_pos rfl]
    · rw [upd_off (fun z => y z.2), if_neg y, Rat.add_zero]
  · rw [if_neg q, Rat.add_zero]
    exact S_congr fun j' _ => upd_off (fun z => q z.1)
theorem S_upd_col {n i j : Nat} {p : Mat} {v : Rat} (hi : i < n) (j' : Nat) : S n (fun i' => upd p i j (p i j + v) i' j') = S n (fun i' => p i' j') + (if j' = j then v else 0) := by
  by_cases q : j' = j
  · subst q
    rw [if_pos rfl, ← S_at (k := i) hi]
    refine S_congr fun i' _ => ?_
    by_cases y : i' = i
    · subst y; rw [upd_at, if_pos rfl]
    · rw [upd_off (fun z => y z.1), if_neg y, Rat.add_zero]
  · rw [if_neg q, Rat.add_zero]
    exact S_congr fun i' _ => upd_off (fun z => q z.2)
/-- which sums change: those of the two ends -/
theorem push_row {n v} : ∀ (l : List Nat) (x : Nat) (p : Mat), Bip n (x :: l) → ∀ i, i < n →
    S n (fun j => pushF n v (x :: l) p i j) = S n (fun j => p i j) + (if i = (x :: l).getLastD 0 then v else 0) - (if i = x then v else 0)
  | [], x, p, _, i, _ => by
    show S n (fun j => p i j) = S n (fun j => p i j) + (if i = x then v else 0) - (if i = x then v else 0)
    grind
  | y :: l, x, p, hb, i, hi => by
    have e0 : (x :: y :: l).getLastD 0 = (y :: l).getLastD 0 := by simp [List.getLastD]
    rw [e0]
    rcases hb.head with ⟨q1, q2, q3⟩ | ⟨q1, q2, q3⟩
    · have e : pushF n v (x :: y :: l) p = pushF n v (y :: l) (upd p y (x - n) (p y (x - n) + v)) := by
        show pushF n v (y :: l) (if y < n then _ else _) = _
        rw [if_pos q1]
      rw [e, push_row l y _ hb.tail i hi, S_upd_row (by omega), if_neg (show ¬ i = x by omega)]
      grind
    · have e : pushF n v (x :: y :: l) p = pushF n v (y :: l) (upd p x (y - n) (p x (y - n) + -v)) := by
        show pushF n v (y :: l) (if y < n then _ else _) = _
        rw [if_neg (by omega), Rat.sub_eq_add_neg]
      rw [e, push_row l y _ hb.tail i hi, S_upd_row (by omega), if_neg (show ¬ i = y by omega)]
      grind
theorem push_col {n v} : ∀ (l : List Nat) (x : Nat) (p : Mat), Bip n (x :: l) → ∀ j, j < n →
    S n (fun i => pushF n v (x :: l) p i j) = S n (fun i => p i j) - (if n + j = (x :: l).getLastD 0 then v else 0) + (if n + j = x then v else 0)
  | [], x, p, _, j, _ => by
    show S n (fun i => p i j) = S n (fun i => p i j) - (if n + j = x then v else 0) + (if n + j = x then v else 0)
    grind
  | y :: l, x, p, hb, j, hj => by
    have e0 : (x :: y :: l).getLastD 0 = (y :: l).getLastD 0 := by simp [List.getLastD]
    rw [e0]
    rcases hb.head with ⟨q1, q2, q3⟩ | ⟨q1, q2, q3⟩
    · have e : pushF n v (x :: y :: l) p = pushF n v (y :: l) (upd p y (x - n) (p y (x - n) + v)) := by
        show pushF n v (y :: l) (if y < n then _ else _) = _
        rw [if_pos q1]
      rw [e, push_col l y _ hb.tail j hj, S_upd_col (by omega)]
      have z1 : (j = x - n) ↔ (n + j = x) := by omega
      have z2 : ¬ n + j = y := by omega
      rw [if_neg z2]; simp only [z1]; grind
    · have e : pushF n v (x :: y :: l) p = pushF n v (y :: l) (upd p x (y - n) (p x (y - n) + -v)) := by
        show pushF n v (y :: l) (if y < n then _ else _) = _
        rw [if_neg (by omega), Rat.sub_eq_add_neg]
      rw [e, push_col l y _ hb.tail j hj, S_upd_col (by omega)]
      have z1 : (j = y - n) ↔ (n + j = y) := by omega
      have z2 : ¬ n + j = x := by omega
      rw [if_neg z2]; simp only [z1]; grind

/-! ### Ways and what stands side by side in them -/
theorem Way.adj {src E l e x} (h : Way src E l e x) : ∀ v u, Adj l v u → ∃ w, E u v w := by
  induction h with
  | nil a => intro v u z; cases z
  | @snoc l u' v' x' w' a b ih =>
    intro v u z
    obtain ⟨r, rfl⟩ := a.head
    rcases z with ⟨rfl, rfl⟩ | z
    · exact ⟨_, b⟩
    · exact ih v u z
/-- along a shortest way the prices are just met -/
theorem Way.tight {src E} {f : Nat → Int} (hf : ∀ u v w, E u v w → f v ≤ f u + w) (hs : ∀ s, src s → f s ≤ 0) {l e x} (h : Way src E l e x) :
    x ≤ f e → ∀ v u, Adj l v u → ∃ w, E u v w ∧ f v = f u + w := by
  induction h with
  | nil a => intro _ v u z; cases z
  | @snoc l u' v' x' w' a b ih =>
    intro hx v u z
    have h1 := a.atLeast hf hs
    have h2 := hf _ _ _ b
    obtain ⟨r, rfl⟩ := a.head
    rcases z with ⟨rfl, rfl⟩ | z
    · exact ⟨_, b, by omega⟩
    · exact ih (by omega) v u z
theorem Way.last {src E l e x} (h : Way src E l e x) : src (l.getLastD 0) := by
  induction h with
  | nil a => exact a
  | @snoc l u' v' x' w' a b ih =>
    obtain ⟨r, rfl⟩ := a.head
    have e0 : (v' :: u' :: r).getLastD 0 = (u' :: r).getLastD 0 := by simp [List.getLastD]
    rw [e0]; exact ih
end OT

/-! The specification's search for shortest ways with the ways kept. -/
namespace OT
set_option linter.unusedVariables false
open Sr82 (relax relaxes)
abbrev Arc := Nat × Nat × Int
abbrev St := List (Option (Int × List Nat))
def cur (s : St) (v : Nat) : Option Int := (s.getD v none).map (·.1)
/-- a way each of whose parts is no shorter than what is told -/
inductive WL (src : Nat → Prop) (E : Arcs) (c : Nat → Option Int) : List Nat → Nat → Int → Prop
  | nil {s : Nat} : src s → AtMost (c s) 0 → WL src E c [s] s 0
  | snoc {l : List Nat} {u v : Nat} {x w : Int} : WL src E c l u x → E u v w → AtMost (c v) (x + w) → WL src E c (v :: l) v (x + w)
theorem WL.way {src E c l v x} (h : WL src E c l v x) : Way src E l v x := by
  induction h with
  | nil a _ => exact .nil a
  | snoc _ a _ ih => exact .snoc ih a
theorem WL.mono {src E} {c c' : Nat → Option Int} (hc : ∀ v x, AtMost (c v) x → AtMost (c' v) x) {l v x} (h : WL src E c l v x) : WL src E c' l v x := by
  induction h with
  | nil a b => exact .nil a (hc _ _ b)
  | snoc _ a b ih => exact .snoc ih a (hc _ _ b)
theorem WL.part {src E c} {f : Nat → Int} (hf : ∀ u v w, E u v w → f v ≤ f u + w) {l v x} (h : WL src E c l v x) :
    ∀ u, u ∈ l → ∃ y, c u = some y ∧ y + f v - f u ≤ x := by
  induction h with
  | nil a b =>
    intro u hu
    have : u = _ := List.mem_singleton.mp hu
    subst this
    obtain ⟨y, e, q⟩ := b
    exact ⟨y, e, by omega⟩
  | @snoc l u' v' x' w' a b d ih =>
    intro u hu
    rcases List.mem_cons.mp hu with q | q
    · subst q
      obtain ⟨y, e, q⟩ := d
      exact ⟨y, e, by omega⟩
    · obtain ⟨y, e, q2⟩ := ih u q
      have := hf _ _ _ b
      exact ⟨y, e, by omega⟩
structure RI (src : Nat → Prop) (E : Arcs) (N : Nat) (s : St) : Prop where
  len : s.length = N
  ways : ∀ v z l, s.getD v none = some (z, l) → WL src E (cur s) l v z ∧ l.Nodup
def relax1 (s : St) (y : Arc) : St := match s.getD y.1 none with
  | none => s
  | some x => let z := x.1 + y.2.2
    match s.getD y.2.1 none with
    | none => s.set y.2.1 (some (z, y.2.1 :: x.2))
    | some t => if z < t.1 then s.set y.2.1 (some (z, y.2.1 :: x.2)) else s
theorem relax_eq (l : List Arc) (s : St) : relax l s = l.foldl relax1 s := rfl
theorem getD_set_self {α : Type} {s : List α} {v : Nat} {a z : α} (h : v < s.length) : (s.set v a).getD v z = a := by
  rw [List.getD_eq_getElem?_getD, List.getElem?_set_self h]; rfl
theorem getD_set_ne {α : Type} {s : List α} {v u : Nat} {a z : α} (h : v ≠ u) : (s.set v a).getD u z = s.getD u z := by
  rw [List.getD_eq_getElem?_getD, List.getD_eq_getElem?_getD, List.getElem?_set_ne h]
/-- what one arc does -/
structure Step1 (src : Nat → Prop) (E : Arcs) (N : Nat) (y : Arc) (s s' : St) : Prop where
  inv : RI src E N s'
  mono : ∀ v x, AtMost (cur s v) x → AtMost (cur s' v) x
  arc : ∀ x, AtMost (cur s y.1) x → AtMost (cur s' y.2.1) (x + y.2.2)
theorem relax1_ok {src E N} {f : Nat → Int} (hf : ∀ u v w, E u v w → f v ≤ f u + w) (he : ∀ u v w, E u v w → v < N) {s : St} {y : Arc} (I : RI src E N s) (hy : E y.1 y.2.1 y.2.2) :
    Step1 src E N y s (relax1 s y) := by
  obtain ⟨u, v, w⟩ := y
  have hv : v < N := he _ _ _ hy
  have new : ∀ x l, s.getD u none = some (x, l) → (∀ t l', s.getD v none = some (t, l') → x + w < t) → Step1 src E N (u, v, w) s (s.set v (some (x + w, v :: l))) := by
    intro x l e lt
    obtain ⟨W, nd⟩ := I.ways u x l e
    have cv : cur (s.set v (some (x + w, v :: l))) v = some (x + w) := by
      unfold cur; rw [getD_set_self (by rw [I.len]; exact hv)]; rfl
    have cne : ∀ t, v ≠ t → cur (s.set v (some (x + w, v :: l))) t = cur s t := fun t q => by
      unfold cur; rw [getD_set_ne q]
    have mono : ∀ t a, AtMost (cur s t) a → AtMost (cur (s.set v (some (x + w, v :: l))) t) a := by
      intro t a h
      by_cases q : v = t
      · subst q
        obtain ⟨b, eb, hb⟩ := h
        refine ⟨_, cv, ?_⟩
        unfold cur at eb
        cases c : s.getD v none with
        | none => rw [c] at eb; cases eb
        | some p =>
          rw [c] at eb
          have : p.1 = b := Option.some.inj eb
          have := lt p.1 p.2 c
          omega
      · rw [cne t q]; exact h
    refine ⟨⟨by rw [List.length_set]; exact I.len, fun t z l' q => ?_⟩, mono, fun a h => ?_⟩
    · by_cases e2 : v = t
      · subst e2
        rw [getD_set_self (by rw [I.len]; exact hv)] at q
        cases q
        refine ⟨.snoc (W.mono mono) hy ⟨_, cv, by omega⟩, List.nodup_cons.mpr ⟨fun hm => ?_, nd⟩⟩
        obtain ⟨b, eb, hb⟩ := W.part hf v hm
        have := hf _ _ _ hy
        unfold cur at eb
        cases c : s.getD v none with
        | none => rw [c] at eb; cases eb
        | some p =>
          rw [c] at eb
          have e3 : p.1 = b := Option.some.inj eb
          have := lt p.1 p.2 c
          simp only at *
          omega
      · rw [getD_set_ne e2] at q
        obtain ⟨W2, nd2⟩ := I.ways t z l' q
        exact ⟨W2.mono mono, nd2⟩
    · obtain ⟨b, eb, hb⟩ := h
      refine ⟨_, cv, ?_⟩
      unfold cur at eb
      simp only at eb
      rw [e] at eb
      have : x = b := Option.some.inj eb
      show x + w ≤ a + w
      omega
  unfold relax1
  show Step1 src E N (u, v, w) s (match s.getD u none with
    | none => s
    | some x => match s.getD v none with
      | none => s.set v (some (x.1 + w, v :: x.2))
      | some t => if x.1 + w < t.1 then s.set v (some (x.1 + w, v :: x.2)) else s)
  cases e : s.getD u none with
  | none =>
    refine ⟨I, fun _ _ h => h, fun a h => ?_⟩
    obtain ⟨b, eb, hb⟩ := h
    unfold cur at eb
    simp only at eb
    rw [e] at eb; cases eb
  | some p =>
    obtain ⟨x, l⟩ := p
    cases e2 : s.getD v none with
    | none => exact new x l e (fun t l' q => by rw [e2] at q; cases q)
    | some t =>
      show Step1 src E N (u, v, w) s (if x + w < t.1 then s.set v (some (x + w, v :: l)) else s)
      by_cases q : x + w < t.1
      · rw [if_pos q]
        exact new x l e (fun t' l' q' => by rw [e2] at q'; cases q'; exact q)
      · rw [if_neg q]
        refine ⟨I, fun _ _ h => h, fun a h => ?_⟩
        obtain ⟨b, eb, hb⟩ := h
        unfold cur at eb
        simp only at eb
        rw [e] at eb
        have : x = b := Option.some.inj eb
        refine ⟨t.1, by unfold cur; rw [e2]; rfl, ?_⟩
        show t.1 ≤ a + w
        omega
theorem relax_all {src E N} {f : Nat → Int} (hf : ∀ u v w, E u v w → f v ≤ f u + w) (he : ∀ u v w, E u v w → v < N) :
    ∀ (L : List Arc) (s : St), RI src E N s → (∀ y, y ∈ L → E y.1 y.2.1 y.2.2) →
      RI src E N (L.foldl relax1 s) ∧ (∀ v x, AtMost (cur s v) x → AtMost (cur (L.foldl relax1 s) v) x) ∧
      ∀ y, y ∈ L → ∀ x, AtMost (cur s y.1) x → AtMost (cur (L.foldl relax1 s) y.2.1) (x + y.2.2)
  | [], s, I, _ => ⟨I, fun _ _ h => h, fun y hy => nomatch hy⟩
  | y :: L, s, I, h => by
    have R := relax1_ok hf he I (h y List.mem_cons_self)
    obtain ⟨a, b, c⟩ := relax_all hf he L (relax1 s y) R.inv (fun z hz => h z (List.mem_cons_of_mem _ hz))
    refine ⟨a, fun v x q => b v x (R.mono v x q), fun z hz x q => ?_⟩
    rcases List.mem_cons.mp hz with e | e
    · subst e
      exact b _ _ (R.arc x q)
    · exact c z e x (R.mono _ _ q)
theorem relaxes_succ {L : List Arc} : ∀ (k : Nat) (s : St), relaxes L (k + 1) s = relax L (relaxes L k s)
  | 0, s => rfl
  | k + 1, s => by
    show relaxes L (k + 1) (relax L s) = relax L (relaxes L k (relax L s))
    rw [relaxes_succ k]
theorem relaxes_inv {src E N} {f : Nat → Int} (hf : ∀ u v w, E u v w → f v ≤ f u + w) (he : ∀ u v w, E u v w → v < N) {L : List Arc} (hL : ∀ y, y ∈ L → E y.1 y.2.1 y.2.2) {s : St} (I : RI src E N s) :
    ∀ k, RI src E N (relaxes L k s)
  | 0 => I
  | k + 1 => by rw [relaxes_succ, relax_eq]; exact (relax_all hf he L _ (relaxes_inv hf he hL I k) hL).1
/-- behind N rounds: ways that are simple and shortest -/
structure Found (src : Nat → Prop) (E : Arcs) (N : Nat) (s : St) : Prop where
  inv : RI src E N s
  start : ∀ v, src v → AtMost (cur s v) 0
  arc : ∀ u v w x, E u v w → AtMost (cur s u) x → AtMost (cur s v) (x + w)
theorem relaxes_found {src E N} {f : Nat → Int} (hf : ∀ u v w, E u v w → f v ≤ f u + w) (he : ∀ u v w, E u v w → v < N) (hsN : ∀ v, src v → v < N) {L : List Arc} (hL : ∀ u v w, E u v w ↔ (u, v, w) ∈ L) {s : St} (I : RI src E N s)
    (h0 : ∀ v, src v → AtMost (cur s v) 0) : Found src E N (relaxes L N s) := by
  have hL' : ∀ y, y ∈ L → E y.1 y.2.1 y.2.2 := fun y hy => (hL _ _ _).mpr hy
  have R : Rounds src E (fun k v => cur (relaxes L k s) v) := by
    refine ⟨h0, fun k v x h => ?_, fun k u v w x he' h => ?_⟩
    · show AtMost (cur (relaxes L (k + 1) s) v) x
      rw [relaxes_succ, relax_eq]
      exact (relax_all hf he L _ (relaxes_inv hf he hL' I k) hL').2.1 v x h
    · show AtMost (cur (relaxes L (k + 1) s) v) (x + w)
      rw [relaxes_succ, relax_eq]
      exact (relax_all hf he L _ (relaxes_inv hf he hL' I k) hL').2.2 (u, v, w) ((hL _ _ _).mp he') x h
  have J := relaxes_inv hf he hL' I N
  refine ⟨J, fun v hv => R.start' hv N, fun u v w x e h => ?_⟩
  obtain ⟨y, ey, hy⟩ := h
  unfold cur at ey
  cases c : (relaxes L N s).getD u none with
  | none => rw [c] at ey; cases ey
  | some p =>
    obtain ⟨z, l⟩ := p
    rw [c] at ey
    have ez : z = y := Option.some.inj ey
    obtain ⟨W, nd⟩ := J.ways u z l c
    have len := nodup_len nd (W.way.within hsN he)
    have := R.reach (.snoc W.way e) N (by simp; omega)
    exact this.le (by omega)
end OT

/-! The specification's carried plan is a plan that prices fit. -/
namespace OT
set_option linter.unusedVariables false
open Sr58 (Frac frac plus times less whole total)
open Sr66 (minus over zero neg)
open Sr80 (Spread cAt pAt pairs)
open Sr82 (dAt arcs relax relaxes nearest push tight carryOn carried fuel)

def dI (d : List (List Nat)) : Nat → Nat → Int := fun i j => (dAt d i j : Int)
theorem mem_pairs {n : Nat} {y : Nat × Nat} : y ∈ pairs n ↔ y.1 < n ∧ y.2 < n := by
  unfold pairs
  constructor
  · intro h
    obtain ⟨i, hi, h2⟩ := List.mem_flatMap.mp h
    obtain ⟨j, hj, rfl⟩ := List.mem_map.mp h2
    exact ⟨List.mem_range.mp hi, List.mem_range.mp hj⟩
  · intro ⟨h1, h2⟩
    exact List.mem_flatMap.mpr ⟨y.1, List.mem_range.mpr h1, List.mem_map.mpr ⟨y.2, List.mem_range.mpr h2, rfl⟩⟩
/-- the arcs of what can still be changed -/
def Res (n : Nat) (d : Nat → Nat → Int) (p : Mat) : Arcs := fun u v w =>
  (∃ i j, i < n ∧ j < n ∧ u = i ∧ v = n + j ∧ w = d i j) ∨ (∃ i j, i < n ∧ j < n ∧ 0 < p i j ∧ u = n + j ∧ v = i ∧ w = - d i j)
theorem arcs_iff {n d} {p : Sr80.Plan} (hp : OkP p) (u v : Nat) (w : Int) : Res n (dI d) (mt p) u v w ↔ (u, v, w) ∈ arcs n d p := by
  unfold arcs
  rw [List.mem_append]
  refine or_congr ?_ ?_
  · constructor
    · rintro ⟨i, j, hi, hj, rfl, rfl, rfl⟩
      exact List.mem_map.mpr ⟨(u, j), mem_pairs.mpr ⟨hi, hj⟩, rfl⟩
    · intro h
      obtain ⟨y, hy, e⟩ := List.mem_map.mp h
      obtain ⟨h1, h2⟩ := mem_pairs.mp hy
      cases e
      exact ⟨y.1, y.2, h1, h2, rfl, rfl, rfl⟩
  · constructor
    · rintro ⟨i, j, hi, hj, q, rfl, rfl, rfl⟩
      refine List.mem_map.mpr ⟨(v, j), List.mem_filter.mpr ⟨mem_pairs.mpr ⟨hi, hj⟩, ?_⟩, rfl⟩
      exact decide_eq_true ((pos_iff (ok_pAt hp v j)).mpr q)
    · intro h
      obtain ⟨y, hy, e⟩ := List.mem_map.mp h
      obtain ⟨hy1, hy2⟩ := List.mem_filter.mp hy
      obtain ⟨h1, h2⟩ := mem_pairs.mp hy1
      cases e
      exact ⟨y.1, y.2, h1, h2, (pos_iff (ok_pAt hp y.1 y.2)).mp (of_decide_eq_true hy2), rfl, rfl, rfl⟩
theorem Res.below {n d p u v w} (h : Res n d p u v w) : v < 2 * n := by
  rcases h with ⟨i, j, h1, h2, _, rfl, _⟩ | ⟨i, j, h1, h2, _, _, rfl, _⟩ <;> omega
/-- prices of both sides that fit -/
def Pot (n : Nat) (d : Nat → Nat → Int) (p : Mat) (f : Nat → Int) : Prop :=
  ∀ i j, i < n → j < n → f (n + j) ≤ f i + d i j ∧ (0 < p i j → f i + d i j ≤ f (n + j))
theorem Pot.arc {n d p f} (h : Pot n d p f) : ∀ u v w, Res n d p u v w → f v ≤ f u + w := by
  rintro u v w (⟨i, j, hi, hj, rfl, rfl, rfl⟩ | ⟨i, j, hi, hj, q, rfl, rfl, rfl⟩)
  · exact (h u j hi hj).1
  · have := (h v j hi hj).2 q; omega

/-! ### Places set -/
theorem getD_len {α : Type} {l : List α} {i : Nat} {z : α} (h : ¬ i < l.length) : l.getD i z = z := by
  rw [List.getD_eq_getElem?_getD, List.getElem?_eq_none (by omega)]; rfl
theorem cAt_set {a : Spread} {i : Nat} {x : Frac} (hi : i < a.length) (k : Nat) : cAt (a.set i x) k = if k = i then x else cAt a k := by
  unfold cAt
  by_cases q : k = i
  · subst q; rw [if_pos rfl, getD_set_self hi]
  · rw [if_neg q, getD_set_ne (fun e => q e.symm)]
theorem okS_set {a : Spread} {i : Nat} {x : Frac} (h : OkS a) (hx : Ok x) : OkS (a.set i x) := by
  intro y hy
  rcases List.mem_or_eq_of_mem_set hy with q | q
  · exact h y q
  · exact q ▸ hx
def setP (p : Sr80.Plan) (i j : Nat) (x : Frac) : Sr80.Plan := p.set i ((p.getD i []).set j x)
theorem pAt_setP {n p i j x} (hp : Sq n p) (hi : i < n) (hj : j < n) (i' j' : Nat) : pAt (setP p i j x) i' j' = if i' = i ∧ j' = j then x else pAt p i' j' := by
  unfold pAt setP
  by_cases q : i' = i
  · subst q
    rw [getD_set_self (by rw [hp.rows]; exact hi)]
    by_cases y : j' = j
    · subst y; rw [if_pos ⟨rfl, rfl⟩, getD_set_self (by rw [hp.row _ hi]; exact hj)]
    · rw [if_neg (fun z => y z.2), getD_set_ne (fun e => y e.symm)]
  · rw [if_neg (fun z => q z.1), getD_set_ne (fun e => q e.symm)]
theorem mt_setP {n p i j x} (hp : Sq n p) (hi : i < n) (hj : j < n) : mt (setP p i j x) = upd (mt p) i j (val x) := by
  funext i' j'
  unfold mt upd
  rw [pAt_setP hp hi hj]
  split <;> rfl
theorem sq_setP {n p i j x} (hp : Sq n p) (hi : i < n) : Sq n (setP p i j x) := by
  refine ⟨by unfold setP; rw [List.length_set]; exact hp.rows, fun k hk => ?_⟩
  unfold setP
  by_cases q : i = k
  · subst q; rw [getD_set_self (by rw [hp.rows]; exact hi), List.length_set]; exact hp.row _ hi
  · rw [getD_set_ne q]; exact hp.row k hk
theorem okP_setP {p i j x} (h : OkP p) (hx : Ok x) : OkP (setP p i j x) := by
  intro r hr
  unfold setP at hr
  rcases List.mem_or_eq_of_mem_set hr with q | q
  · exact h r q
  · exact q ▸ okS_set (ok_row h i) hx
theorem push_ok {n : Nat} {v : Frac} (hv : Ok v) : ∀ (l : List Nat) (p : Sr80.Plan), Sq n p → OkP p → Bip n l → Sq n (push n v l p) ∧ OkP (push n v l p) ∧ mt (push n v l p) = pushF n (val v) l (mt p)
  | [], p, s, o, _ => ⟨s, o, rfl⟩
  | [a], p, s, o, _ => ⟨s, o, rfl⟩
  | x :: y :: l, p, s, o, hb => by
    rcases hb.head with ⟨q1, q2, q3⟩ | ⟨q1, q2, q3⟩
    · have e : push n v (x :: y :: l) p = push n v (y :: l) (setP p y (x - n) (plus (pAt p y (x - n)) v)) := by
        show push n v (y :: l) (if y < n then _ else _) = _
        rw [if_pos q1]; rfl
      have e2 : pushF n (val v) (x :: y :: l) (mt p) = pushF n (val v) (y :: l) (upd (mt p) y (x - n) (mt p y (x - n) + val v)) := by
        show pushF n (val v) (y :: l) (if y < n then _ else _) = _
        rw [if_pos q1]
      rw [e, e2]
      have R := push_ok hv (y :: l) (setP p y (x - n) (plus (pAt p y (x - n)) v)) (sq_setP s q1) (okP_setP o (ok_plus _ _)) hb.tail
      rw [mt_setP s q1 (by omega), val_plus (ok_pAt o _ _) hv] at R
      exact R
    · have e : push n v (x :: y :: l) p = push n v (y :: l) (setP p x (y - n) (minus (pAt p x (y - n)) v)) := by
        show push n v (y :: l) (if y < n then _ else _) = _
        rw [if_neg (by omega)]; rfl
      have e2 : pushF n (val v) (x :: y :: l) (mt p) = pushF n (val v) (y :: l) (upd (mt p) x (y - n) (mt p x (y - n) - val v)) := by
        show pushF n (val v) (y :: l) (if y < n then _ else _) = _
        rw [if_neg (by omega)]
      rw [e, e2]
      have R := push_ok hv (y :: l) (setP p x (y - n) (minus (pAt p x (y - n)) v)) (sq_setP s q1) (okP_setP o (ok_minus _ _)) hb.tail
      rw [mt_setP s q1 (by omega), val_minus (ok_pAt o _ _) hv] at R
      exact R
/-- what a least one of several has: what each of them has -/
theorem tight_ok {n : Nat} {p : Sr80.Plan} (op : OkP p) {Q : Rat → Prop} : ∀ (l : List Nat) (v : Frac), Ok v → Bip n l → Q (val v) → (∀ x j, x < n → Adj l x (n + j) → Q (mt p x j)) →
    Ok (tight n l p v) ∧ Q (val (tight n l p v)) ∧ val (tight n l p v) ≤ val v ∧ ∀ x j, x < n → Adj l x (n + j) → val (tight n l p v) ≤ mt p x j
  | [], v, o, _, q, _ => ⟨o, q, Rat.le_refl, fun x j _ h => nomatch h⟩
  | [a], v, o, _, q, _ => ⟨o, q, Rat.le_refl, fun x j _ h => nomatch h⟩
  | x :: y :: l, v, o, hb, q, h => by
    rcases hb.head with ⟨q1, q2, q3⟩ | ⟨q1, q2, q3⟩
    · have e : tight n (x :: y :: l) p v = tight n (y :: l) p v := by
        show tight n (y :: l) p (if y < n then _ else _) = _
        rw [if_pos q1]
      rw [e]
      obtain ⟨a, b, c, d⟩ := tight_ok op (y :: l) v o hb.tail q (fun x' j hx' z => h x' j hx' (.inr z))
      refine ⟨a, b, c, fun x' j hx' z => ?_⟩
      rcases z with ⟨e1, e2⟩ | z
      · omega
      · exact d x' j hx' z
    · have e : tight n (x :: y :: l) p v = tight n (y :: l) p (Sr80.least v (pAt p x (y - n))) := by
        show tight n (y :: l) p (if y < n then _ else _) = _
        rw [if_neg (by omega)]
      rw [e]
      have hx := h x (y - n) q1 (.inl ⟨rfl, by omega⟩)
      have o2 := ok_least o (ok_pAt op x (y - n))
      have w : val (Sr80.least v (pAt p x (y - n))) = if mt p x (y - n) < val v then mt p x (y - n) else val v := val_least o (ok_pAt op x (y - n))
      have qv : Q (val (Sr80.least v (pAt p x (y - n)))) := by
        rw [w]; split
        · exact hx
        · exact q
      obtain ⟨a, b, c, d⟩ := tight_ok op (y :: l) _ o2 hb.tail qv (fun x' j hx' z => h x' j hx' (.inr z))
      have c1 : val (Sr80.least v (pAt p x (y - n))) ≤ val v := by rw [w]; split <;> grind
      have c2 : val (Sr80.least v (pAt p x (y - n))) ≤ mt p x (y - n) := by rw [w]; split <;> grind
      refine ⟨a, b, Rat.le_trans c c1, fun x' j hx' z => ?_⟩
      rcases z with ⟨e1, e2⟩ | z
      · subst e1
        have : j = y - n := by omega
        subst this
        exact Rat.le_trans c c2
      · exact d x' j hx' z

/-! ### The nearest that needs something -/
def near1 (n : Nat) (b : Spread) (s : St) (m : Option (Nat × Int × List Nat)) (j : Nat) : Option (Nat × Int × List Nat) := if (cAt b j).n ≤ 0 then m else match s.getD (n + j) none with
  | none => m
  | some x => match m with
    | none => some (j, x.1, x.2)
    | some y => if x.1 < y.2.1 then some (j, x.1, x.2) else m
theorem near_ok {n b s} : ∀ (l : List Nat) (m : Option (Nat × Int × List Nat)),
    (∀ y, l.foldl (near1 n b s) m = some y → m = some y ∨ (y.1 ∈ l ∧ 0 < (cAt b y.1).n ∧ s.getD (n + y.1) none = some y.2)) ∧
    (l.foldl (near1 n b s) m = none → m = none ∧ ∀ j, j ∈ l → (cAt b j).n ≤ 0 ∨ s.getD (n + j) none = none)
  | [], m => ⟨fun y h => .inl h, fun h => ⟨h, fun j hj => nomatch hj⟩⟩
  | j :: l, m => by
    obtain ⟨a, c⟩ := near_ok l (near1 n b s m j)
    refine ⟨fun y h => ?_, fun h => ?_⟩
    · rcases a y h with q | ⟨q1, q2, q3⟩
      · unfold near1 at q
        by_cases z : (cAt b j).n ≤ 0
        · rw [if_pos z] at q; exact .inl q
        · rw [if_neg z] at q
          cases e : s.getD (n + j) none with
          | none => rw [e] at q; exact .inl q
          | some x =>
            rw [e] at q
            cases m with
            | none =>
              cases q
              exact .inr ⟨List.mem_cons_self, Int.not_le.mp z, e⟩
            | some t =>
              dsimp only at q
              split at q
              · cases q
                exact .inr ⟨List.mem_cons_self, Int.not_le.mp z, e⟩
              · exact .inl q
      · exact .inr ⟨List.mem_cons_of_mem _ q1, q2, q3⟩
    · obtain ⟨h1, h2⟩ := c h
      unfold near1 at h1
      by_cases z : (cAt b j).n ≤ 0
      · rw [if_pos z] at h1
        refine ⟨h1, fun k hk => ?_⟩
        rcases List.mem_cons.mp hk with e | e
        · subst e; exact .inl z
        · exact h2 k e
      · rw [if_neg z] at h1
        cases e : s.getD (n + j) none with
        | none =>
          rw [e] at h1
          refine ⟨h1, fun k hk => ?_⟩
          rcases List.mem_cons.mp hk with e2 | e2
          · subst e2; exact .inr e
          · exact h2 k e2
        | some x =>
          rw [e] at h1
          cases m with
          | none => cases h1
          | some t =>
            dsimp only at h1
            split at h1
            · cases h1
            · cases h1
theorem nearest_eq {n b s} : nearest n b s = (List.range n).foldl (near1 n b s) none := rfl
end OT

/-! The carried plan: it ends, is a plan, and prices fit it. -/
namespace OT
set_option linter.unusedVariables false
open Sr58 (Frac frac plus times less whole total)
open Sr66 (minus over zero neg)
open Sr80 (Spread cAt pAt pairs)
open Sr82 (dAt arcs relax relaxes nearest push tight carryOn carried fuel)

def Mul (D : Nat) (x : Rat) : Prop := ∃ z : Int, (D : Rat) * x = (z : Rat)
theorem Mul.sub {D x y} (h : Mul D x) (h' : Mul D y) : Mul D (x - y) := by
  obtain ⟨a, ha⟩ := h; obtain ⟨b, hb⟩ := h'
  exact ⟨a - b, by rw [Rat.intCast_sub, ← ha, ← hb]; grind⟩
theorem Mul.add {D x y} (h : Mul D x) (h' : Mul D y) : Mul D (x + y) := by
  obtain ⟨a, ha⟩ := h; obtain ⟨b, hb⟩ := h'
  exact ⟨a + b, by rw [Rat.intCast_add, ← ha, ← hb]; grind⟩
theorem Mul.zero {D} : Mul D 0 := ⟨0, by simp⟩
theorem Mul.one_le {D x} (h : Mul D x) (hx : 0 < x) (hD : 0 < D) : 1 ≤ (D : Rat) * x := by
  obtain ⟨z, hz⟩ := h
  have h1 : (0 : Rat) < (D : Rat) * x := Rat.mul_pos (Rat.natCast_pos.mpr hD) hx
  rw [hz] at h1 ⊢
  have h2 : 0 < z := Rat.intCast_pos.mp h1
  have h3 : ((1 : Int) : Rat) ≤ (z : Rat) := Rat.intCast_le_intCast.mpr (by omega)
  simpa using h3
theorem mul_least {D : Nat} {a b : Frac} (oa : Ok a) (ob : Ok b) (h : Mul D (val a)) (h' : Mul D (val b)) : Mul D (val (Sr80.least a b)) := by
  rw [val_least oa ob]; split <;> assumption
theorem bound_all : ∀ (n : Nat) (g : Nat → Int), ∃ M, ∀ j, j < n → g j ≤ M
  | 0, g => ⟨0, fun j h => by omega⟩
  | n + 1, g => by
    obtain ⟨M, h⟩ := bound_all n g
    refine ⟨max M (g n), fun j hj => ?_⟩
    by_cases q : j = n
    · subst q; omega
    · have := h j (by omega); omega

structure CI (n : Nat) (d : Nat → Nat → Int) (A B : Nat → Rat) (D : Nat) (a b : Spread) (P : Sr80.Plan) : Prop where
  la : a.length = n
  lb : b.length = n
  oa : OkS a
  ob : OkS b
  sq : Sq n P
  op : OkP P
  an : ∀ i, i < n → 0 ≤ sp a i
  bn : ∀ j, j < n → 0 ≤ sp b j
  nn : ∀ i j, i < n → j < n → 0 ≤ mt P i j
  row : ∀ i, i < n → S n (fun j => mt P i j) + sp a i = A i
  col : ∀ j, j < n → S n (fun i => mt P i j) + sp b j = B j
  ma : ∀ i, i < n → Mul D (sp a i)
  mb : ∀ j, j < n → Mul D (sp b j)
  mp : ∀ i j, i < n → j < n → Mul D (mt P i j)
  pot : ∃ f, Pot n d (mt P) f
structure Carried (n : Nat) (d : Nat → Nat → Int) (A B : Nat → Rat) (P : Sr80.Plan) : Prop where
  mul : ∃ D : Nat, 0 < D ∧ ∀ i j, i < n → j < n → Mul D (mt P i j)
  sq : Sq n P
  op : OkP P
  plan : Plan n A B (mt P)
  pot : ∃ f, Pot n d (mt P) f
theorem CI.sums {n d A B D a b P} (I : CI n d A B D a b P) (hAB : S n A = S n B) : S n (sp a) = S n (sp b) := by
  have h1 : S n A = S n (fun i => S n (fun j => mt P i j)) + S n (sp a) := by
    rw [← S_add]; exact S_congr fun i hi => (I.row i hi).symm
  have h2 : S n B = S n (fun j => S n (fun i => mt P i j)) + S n (sp b) := by
    rw [← S_add]; exact S_congr fun i hi => (I.col i hi).symm
  have h3 := S_comm (n := n) (m := n) (f := fun i j => mt P i j)
  grind
theorem CI.finish {n d A B D a b P} (hD : 0 < D) (I : CI n d A B D a b P) (hAB : S n A = S n B) (h : S n (sp a) ≤ 0) : Carried n d A B P := by
  have h0 : S n (sp a) = 0 := by have := S_nonneg I.an; grind
  have h1 : S n (sp b) = 0 := by rw [← I.sums hAB]; exact h0
  have e1 := S_eq_zero I.an h0
  have e2 := S_eq_zero I.bn h1
  refine ⟨⟨D, hD, I.mp⟩, I.sq, I.op, ⟨I.nn, fun i hi => ?_, fun j hj => ?_⟩, I.pot⟩
  · have := I.row i hi; rw [e1 i hi] at this; grind
  · have := I.col j hj; rw [e2 j hj] at this; grind
def start (n : Nat) (a : Spread) : St := (List.range (2 * n)).map fun x => if x < n ∧ 0 < (cAt a x).n then some (0, [x]) else none
def Src (n : Nat) (a : Spread) : Nat → Prop := fun s => s < n ∧ 0 < sp a s
theorem start_at {n a} (oa : OkS a) {v : Nat} {y : Int × List Nat} : (start n a).getD v none = some y ↔ Src n a v ∧ y = (0, [v]) := by
  unfold start Src
  by_cases h : v < 2 * n
  · rw [getD_range h]
    by_cases q : v < n ∧ 0 < (cAt a v).n
    · rw [if_pos q]
      constructor
      · intro e; exact ⟨⟨q.1, (pos_iff (ok_cAt oa v)).mp q.2⟩, (Option.some.inj e).symm⟩
      · rintro ⟨_, rfl⟩; rfl
    · rw [if_neg q]
      constructor
      · intro e; cases e
      · rintro ⟨⟨h1, h2⟩, _⟩; exact absurd ⟨h1, (pos_iff (ok_cAt oa v)).mpr h2⟩ q
  · rw [getD_range_out h]
    constructor
    · intro e; cases e
    · rintro ⟨⟨h1, h2⟩, _⟩; omega
theorem start_inv {n a} {E : Arcs} (oa : OkS a) : RI (Src n a) E (2 * n) (start n a) := by
  refine ⟨by simp [start], fun v z l h => ?_⟩
  obtain ⟨h1, h2⟩ := (start_at oa).mp h
  cases h2
  refine ⟨.nil h1 ⟨0, ?_, by omega⟩, by simp⟩
  unfold cur
  rw [(start_at oa).mpr ⟨h1, rfl⟩]; rfl
theorem carry_found {n d A B D a b P} (I : CI n (dI d) A B D a b P) : Found (Src n a) (Res n (dI d) (mt P)) (2 * n) (relaxes (arcs n d P) (2 * n) (start n a)) := by
  obtain ⟨f, hf⟩ := I.pot
  exact relaxes_found hf.arc (fun u v w h => h.below) (fun v h => by have := h.1; omega) (fun u v w => arcs_iff I.op u v w) (start_inv I.oa) fun v hv => ⟨0, by unfold cur; rw [(start_at I.oa).mpr ⟨hv, rfl⟩]; rfl, by omega⟩
/-- prices read off what was found -/
theorem found_prices {n d a} {p : Mat} {s : St} (hd : ∀ i j, i < n → j < n → 0 ≤ d i j) (F : Found (Src n a) (Res n d p) (2 * n) s) {s0 : Nat} (h0 : Src n a s0) :
    ∃ f : Nat → Int, (∀ u v w, Res n d p u v w → f v ≤ f u + w) ∧ (∀ v, Src n a v → f v ≤ 0) ∧ ∀ v x, cur s v = some x → f v = x := by
  have cols : ∀ j, j < n → ∃ x, cur s (n + j) = some x := fun j hj => by
    obtain ⟨x, e, _⟩ := F.arc s0 (n + j) (d s0 j) 0 (.inl ⟨s0, j, h0.1, hj, rfl, rfl, rfl⟩) (F.start s0 h0)
    exact ⟨x, e⟩
  obtain ⟨M, hM⟩ := bound_all n fun j => (cur s (n + j)).getD 0
  refine ⟨fun v => (cur s v).getD M, fun u v w h => ?_, fun v hv => ?_, fun v x e => ?_⟩
  · show (cur s v).getD M ≤ (cur s u).getD M + w
    cases e : cur s u with
    | some x =>
      obtain ⟨y, e2, hy⟩ := F.arc u v w x h ⟨x, e, by omega⟩
      rw [e2]; exact hy
    | none =>
      rcases h with ⟨i, j, hi, hj, _, rfl, rfl⟩ | ⟨i, j, hi, hj, _, rfl, _, rfl⟩
      · have h1 := hM j hj
        have h2 := hd i j hi hj
        obtain ⟨x, ex⟩ := cols j hj
        rw [ex] at h1 ⊢
        simp only [Option.getD_some, Option.getD_none] at *
        omega
      · obtain ⟨x, ex⟩ := cols j hj
        rw [ex] at e; cases e
  · obtain ⟨x, e, hx⟩ := F.start v hv
    show (cur s v).getD M ≤ 0
    rw [e]; exact hx
  · show (cur s v).getD M = x
    rw [e]; rfl
theorem bip_of {n d src p l e x} (h : Way src (Res n d p) l e x) : Bip n l := by
  intro x y q
  obtain ⟨w, hw⟩ := h.adj x y q
  rcases hw with ⟨i, j, hi, hj, rfl, rfl, _⟩ | ⟨i, j, hi, hj, _, rfl, rfl, _⟩ <;> omega
/-- one turn -/
theorem carry_step {n d A B D a b P} (hd : 0 < D) (I : CI n (dI d) A B D a b P) {y : Nat × Int × List Nat} (hy : nearest n b (relaxes (arcs n d P) (2 * n) (start n a)) = some y) :
    let i := y.2.2.getLastD 0
    let v := tight n y.2.2 P (Sr80.least (cAt a i) (cAt b y.1))
    CI n (dI d) A B D (a.set i (minus (cAt a i) v)) (b.set y.1 (minus (cAt b y.1) v)) (push n v y.2.2 P) ∧ (D : Rat) * S n (sp (a.set i (minus (cAt a i) v))) + 1 ≤ (D : Rat) * S n (sp a) := by
  intro i v
  have F := carry_found I
  rw [nearest_eq] at hy
  rcases (near_ok (List.range n) none).1 y hy with q | ⟨q1, q2, q3⟩
  · cases q
  obtain ⟨j, x, l⟩ := y
  simp only at q1 q2 q3
  have hj : j < n := List.mem_range.mp q1
  obtain ⟨W, nd⟩ := F.inv.ways _ _ _ q3
  have Wy := W.way
  have hsrc : Src n a i := Wy.last
  have bip := bip_of Wy
  obtain ⟨f, hf, hs, he⟩ := found_prices (fun i j _ _ => by unfold dI; omega) F hsrc
  have cx : f (n + j) = x := he _ _ (by unfold cur; rw [q3]; rfl)
  have tg := Wy.tight hf hs (by omega)
  have oa := ok_cAt I.oa i
  have ob := ok_cAt I.ob j
  have pb : 0 < sp b j := (pos_iff ob).mp q2
  have w0 : val (Sr80.least (cAt a i) (cAt b j)) = if sp b j < sp a i then sp b j else sp a i := val_least oa ob
  have hQ : ∀ x' j', x' < n → Adj l x' (n + j') → j' < n ∧ 0 < mt P x' j' := by
    intro x' j' hx' z
    obtain ⟨w, hw⟩ := Wy.adj _ _ z
    rcases hw with ⟨i1, j1, h1, h2, e1, e2, _⟩ | ⟨i1, j1, h1, h2, q, e1, e2, _⟩
    · omega
    · have : j1 = j' := by omega
      subst this; subst e2; exact ⟨h2, q⟩
  obtain ⟨ov, ⟨mv, pv⟩, lv, ltv⟩ := tight_ok (n := n) I.op (Q := fun r => Mul D r ∧ 0 < r) l (Sr80.least (cAt a i) (cAt b j)) (ok_least oa ob) bip
    ⟨mul_least oa ob (I.ma i hsrc.1) (I.mb j hj), by rw [w0]; split; exact pb; exact hsrc.2⟩ (fun x' j' hx' z => ⟨I.mp x' j' hx' (hQ x' j' hx' z).1, (hQ x' j' hx' z).2⟩)
  have va : val v ≤ sp a i := Rat.le_trans lv (by rw [w0]; split <;> grind)
  have vb : val v ≤ sp b j := Rat.le_trans lv (by rw [w0]; split <;> grind)
  obtain ⟨sq', op', e'⟩ := push_ok ov l P I.sq I.op bip
  have PA := push_at (v := val v) l (mt P) nd bip
  have sa : sp (a.set i (minus (cAt a i) v)) = fun k => if k = i then sp a i - val v else sp a k := by
    funext k
    unfold sp
    rw [cAt_set (by rw [I.la]; exact hsrc.1)]
    by_cases q : k = i
    · rw [if_pos q, if_pos q, val_minus oa ov]
    · rw [if_neg q, if_neg q]
  have sb : sp (b.set j (minus (cAt b j) v)) = fun k => if k = j then sp b j - val v else sp b k := by
    funext k
    unfold sp
    rw [cAt_set (by rw [I.lb]; exact hj)]
    by_cases q : k = j
    · rw [if_pos q, if_pos q, val_minus ob ov]
    · rw [if_neg q, if_neg q]
  obtain ⟨r, hr⟩ := Wy.head
  have cases3 : ∀ i' j', i' < n → (Adj l (n + j') i' ∧ mt (push n v l P) i' j' = mt P i' j' + val v) ∨ (Adj l i' (n + j') ∧ mt (push n v l P) i' j' = mt P i' j' - val v) ∨ mt (push n v l P) i' j' = mt P i' j' := by
    intro i' j' hi'
    rw [e']
    by_cases z1 : Adj l (n + j') i'
    · exact .inl ⟨z1, PA.up i' j' hi' z1⟩
    · by_cases z2 : Adj l i' (n + j')
      · exact .inr (.inl ⟨z2, PA.down i' j' hi' z2⟩)
      · exact .inr (.inr (PA.same i' j' hi' z1 z2))
  refine ⟨⟨by rw [List.length_set]; exact I.la, by rw [List.length_set]; exact I.lb, okS_set I.oa (ok_minus _ _), okS_set I.ob (ok_minus _ _), sq', op', ?_, ?_, ?_, ?_, ?_, ?_, ?_, ?_, ?_⟩, ?_⟩
  · intro k hk; rw [sa]; dsimp only; split
    · grind
    · exact I.an k hk
  · intro k hk; rw [sb]; dsimp only; split
    · grind
    · exact I.bn k hk
  · intro i' j' hi' hj'
    have := I.nn i' j' hi' hj'
    rcases cases3 i' j' hi' with ⟨_, z⟩ | ⟨z1, z⟩ | z
    · rw [z]; grind
    · rw [z]; have := ltv i' j' hi' z1; grind
    · rw [z]; exact this
  · intro k hk
    have h1 := I.row k hk
    have h2 := push_row (n := n) (v := val v) r (n + j) (mt P) (hr ▸ bip) k hk
    rw [← hr] at h2
    rw [e', h2, sa, if_neg (show ¬ k = n + j by omega)]
    show S n (fun j => mt P k j) + (if k = i then val v else 0) - 0 + (if k = i then sp a i - val v else sp a k) = A k
    by_cases q : k = i
    · subst q; rw [if_pos rfl, if_pos rfl]; grind
    · rw [if_neg q, if_neg q]; grind
  · intro k hk
    have h1 := I.col k hk
    have h2 := push_col (n := n) (v := val v) r (n + j) (mt P) (hr ▸ bip) k hk
    rw [← hr] at h2
    have hi : ¬ n + k = l.getLastD 0 := by have := hsrc.1; show ¬ n + k = i; omega
    rw [e', h2, sb, if_neg hi]
    show S n (fun i => mt P i k) - 0 + (if n + k = n + j then val v else 0) + (if k = j then sp b j - val v else sp b k) = B k
    by_cases q : k = j
    · subst q; rw [if_pos rfl, if_pos rfl]; grind
    · rw [if_neg q, if_neg (show ¬ n + k = n + j by omega)]; grind
  · intro k hk; rw [sa]; dsimp only; split
    · exact (I.ma i hsrc.1).sub mv
    · exact I.ma k hk
  · intro k hk; rw [sb]; dsimp only; split
    · exact (I.mb j hj).sub mv
    · exact I.mb k hk
  · intro i' j' hi' hj'
    rcases cases3 i' j' hi' with ⟨_, z⟩ | ⟨z1, z⟩ | z
    · rw [z]; exact (I.mp i' j' hi' hj').add mv
    · rw [z]; exact (I.mp i' j' hi' hj').sub mv
    · rw [z]; exact I.mp i' j' hi' hj'
  · refine ⟨f, fun i' j' hi' hj' => ⟨hf _ _ _ (.inl ⟨i', j', hi', hj', rfl, rfl, rfl⟩), fun hp => ?_⟩⟩
    have old : 0 < mt P i' j' → f i' + dI d i' j' ≤ f (n + j') := fun q => by
      have := hf (n + j') i' (- dI d i' j') (.inr ⟨i', j', hi', hj', q, rfl, rfl, rfl⟩)
      omega
    rcases cases3 i' j' hi' with ⟨z1, z⟩ | ⟨z1, z⟩ | z
    · obtain ⟨w, hw, ew⟩ := tg _ _ z1
      rcases hw with ⟨i1, j1, h1, h2, e1, e2, e3⟩ | ⟨i1, j1, h1, h2, q, e1, e2, _⟩
      · have : j1 = j' := by omega
        subst this; subst e1; omega
      · omega
    · exact old ((hQ i' j' hi' z1).2)
    · rw [z] at hp; exact old hp
  · have e1 : S n (sp (a.set i (minus (cAt a i) v))) = S n (sp a) - val v := by
      rw [sa, ← S_at_neg (k := i) hsrc.1]
      refine S_congr fun k _ => ?_
      by_cases q : k = i
      · subst q; rw [if_pos rfl, if_pos rfl]
      · rw [if_neg q, if_neg q]; grind
    rw [e1]
    have := mv.one_le pv hd
    grind
theorem carryOn_succ {n d f a b P} : carryOn n d (f + 1) a b P = match nearest n b (relaxes (arcs n d P) (2 * n) (start n a)) with
    | none => P
    | some y => let i := y.2.2.getLastD 0
      let v := tight n y.2.2 P (Sr80.least (cAt a i) (cAt b y.1))
      carryOn n d f (a.set i (minus (cAt a i) v)) (b.set y.1 (minus (cAt b y.1) v)) (push n v y.2.2 P) := rfl
theorem carryOn_ok {n d A B D} (hD : 0 < D) (hAB : S n A = S n B) : ∀ (f : Nat) (a b : Spread) (P : Sr80.Plan), CI n (dI d) A B D a b P → (D : Rat) * S n (sp a) ≤ (f : Rat) → Carried n (dI d) A B (carryOn n d f a b P)
  | 0, a, b, P, I, h => by
    refine I.finish hD hAB ?_
    have h1 : (D : Rat) * S n (sp a) ≤ 0 := h
    have h2 : (0 : Rat) < (D : Rat) := Rat.natCast_pos.mpr hD
    by_cases q : S n (sp a) ≤ 0
    · exact q
    · have := Rat.mul_pos h2 (Rat.not_le.mp q); grind
  | f + 1, a, b, P, I, h => by
    rw [carryOn_succ]
    cases e : nearest n b (relaxes (arcs n d P) (2 * n) (start n a)) with
    | none =>
      show Carried n (dI d) A B P
      refine I.finish hD hAB ?_
      have F := carry_found I
      rw [nearest_eq] at e
      have N := ((near_ok (List.range n) none).2 e).2
      by_cases q : S n (sp a) ≤ 0
      · exact q
      · exfalso
        have : ∃ s0, Src n a s0 := by
          refine Classical.byContradiction fun no => q ?_
          have : S n (sp a) = 0 := S_zero' fun i hi => by
            have h1 := I.an i hi
            by_cases z : 0 < sp a i
            · exact absurd ⟨i, hi, z⟩ no
            · grind
          rw [this]; exact Rat.le_refl
        obtain ⟨s0, h0⟩ := this
        have z : S n (sp b) ≤ 0 := by
          have : S n (sp b) = 0 := S_zero' fun j hj => by
            have h1 := I.bn j hj
            rcases N j (List.mem_range.mpr hj) with y | y
            · have : ¬ 0 < sp b j := fun t => by have := (pos_iff (ok_cAt I.ob j)).mpr t; omega
              grind
            · obtain ⟨x, e, _⟩ := F.arc s0 (n + j) (dI d s0 j) 0 (.inl ⟨s0, j, h0.1, hj, rfl, rfl, rfl⟩) (F.start s0 h0)
              unfold cur at e; rw [y] at e; cases e
          rw [this]; exact Rat.le_refl
        rw [← I.sums hAB] at z
        exact q z
    | some y =>
      obtain ⟨J, le⟩ := carry_step hD I e
      refine carryOn_ok hD hAB f _ _ _ J ?_
      have : ((f + 1 : Nat) : Rat) = (f : Rat) + 1 := by rw [Rat.natCast_add]; rfl
      rw [this] at h
      grind
end OT

namespace OT
set_option linter.unusedVariables false
open Sr58 (Frac frac plus times less whole total)
open Sr66 (minus over zero neg)
open Sr80 (Spread cAt pAt pairs)
open Sr82 (dAt arcs relax relaxes nearest push tight carryOn carried fuel)

structure GoodS (n : Nat) (a : Spread) : Prop where
  len : a.length = n
  ok : OkS a
  nn : ∀ i, i < n → 0 ≤ sp a i
  one : S n (sp a) = 1
theorem foldl_mul_pos : ∀ (l : List Nat) (z : Nat), 0 < z → (∀ x, x ∈ l → 0 < x) → 0 < l.foldl (· * ·) z
  | [], z, h, _ => h
  | x :: l, z, h, q => foldl_mul_pos l (z * x) (Nat.mul_pos h (q x List.mem_cons_self)) fun y hy => q y (List.mem_cons_of_mem _ hy)
theorem foldl_mul_dvd_start : ∀ (l : List Nat) (z k : Nat), k ∣ z → k ∣ l.foldl (· * ·) z
  | [], z, k, h => h
  | x :: l, z, k, h => foldl_mul_dvd_start l (z * x) k (Nat.dvd_trans h (Nat.dvd_mul_right z x))
theorem foldl_mul_dvd : ∀ (l : List Nat) (z k : Nat), k ∈ l → k ∣ l.foldl (· * ·) z
  | x :: l, z, k, h => by
    rcases List.mem_cons.mp h with q | q
    · subst q; exact foldl_mul_dvd_start l _ k (Nat.dvd_mul_left k z)
    · exact foldl_mul_dvd l _ k q
theorem mul_of_dvd {x : Frac} {D : Nat} (ho : Ok x) (h : x.d ∣ D) : Mul D (val x) := by
  obtain ⟨k, rfl⟩ := h
  refine ⟨(k : Int) * x.n, ?_⟩
  unfold val
  have h2 : (x.d : Rat) ≠ 0 := by
    intro q
    have : (0 : Rat) < (x.d : Rat) := Rat.natCast_pos.mpr (Nat.pos_of_ne_zero ho.d)
    grind
  rw [Rat.mkRat_eq_div, Rat.natCast_mul, Rat.intCast_mul, Rat.intCast_natCast]
  grind
theorem mul_sp {a : Spread} {D : Nat} (oa : OkS a) (h : ∀ x, x ∈ a → x.d ∣ D) (i : Nat) : Mul D (sp a i) := by
  unfold sp cAt
  rw [List.getD_eq_getElem?_getD]
  cases e : a[i]? with
  | none => show Mul D (val zero); rw [val_zero]; exact .zero
  | some x => exact mul_of_dvd (oa x (List.mem_of_getElem? e)) (h x (List.mem_of_getElem? e))
theorem mt_blank (n : Nat) : mt (Sr80.blank n) = fun _ _ => 0 := by
  funext i j
  unfold mt pAt Sr80.blank
  by_cases q : i < n
  · have e : (List.replicate n (List.replicate n zero)).getD i [] = List.replicate n zero := by
      rw [List.getD_eq_getElem?_getD, List.getElem?_replicate, if_pos q]; rfl
    rw [e]
    by_cases y : j < n
    · rw [List.getD_eq_getElem?_getD, List.getElem?_replicate, if_pos y]; exact val_zero
    · rw [getD_len (by simpa using y)]; exact val_zero
  · rw [getD_len (l := List.replicate n (List.replicate n zero)) (by simpa using q)]; exact val_zero
theorem sq_blank (n : Nat) : Sq n (Sr80.blank n) := by
  refine ⟨by simp [Sr80.blank], fun i hi => ?_⟩
  unfold Sr80.blank
  rw [List.getD_eq_getElem?_getD, List.getElem?_replicate, if_pos hi]; simp
theorem okP_blank (n : Nat) : OkP (Sr80.blank n) := by
  intro r hr x hx
  have e := List.eq_of_mem_replicate hr
  subst e
  have e := List.eq_of_mem_replicate hx
  subst e
  exact ok_zero
theorem carried_ok {n : Nat} {d : List (List Nat)} {a b : Spread} (ga : GoodS n a) (gb : GoodS n b) : Carried n (dI d) (sp a) (sp b) (carried n d a b) := by
  have pa : 0 < (a.map fun x => x.d).foldl (· * ·) 1 := foldl_mul_pos _ 1 (by omega) fun x hx => by
    obtain ⟨y, hy, rfl⟩ := List.mem_map.mp hx
    exact Nat.pos_of_ne_zero (ga.ok y hy).d
  have pb : 0 < (b.map fun x => x.d).foldl (· * ·) 1 := foldl_mul_pos _ 1 (by omega) fun x hx => by
    obtain ⟨y, hy, rfl⟩ := List.mem_map.mp hx
    exact Nat.pos_of_ne_zero (gb.ok y hy).d
  have D := Nat.mul_pos pa pb
  refine carryOn_ok (D := (a.map fun x => x.d).foldl (· * ·) 1 * (b.map fun x => x.d).foldl (· * ·) 1) D (ga.one.trans gb.one.symm) _ a b _ ?_ ?_
  · refine ⟨ga.len, gb.len, ga.ok, gb.ok, sq_blank n, okP_blank n, ga.nn, gb.nn, ?_, ?_, ?_, ?_, ?_, ?_, ?_⟩
    · intro i j _ _; rw [mt_blank]; exact Rat.le_refl
    · intro i _; rw [mt_blank, S_zero, Rat.zero_add]
    · intro i _; rw [mt_blank, S_zero, Rat.zero_add]
    · intro i _
      exact mul_sp ga.ok (fun x hx => Nat.dvd_trans (foldl_mul_dvd _ 1 x.d (List.mem_map.mpr ⟨x, hx, rfl⟩)) (Nat.dvd_mul_right _ _)) i
    · intro i _
      exact mul_sp gb.ok (fun x hx => Nat.dvd_trans (foldl_mul_dvd _ 1 x.d (List.mem_map.mpr ⟨x, hx, rfl⟩)) (Nat.dvd_mul_left _ _)) i
    · intro i j _ _; rw [mt_blank]; exact .zero
    · refine ⟨fun _ => 0, fun i j _ _ => ⟨by show (0 : Int) ≤ 0 + dI d i j; unfold dI; omega, fun q => ?_⟩⟩
      rw [mt_blank] at q
      have q' : (0 : Rat) < 0 := q
      exact absurd q' Rat.lt_irrefl
  · rw [ga.one, Rat.mul_one]
    show (((a.map fun x => x.d).foldl (· * ·) 1 * (b.map fun x => x.d).foldl (· * ·) 1 : Nat) : Rat) ≤ _
    exact Rat.natCast_le_natCast.mpr (Nat.le_succ _)

/-! ### Prices of both sides give prices of the places -/
structure Met (n : Nat) (d : Nat → Nat → Int) : Prop where
  refl : ∀ i, i < n → d i i = 0
  tri : ∀ i j k, i < n → j < n → k < n → d i j ≤ d i k + d k j
def minOver (g : Nat → Int) : Nat → Int
  | 0 => 0
  | 1 => g 0
  | n + 2 => min (minOver g (n + 1)) (g (n + 1))
theorem minOver_le {g : Nat → Int} : ∀ {n i : Nat}, i < n → minOver g n ≤ g i
  | 0, i, h => by omega
  | 1, i, h => by have : i = 0 := by omega
                  subst this; exact Int.le_refl _
  | n + 2, i, h => by
    show min (minOver g (n + 1)) (g (n + 1)) ≤ g i
    by_cases q : i = n + 1
    · subst q; omega
    · have := minOver_le (g := g) (n := n + 1) (i := i) (by omega); omega
theorem minOver_is {g : Nat → Int} : ∀ {n : Nat}, 0 < n → ∃ i, i < n ∧ minOver g n = g i
  | 0, h => by omega
  | 1, h => ⟨0, by omega, rfl⟩
  | n + 2, h => by
    show ∃ i, i < n + 2 ∧ min (minOver g (n + 1)) (g (n + 1)) = g i
    obtain ⟨i, hi, e⟩ := minOver_is (g := g) (n := n + 1) (by omega)
    by_cases q : minOver g (n + 1) ≤ g (n + 1)
    · exact ⟨i, by omega, by omega⟩
    · exact ⟨n + 1, by omega, by omega⟩
theorem pot_prices {n d} {p : Mat} (hn : 0 < n) (M : Met n d) {f : Nat → Int} (h : Pot n d p f) : ∃ g, Feas n d g ∧ Tight n d g p := by
  refine ⟨fun j => minOver (fun i => f i + d i j) n, ?_, ?_⟩
  have F : Feas n d fun j => minOver (fun i => f i + d i j) n := by
    intro i j hi hj
    obtain ⟨k, hk, e⟩ := minOver_is (g := fun k => f k + d k i) hn
    have h1 := minOver_le (g := fun k => f k + d k j) hk
    have h2 := M.tri k j i hk hj hi
    show minOver (fun k => f k + d k j) n - minOver (fun k => f k + d k i) n ≤ d i j
    omega
  · exact F
  · intro i j hi hj q
    have F : minOver (fun k => f k + d k j) n - minOver (fun k => f k + d k i) n ≤ d i j := by
      obtain ⟨k, hk, e⟩ := minOver_is (g := fun k => f k + d k i) hn
      have h1 := minOver_le (g := fun k => f k + d k j) hk
      have h2 := M.tri k j i hk hj hi
      omega
    obtain ⟨k, hk, e⟩ := minOver_is (g := fun k => f k + d k j) hn
    have h1 := (h k j hk hj).1
    have h2 := (h i j hi hj).2 q
    have h3 := minOver_le (g := fun k => f k + d k i) hi
    have h4 := M.refl i hi
    show minOver (fun k => f k + d k j) n - minOver (fun k => f k + d k i) n = d i j
    omega
end OT

/-! The specification's prices are the greatest of those that tell the most. -/
namespace OT
set_option linter.unusedVariables false
open Sr58 (Frac frac plus times less whole total)
open Sr80 (Spread cAt pAt pairs)
open Sr82 (dAt carried priceStep priceRounds prices)

def PArc (n : Nat) (d : Nat → Nat → Int) (p : Mat) : Arcs := fun u v w => u < n ∧ v < n ∧ (w = d u v ∨ (0 < p v u ∧ w = - d v u))
def prC (d : List (List Nat)) (p : Sr80.Plan) (f : List (Option Int)) (j i : Nat) : Option Int := match f.getD i none with
  | none => none
  | some x => some (if 0 < (pAt p j i).n then min (x + dAt d i j) (x - dAt d j i) else x + dAt d i j)
theorem priceStep_eq {n d p f} : priceStep n d p f = (List.range n).map fun j => (List.range n).foldl (fun m i => mn m (prC d p f j i)) (f.getD j none) := by
  unfold priceStep
  refine List.map_congr_left fun j _ => ?_
  congr 1
  funext m i
  unfold prC
  cases f.getD i none with
  | none => rfl
  | some x => cases m <;> rfl
theorem priceRounds_succ {n d p} : ∀ (k : Nat) (f : List (Option Int)), priceRounds n d p (k + 1) f = priceStep n d p (priceRounds n d p k f)
  | 0, f => rfl
  | k + 1, f => by
    show priceRounds n d p (k + 1) (priceStep n d p f) = priceStep n d p (priceRounds n d p k (priceStep n d p f))
    rw [priceRounds_succ k]
def pr0 (n : Nat) : List (Option Int) := (List.range n).map fun i => if i = 0 then some 0 else none
def prCur (n : Nat) (d : List (List Nat)) (p : Sr80.Plan) (k v : Nat) : Option Int := (priceRounds n d p k (pr0 n)).getD v none
theorem prCur_succ {n d p k v} (hv : v < n) : prCur n d p (k + 1) v = (List.range n).foldl (fun m i => mn m (prC d p (priceRounds n d p k (pr0 n)) v i)) (prCur n d p k v) := by
  unfold prCur
  rw [priceRounds_succ, priceStep_eq, getD_range hv]
theorem prCur_out {n d p k v} (hv : ¬ v < n) : prCur n d p k v = none := by
  unfold prCur
  cases k with
  | zero => show (pr0 n).getD v none = none; unfold pr0; rw [getD_range_out hv]
  | succ k => rw [priceRounds_succ, priceStep_eq, getD_range_out hv]
theorem pr_rounds {n d} {p : Sr80.Plan} (hn : 0 < n) (op : OkP p) : Rounds (fun s => s = 0) (PArc n (dI d) (mt p)) (prCur n d p) where
  start := by
    rintro s rfl
    refine ⟨0, ?_, by omega⟩
    show (pr0 n).getD 0 none = some 0
    unfold pr0; rw [getD_range hn, if_pos rfl]
  mono := by
    intro k v x h
    by_cases hv : v < n
    · rw [prCur_succ hv]; exact fold_mn_keep _ _ _ h
    · rw [prCur_out hv] at h
      obtain ⟨y, e, _⟩ := h
      cases e
  relax := by
    rintro k u v w x ⟨hu, hv, q⟩ h
    rw [prCur_succ hv]
    refine fold_mn_item _ _ u _ (List.mem_range.mpr hu) ?_
    obtain ⟨y, e, b⟩ := h
    unfold prCur at e
    unfold prC
    rw [e]
    refine ⟨_, rfl, ?_⟩
    rcases q with rfl | ⟨q, rfl⟩
    · unfold dI; split <;> omega
    · rw [if_pos ((pos_iff (ok_pAt op v u)).mpr q)]; unfold dI; omega
theorem pr_sound {n d} {p : Sr80.Plan} (hn : 0 < n) (op : OkP p) : ∀ (k v : Nat) (x : Int), prCur n d p k v = some x → ∃ l, Way (fun s => s = 0) (PArc n (dI d) (mt p)) l v x
  | 0, v, x, h => by
    by_cases hv : v < n
    · have h' : (pr0 n).getD v none = some x := h
      unfold pr0 at h'
      rw [getD_range hv] at h'
      by_cases q : v = 0
      · rw [if_pos q] at h'
        cases h'
        exact ⟨_, .nil q⟩
      · rw [if_neg q] at h'; cases h'
    · rw [prCur_out hv] at h; cases h
  | k + 1, v, x, h => by
    by_cases hv : v < n
    · rw [prCur_succ hv] at h
      rcases fold_mn_from _ _ _ h with q | ⟨u, a, b⟩
      · exact pr_sound hn op k v x q
      · unfold prC at b
        cases c : (priceRounds n d p k (pr0 n)).getD u none with
        | none => rw [c] at b; cases b
        | some z =>
          rw [c] at b
          have e : (if 0 < (pAt p v u).n then min (z + (dAt d u v : Int)) (z - (dAt d v u : Int)) else z + (dAt d u v : Int)) = x := Option.some.inj b
          obtain ⟨l, W⟩ := pr_sound hn op k u z c
          have hu := List.mem_range.mp a
          have fwd : x = z + dI d u v → ∃ l, Way (fun s => s = 0) (PArc n (dI d) (mt p)) l v x := fun q => by
            subst q; exact ⟨_, .snoc W ⟨hu, hv, .inl rfl⟩⟩
          split at e
          case isTrue q =>
            by_cases y : z + (dAt d u v : Int) ≤ z - (dAt d v u : Int)
            · exact fwd (by unfold dI; omega)
            · have : x = z + - dI d v u := by unfold dI; omega
              subst this
              exact ⟨_, .snoc W ⟨hu, hv, .inr ⟨(pos_iff (ok_pAt op v u)).mp q, rfl⟩⟩⟩
          case isFalse q => exact fwd (by unfold dI; omega)
    · rw [prCur_out hv] at h; cases h
/-- prices that fit hold along each arc -/
theorem parc_of {n d} {p : Mat} {g : Nat → Int} (F : Feas n d g) (T : Tight n d g p) : ∀ u v w, PArc n d p u v w → g v ≤ g u + w := by
  rintro u v w ⟨hu, hv, rfl | ⟨q, rfl⟩⟩
  · have := F u v hu hv; omega
  · have := T v u hv hu q; omega
/-- the shortest ways from place 0 in what a plan leaves are the greatest prices -/
theorem prices_of_dist {n d} {A B : Nat → Rat} {p : Mat} (hn : 0 < n) (hp : Plan n A B p) {g : Nat → Int} (F : Feas n d g) (T : Tight n d g p) {f : Nat → Int}
    (hf : ∀ j, j < n → Dist (fun s => s = 0) (PArc n d p) j (some (f j))) : Prices n d A B f ∧ Tight n d f p := by
  have step : ∀ u v w, PArc n d p u v w → f v ≤ f u + w := by
    intro u v w h
    obtain ⟨l, W⟩ := (hf u h.1).way _ rfl
    obtain ⟨y, e, q⟩ := (hf v h.2.1).least _ _ (.snoc W h)
    cases e; exact q
  have z : f 0 = 0 := by
    obtain ⟨y, e, q⟩ := (hf 0 hn).least _ _ (.nil rfl)
    cases e
    obtain ⟨l, W⟩ := (hf 0 hn).way _ rfl
    have := W.atLeast (f := fun v => g v - g 0) (fun u v w h => by have := parc_of F T u v w h; omega) (fun s hs => by subst hs; omega)
    omega
  have F' : Feas n d f := fun i j hi hj => by
    have := step i j _ ⟨hi, hj, .inl rfl⟩; omega
  have T' : Tight n d f p := fun i j hi hj q => by
    have h1 := F' i j hi hj
    have h2 := step j i _ ⟨hj, hi, .inr ⟨q, rfl⟩⟩
    omega
  refine ⟨⟨z, F', fun g' Fg => ?_, fun g' Fg zg hv j hj => ?_⟩, T'⟩
  · rw [← cost_of_tight hp T']; exact value_le hp Fg
  · have Tg : Tight n d g' p := tight_of_cost hp Fg (by rw [cost_of_tight hp T']; exact hv)
    obtain ⟨l, W⟩ := (hf j hj).way _ rfl
    exact W.atLeast (parc_of Fg Tg) (fun s hs => by subst hs; omega)
theorem prices_ok {n : Nat} {d : List (List Nat)} {a b : Spread} (hn : 0 < n) (M : Met n (dI d)) (ga : GoodS n a) (gb : GoodS n b) :
    ∃ f : Nat → Int, prices n d a b = (List.range n).map f ∧ Prices n (dI d) (sp a) (sp b) f ∧ Tight n (dI d) f (mt (carried n d a b)) := by
  have C := carried_ok (d := d) ga gb
  obtain ⟨f0, hf0⟩ := C.pot
  obtain ⟨g, F, T⟩ := pot_prices hn M hf0
  have R := pr_rounds (d := d) hn C.op
  have dd : ∀ j, j < n → Dist (fun s => s = 0) (PArc n (dI d) (mt (carried n d a b))) j (prCur n d (carried n d a b) n j) := fun j hj =>
    ⟨fun l x W => R.done (f := g) (N := n) (parc_of F T) (fun s h => by subst h; exact hn) (fun u v w h => h.2.1) W n (by omega), fun x h => pr_sound hn C.op n j x h⟩
  refine ⟨fun j => (prCur n d (carried n d a b) n j).getD 0, ?_, prices_of_dist hn C.plan F T fun j hj => ?_⟩
  · have e : prices n d a b = (priceRounds n d (carried n d a b) n (pr0 n)).map fun x => x.getD 0 := rfl
    rw [e]
    obtain ⟨m, rfl⟩ : ∃ m, n = m + 1 := ⟨n - 1, by omega⟩
    unfold prCur
    rw [priceRounds_succ, priceStep_eq, List.map_map]
    refine List.map_congr_left fun j hj => ?_
    show Option.getD _ 0 = Option.getD _ 0
    rw [getD_range (List.mem_range.mp hj)]
  · obtain ⟨x, e, _⟩ := (dd j hj).least _ _ (.snoc (.nil rfl) ⟨hn, hj, .inl rfl⟩)
    have := dd j hj
    rw [e] at this ⊢
    exact this
end OT

/-! As much as one pair can have: by the sets, and by a plan that has it. -/
namespace OT
set_option linter.unusedVariables false
open Sr58 (Frac frac plus times less whole total)
open Sr66 (minus over zero neg)
open Sr80 (Spread cAt pAt pairs inSet ofSet reach most)

def Supp (n : Nat) (f : Nat → Nat → Bool) (p : Mat) : Prop := ∀ i j, i < n → j < n → 0 < p i j → f i j = true
structure PlanOn (n : Nat) (f : Nat → Nat → Bool) (A B : Nat → Rat) (p : Mat) : Prop where
  plan : Plan n A B p
  supp : Supp n f p

/-! ### Sets of places as numbers -/
def bset (P : Nat → Bool) (n : Nat) : Nat := ((List.range n).filter P).foldl (fun t j => t + 2 ^ j) 0
theorem bset_succ (P : Nat → Bool) (n : Nat) : bset P (n + 1) = if P n then bset P n + 2 ^ n else bset P n := by
  unfold bset
  rw [List.range_succ, List.filter_append, List.foldl_append]
  cases h : P n with
  | true => simp [List.filter, h]
  | false => simp [List.filter, h]
theorem bset_lt (P : Nat → Bool) : ∀ n, bset P n < 2 ^ n
  | 0 => by show (0 : Nat) < 2 ^ 0; decide
  | n + 1 => by
    rw [bset_succ]
    have := bset_lt P n
    have e : 2 ^ (n + 1) = 2 ^ n + 2 ^ n := by rw [Nat.pow_succ]; omega
    split <;> omega
theorem inSet_bit (s i : Nat) : inSet s i = s.testBit i := by
  rw [Nat.testBit_eq_decide_div_mod_eq]; rfl
theorem inSet_bset (P : Nat → Bool) : ∀ n i, inSet (bset P n) i = (decide (i < n) && P i)
  | 0, i => by
    rw [inSet_bit]; show Nat.testBit 0 i = _
    simp
  | n + 1, i => by
    rw [bset_succ]
    have ih := inSet_bset P n i
    have lt := bset_lt P n
    rw [inSet_bit] at ih ⊢
    by_cases c : P n = true
    · rw [if_pos c, Nat.add_comm]
      by_cases h1 : i < n
      · rw [Nat.testBit_two_pow_add_gt h1, ih]
        simp [h1]; omega
      · by_cases h2 : i = n
        · subst h2
          rw [Nat.testBit_two_pow_add_eq, Nat.testBit_lt_two_pow lt]
          simp [c]
        · have : 2 ^ n + bset P n < 2 ^ i := by
            have h3 : 2 ^ (n + 1) ≤ 2 ^ i := Nat.pow_le_pow_right (by omega) (by omega)
            have e : 2 ^ (n + 1) = 2 ^ n + 2 ^ n := by rw [Nat.pow_succ]; omega
            omega
          rw [Nat.testBit_lt_two_pow this]
          simp; omega
    · rw [if_neg c, ih]
      by_cases h2 : i = n
      · subst h2; simp [c]
      · have e : decide (i < n) = decide (i < n + 1) := by
          rw [decide_eq_decide]; omega
        rw [e]
def reachP (n : Nat) (f : Nat → Nat → Bool) (s j : Nat) : Bool := (List.range n).any fun i => inSet s i && f i j
theorem inSet_reach (n : Nat) (f : Nat → Nat → Bool) (s j : Nat) : inSet (reach n f s) j = true ↔ j < n ∧ ∃ i, i < n ∧ inSet s i = true ∧ f i j = true := by
  have e : reach n f s = bset (reachP n f s) n := rfl
  rw [e, inSet_bset, Bool.and_eq_true, decide_eq_true_iff]
  refine and_congr Iff.rfl ?_
  unfold reachP
  rw [List.any_eq_true]
  constructor
  · rintro ⟨i, hi, q⟩
    rw [Bool.and_eq_true] at q
    exact ⟨i, List.mem_range.mp hi, q.1, q.2⟩
  · rintro ⟨i, hi, q1, q2⟩
    exact ⟨i, List.mem_range.mpr hi, by rw [q1, q2]; rfl⟩
def sumOf (n : Nat) (a : Nat → Rat) (s : Nat) : Rat := S n fun i => if inSet s i = true then a i else 0
theorem ofSet_eq {n : Nat} {a : Spread} (oa : OkS a) (s : Nat) : ofSet n a s = fr (sumOf n (sp a) s) := by
  unfold ofSet sumOf
  rw [total_range (fun i hi => by split; exact ok_cAt oa i; exact ok_zero)]
  congr 1
  refine S_congr fun i hi => ?_
  split
  · rfl
  · exact val_zero
/-- what is least of several -/
theorem least_fold {c : Nat → Frac} : ∀ (l : List Nat) (z : Frac), Ok z → (∀ s, s ∈ l → Ok (c s)) →
    Ok (l.foldl (fun m s => Sr80.least m (c s)) z) ∧ val (l.foldl (fun m s => Sr80.least m (c s)) z) ≤ val z ∧ (∀ s, s ∈ l → val (l.foldl (fun m s => Sr80.least m (c s)) z) ≤ val (c s)) ∧
    ∀ x, x ≤ val z → (∀ s, s ∈ l → x ≤ val (c s)) → x ≤ val (l.foldl (fun m s => Sr80.least m (c s)) z)
  | [], z, o, _ => ⟨o, Rat.le_refl, fun s h => (nomatch h), fun x h _ => h⟩
  | s :: l, z, o, h => by
    have oc := h s List.mem_cons_self
    have v := val_least o oc
    obtain ⟨a, b, c', d⟩ := least_fold (c := c) l (Sr80.least z (c s)) (ok_least o oc) (fun t ht => h t (List.mem_cons_of_mem _ ht))
    rw [List.foldl_cons]
    refine ⟨a, Rat.le_trans b (by rw [v]; split <;> grind), fun t ht => ?_, fun x h1 h2 => d x ?_ fun t ht => h2 t (List.mem_cons_of_mem _ ht)⟩
    · rcases List.mem_cons.mp ht with e | e
      · subst e; exact Rat.le_trans b (by rw [v]; split <;> grind)
      · exact c' t e
    · have := h2 s List.mem_cons_self
      rw [v]; split <;> grind
section
variable {n : Nat} {f : Nat → Nat → Bool} {a b : Spread}
def cand (n : Nat) (f : Nat → Nat → Bool) (a b : Spread) (s : Nat) : Frac := minus (ofSet n b (reach n f s)) (ofSet n a s)
theorem cand_ok (oa : OkS a) (ob : OkS b) (s : Nat) : Ok (cand n f a b s) ∧ val (cand n f a b s) = sumOf n (sp b) (reach n f s) - sumOf n (sp a) s := by
  refine ⟨ok_minus _ _, ?_⟩
  unfold cand
  rw [ofSet_eq oa, ofSet_eq ob, val_minus (ok_fr _) (ok_fr _), val_fr, val_fr]
theorem most_ok (oa : OkS a) (ob : OkS b) (i j : Nat) : Ok (most n f a b i j) ∧ val (most n f a b i j) ≤ sp a i ∧ val (most n f a b i j) ≤ sp b j ∧
    (∀ s, s < 2 ^ n → inSet s i = false → inSet (reach n f s) j = true → val (most n f a b i j) ≤ sumOf n (sp b) (reach n f s) - sumOf n (sp a) s) ∧
    ∀ x, x ≤ sp a i → x ≤ sp b j → (∀ s, inSet s i = false → inSet (reach n f s) j = true → x ≤ sumOf n (sp b) (reach n f s) - sumOf n (sp a) s) → x ≤ val (most n f a b i j) := by
  have e : most n f a b i j = ((List.range (2 ^ n)).filter fun s => !inSet s i && inSet (reach n f s) j).foldl (fun m s => Sr80.least m (cand n f a b s)) (Sr80.least (cAt a i) (cAt b j)) := rfl
  have v : val (Sr80.least (cAt a i) (cAt b j)) = if sp b j < sp a i then sp b j else sp a i := val_least (ok_cAt oa i) (ok_cAt ob j)
  obtain ⟨h1, h2, h3, h4⟩ := least_fold (c := cand n f a b) ((List.range (2 ^ n)).filter fun s => !inSet s i && inSet (reach n f s) j) (Sr80.least (cAt a i) (cAt b j)) (ok_least (ok_cAt oa i) (ok_cAt ob j)) (fun s _ => (cand_ok oa ob s).1)
  rw [e]
  refine ⟨h1, Rat.le_trans h2 (by rw [v]; split <;> grind), Rat.le_trans h2 (by rw [v]; split <;> grind), fun s hs q1 q2 => ?_, fun x x1 x2 x3 => h4 x (by rw [v]; split <;> grind) fun s hs => ?_⟩
  · rw [← (cand_ok (f := f) (n := n) oa ob s).2]
    exact h3 s (List.mem_filter.mpr ⟨List.mem_range.mpr hs, by rw [q1, q2]; rfl⟩)
  · obtain ⟨_, hs2⟩ := List.mem_filter.mp hs
    rw [Bool.and_eq_true, Bool.not_eq_true'] at hs2
    rw [(cand_ok (f := f) (n := n) oa ob s).2]
    exact x3 s hs2.1 hs2.2
end
/-- no plan has more at a pair than any set allows -/
theorem cut_le {n f A B} {q : Mat} (P : PlanOn n f A B q) {i j : Nat} (hi : i < n) (hj : j < n) {s : Nat} (h1 : inSet s i = false) (h2 : inSet (reach n f s) j = true) : q i j ≤ sumOf n B (reach n f s) - sumOf n A s := by
  have eB : sumOf n B (reach n f s) = S n fun r => S n fun c => if inSet (reach n f s) c = true then q r c else 0 := by
    unfold sumOf
    rw [S_comm (n := n) (m := n) (f := fun r c => if inSet (reach n f s) c = true then q r c else 0)]
    refine S_congr fun c hc => ?_
    by_cases z : inSet (reach n f s) c = true
    · simp only [z, if_true]; exact (P.plan.col c hc).symm
    · simp only [z]; exact S_zero.symm
  have term : ∀ r, r < n → (if inSet s r = true then A r else 0) + (if r = i then q i j else 0) ≤ S n fun c => if inSet (reach n f s) c = true then q r c else 0 := by
    intro r hr
    have nn : ∀ c, c < n → 0 ≤ (if inSet (reach n f s) c = true then q r c else 0) := fun c hc => by
      split
      · exact P.plan.nn r c hr hc
      · exact Rat.le_refl
    by_cases z : inSet s r = true
    · have hne : r ≠ i := fun e => by rw [e, h1] at z; cases z
      rw [if_pos z, if_neg hne, Rat.add_zero, ← P.plan.row r hr]
      refine S_le fun c hc => ?_
      by_cases y : 0 < q r c
      · have := (inSet_reach n f s c).mpr ⟨hc, r, hr, z, P.supp r c hr hc y⟩
        rw [if_pos this]; exact Rat.le_refl
      · have := nn c hc; have := P.plan.nn r c hr hc; grind
    · rw [if_neg z, Rat.zero_add]
      by_cases y : r = i
      · subst y
        rw [if_pos rfl]
        have := S_ge_one (k := j) hj nn
        rw [if_pos h2] at this; exact this
      · rw [if_neg y]; exact S_nonneg nn
  have := S_le term
  rw [S_add, S_one (k := i) hi (fun r _ z => if_neg z), if_pos rfl, ← eB] at this
  unfold sumOf at this ⊢
  grind
/-! ### The other way round: a plan that cannot be raised meets a set -/
def RArc (n : Nat) (f : Nat → Nat → Bool) (q : Mat) (i j : Nat) : Arcs := fun u v w =>
  (∃ r c, r < n ∧ c < n ∧ f r c = true ∧ u = r ∧ v = n + c ∧ w = 0) ∨ (∃ r c, r < n ∧ c < n ∧ ¬ (r = i ∧ c = j) ∧ 0 < q r c ∧ u = n + c ∧ v = r ∧ w = 0)
def Reach (n : Nat) (f : Nat → Nat → Bool) (q : Mat) (i j v : Nat) : Prop := ∃ l x, Way (fun s => s = n + j) (RArc n f q i j) l v x
theorem cut_ge {n f A B} {q : Mat} (P : PlanOn n f A B q) {i j : Nat} (hi : i < n) (hj : j < n) (no : ¬ Reach n f q i j i) :
    B j ≤ q i j ∨ ∃ s, s < 2 ^ n ∧ inSet s i = false ∧ inSet (reach n f s) j = true ∧ sumOf n B (reach n f s) - sumOf n A s ≤ q i j := by
  classical
  let Pr : Nat → Bool := fun r => decide (Reach n f q i j r)
  have inS : ∀ r, r < n → (inSet (bset Pr n) r = true ↔ Reach n f q i j r) := by
    intro r hr
    rw [inSet_bset, Bool.and_eq_true, decide_eq_true_iff]
    exact ⟨fun h => of_decide_eq_true h.2, fun h => ⟨hr, decide_eq_true h⟩⟩
  have hni : inSet (bset Pr n) i = false := by
    cases e : inSet (bset Pr n) i with
    | false => rfl
    | true => exact absurd ((inS i hi).mp e) no
  -- a column that is reached: what comes there is of reached rows, or the pair itself
  have back : ∀ r c, r < n → c < n → ¬ (r = i ∧ c = j) → 0 < q r c → Reach n f q i j (n + c) → Reach n f q i j r := by
    rintro r c hr hc h1 h2 ⟨l, x, W⟩
    exact ⟨_, _, .snoc W (.inr ⟨r, c, hr, hc, h1, h2, rfl, rfl, rfl⟩)⟩
  have fwd : ∀ r c, r < n → c < n → f r c = true → Reach n f q i j r → Reach n f q i j (n + c) := by
    rintro r c hr hc h1 ⟨l, x, W⟩
    exact ⟨_, _, .snoc W (.inl ⟨r, c, hr, hc, h1, rfl, rfl, rfl⟩)⟩
  have hj0 : Reach n f q i j (n + j) := ⟨_, _, .nil rfl⟩
  have colR : ∀ c, c < n → inSet (reach n f (bset Pr n)) c = true → Reach n f q i j (n + c) := by
    intro c hc h
    obtain ⟨_, r, hr, h1, h2⟩ := (inSet_reach n f _ c).mp h
    exact fwd r c hr hc h2 ((inS r hr).mp h1)
  by_cases hJ : inSet (reach n f (bset Pr n)) j = true
  · refine .inr ⟨bset Pr n, bset_lt _ _, hni, hJ, ?_⟩
    have eB : sumOf n B (reach n f (bset Pr n)) = S n fun r => S n fun c => if inSet (reach n f (bset Pr n)) c = true then q r c else 0 := by
      unfold sumOf
      rw [S_comm (n := n) (m := n) (f := fun r c => if inSet (reach n f (bset Pr n)) c = true then q r c else 0)]
      refine S_congr fun c hc => ?_
      by_cases z : inSet (reach n f (bset Pr n)) c = true
      · simp only [z, if_true]; exact (P.plan.col c hc).symm
      · simp only [z]; exact S_zero.symm
    have term : ∀ r, r < n → (S n fun c => if inSet (reach n f (bset Pr n)) c = true then q r c else 0) ≤ (if inSet (bset Pr n) r = true then A r else 0) + (if r = i then q i j else 0) := by
      intro r hr
      by_cases z : inSet (bset Pr n) r = true
      · have hne : r ≠ i := fun e => by rw [e, hni] at z; cases z
        rw [if_pos z, if_neg hne, Rat.add_zero, ← P.plan.row r hr]
        refine S_le fun c hc => ?_
        have := P.plan.nn r c hr hc
        split
        · exact Rat.le_refl
        · exact this
      · rw [if_neg z, Rat.zero_add]
        have zero : ∀ c, c < n → ¬ (r = i ∧ c = j) → (if inSet (reach n f (bset Pr n)) c = true then q r c else 0) = 0 := by
          intro c hc hne
          split
          case isTrue y =>
            have := P.plan.nn r c hr hc
            by_cases p : 0 < q r c
            · exact absurd ((inS r hr).mpr (back r c hr hc hne p (colR c hc y))) z
            · grind
          case isFalse => rfl
        by_cases y : r = i
        · subst y
          rw [if_pos rfl, S_one (k := j) hj (fun c hc hne => zero c hc fun e => hne e.2), if_pos hJ]
          exact Rat.le_refl
        · rw [if_neg y, S_zero' fun c hc => zero c hc fun e => y e.1]
          exact Rat.le_refl
    have := S_le term
    rw [S_add, S_one (f := fun r => if r = i then q i j else 0) (k := i) hi (fun r _ z => if_neg z), if_pos rfl, ← eB] at this
    unfold sumOf at this ⊢
    grind
  · left
    rw [← P.plan.col j hj, S_one (k := i) hi]
    · exact Rat.le_refl
    · intro r hr hne
      have := P.plan.nn r j hr hj
      by_cases p : 0 < q r j
      · have h1 := back r j hr hj (fun e => hne e.1) p hj0
        exact absurd ((inSet_reach n f _ j).mpr ⟨hj, r, hr, (inS r hr).mpr h1, P.supp r j hr hj p⟩) hJ
      · grind
end OT

/-! Pair by pair, each as much as it can have: the greatest plan of all on those pairs. -/
namespace OT
set_option linter.unusedVariables false
open Sr58 (Frac frac plus times less whole total)
open Sr66 (minus over zero neg)
open Sr80 (Spread cAt pAt pairs inSet ofSet reach most greedyOn greedy)

theorem Mul.one {D} : Mul D 1 := ⟨D, by rw [Rat.mul_one, Rat.intCast_natCast]⟩
/-- a little that all of several still have -/
theorem small {D n} {q : Mat} : ∀ (l : List Nat), (∀ x j, x < n → Adj l x (n + j) → 0 < q x j ∧ Mul D (q x j)) → ∃ v, 0 < v ∧ Mul D v ∧ ∀ x j, x < n → Adj l x (n + j) → v ≤ q x j
  | [], _ => ⟨1, by decide, .one, fun x j _ h => (nomatch h)⟩
  | [a], _ => ⟨1, by decide, .one, fun x j _ h => (nomatch h)⟩
  | a :: b :: l, h => by
    obtain ⟨v, h1, h2, h3⟩ := small (D := D) (n := n) (q := q) (b :: l) fun x j hx z => h x j hx (.inr z)
    by_cases c : a < n ∧ n ≤ b
    · obtain ⟨p1, p2⟩ := h a (b - n) c.1 (.inl ⟨rfl, by omega⟩)
      by_cases y : v ≤ q a (b - n)
      · refine ⟨v, h1, h2, fun x j hx z => ?_⟩
        rcases z with ⟨e1, e2⟩ | z
        · subst e1; have : j = b - n := by omega
          subst this; exact y
        · exact h3 x j hx z
      · refine ⟨q a (b - n), p1, p2, fun x j hx z => ?_⟩
        rcases z with ⟨e1, e2⟩ | z
        · subst e1; have : j = b - n := by omega
          subst this; exact Rat.le_refl
        · have := h3 x j hx z; grind
    · refine ⟨v, h1, h2, fun x j hx z => ?_⟩
      rcases z with ⟨e1, e2⟩ | z
      · exact absurd ⟨by omega, by omega⟩ c
      · exact h3 x j hx z
theorem adj_ne_head {l : List Nat} {h x y : Nat} (nd : (h :: l).Nodup) (a : Adj (h :: l) x y) : y ≠ h := by
  cases l with
  | nil => cases a
  | cons b l =>
    have hn := (List.nodup_cons.mp nd).1
    rcases a with ⟨_, e⟩ | a
    · exact fun q => hn (by rw [← q, ← e]; exact List.mem_cons_self)
    · exact fun q => hn (q ▸ a.right)
def MulM (n D : Nat) (q : Mat) : Prop := ∀ i j, i < n → j < n → Mul D (q i j)
/-- a pair that can be raised, raised -/
theorem raise1 {n f A B D} {q : Mat} (P : PlanOn n f A B q) (M : MulM n D q) {i j : Nat} (hi : i < n) (hj : j < n) (hf : f i j = true) (R : Reach n f q i j i) :
    ∃ q' v, PlanOn n f A B q' ∧ MulM n D q' ∧ 0 < v ∧ Mul D v ∧ q' i j = q i j + v := by
  obtain ⟨l0, x0, W0⟩ := R
  obtain ⟨l, x, W, _, nd, _⟩ := W0.simple (f := fun _ => 0) (by rintro u v w (⟨_, _, _, _, _, _, _, rfl⟩ | ⟨_, _, _, _, _, _, _, _, rfl⟩) <;> omega)
  have bip : Bip n l := by
    intro a b z
    obtain ⟨w, hw⟩ := W.adj a b z
    rcases hw with ⟨r, c, h1, h2, _, e1, e2, _⟩ | ⟨r, c, h1, h2, _, _, e1, e2, _⟩ <;> omega
  have dn : ∀ r c, r < n → Adj l r (n + c) → c < n ∧ ¬ (r = i ∧ c = j) ∧ 0 < q r c := by
    intro r c hr z
    obtain ⟨w, hw⟩ := W.adj _ _ z
    rcases hw with ⟨r', c', h1, h2, _, e1, e2, _⟩ | ⟨r', c', h1, h2, h3, h4, e1, e2, _⟩
    · omega
    · have : c' = c := by omega
      subst this; subst e2; exact ⟨h2, h3, h4⟩
  have up : ∀ r c, r < n → Adj l (n + c) r → c < n ∧ f r c = true := by
    intro r c hr z
    obtain ⟨w, hw⟩ := W.adj _ _ z
    rcases hw with ⟨r', c', h1, h2, h3, e1, e2, _⟩ | ⟨r', c', h1, h2, h3, h4, e1, e2, _⟩
    · have : c' = c := by omega
      subst this; subst e1; exact ⟨h2, h3⟩
    · omega
  obtain ⟨v, pv, mv, lv⟩ := small (D := D) (n := n) (q := q) l fun r c hr z => ⟨(dn r c hr z).2.2, M r c hr (dn r c hr z).1⟩
  have PA := push_at (v := v) l q nd bip
  obtain ⟨r0, hr0⟩ := W.head
  have last : l.getLastD 0 = n + j := W.last
  -- the pair itself lies not on the way
  have no1 : ¬ Adj l (n + j) i := fun z => adj_ne_head (hr0 ▸ nd) (hr0 ▸ z) rfl
  have no2 : ¬ Adj l i (n + j) := fun z => (dn i j hi z).2.1 ⟨rfl, rfl⟩
  have atij : pushF n v l q i j = q i j := PA.same i j hi no1 no2
  have at3 : ∀ r c, r < n → ¬ (r = i ∧ c = j) → (Adj l (n + c) r ∧ pushF n v l q r c = q r c + v) ∨ (Adj l r (n + c) ∧ pushF n v l q r c = q r c - v) ∨ pushF n v l q r c = q r c := by
    intro r c hr _
    by_cases z1 : Adj l (n + c) r
    · exact .inl ⟨z1, PA.up r c hr z1⟩
    · by_cases z2 : Adj l r (n + c)
      · exact .inr (.inl ⟨z2, PA.down r c hr z2⟩)
      · exact .inr (.inr (PA.same r c hr z1 z2))
  refine ⟨upd (pushF n v l q) i j (pushF n v l q i j + v), v, ⟨⟨?_, ?_, ?_⟩, ?_⟩, ?_, pv, mv, by rw [upd_at, atij]⟩
  · intro r c hr hc
    have h0 := P.plan.nn r c hr hc
    by_cases e : r = i ∧ c = j
    · obtain ⟨rfl, rfl⟩ := e
      rw [upd_at, atij]; grind
    · rw [upd_off e]
      rcases at3 r c hr e with ⟨_, z⟩ | ⟨z1, z⟩ | z
      · rw [z]; grind
      · rw [z]; have := lv r c hr z1; grind
      · rw [z]; exact h0
  · intro r hr
    rw [S_upd_row hj]
    have h1 := P.plan.row r hr
    have h2 := push_row (n := n) (v := v) r0 i q (hr0 ▸ bip) r hr
    rw [← hr0, last, if_neg (show ¬ r = n + j by omega)] at h2
    rw [h2]; grind
  · intro c hc
    rw [S_upd_col hi]
    have h1 := P.plan.col c hc
    have h2 := push_col (n := n) (v := v) r0 i q (hr0 ▸ bip) c hc
    rw [← hr0, last, if_neg (show ¬ n + c = i by omega)] at h2
    rw [h2]
    by_cases e : c = j
    · subst e; rw [if_pos rfl, if_pos rfl]; grind
    · rw [if_neg e, if_neg (show ¬ n + c = n + j by omega)]; grind
  · intro r c hr hc hp
    by_cases e : r = i ∧ c = j
    · obtain ⟨rfl, rfl⟩ := e; exact hf
    · rw [upd_off e] at hp
      rcases at3 r c hr e with ⟨z1, z⟩ | ⟨z1, z⟩ | z
      · exact (up r c hr z1).2
      · exact P.supp r c hr hc (dn r c hr z1).2.2
      · rw [z] at hp; exact P.supp r c hr hc hp
  · intro r c hr hc
    by_cases e : r = i ∧ c = j
    · obtain ⟨rfl, rfl⟩ := e
      rw [upd_at, atij]; exact (M r c hr hc).add mv
    · rw [upd_off e]
      rcases at3 r c hr e with ⟨_, z⟩ | ⟨z1, z⟩ | z
      · rw [z]; exact (M r c hr hc).add mv
      · rw [z]; exact (M r c hr hc).sub mv
      · rw [z]; exact M r c hr hc
theorem raise_all {n f A B D} (hD : 0 < D) {i j : Nat} (hi : i < n) (hj : j < n) (hf : f i j = true) : ∀ (k : Nat) (q : Mat), PlanOn n f A B q → MulM n D q → (D : Rat) * (B j - q i j) ≤ (k : Rat) →
    ∃ q', PlanOn n f A B q' ∧ MulM n D q' ∧ ¬ Reach n f q' i j i := by
  intro k
  induction k with
  | zero =>
    intro q P M h
    refine ⟨q, P, M, fun R => ?_⟩
    obtain ⟨q', v, P', M', pv, mv, e⟩ := raise1 P M hi hj hf R
    have h1 : q' i j ≤ B j := by rw [← P'.plan.col j hj]; exact S_ge_one hi fun r hr => P'.plan.nn r j hr hj
    have h2 := mv.one_le pv hD
    have h3 : (D : Rat) * (B j - q i j) = (D : Rat) * (B j - q' i j) + (D : Rat) * v := by rw [e]; grind
    have h4 : 0 ≤ (D : Rat) * (B j - q' i j) := Rat.mul_nonneg Rat.natCast_nonneg (by grind)
    have h5 : (((0 : Nat)) : Rat) = 0 := rfl
    grind
  | succ k ih =>
    intro q P M h
    by_cases R : Reach n f q i j i
    · obtain ⟨q', v, P', M', pv, mv, e⟩ := raise1 P M hi hj hf R
      refine ih q' P' M' ?_
      have h2 := mv.one_le pv hD
      have h3 : (D : Rat) * (B j - q i j) = (D : Rat) * (B j - q' i j) + (D : Rat) * v := by rw [e]; grind
      have h5 : ((k + 1 : Nat) : Rat) = (k : Rat) + 1 := by rw [Rat.natCast_add]; rfl
      grind
    · exact ⟨q, P, M, R⟩
theorem nat_ge (x : Rat) : ∃ k : Nat, x ≤ (k : Rat) := by
  refine ⟨(x.floor + 1).toNat, ?_⟩
  have h := Rat.lt_floor_add_one x
  have : ((x.floor + 1 : Int) : Rat) ≤ (((x.floor + 1).toNat : Nat) : Rat) := by
    rw [← Rat.intCast_natCast]
    exact Rat.intCast_le_intCast.mpr (by omega)
  grind
/-- **as much as one pair can have**: no plan has more, and one has it -/
theorem most_is {n f D} {a b : Spread} (hD : 0 < D) (oa : OkS a) (ob : OkS b) {q : Mat} (P : PlanOn n f (sp a) (sp b) q) (M : MulM n D q) {i j : Nat} (hi : i < n) (hj : j < n) (hf : f i j = true) :
    Ok (most n f a b i j) ∧ (∀ r, PlanOn n f (sp a) (sp b) r → r i j ≤ val (most n f a b i j)) ∧ ∃ r, PlanOn n f (sp a) (sp b) r ∧ MulM n D r ∧ r i j = val (most n f a b i j) := by
  obtain ⟨h0, h1, h2, h3, h4⟩ := most_ok (n := n) (f := f) oa ob i j
  have le : ∀ r, PlanOn n f (sp a) (sp b) r → r i j ≤ val (most n f a b i j) := fun r Pr => by
    refine h4 _ ?_ ?_ fun s s1 s2 => cut_le Pr hi hj s1 s2
    · rw [← Pr.plan.row i hi]; exact S_ge_one hj fun c hc => Pr.plan.nn i c hi hc
    · rw [← Pr.plan.col j hj]; exact S_ge_one hi fun r' hr => Pr.plan.nn r' j hr hj
  refine ⟨h0, le, ?_⟩
  obtain ⟨k, hk⟩ := nat_ge ((D : Rat) * (sp b j - q i j))
  obtain ⟨r, Pr, Mr, no⟩ := raise_all hD hi hj hf k q P M hk
  refine ⟨r, Pr, Mr, Rat.le_antisymm (le r Pr) ?_⟩
  rcases cut_ge Pr hi hj no with z | ⟨s, s0, s1, s2, s3⟩
  · exact Rat.le_trans h2 z
  · exact Rat.le_trans (h3 s s0 s1 s2) s3

/-! ### The order of the pairs -/
def BeforeP (z y : Nat × Nat) : Prop := Before z.1 z.2 y.1 y.2
theorem pairs_sorted (n : Nat) : (pairs n).Pairwise BeforeP := by
  unfold pairs
  rw [List.pairwise_flatMap]
  refine ⟨fun i _ => ?_, ?_⟩
  · rw [List.pairwise_map]
    exact List.pairwise_lt_range.imp fun h => .inr ⟨rfl, h⟩
  · refine List.pairwise_lt_range.imp fun {a b} h => ?_
    intro x hx y hy
    obtain ⟨_, _, rfl⟩ := List.mem_map.mp hx
    obtain ⟨_, _, rfl⟩ := List.mem_map.mp hy
    exact .inl h
theorem before_asymm {z y : Nat × Nat} (h : BeforeP z y) : ¬ BeforeP y z := by
  unfold BeforeP Before at *; omega

structure GI (n : Nat) (f : Nat → Nat → Bool) (A B : Nat → Rat) (D : Nat) (done : List (Nat × Nat)) (a b : Spread) (P : Sr80.Plan) : Prop where
  la : a.length = n
  lb : b.length = n
  oa : OkS a
  ob : OkS b
  sq : Sq n P
  op : OkP P
  ex : ∃ r, PlanOn n f (sp a) (sp b) r ∧ MulM n D r
  zero : ∀ r, PlanOn n f (sp a) (sp b) r → ∀ y, y ∈ done → r y.1 y.2 = 0
  pz : ∀ i j, i < n → j < n → (i, j) ∉ done → mt P i j = 0
  nn : ∀ i j, i < n → j < n → 0 ≤ mt P i j
  supp : Supp n f (mt P)
  row : ∀ i, i < n → S n (fun j => mt P i j) + sp a i = A i
  col : ∀ j, j < n → S n (fun i => mt P i j) + sp b j = B j
  best : ∀ q, PlanOn n f A B q → ∀ y, y ∈ done → (∀ z, z ∈ done → BeforeP z y → q z.1 z.2 = mt P z.1 z.2) → q y.1 y.2 ≤ mt P y.1 y.2
end OT

/-! The plan told is the greatest of the cheapest. -/
namespace OT
set_option linter.unusedVariables false
open Sr58 (Frac frac plus times less whole total)
open Sr66 (minus over zero neg)
open Sr80 (Spread cAt pAt pairs inSet ofSet reach most greedyOn greedy)
open Sr82 (dAt carried prices best)

theorem PlanOn.congrAB {n f A B A' B'} {p : Mat} (h : PlanOn n f A B p) (ha : ∀ k, k < n → A k = A' k) (hb : ∀ k, k < n → B k = B' k) : PlanOn n f A' B' p :=
  ⟨⟨h.plan.nn, fun i hi => (h.plan.row i hi).trans (ha i hi), fun j hj => (h.plan.col j hj).trans (hb j hj)⟩, h.supp⟩
theorem PlanOn.shift {n f A B} {r : Mat} (h : PlanOn n f A B r) {i j : Nat} {v : Rat} (hi : i < n) (hj : j < n) (hf : f i j = true) (hv : 0 ≤ r i j + v) :
    PlanOn n f (fun k => A k + if k = i then v else 0) (fun k => B k + if k = j then v else 0) (upd r i j (r i j + v)) := by
  refine ⟨⟨fun i' j' hi' hj' => ?_, fun i' hi' => ?_, fun j' hj' => ?_⟩, fun i' j' hi' hj' hp => ?_⟩
  · by_cases e : i' = i ∧ j' = j
    · obtain ⟨rfl, rfl⟩ := e; rw [upd_at]; exact hv
    · rw [upd_off e]; exact h.plan.nn i' j' hi' hj'
  · rw [S_upd_row hj, h.plan.row i' hi']
  · rw [S_upd_col hi, h.plan.col j' hj']
  · by_cases e : i' = i ∧ j' = j
    · obtain ⟨rfl, rfl⟩ := e; exact hf
    · rw [upd_off e] at hp; exact h.supp i' j' hi' hj' hp
theorem sp_set {n} {a : Spread} (la : a.length = n) (oa : OkS a) {i : Nat} {m : Frac} (om : Ok m) (hi : i < n) (k : Nat) : sp (a.set i (minus (cAt a i) m)) k = sp a k + (if k = i then - val m else 0) := by
  unfold sp
  rw [cAt_set (by rw [la]; exact hi)]
  by_cases q : k = i
  · subst q; rw [if_pos rfl, if_pos rfl, val_minus (ok_cAt oa k) om]; grind
  · rw [if_neg q, if_neg q]; grind
theorem greedy_skip {n f A B D dn a b P i j} (I : GI n f A B D dn a b P) (hi : i < n) (hj : j < n) (hf : ¬ f i j = true) : GI n f A B D (dn ++ [(i, j)]) a b P := by
  have z : ∀ {A' B'} {q : Mat}, PlanOn n f A' B' q → q i j = 0 := fun {A' B' q} Q => by
    have h1 := Q.plan.nn i j hi hj
    by_cases p : 0 < q i j
    · exact absurd (Q.supp i j hi hj p) hf
    · grind
  refine ⟨I.la, I.lb, I.oa, I.ob, I.sq, I.op, I.ex, fun r R y hy => ?_, fun i' j' h1 h2 h3 => I.pz i' j' h1 h2 fun h => h3 (List.mem_append.mpr (.inl h)), I.nn, I.supp, I.row, I.col, fun q Q y hy h => ?_⟩
  · rcases List.mem_append.mp hy with h | h
    · exact I.zero r R y h
    · have := List.mem_singleton.mp h; subst this; exact z R
  · rcases List.mem_append.mp hy with h1 | h1
    · exact I.best q Q y h1 fun z hz b => h z (List.mem_append.mpr (.inl hz)) b
    · have := List.mem_singleton.mp h1; subst this
      show q i j ≤ mt P i j
      rw [z Q]; exact I.nn i j hi hj
theorem greedy_take {n f A B D dn a b P i j} (hD : 0 < D) (I : GI n f A B D dn a b P) (hi : i < n) (hj : j < n) (hf : f i j = true) (hd : (i, j) ∉ dn) (hb : ∀ z, z ∈ dn → BeforeP z (i, j)) :
    GI n f A B D (dn ++ [(i, j)]) (a.set i (minus (cAt a i) (most n f a b i j))) (b.set j (minus (cAt b j) (most n f a b i j))) (setP P i j (plus (pAt P i j) (most n f a b i j))) := by
  obtain ⟨q0, P0, M0⟩ := I.ex
  obtain ⟨om, le, r0, R0, MR0, e0⟩ := most_is hD I.oa I.ob P0 M0 hi hj hf
  have m0 : 0 ≤ val (most n f a b i j) := by rw [← e0]; exact R0.plan.nn i j hi hj
  have sa := sp_set I.la I.oa om hi
  have sb := sp_set I.lb I.ob om hj
  have pz : mt P i j = 0 := I.pz i j hi hj hd
  have em : mt (setP P i j (plus (pAt P i j) (most n f a b i j))) = upd (mt P) i j (mt P i j + val (most n f a b i j)) := by
    rw [mt_setP I.sq hi hj, val_plus (ok_pAt I.op i j) om]; rfl
  have ne : ∀ z : Nat × Nat, z ∈ dn → ¬ (z.1 = i ∧ z.2 = j) := fun z hz e => hd (by obtain ⟨a, b⟩ := z; obtain ⟨rfl, rfl⟩ := e; exact hz)
  refine ⟨by rw [List.length_set]; exact I.la, by rw [List.length_set]; exact I.lb, okS_set I.oa (ok_minus _ _), okS_set I.ob (ok_minus _ _), sq_setP I.sq hi, okP_setP I.op (ok_plus _ _), ?_, ?_, ?_, ?_, ?_, ?_, ?_, ?_⟩
  · refine ⟨upd r0 i j (r0 i j + - val (most n f a b i j)), (R0.shift hi hj hf (by rw [e0]; grind)).congrAB (fun k _ => (sa k).symm) (fun k _ => (sb k).symm), fun i' j' h1 h2 => ?_⟩
    by_cases e : i' = i ∧ j' = j
    · obtain ⟨rfl, rfl⟩ := e
      rw [upd_at, e0, Rat.add_neg_cancel]; exact .zero
    · rw [upd_off e]; exact MR0 i' j' h1 h2
  · intro r R y hy
    have rn := R.plan.nn i j hi hj
    have R1 := (R.shift (v := val (most n f a b i j)) hi hj hf (by grind)).congrAB (A' := sp a) (B' := sp b)
      (fun k _ => by rw [sa k]; by_cases q : k = i <;> simp only [q, if_true, if_false] <;> grind) (fun k _ => by rw [sb k]; by_cases q : k = j <;> simp only [q, if_true, if_false] <;> grind)
    rcases List.mem_append.mp hy with h | h
    · have := I.zero _ R1 y h
      rw [upd_off (ne y h)] at this; exact this
    · have := List.mem_singleton.mp h; subst this
      have := le _ R1
      rw [upd_at] at this
      show r i j = 0
      grind
  · intro i' j' h1 h2 h3
    have e : ¬ (i' = i ∧ j' = j) := fun e => h3 (by obtain ⟨rfl, rfl⟩ := e; exact List.mem_append.mpr (.inr (List.mem_singleton.mpr rfl)))
    rw [em, upd_off e]
    exact I.pz i' j' h1 h2 fun h => h3 (List.mem_append.mpr (.inl h))
  · intro i' j' h1 h2
    rw [em]
    by_cases e : i' = i ∧ j' = j
    · obtain ⟨rfl, rfl⟩ := e; rw [upd_at, pz]; grind
    · rw [upd_off e]; exact I.nn i' j' h1 h2
  · intro i' j' h1 h2 hp
    rw [em] at hp
    by_cases e : i' = i ∧ j' = j
    · obtain ⟨rfl, rfl⟩ := e; exact hf
    · rw [upd_off e] at hp; exact I.supp i' j' h1 h2 hp
  · intro k hk
    rw [em, S_upd_row hj, sa k]
    have := I.row k hk
    by_cases q : k = i
    · rw [if_pos q, if_pos q]; grind
    · rw [if_neg q, if_neg q]; grind
  · intro k hk
    rw [em, S_upd_col hi, sb k]
    have := I.col k hk
    by_cases q : k = j
    · rw [if_pos q, if_pos q]; grind
    · rw [if_neg q, if_neg q]; grind
  · intro q Q y hy h
    rw [em] at h ⊢
    rcases List.mem_append.mp hy with h1 | h1
    · rw [upd_off (ne y h1)]
      refine I.best q Q y h1 fun z hz b => ?_
      have := h z (List.mem_append.mpr (.inl hz)) b
      rw [upd_off (ne z hz)] at this; exact this
    · have := List.mem_singleton.mp h1; subst this
      show q i j ≤ upd (mt P) i j (mt P i j + val (most n f a b i j)) i j
      rw [upd_at]
      have ag : ∀ z, z ∈ dn → q z.1 z.2 = mt P z.1 z.2 := fun z hz => by
        have := h z (List.mem_append.mpr (.inl hz)) (hb z hz)
        rw [upd_off (ne z hz)] at this; exact this
      have R : PlanOn n f (sp a) (sp b) (fun i' j' => q i' j' - mt P i' j') := by
        refine ⟨⟨fun i' j' h1 h2 => ?_, fun i' h1 => ?_, fun j' h2 => ?_⟩, fun i' j' h1 h2 hp => ?_⟩
        · by_cases c : (i', j') ∈ dn
          · have := ag _ c
            simp only at this
            rw [this]; grind
          · rw [I.pz i' j' h1 h2 c]; have := Q.plan.nn i' j' h1 h2; grind
        · rw [S_sub, Q.plan.row i' h1, ← I.row i' h1]; grind
        · rw [S_sub, Q.plan.col j' h2, ← I.col j' h2]; grind
        · have := I.nn i' j' h1 h2
          exact Q.supp i' j' h1 h2 (by grind)
      have := le _ R
      grind
theorem greedyOn_ok {n f A B D} (hD : 0 < D) : ∀ (l dn : List (Nat × Nat)) (a b : Spread) (P : Sr80.Plan), dn ++ l = pairs n → GI n f A B D dn a b P →
    ∃ a' b', GI n f A B D (pairs n) a' b' (greedyOn n f l a b P)
  | [], dn, a, b, P, e, I => ⟨a, b, by rw [← e, List.append_nil]; exact I⟩
  | y :: l, dn, a, b, P, e, I => by
    obtain ⟨i, j⟩ := y
    have hy : (i, j) ∈ pairs n := by rw [← e]; exact List.mem_append.mpr (.inr List.mem_cons_self)
    obtain ⟨hi, hj⟩ := mem_pairs.mp hy
    have srt := pairs_sorted n
    rw [← e] at srt
    have hb : ∀ z, z ∈ dn → BeforeP z (i, j) := fun z hz => (List.pairwise_append.mp srt).2.2 z hz _ List.mem_cons_self
    have hd : (i, j) ∉ dn := fun h => before_asymm (hb _ h) (hb _ h)
    have e' : (dn ++ [(i, j)]) ++ l = pairs n := by rw [List.append_assoc]; exact e
    show ∃ a' b', GI n f A B D (pairs n) a' b' (if f i j = true then greedyOn n f l (a.set i (minus (cAt a i) (most n f a b i j))) (b.set j (minus (cAt b j) (most n f a b i j))) (setP P i j (plus (pAt P i j) (most n f a b i j))) else greedyOn n f l a b P)
    by_cases hf : f i j = true
    · rw [if_pos hf]
      exact greedyOn_ok hD l _ _ _ _ e' (greedy_take hD I hi hj hf hd hb)
    · rw [if_neg hf]
      exact greedyOn_ok hD l _ _ _ _ e' (greedy_skip I hi hj hf)
theorem greedy_ok {n f D} {a b : Spread} (hD : 0 < D) (ga : GoodS n a) (gb : GoodS n b) {q : Mat} (Q : PlanOn n f (sp a) (sp b) q) (M : MulM n D q) :
    Sq n (greedy n f a b) ∧ OkP (greedy n f a b) ∧ Lex n (PlanOn n f (sp a) (sp b)) (mt (greedy n f a b)) := by
  have I0 : GI n f (sp a) (sp b) D [] a b (Sr80.blank n) := by
    refine ⟨ga.len, gb.len, ga.ok, gb.ok, sq_blank n, okP_blank n, ⟨q, Q, M⟩, fun r R y hy => (nomatch hy), fun i j _ _ _ => by rw [mt_blank], fun i j _ _ => by rw [mt_blank]; exact Rat.le_refl, fun i j _ _ h => ?_, fun i _ => by rw [mt_blank, S_zero, Rat.zero_add], fun j _ => by rw [mt_blank, S_zero, Rat.zero_add], fun q _ y hy => (nomatch hy)⟩
    rw [mt_blank] at h
    have h' : (0 : Rat) < 0 := h
    exact absurd h' Rat.lt_irrefl
  obtain ⟨a', b', I⟩ := greedyOn_ok hD (pairs n) [] a b (Sr80.blank n) rfl I0
  have e : greedy n f a b = greedyOn n f (pairs n) a b (Sr80.blank n) := rfl
  rw [← e] at I
  obtain ⟨r, R, _⟩ := I.ex
  have rz : ∀ i j, i < n → j < n → r i j = 0 := fun i j hi hj => I.zero r R (i, j) (mem_pairs.mpr ⟨hi, hj⟩)
  have az : ∀ i, i < n → sp a' i = 0 := fun i hi => by rw [← R.plan.row i hi]; exact S_zero' fun j hj => rz i j hi hj
  have bz : ∀ j, j < n → sp b' j = 0 := fun j hj => by rw [← R.plan.col j hj]; exact S_zero' fun i hi => rz i j hi hj
  refine ⟨I.sq, I.op, ⟨⟨⟨I.nn, fun i hi => ?_, fun j hj => ?_⟩, I.supp⟩, fun q Q i j hi hj h => ?_⟩⟩
  · have := I.row i hi; rw [az i hi] at this; grind
  · have := I.col j hj; rw [bz j hj] at this; grind
  · exact I.best q Q (i, j) (mem_pairs.mpr ⟨hi, hj⟩) fun z hz hb => h z.1 z.2 (mem_pairs.mp hz).1 (mem_pairs.mp hz).2 hb
/-- **the plan told**: of all plans that cost least the greatest -/
theorem best_ok {n : Nat} {d : List (List Nat)} {a b : Spread} (hn : 0 < n) (M : Met n (dI d)) (ga : GoodS n a) (gb : GoodS n b) :
    Sq n (best n d a b) ∧ OkP (best n d a b) ∧ Lex n (Optimal n (dI d) (sp a) (sp b)) (mt (best n d a b)) := by
  obtain ⟨F, eF, PF, TF⟩ := prices_ok hn M ga gb
  have C := carried_ok (d := d) ga gb
  obtain ⟨D, hD, hM⟩ := C.mul
  let g : Nat → Nat → Bool := fun i j => (prices n d a b).getD j 0 - (prices n d a b).getD i 0 == (dAt d i j : Int)
  have hg : ∀ i j, i < n → j < n → (g i j = true ↔ F j - F i = dI d i j) := by
    intro i j hi hj
    show ((prices n d a b).getD j 0 - (prices n d a b).getD i 0 == (dAt d i j : Int)) = true ↔ _
    rw [eF, getD_range hi, getD_range hj, beq_iff_eq]; rfl
  have on : ∀ q, PlanOn n g (sp a) (sp b) q ↔ Optimal n (dI d) (sp a) (sp b) q := by
    intro q
    rw [optimal_iff C.plan PF.feas TF]
    exact ⟨fun h => ⟨h.plan, fun i j hi hj p => (hg i j hi hj).mp (h.supp i j hi hj p)⟩, fun h => ⟨h.1, fun i j hi hj p => (hg i j hi hj).mpr (h.2 i j hi hj p)⟩⟩
  have Q : PlanOn n g (sp a) (sp b) (mt (carried n d a b)) := (on _).mpr (optimal_of C.plan PF.feas TF)
  obtain ⟨h1, h2, h3⟩ := greedy_ok hD ga gb Q hM
  exact ⟨h1, h2, h3.congr on⟩
/-- **the lowest cost** -/
theorem least_ok {n : Nat} {d : List (List Nat)} {a b : Spread} (hn : 0 < n) (M : Met n (dI d)) (ga : GoodS n a) (gb : GoodS n b) :
    Optimal n (dI d) (sp a) (sp b) (mt (carried n d a b)) := by
  obtain ⟨F, eF, PF, TF⟩ := prices_ok hn M ga gb
  exact optimal_of (carried_ok ga gb).plan PF.feas TF
theorem cost_eq {n : Nat} {d : List (List Nat)} {p : Sr80.Plan} : Sr82.cost n d p = fr (cost n (dI d) (mt p)) := by
  unfold Sr82.cost
  rw [total_eq (by
    intro x hx
    obtain ⟨y, _, rfl⟩ := List.mem_map.mp hx
    exact ok_times _ _), List.map_map]
  congr 1
  unfold pairs
  rw [List.map_flatMap, sumL_flat]
  simp only [List.map_map]
  rw [sumL_range]
  unfold cost
  refine S_congr fun i hi => ?_
  rw [sumL_range]
  refine S_congr fun j hj => ?_
  show val (times (whole (dAt d i j : Nat)) (pAt p i j)) = _
  rw [val_times, val_whole]; rfl
end OT

/-! Distances of what hangs together; the other calls' values. -/
namespace OT
set_option linter.unusedVariables false
open Sr58 (Frac frac plus times less whole total)
open Sr66 (minus over zero neg)
open Sr80 (Spread cAt pAt pairs)
open Sr82 (dAt way Ways noWays setWay far hangs dist)

/-- ways that lie the same both ways, n by n -/
structure OkG (n : Nat) (g : Ways) : Prop where
  rows : g.length = n
  row : ∀ i, i < n → (g.getD i []).length = n
  sym : ∀ i j, i < n → j < n → way g i j = way g j i
theorem way_noWays (n i j : Nat) : way (noWays n) i j = 0 := by
  unfold way noWays
  by_cases q : i < n
  · have e : (List.replicate n (List.replicate n 0)).getD i [] = List.replicate n 0 := by
      rw [List.getD_eq_getElem?_getD, List.getElem?_replicate, if_pos q]; rfl
    rw [e]
    by_cases y : j < n
    · rw [List.getD_eq_getElem?_getD, List.getElem?_replicate, if_pos y]; rfl
    · rw [getD_len (by simpa using y)]
  · rw [getD_len (l := List.replicate n (List.replicate n 0)) (by simpa using q)]; rfl
theorem okG_none (n : Nat) : OkG n (noWays n) := by
  refine ⟨by simp [noWays], fun i hi => ?_, fun i j _ _ => by rw [way_noWays, way_noWays]⟩
  unfold noWays
  rw [List.getD_eq_getElem?_getD, List.getElem?_replicate, if_pos hi]; simp
theorem way_set1 {n} {g : Ways} {i j x : Nat} (hr : g.length = n) (hrow : ∀ i, i < n → (g.getD i []).length = n) (hi : i < n) (hj : j < n) (i' j' : Nat) :
    way (g.set i ((g.getD i []).set j x)) i' j' = if i' = i ∧ j' = j then x else way g i' j' := by
  unfold way
  by_cases q : i' = i
  · subst q
    rw [getD_set_self (by rw [hr]; exact hi)]
    by_cases y : j' = j
    · subst y; rw [if_pos ⟨rfl, rfl⟩, getD_set_self (by rw [hrow _ hi]; exact hj)]
    · rw [if_neg (fun z => y z.2), getD_set_ne (fun e => y e.symm)]
  · rw [if_neg (fun z => q z.1), getD_set_ne (fun e => q e.symm)]
theorem row_set1 {n} {g : Ways} {i j x : Nat} (hr : g.length = n) (hrow : ∀ i, i < n → (g.getD i []).length = n) (hi : i < n) : ∀ k, k < n → ((g.set i ((g.getD i []).set j x)).getD k []).length = n := by
  intro k hk
  by_cases q : i = k
  · subst q; rw [getD_set_self (by rw [hr]; exact hi), List.length_set]; exact hrow _ hi
  · rw [getD_set_ne q]; exact hrow k hk
theorem way_set {n} {g : Ways} (G : OkG n g) {i j x : Nat} (hi : i < n) (hj : j < n) (i' j' : Nat) : way (setWay g i j x) i' j' = if (i' = i ∧ j' = j) ∨ (i' = j ∧ j' = i) then x else way g i' j' := by
  have h1 := way_set1 (x := x) G.rows G.row hi hj
  have hr : (g.set i ((g.getD i []).set j x)).length = n := by rw [List.length_set]; exact G.rows
  have e : setWay g i j x = (g.set i ((g.getD i []).set j x)).set j (((g.set i ((g.getD i []).set j x)).getD j []).set i x) := rfl
  rw [e, way_set1 hr (row_set1 G.rows G.row hi) hj hi, h1]
  by_cases c1 : i' = j ∧ j' = i
  · rw [if_pos c1, if_pos (.inr c1)]
  · rw [if_neg c1]
    by_cases c2 : i' = i ∧ j' = j
    · rw [if_pos c2, if_pos (.inl c2)]
    · rw [if_neg c2, if_neg (fun h => h.elim c2 c1)]
theorem okG_set {n} {g : Ways} (G : OkG n g) {i j x : Nat} (hi : i < n) (hj : j < n) : OkG n (setWay g i j x) := by
  have hr : (g.set i ((g.getD i []).set j x)).length = n := by rw [List.length_set]; exact G.rows
  have e : setWay g i j x = (g.set i ((g.getD i []).set j x)).set j (((g.set i ((g.getD i []).set j x)).getD j []).set i x) := rfl
  refine ⟨by rw [e, List.length_set]; exact hr, by rw [e]; exact row_set1 hr (row_set1 G.rows G.row hi) hj, fun a b ha hb => ?_⟩
  rw [way_set G hi hj, way_set G hi hj, G.sym a b ha hb]
  by_cases c : (a = i ∧ b = j) ∨ (a = j ∧ b = i)
  · rw [if_pos c, if_pos (by omega)]
  · rw [if_neg c, if_neg (by omega)]

/-! ### Ways put together, and turned round -/
theorem Way.join {E : Arcs} {s m : Nat} {l l' v x y} (h : Way (fun t => t = s) E l m x) (h' : Way (fun t => t = m) E l' v y) : ∃ l2, Way (fun t => t = s) E l2 v (x + y) := by
  induction h' with
  | nil a => subst a; exact ⟨l, by rw [Int.add_zero]; exact h⟩
  | @snoc l1 u v' x' w a b ih =>
    obtain ⟨l2, W⟩ := ih
    exact ⟨_, by rw [← Int.add_assoc]; exact .snoc W b⟩
theorem Way.turn {E : Arcs} (hE : ∀ u v w, E u v w → E v u w) {s : Nat} {l v x} (h : Way (fun t => t = s) E l v x) : ∃ l2, Way (fun t => t = v) E l2 s x := by
  induction h with
  | nil a => subst a; exact ⟨_, .nil rfl⟩
  | @snoc l1 u v' x' w a b ih =>
    obtain ⟨l2, W⟩ := ih
    obtain ⟨l3, W3⟩ := (Way.snoc (src := fun t => t = v') (.nil rfl) (hE _ _ _ b)).join W
    exact ⟨l3, by rw [show x' + w = 0 + w + x' by omega]; exact W3⟩
theorem WayArc.turn {n g} (G : OkG n g) : ∀ u v w, WayArc n g u v w → WayArc n g v u w := by
  rintro u v w ⟨h1, h2, h3, rfl⟩
  exact ⟨h2, h1, by rw [← G.sym u v h1 h2]; exact h3, by rw [G.sym u v h1 h2]⟩
/-- all hang together: between each two there is a way -/
def Conn (n : Nat) (g : Ways) : Prop := ∀ i j, i < n → j < n → ∃ l x, Way (fun t => t = i) (WayArc n g) l j x
theorem far_some {n g i j} (hi : i < n) : (far n g i j).isSome = true ↔ ∃ l x, Way (fun t => t = i) (WayArc n g) l j x := by
  have D := far_dist (g := g) (j := j) hi
  constructor
  · intro h
    cases e : far n g i j with
    | none => rw [e] at h; cases h
    | some x =>
      rw [e] at D
      obtain ⟨l, W⟩ := D.way x rfl
      exact ⟨l, x, W⟩
  · rintro ⟨l, x, W⟩
    obtain ⟨y, e, _⟩ := D.least l x W
    cases c : far n g i j with
    | none => rw [c] at e; cases e
    | some _ => rfl
theorem hangs_iff {n g} (hn : 0 < n) (G : OkG n g) : hangs n g = true ↔ Conn n g := by
  unfold hangs
  rw [List.all_eq_true]
  constructor
  · intro h i j hi hj
    obtain ⟨l1, x1, W1⟩ := (far_some hn).mp (h i (List.mem_range.mpr hi))
    obtain ⟨l2, x2, W2⟩ := (far_some hn).mp (h j (List.mem_range.mpr hj))
    obtain ⟨l3, W3⟩ := W1.turn (WayArc.turn G)
    obtain ⟨l4, W4⟩ := W3.join W2
    exact ⟨l4, _, W4⟩
  · intro h j hj
    exact (far_some hn).mpr (h 0 j hn (List.mem_range.mp hj))
theorem dist_at {n g i j} (hi : i < n) (hj : j < n) : dAt (dist n g) i j = (far n g i j).getD 0 := by
  unfold dAt dist
  rw [getD_range hi, getD_range hj]
theorem dist_is {n g} (C : Conn n g) {i j} (hi : i < n) (hj : j < n) : Dist (fun t => t = i) (WayArc n g) j (some (dI (dist n g) i j)) := by
  have D := far_dist (g := g) (j := j) hi
  have e : toI (far n g i j) = some (dI (dist n g) i j) := by
    obtain ⟨l, x, W⟩ := C i j hi hj
    obtain ⟨y, e, _⟩ := D.least l x W
    unfold dI
    rw [dist_at hi hj]
    cases c : far n g i j with
    | none => rw [c] at e; cases e
    | some z => rfl
  rw [e] at D; exact D
theorem met_dist {n g} (C : Conn n g) : Met n (dI (dist n g)) := by
  refine ⟨fun i hi => ?_, fun i j k hi hj hk => ?_⟩
  · obtain ⟨y, e, q⟩ := (dist_is C hi hi).least _ _ (.nil rfl)
    cases e
    have : 0 ≤ dI (dist n g) i i := by unfold dI; omega
    omega
  · obtain ⟨l1, W1⟩ := (dist_is C hi hk).way _ rfl
    obtain ⟨l2, W2⟩ := (dist_is C hk hj).way _ rfl
    obtain ⟨l3, W3⟩ := W1.join W2
    obtain ⟨y, e, q⟩ := (dist_is C hi hj).least _ _ W3
    cases e; exact q
end OT

/-! The values of the other calls, and the forms in which they are told. -/
namespace OT
set_option linter.unusedVariables false
open Sr58 (Frac frac plus times less whole total)
open Sr66 (minus over zero neg)
open Sr80 (Spread cAt pAt pairs sure spreadOf image mixed readPlan isPlan rowSum colSum behind)
open Sr82 (dAt gain fair)

def two (r : Rat) : List Int := [r.num, (r.den : Int)]
theorem fr_two (r : Rat) : Sr66.fr (fr r) = two r := rfl
theorem spread_form {n} {a : Spread} (h : a.length = n) (o : OkS a) : a = (List.range n).map fun i => fr (sp a i) := by
  refine List.ext_getElem (by simp [h]) fun i h1 h2 => ?_
  rw [List.getElem_map, List.getElem_range]
  have e : cAt a i = a[i] := by unfold cAt; rw [List.getD_eq_getElem?_getD, List.getElem?_eq_getElem h1]; rfl
  unfold sp
  rw [e]
  exact o _ (List.getElem_mem h1)
theorem plan_form {n} {p : Sr80.Plan} (h : Sq n p) (o : OkP p) : p = (List.range n).map fun i => (List.range n).map fun j => fr (mt p i j) := by
  refine List.ext_getElem (by simp [h.rows]) fun i h1 h2 => ?_
  rw [List.getElem_map, List.getElem_range]
  have hi : i < n := by rw [← h.rows]; exact h1
  have e : p.getD i [] = p[i] := by rw [List.getD_eq_getElem?_getD, List.getElem?_eq_getElem h1]; rfl
  have h3 := spread_form (h.row i hi) (ok_row o i)
  rw [e] at h3
  rw [h3]
  refine List.map_congr_left fun j _ => ?_
  unfold mt sp pAt cAt
  rw [e]
theorem told_spread {n} {a : Spread} (h : a.length = n) (o : OkS a) : a.flatMap Sr66.fr = (List.range n).flatMap fun i => two (sp a i) := by
  conv => lhs; rw [spread_form h o]
  rw [List.flatMap_map]; rfl
theorem told_plan {n} {p : Sr80.Plan} (h : Sq n p) (o : OkP p) : (p.flatten).flatMap Sr66.fr = (List.range n).flatMap fun i => (List.range n).flatMap fun j => two (mt p i j) := by
  conv => lhs; rw [plan_form h o]
  rw [← List.flatMap_def, List.flatMap_assoc]
  refine congrArg (fun F => (List.range n).flatMap F) ?_
  funext i
  rw [List.flatMap_map]; rfl

/-! ### Spreads made -/
theorem sp_range {n : Nat} {g : Nat → Frac} {i : Nat} (h : i < n) : sp ((List.range n).map g) i = val (g i) := by
  unfold sp cAt; rw [getD_range h]
theorem okS_range {n : Nat} {g : Nat → Frac} (h : ∀ i, i < n → Ok (g i)) : OkS ((List.range n).map g) := by
  intro x hx
  obtain ⟨i, hi, rfl⟩ := List.mem_map.mp hx
  exact h i (List.mem_range.mp hi)
theorem good_sure {n : Nat} (hn : 0 < n) : GoodS n (sure n) ∧ ∀ i, i < n → sp (sure n) i = if i = 0 then 1 else 0 := by
  have e : ∀ i, i < n → sp (sure n) i = if i = 0 then 1 else 0 := fun i hi => by
    unfold sure
    rw [sp_range hi]
    split
    · rw [val_whole]; rfl
    · exact val_zero
  refine ⟨⟨by simp [sure], okS_range fun i _ => by split; exact ok_whole 1; exact ok_zero, fun i hi => by rw [e i hi]; split <;> decide, ?_⟩, e⟩
  rw [S_congr e, S_one (k := 0) hn (fun i _ h => if_neg h)]; rfl
theorem foldl_add_eq : ∀ (l : List Nat) (z : Nat), l.foldl (· + ·) z = z + l.foldl (· + ·) 0
  | [], z => by simp
  | x :: l, z => by
    rw [List.foldl_cons, List.foldl_cons, foldl_add_eq l (z + x), foldl_add_eq l (0 + x)]; omega
theorem sum_cast : ∀ (w : List Nat), ((w.foldl (· + ·) 0 : Nat) : Rat) = sumL (w.map fun x : Nat => (x : Rat))
  | [] => rfl
  | x :: w => by
    rw [List.foldl_cons, foldl_add_eq, Rat.natCast_add, sum_cast w, Nat.zero_add]; rfl
theorem list_range {α : Type} (l : List α) (z : α) : l = (List.range l.length).map fun i => l.getD i z := by
  refine List.ext_getElem (by simp) fun i h1 h2 => ?_
  rw [List.getElem_map, List.getElem_range, List.getD_eq_getElem?_getD, List.getElem?_eq_getElem h1]; rfl
theorem good_spreadOf {n : Nat} {w : List Nat} (hl : w.length = n) (hw : 0 < w.foldl (· + ·) 0) : GoodS n (spreadOf w) ∧ ∀ i, i < n → sp (spreadOf w) i = (w.getD i 0 : Rat) / ((w.foldl (· + ·) 0 : Nat) : Rat) := by
  have e : spreadOf w = (List.range n).map fun i => frac ((w.getD i 0 : Nat) : Int) (w.foldl (· + ·) 0) := by
    unfold spreadOf
    conv => lhs; arg 2; rw [list_range w 0]
    rw [List.map_map, hl]; rfl
  have pos : (0 : Rat) < ((w.foldl (· + ·) 0 : Nat) : Rat) := Rat.natCast_pos.mpr hw
  have v : ∀ i, i < n → sp (spreadOf w) i = (w.getD i 0 : Rat) / ((w.foldl (· + ·) 0 : Nat) : Rat) := fun i hi => by
    rw [e, sp_range hi, val_frac, Rat.mkRat_eq_div, Rat.intCast_natCast]
  refine ⟨⟨by simp [spreadOf, hl], by rw [e]; exact okS_range fun i _ => ok_frac _ _, fun i hi => ?_, ?_⟩, v⟩
  · rw [v i hi, Rat.div_def]
    exact Rat.mul_nonneg Rat.natCast_nonneg (Rat.le_of_lt (Rat.inv_pos.mpr pos))
  · rw [S_congr v]
    have h1 : S n (fun i => (w.getD i 0 : Rat) / ((w.foldl (· + ·) 0 : Nat) : Rat)) = (((w.foldl (· + ·) 0 : Nat) : Rat))⁻¹ * S n (fun i => (w.getD i 0 : Rat)) := by
      rw [← S_mul]; exact S_congr fun i _ => by rw [Rat.div_def, Rat.mul_comm]
    have h2 : S n (fun i => (w.getD i 0 : Rat)) = ((w.foldl (· + ·) 0 : Nat) : Rat) := by
      rw [sum_cast, ← sumL_range]
      congr 1
      conv => rhs; rw [list_range w 0]
      rw [List.map_map, hl]; rfl
    rw [h1, h2]
    exact Rat.inv_mul_cancel _ (Rat.ne_of_gt pos)
theorem good_image {n : Nat} {a : Spread} {f : List Nat} (ga : GoodS n a) (hf : ∀ i, i < n → f.getD i 0 < n) : GoodS n (image n a f) ∧ ∀ j, j < n → sp (image n a f) j = S n fun i => if f.getD i 0 = j then sp a i else 0 := by
  have o : ∀ j i, i < n → Ok (if f.getD i 0 = j then cAt a i else zero) := fun j i _ => by
    split
    · exact ok_cAt ga.ok i
    · exact ok_zero
  have v : ∀ j, j < n → sp (image n a f) j = S n fun i => if f.getD i 0 = j then sp a i else 0 := fun j hj => by
    unfold image
    rw [sp_range hj, total_range (o j), val_fr]
    refine S_congr fun i hi => ?_
    split
    · rfl
    · exact val_zero
  refine ⟨⟨by simp [image], okS_range fun j _ => by rw [total_range (o j)]; exact ok_fr _, fun j hj => ?_, ?_⟩, v⟩
  · rw [v j hj]
    refine S_nonneg fun i hi => ?_
    split
    · exact ga.nn i hi
    · exact Rat.le_refl
  · rw [S_congr v, S_comm, ← ga.one]
    refine S_congr fun i hi => ?_
    rw [S_one (k := f.getD i 0) (hf i hi) (fun j _ h => if_neg fun e => h e.symm), if_pos rfl]
theorem val_half : val (frac 1 2) = 1 / 2 := by rw [val_frac, Rat.mkRat_eq_div]; rfl
theorem good_mixed {n : Nat} {a b : Spread} (ga : GoodS n a) (gb : GoodS n b) : GoodS n (mixed n a b (frac 1 2)) ∧ ∀ i, i < n → sp (mixed n a b (frac 1 2)) i = (sp a i + sp b i) / 2 := by
  have v : ∀ i, i < n → sp (mixed n a b (frac 1 2)) i = (sp a i + sp b i) / 2 := fun i hi => by
    unfold mixed
    rw [sp_range hi, val_plus (ok_times _ _) (ok_times _ _), val_times, val_times, val_minus (ok_whole 1) (ok_frac 1 2), val_half, val_whole]
    show 1 / 2 * sp a i + (((1 : Int) : Rat) - 1 / 2) * sp b i = _
    rw [Rat.intCast_one]; grind
  refine ⟨⟨by simp [mixed], okS_range fun j _ => ok_plus _ _, fun i hi => ?_, ?_⟩, v⟩
  · rw [v i hi]
    have := ga.nn i hi; have := gb.nn i hi; grind
  · rw [S_congr v]
    have : S n (fun i => (sp a i + sp b i) / 2) = (1 / 2) * (S n (sp a) + S n (sp b)) := by
      rw [← S_add, ← S_mul]; exact S_congr fun i _ => by grind
    rw [this, ga.one, gb.one]; grind

/-! ### Plans read, tested, put one behind another -/
theorem mt_range {n : Nat} {g : Nat → Nat → Frac} {i j : Nat} (hi : i < n) (hj : j < n) : mt ((List.range n).map fun i => (List.range n).map fun j => g i j) i j = val (g i j) := by
  unfold mt pAt; rw [getD_range hi, getD_range hj]
theorem sq_range {n : Nat} {g : Nat → Nat → Frac} : Sq n ((List.range n).map fun i => (List.range n).map fun j => g i j) :=
  ⟨by simp, fun i hi => by rw [getD_range hi]; simp⟩
theorem okP_range {n : Nat} {g : Nat → Nat → Frac} (h : ∀ i j, i < n → j < n → Ok (g i j)) : OkP ((List.range n).map fun i => (List.range n).map fun j => g i j) := by
  intro r hr
  obtain ⟨i, hi, rfl⟩ := List.mem_map.mp hr
  exact okS_range fun j hj => h i j (List.mem_range.mp hi) hj
theorem read_ok (n : Nat) (e : Int) (p : List Int) : Sq n (readPlan n e p) ∧ OkP (readPlan n e p) ∧ ∀ i j, i < n → j < n → mt (readPlan n e p) i j = (p.getD (i * n + j) 0 : Rat) / (e.toNat : Rat) :=
  ⟨sq_range, okP_range fun i j _ _ => ok_frac _ _, fun i j hi hj => by unfold readPlan; rw [mt_range hi hj, val_frac, Rat.mkRat_eq_div]⟩
theorem beq_ok {a b : Frac} (ha : Ok a) (hb : Ok b) : (a == b) = true ↔ val a = val b := by
  rw [beq_iff_eq]
  exact ⟨fun e => by rw [e], fun e => ha.inj hb e⟩
theorem rowSum_eq {n} {p : Sr80.Plan} (s : Sq n p) (o : OkP p) {i : Nat} (hi : i < n) : rowSum p i = fr (S n fun j => mt p i j) := by
  unfold rowSum
  conv => lhs; rw [list_range (p.getD i []) zero, s.row i hi]
  rw [total_range (fun j _ => ok_getD (ok_row o i) j)]; rfl
theorem colSum_eq {n} {p : Sr80.Plan} (s : Sq n p) (o : OkP p) (j : Nat) : colSum p j = fr (S n fun i => mt p i j) := by
  unfold colSum
  conv => lhs; arg 1; arg 2; rw [list_range p [], s.rows]
  rw [List.map_map, show ((fun r : List Frac => r.getD j zero) ∘ fun i => p.getD i []) = fun i => pAt p i j from rfl, total_range (fun i _ => ok_pAt o i j)]; rfl
theorem isPlan_iff {n} {a b : Spread} {p : Sr80.Plan} (oa : OkS a) (ob : OkS b) (s : Sq n p) (o : OkP p) : isPlan n a b p = true ↔ Plan n (sp a) (sp b) (mt p) := by
  unfold isPlan
  simp only [Bool.and_eq_true, List.all_eq_true, decide_eq_true_iff, List.mem_range]
  have row : ∀ i, i < n → ((rowSum p i == cAt a i) = true ↔ S n (fun j => mt p i j) = sp a i) := fun i hi => by
    rw [rowSum_eq s o hi, beq_ok (ok_fr _) (ok_cAt oa i), val_fr]; rfl
  have col : ∀ j, ((colSum p j == cAt b j) = true ↔ S n (fun i => mt p i j) = sp b j) := fun j => by
    rw [colSum_eq s o, beq_ok (ok_fr _) (ok_cAt ob j), val_fr]; rfl
  constructor
  · rintro ⟨h1, h2, h3, h4⟩
    refine ⟨fun i j hi hj => ?_, fun i hi => (row i hi).mp (h3 i hi), fun j hj => (col j).mp (h4 j hj)⟩
    have hp : i < p.length := by rw [s.rows]; exact hi
    have hr := s.row i hi
    have e : p.getD i [] = p[i] := by rw [List.getD_eq_getElem?_getD, List.getElem?_eq_getElem hp]; rfl
    obtain ⟨h5, h6⟩ := h2 p[i] (List.getElem_mem hp)
    rw [e] at hr
    have hj' : j < p[i].length := by rw [hr]; exact hj
    have e2 : pAt p i j = p[i][j] := by unfold pAt; rw [e, List.getD_eq_getElem?_getD, List.getElem?_eq_getElem hj']; rfl
    have := h6 p[i][j] (List.getElem_mem hj')
    rw [← e2] at this
    exact (nonneg_iff (ok_pAt o i j)).mp this
  · intro P
    refine ⟨s.rows, fun r hr => ?_, fun i hi => (row i hi).mpr (P.row i hi), fun j hj => (col j).mpr (P.col j hj)⟩
    obtain ⟨i, hi, rfl⟩ := List.mem_iff_getElem.mp hr
    have e : p.getD i [] = p[i] := by rw [List.getD_eq_getElem?_getD, List.getElem?_eq_getElem hi]; rfl
    have hi' : i < n := by rw [← s.rows]; exact hi
    have hrow := s.row i hi'
    rw [e] at hrow
    refine ⟨hrow, fun x hx => ?_⟩
    obtain ⟨j, hj, rfl⟩ := List.mem_iff_getElem.mp hx
    have e2 : pAt p i j = p[i][j] := by unfold pAt; rw [e, List.getD_eq_getElem?_getD, List.getElem?_eq_getElem hj]; rfl
    rw [← e2]
    exact (nonneg_iff (ok_pAt o i j)).mpr (P.nn i j hi' (by rw [← hrow]; exact hj))
theorem behind_ok {n} {b : Spread} {p q : Sr80.Plan} (gb : OkS b) (nb : ∀ j, j < n → 0 ≤ sp b j) : Sq n (behind n b p q) ∧ OkP (behind n b p q) ∧
    ∀ i k, i < n → k < n → mt (behind n b p q) i k = S n fun j => if sp b j = 0 then 0 else mt p i j * mt q j k / sp b j := by
  have o : ∀ i k j, j < n → Ok (if (cAt b j).n = 0 then zero else over (times (pAt p i j) (pAt q j k)) (cAt b j)) := fun i k j _ => by
    split
    · exact ok_zero
    · exact ok_over _ _
  refine ⟨sq_range, okP_range fun i k _ _ => by rw [total_range (o i k)]; exact ok_fr _, fun i k hi hk => ?_⟩
  unfold behind
  rw [mt_range hi hk, total_range (o i k), val_fr]
  refine S_congr fun j hj => ?_
  have z : (cAt b j).n = 0 ↔ sp b j = 0 := zero_iff (ok_cAt gb j)
  have p0 := nb j hj
  by_cases c : (cAt b j).n = 0
  · rw [if_pos c, if_pos (z.mp c)]; exact val_zero
  · rw [if_neg c, if_neg (fun h => c (z.mpr h)), val_over (ok_times _ _).d, val_times]
    · rfl
    · have := (nonneg_iff (ok_cAt gb j)).mpr p0; omega
theorem gain_eq {n} {f : List Int} {a b : Spread} (oa : OkS a) (ob : OkS b) : gain n f a b = fr (value n (fun i => f.getD i 0) (sp a) (sp b)) := by
  unfold gain
  rw [total_range (fun i _ => ok_times _ _)]
  congr 1
  refine S_congr fun i hi => ?_
  rw [val_times, val_whole, val_minus (ok_cAt ob i) (ok_cAt oa i)]; rfl
theorem fair_iff {n d} {f : List Int} : fair n d f = true ↔ Feas n (dI d) fun i => f.getD i 0 := by
  unfold fair
  rw [List.all_eq_true]
  constructor
  · intro h i j hi hj
    exact of_decide_eq_true (h (i, j) (mem_pairs.mpr ⟨hi, hj⟩))
  · intro h y hy
    obtain ⟨h1, h2⟩ := mem_pairs.mp hy
    exact decide_eq_true (h y.1 y.2 h1 h2)
end OT

/-! The program's text by places; lists and matrices on the heap; rules that the layer lacks. -/
namespace EH
open PySem PySem.Spec PyProof.Rows L2
abbrev Fr := PySem.W.Frag
def top (i : Nat) : Stmt := PySem.Challenge.pw_earthheaps_s01_answers.main.body.getD i (.Pass ⟨0, 0, 0, 0⟩)

/-! ### lists by places -/
def tab (n : Nat) (f : Nat → V) : List V := (List.range n).map f
def intL (l : List Int) : List V := l.map V.int
def vec (n : Nat) (w : Nat → Int) : List V := tab n fun i => .int (w i)
theorem tab_len {n : Nat} {f : Nat → V} : (tab n f).length = n := by unfold tab; rw [List.length_map, List.length_range]
theorem tab_get {n i : Nat} {f : Nat → V} (h : i < n) : (tab n f)[i]? = some (f i) := by
  unfold tab; rw [List.getElem?_map, List.getElem?_range h]; rfl
theorem tab_at {n i : Nat} {f : Nat → V} (h : i < n) : atI (tab n f) (i : Int) = some (f i) := atI_nat (tab_get h)
theorem tab_of {n i : Nat} {f : Nat → V} {x : V} (h : (tab n f)[i]? = some x) : i < n ∧ x = f i := by
  have hi : i < n := by
    have := (List.getElem?_eq_some_iff.mp h).1
    rw [tab_len] at this; exact this
  rw [tab_get hi] at h
  exact ⟨hi, (Option.some.inj h).symm⟩
theorem tab_congr {n : Nat} {f g : Nat → V} (h : ∀ i, i < n → f i = g i) : tab n f = tab n g :=
  List.map_congr_left fun i hi => h i (List.mem_range.mp hi)
theorem tab_set {n j : Nat} {f : Nat → V} {v : V} : (tab n f).set j v = tab n fun i => if i = j then v else f i := by
  refine List.ext_getElem? fun i => ?_
  by_cases hi : i < n
  · rw [tab_get hi]
    by_cases e : j = i
    · subst e; rw [List.getElem?_set_self (by rw [tab_len]; exact hi), if_pos rfl]
    · rw [List.getElem?_set_ne e, tab_get hi, if_neg (fun z => e z.symm)]
  · rw [List.getElem?_eq_none (by rw [List.length_set, tab_len]; omega), List.getElem?_eq_none (by rw [tab_len]; omega)]
theorem tab_succ {n : Nat} {f : Nat → V} : tab (n + 1) f = tab n f ++ [f n] := by
  unfold tab; rw [List.range_succ, List.map_append]; rfl
theorem vec_ints {n : Nat} {w : Nat → Int} : vec n w = intL ((List.range n).map w) := by
  unfold vec tab intL; rw [List.map_map]; rfl
theorem ints_len {l : List Int} : (intL l).length = l.length := List.length_map ..
theorem ints_get {l : List Int} {i : Nat} {x : V} (h : (intL l)[i]? = some x) : ∃ z, l[i]? = some z ∧ x = .int z := by
  unfold intL at h
  rw [List.getElem?_map] at h
  cases e : l[i]? with
  | none => rw [e] at h; cases h
  | some z => rw [e] at h; exact ⟨z, rfl, (Option.some.inj h).symm⟩
theorem ints_tab (l : List Int) : intL l = vec l.length fun i => l.getD i 0 := by
  refine List.ext_getElem? fun i => ?_
  by_cases hi : i < l.length
  · unfold vec; rw [tab_get hi]; unfold intL
    rw [List.getElem?_map, List.getElem?_eq_getElem hi]; simp [hi]
  · rw [List.getElem?_eq_none (by rw [ints_len]; omega), List.getElem?_eq_none (by unfold vec; rw [tab_len]; omega)]

/-! ### heaps that only grow -/
theorem same_new {H : Hp} {p : Addr} {o : HO} (h : H p = none) : Same H (upd H p o) := fun b u e => by
  rw [upd_ne (ne_of_none e h)]; exact e
theorem same_mut {H H' : Hp} {p : Addr} {o : HO} (s : Same H H') (h : H p = none) : Same H (upd H' p o) := fun b u e => by
  rw [upd_ne (ne_of_none e h)]; exact s b u e
/-- a new list -/
def NewL (H : Hp) (xs : List V) (Q : VK) : Prop := ∀ p H', Same H H' → H p = none → H' p = some (.lst xs) → Q (.ref p) H'
theorem NewL.lay {H : Hp} {xs : List V} {Q : VK} (q : NewL H xs Q) : ∀ p, H p = none → Q (.ref p) (upd H p (.lst xs)) := fun p hp => q p _ (same_new hp) hp upd_same
theorem NewL.lay' {H H1 : Hp} {xs : List V} {Q : VK} (q : NewL H xs Q) (s : Same H H1) : ∀ p, H1 p = none → Q (.ref p) (upd H1 p (.lst xs)) := fun p hp =>
  q p _ (s.trans (same_new hp)) (s.free hp) upd_same

/-! ### a matrix: a list of lists; r: where its rows stand -/
structure Mat (H : Hp) (a : Addr) (r : Nat → Addr) (k m : Nat) (f : Nat → Nat → V) : Prop where
  at_ : H a = some (.lst (tab k fun i => .ref (r i)))
  inj : ∀ i j, i < k → j < k → r i = r j → i = j
  out : ∀ i, i < k → r i ≠ a
  row : ∀ i, i < k → H (r i) = some (.lst (tab m (f i)))
theorem Mat.same {H H' : Hp} {a : Addr} {r : Nat → Addr} {k m : Nat} {f : Nat → Nat → V} (s : Same H H') (M : Mat H a r k m f) : Mat H' a r k m f :=
  ⟨s _ _ M.at_, M.inj, M.out, fun i hi => s _ _ (M.row i hi)⟩
theorem Mat.congr {H : Hp} {a : Addr} {r : Nat → Addr} {k m : Nat} {f g : Nat → Nat → V} (M : Mat H a r k m f) (h : ∀ i j, i < k → j < m → f i j = g i j) : Mat H a r k m g :=
  ⟨M.at_, M.inj, M.out, fun i hi => by rw [M.row i hi, tab_congr fun j hj => h i j hi hj]⟩
theorem Mat.set {H : Hp} {a : Addr} {r : Nat → Addr} {k m : Nat} {f : Nat → Nat → V} (M : Mat H a r k m f) {i j : Nat} (hi : i < k) (v : V) :
    Mat (upd H (r i) (.lst ((tab m (f i)).set j v))) a r k m (fun i' j' => if i' = i ∧ j' = j then v else f i' j') where
  at_ := by rw [upd_ne (fun z => M.out i hi z.symm)]; exact M.at_
  inj := M.inj
  out := M.out
  row := fun i' hi' => by
    by_cases e : i' = i
    · subst e
      rw [upd_same, tab_set, tab_congr (g := fun j' => if i' = i' ∧ j' = j then v else f i' j') fun j' _ => by simp]
    · rw [upd_ne (fun z => e (M.inj i' i hi' hi z)), M.row i' hi', tab_congr (g := fun j' => if i' = i ∧ j' = j then v else f i' j') fun j' _ => by simp [e]]
/-- a new one -/
structure MatNew (H H' : Hp) (a : Addr) (r : Nat → Addr) (k m : Nat) (f : Nat → Nat → V) : Prop where
  mat : Mat H' a r k m f
  new : H a = none
  rows : ∀ i, i < k → H (r i) = none
def NewM (H : Hp) (k m : Nat) (f : Nat → Nat → V) (Q : VK) : Prop := ∀ a r H', Same H H' → MatNew H H' a r k m f → Q (.ref a) H'
/-- what else was tracked stands though the rows of a matrix change -/
def But (H H' : Hp) (r : Nat → Addr) (k : Nat) : Prop := ∀ b o, H b = some o → (∀ i, i < k → b ≠ r i) → H' b = some o
theorem But.refl (H : Hp) (r : Nat → Addr) (k : Nat) : But H H r k := fun _ _ h _ => h
theorem But.trans {H H1 H2 : Hp} {r : Nat → Addr} {k : Nat} (a : But H H1 r k) (b : But H1 H2 r k) : But H H2 r k := fun c o h q => b c o (a c o h q) q
theorem But.of {H H' : Hp} {r : Nat → Addr} {k : Nat} (s : Same H H') : But H H' r k := fun b o h _ => s b o h
theorem But.set {H : Hp} {r : Nat → Addr} {k i : Nat} {o : HO} (hi : i < k) : But H (upd H (r i) o) r k := fun b u h q => by rw [upd_ne (q i hi)]; exact h
theorem But.same {H H0 H' : Hp} {r : Nat → Addr} {k : Nat} (s : Same H0 H) (b : But H H' r k) (n : ∀ i, i < k → H0 (r i) = none) : Same H0 H' := fun c o h =>
  b c o (s c o h) fun i hi z => by rw [z, n i hi] at h; cases h
theorem Mat.but {H H' : Hp} {a : Addr} {r r' : Nat → Addr} {k k' m : Nat} {f : Nat → Nat → V} (b : But H H' r' k') (M : Mat H a r k m f) (ha : ∀ i, i < k' → a ≠ r' i) (hr : ∀ i j, i < k → j < k' → r i ≠ r' j) : Mat H' a r k m f :=
  ⟨b _ _ M.at_ ha, M.inj, M.out, fun i hi => b _ _ (M.row i hi) fun j hj => hr i j hi hj⟩

/-! ### comprehensions -/
section
variable {J : It} {n : Nat} {G : Hp → Prop} {Y : Nat → Hp → V → Hp → Prop} {g : TG} {te : TE} {vs : List Nat} {σ : L2.St} {H1 : Hp} {D : Addr} {Qd : Hp → Prop}
def GMono (g : TG) : Prop := ∀ x σ H (A B : L2.St → Hp → Prop), (∀ σ2 H2, A σ2 H2 → B σ2 H2) → g x σ H A → g x σ H B
theorem gm_name {i : Nat} : GMono (gName i) := fun _ _ _ _ _ h q => h _ _ q
theorem gm_tup {K : Fr} {i j : Nat} : GMono (gTup K 2 (gCons (gName i) (gCons (gName j) gNil))) := by
  intro x σ H A B h q
  obtain ⟨a, xs, e1, e2, e3, v, r, e4, v2, r2, e5, e6, q⟩ := q
  exact ⟨a, xs, e1, e2, e3, v, r, e4, v2, r2, e5, e6, h _ _ q⟩
/-- each item's value is told -/
theorem comp_vals (w : Walk J n G Y) (v : Nat → V) (hD : H1 D = none) (hn : n ≤ 100000) (hG : ∀ H, Same H1 H → G H)
    (hs : ∀ i x H H', i < n → Same H1 H → Y i H x H' → ∀ F : VK, (∀ H4, Same H H4 → F (v i) H4) → g x (wipe σ vs) H' fun σ2 H2 => wipe σ2 vs = wipe σ vs ∧ te σ2 H2 F)
    (hd : ∀ H, Same H1 H → H D = some (.lst (tab n v)) → Qd H)
    (hg : GMono g) :
    ∃ W : Nat → Nat → Hp → Prop, (∃ m, W 0 m (upd H1 D (.lst []))) ∧ ∀ i m H, W i m H →
      (J.stop i H ∧ Qd H) ∨ (J.go i H ∧ ∃ Nx : Hp → Prop, (∀ H', Nx H' → ∃ m', m' < m ∧ W (i + 1) m' H') ∧ ∀ x H', J.yld i H x H' → g x (wipe σ vs) H' fun σ2 H2 => wipe σ2 vs = wipe σ vs ∧ tYes σ2 H2 fun b H3 =>
        if b = true then te σ2 H3 fun y H4 => ∃ acc, H4 D = some (.lst acc) ∧ acc.length < sizeLine ∧ Nx (upd H4 D (.lst (acc ++ [y]))) else Nx H3) := by
  refine lc_it w (fun i H => Same H1 H ∧ H D = some (.lst (tab i v))) ⟨same_mut (Same.refl _) hD, upd_same⟩ (fun i H _ p => hG H p.1) (fun i x H H' hi p y => ?_) (fun H p => hd H p.1 p.2)
  refine hg x _ H' _ _ (fun σ2 H2 q => ⟨q.1, ?_⟩) (hs i x H H' hi p.1 y (fun y H4 => ∃ acc, H4 D = some (.lst acc) ∧ acc.length < sizeLine ∧ Same H1 (upd H4 D (.lst (acc ++ [y]))) ∧ upd H4 D (.lst (acc ++ [y])) D = some (.lst (tab (i + 1) v))) fun H4 s4 => ?_)
  · exact q.2
  · refine ⟨tab i v, s4 _ _ p.2, ?_, same_mut (p.1.trans s4) hD, ?_⟩
    · rw [tab_len]; exact Nat.lt_of_lt_of_le (by omega : i < 100001) (by decide)
    · rw [upd_same, tab_succ]
/-- each item is a new list -/
theorem comp_rows (w : Walk J n G Y) (m : Nat) (f : Nat → Nat → V) (hD : H1 D = none) (hn : n ≤ 100000) (hG : ∀ H, Same H1 H → G H)
    (hs : ∀ i x H H', i < n → Same H1 H → Y i H x H' → ∀ F : VK, (∀ p H4, Same H H4 → H p = none → H4 p = some (.lst (tab m (f i))) → F (.ref p) H4) → g x (wipe σ vs) H' fun σ2 H2 => wipe σ2 vs = wipe σ vs ∧ te σ2 H2 F)
    (hd : ∀ r H, Same H1 H → MatNew H1 H D r n m f → Qd H)
    (hg : GMono g) :
    ∃ W : Nat → Nat → Hp → Prop, (∃ m, W 0 m (upd H1 D (.lst []))) ∧ ∀ i m H, W i m H →
      (J.stop i H ∧ Qd H) ∨ (J.go i H ∧ ∃ Nx : Hp → Prop, (∀ H', Nx H' → ∃ m', m' < m ∧ W (i + 1) m' H') ∧ ∀ x H', J.yld i H x H' → g x (wipe σ vs) H' fun σ2 H2 => wipe σ2 vs = wipe σ vs ∧ tYes σ2 H2 fun b H3 =>
        if b = true then te σ2 H3 fun y H4 => ∃ acc, H4 D = some (.lst acc) ∧ acc.length < sizeLine ∧ Nx (upd H4 D (.lst (acc ++ [y]))) else Nx H3) := by
  refine lc_it w (fun i H => Same H1 H ∧ ∃ r, MatNew H1 H D r i m f) ⟨same_mut (Same.refl _) hD, fun _ => D, ⟨upd_same, fun i j hi => absurd hi (Nat.not_lt_zero _), fun i hi => absurd hi (Nat.not_lt_zero _), fun i hi => absurd hi (Nat.not_lt_zero _)⟩, hD, fun i hi => absurd hi (Nat.not_lt_zero _)⟩
    (fun i H _ p => hG H p.1) (fun i x H H' hi p y => ?_) (fun H p => p.2.elim fun r q => hd r H p.1 q)
  obtain ⟨s, r, M⟩ := p
  refine hg x _ H' _ _ (fun σ2 H2 q => ⟨q.1, ?_⟩) (hs i x H H' hi s y (fun y H4 => ∃ acc, H4 D = some (.lst acc) ∧ acc.length < sizeLine ∧ Same H1 (upd H4 D (.lst (acc ++ [y]))) ∧ ∃ r, MatNew H1 (upd H4 D (.lst (acc ++ [y]))) D r (i + 1) m f) fun p H4 s4 hp h4 => ?_)
  · exact q.2
  · have pD : p ≠ D := fun z => by rw [z, M.mat.at_] at hp; cases hp
    have pr : ∀ j, j < i → r j ≠ p := fun j hj z => by have := M.mat.row j hj; rw [z, hp] at this; cases this
    refine ⟨tab i fun j => .ref (r j), s4 _ _ M.mat.at_, ?_, same_mut (s.trans s4) hD, fun j => if j = i then p else r j, ⟨?_, ?_, ?_, ?_⟩, hD, fun j hj => ?_⟩
    · rw [tab_len]; exact Nat.lt_of_lt_of_le (by omega : i < 100001) (by decide)
    · rw [upd_same, tab_succ, tab_congr (f := fun j => V.ref (if j = i then p else r j)) (g := fun j => V.ref (r j)) fun j hj => by rw [if_neg (by omega)], if_pos rfl]
    · intro a b ha hb e
      by_cases ea : a = i <;> by_cases eb : b = i
      · rw [ea, eb]
      · rw [if_pos ea, if_neg eb] at e; exact absurd e.symm (pr b (by omega))
      · rw [if_neg ea, if_pos eb] at e; exact absurd e (pr a (by omega))
      · rw [if_neg ea, if_neg eb] at e; exact M.mat.inj a b (by omega) (by omega) e
    · intro a ha
      by_cases ea : a = i
      · rw [if_pos ea]; exact pD
      · rw [if_neg ea]; exact M.mat.out a (by omega)
    · intro a ha
      by_cases ea : a = i
      · rw [if_pos ea, upd_ne pD, ea]; exact h4
      · rw [if_neg ea, upd_ne (M.mat.out a (by omega))]; exact s4 _ _ (M.mat.row a (by omega))
    · by_cases ea : j = i
      · show H1 (if j = i then p else r j) = none
        rw [if_pos ea]; exact s.free hp
      · show H1 (if j = i then p else r j) = none
        rw [if_neg ea]; exact M.rows j (by omega)
end
end EH
namespace EH
open PySem PySem.Spec PyProof.Rows L2
theorem ixn {n j : Nat} (hj : j < n) : ixN n (j : Int) = some j := by
  unfold ixN
  rw [if_pos (by omega), if_pos (by omega)]
  simp
section
variable {X : Cx}
/-- a list's item, read ahead of o[i] op= e -/
def rGetL (K : Fr) : V → V → Hp → VK → Prop := fun x y H Q => ∃ (p : Addr) (xs : List V) (k : Nat) (v : V), x = .ref p ∧ y = .int (k : Int) ∧ SqL K H p xs ∧ xs[k]? = some v ∧ Q v H
theorem pget_list : PGet X (rGetL X.K) := by
  intro pins s σ H o i ov iv Q I ro ri h
  obtain ⟨p, xs, k, v, rfl, rfl, hq, he, q⟩ := h
  cases ro
  obtain ⟨t, rfl⟩ := ri
  obtain ⟨its, r, pl, hz⟩ := I.list hq
  obtain ⟨w, ew, rw'⟩ := r.get he
  have hl := r.length
  have hk : k < xs.length := (List.getElem?_eq_some_iff.mp he).1
  have hs : xs.length ≤ sizeLine := hz
  have hb : sizeLine < 2 ^ 62 := by rw [sizeLine_eq]; decide
  exact wpAny_getItem_list pl.isList (by omega) (by omega) (by simpa using ew) ⟨v, H, I, rw', q⟩
theorem ps_augL {o i e : Expr} {to ti te : TE} {tip : TIp} {op : Operator} {tpos pos : Pos} (ho : PE X o to) (hi : PE X i ti) (he : PE X e te) (hp : PIp X op tip)
    (ha : ∀ ov iv new, augStore i ov iv new = (do holding [new, ov, iv] (setItem ov iv new); release [new, ov, iv] []; pure .next) := by intros; rfl) :
    PS X (.AugAssign (.Subscript o i tpos) op e pos) (tAugS to ti te (rGetL X.K) tip rSetL) := ps_augS ho hi pget_list he hp set_list ha
end
/-- what the top leaves of the names: built-ins are not shadowed, constants -/
structure Tx (K : Fr) (mg : Str → Option Value) : Prop where
  len : mg "len" = none
  range : mg "range" = none
  enumerate : mg "enumerate" = none
  min : mg "min" = none
  max : mg "max" = none
  sum : mg "sum" = none
  list : mg "list" = none
/-- a def of the top keeps its promise -/
def Got (P : Program) (w : World) (K : Fr) (mg : Str → Option Value) (base : Heap) (CX : CXT) (k : Nat) (x : Str) (ps : List Str) (sp : Sp) : Prop :=
  ∃ (f : Addr) (fd : FuncData), mg x = some (.ref f) ∧ PySem.W.keepIn K (.ref f) = true ∧ Binds K fd ps [] ∧ FnOk P w K mg base CX k f fd ps sp
theorem Got.of {P : Program} {w : World} {K : Fr} {mg : Str → Option Value} {base : Heap} {CX : CXT} {k : Nat} {x qual : Str} {ps : List Str} {sp : Sp} {st : Stmt} {f : Addr} {fd : FuncData} (F : Fun K x qual st f fd) (m : mg x = some (.ref f))
    (b : Binds K fd ps []) (h : FnOk P w K mg base CX k f fd ps sp) : Got P w K mg base CX k x ps sp := ⟨f, fd, m, F.kp, b, h⟩
/-- a def as it stands behind the top: where, its text, how its arguments bind -/
structure At (K : Fr) (mg : Str → Option Value) (x : Str) (st : Stmt) (ps : List Str) (f : Addr) (fd : FuncData) : Prop where
  fn : Fun K x x st f fd
  m : mg x = some (.ref f)
  b : Binds K fd ps []
theorem At.got {P : Program} {w : World} {K : Fr} {mg : Str → Option Value} {base : Heap} {CX : CXT} {k : Nat} {x : Str} {ps : List Str} {sp : Sp} {st : Stmt} {f : Addr} {fd : FuncData} (A : At K mg x st ps f fd)
    (h : FnOk P w K mg base CX k f fd ps sp) : Got P w K mg base CX k x ps sp := ⟨f, fd, A.m, A.fn.kp, A.b, h⟩
end EH
namespace EH
open PySem PySem.Spec PyProof.Rows L2
theorem for_rng {n : Nat} {g : TG} {tb : TS} {D : Ends} {σ : L2.St} {H : Hp} (Pv : Nat → L2.St → Hp → Prop) (h0 : Pv 0 σ H)
    (hs : ∀ i σ H, i < n → Pv i σ H → g (.int (i : Nat)) σ H fun σ2 H2 => tb { D with nx := Pv (i + 1), ct := Pv (i + 1), bk := D.nx } σ2 H2) (hd : ∀ σ H, Pv n σ H → D.nx σ H) :
    ∃ W : Nat → Nat → L2.St → Hp → Prop, (∃ m, W 0 m σ H) ∧ ∀ i m σ H, W i m σ H → ((Itr 0 n).stop i H ∧ D.nx σ H) ∨ ((Itr 0 n).go i H ∧ ∃ N : L2.St → Hp → Prop, (∀ σ' H', N σ' H' → ∃ m', m' < m ∧ W (i + 1) m' σ' H') ∧ ∀ x H', (Itr 0 n).yld i H x H' → g x σ H' fun σ2 H2 => tb { D with nx := N, ct := N, bk := D.nx } σ2 H2) :=
  for_range (lo := 0) (n := n) Pv h0 (fun i σ H hi p => by rw [Int.zero_add]; exact hs i σ H hi p) hd
end EH
/-! ### the rules that name the written part, with that part as a letter of its own (a comprehension's block must not stand in a reading) -/
namespace EH
open PySem PySem.Spec PyProof.Rows L2
section
variable {X : Cx} {K : Fr}
theorem ixL (h : X.K = K) : IxR X (rIxL K) := by subst h; exact ix_list
theorem ixT (h : X.K = K) : IxR X (rIxT K) := by subst h; exact ix_tup
theorem slL (h : X.K = K) : SlR X (rSlL K) := by subst h; exact sl_list
def rLenK (K : Fr) : List V → Hp → VK → Prop := fun xs H Q => ∃ p ys, xs = [.ref p] ∧ (SqL K H p ys ∨ SqT K H p ys) ∧ Q (.int ys.length) H
def rLstK (K : Fr) : List V → Hp → VK → Prop := fun xs H Q => ∃ p ys, xs = [.ref p] ∧ (SqL K H p ys ∨ SqT K H p ys) ∧ ∀ l, H l = none → Q (.ref l) (upd H l (.lst ys))
theorem clen (h : X.K = K) : CallR X (.builtin "len") (rLenK K) := by subst h; exact call_len_seq
theorem clst (h : X.K = K) : CallR X (.type "list") (rLstK K) := by subst h; exact call_list_of
theorem csum (h : X.K = K) (hc : X.calm = true) : CallR X (.builtin "sum") (rSum K) := by subst h; exact cr_sum hc
theorem cmin (h : X.K = K) (hc : X.calm = true) : CallR X (.builtin "min") (rMin K) := by subst h; exact cr_min hc
theorem cmax (h : X.K = K) (hc : X.calm = true) : CallR X (.builtin "max") (rMax K) := by subst h; exact cr_max hc
theorem opNotIn (h : X.K = K) : OpR X (compareOp .NotIn) (rIn K true) := by subst h; exact op_notIn_seq
theorem opIn (h : X.K = K) : OpR X (compareOp .In) (rIn K false) := by subst h; exact op_in_seq
theorem pgTup {es : List Expr} {k : Nat} {t : TGs} {n : Nat} {pos : Pos} (h : X.K = K) (hc : X.calm = true) (hp : PGs X es t)
    (hn : (assignEach es X.env).length = n) (hst : (assignEach es X.env).findIdx? (·.1) = none := by rfl) : PG X (.Tuple es k pos) (gTup K n t) := by
  subst h; exact pg_tup hc hp hn hst
theorem piL {tg l : Expr} {tl : TE} (h : X.K = K) (hl : PE X l tl) : PI X tg l (iList K tl) := by subst h; exact pi_list hl
theorem piEnum {e : Expr} {ta : TA} {p pos tpos : Pos} {elts : List Expr} {kk : Nat} (h : X.K = K) (hg : Gl X "enumerate") (hm : X.mg "enumerate" = none) (ha : PA X [e] ta) (hs : starEach [e] X.env = [(false, eval e X.env)] := by rfl) :
    PI X (.Tuple elts kk tpos) (.Call (.Name "enumerate" p) [e] [] pos) (iEnum K ta) := by subst h; exact pi_enum hg hm ha hs
theorem peFld {e : Expr} {ta : TE} {fn : Str} {pos : Pos} (h : X.K = K) (he : PE X e ta) (hb : attributeBase e fn X.env (eval e X.env) = eval e X.env) : PE X (.Attribute e fn pos) (tFld K ta fn) := by
  subst h; exact pe_fld he hb
end
end EH
namespace EH
open PySem PySem.Spec PyProof.Rows L2
theorem walk_rng {n : Nat} : Walk (Itr 0 n) n (fun _ => True) (YFn fun i => .int (i : Nat)) :=
  ⟨fun _ _ hi _ => hi, fun _ _ => Nat.le_refl _, fun i _ _ _ _ _ y => ⟨y.1, by have := y.2; rw [Int.zero_add] at this; exact this⟩⟩
end EH
namespace EH
open PySem PySem.Spec PyProof.Rows L2
/-- a number of the top -/
def GI (mg : Str → Option Value) (x : Str) (i : Int) : Prop := ∃ u, mg x = some u ∧ RelV (.int i) u
theorem pe_globI {X : Cx} {x : Str} {i : Int} {pos : Pos} (hg : Gl X x) (h : GI X.mg x i) (hd : (x == ("__debug__" : Str)) = false := by decide) : PE X (.Name x pos) (tC (.int i)) := by
  obtain ⟨u, hm, r⟩ := h
  exact pe_glob hg hm r hd
/-- a tuple of the top -/
def GT (K : Fr) (mg : Str → Option Value) (x : Str) (xs : List V) : Prop := ∃ a : Addr, mg x = some (.ref a) ∧ ∀ H, SqT K H a xs
structure Cn (K : Fr) (mg : Str → Option Value) : Prop where
  MOST_POINTS : GI mg "MOST_POINTS" 6
  LONGEST_EDGE : GI mg "LONGEST_EDGE" 9
  SLOTS : GI mg "SLOTS" 4
  GREATEST_WEIGHT : GI mg "GREATEST_WEIGHT" 20
  GREATEST_POTENTIAL : GI mg "GREATEST_POTENTIAL" 999
  GREATEST_DENOMINATOR : GI mg "GREATEST_DENOMINATOR" 100000
  CREATE : GI mg "CREATE" 0
  WHOLE_NUMBERS : GT K mg "WHOLE_NUMBERS" (intL [1, 3, 1, 1, 2, 2, 2, 2, 3, 2, 3, 2, 3, 0])
  CALLS_WITH_ROW : GT K mg "CALLS_WITH_ROW" (intL [2, 8, 9, 11])
/-- what the class of the instances must have -/
structure InsT (K : Fr) (C : Addr) : Prop where
  cl : Cls K C
  nP : NoAttr K C "points"
  nL : NoAttr K C "lengths"
  nS : NoAttr K C "slots"
end EH

namespace EH
open PySem PySem.Spec PyProof.Rows L2
/-! ### ratios -/
def spGcd : Sp := fun vs H Q _ => ∃ a b : Int, vs = [.int a, .int b] ∧ 0 ≤ b ∧ (b = 0 → 0 ≤ a) ∧ Q (.int (Int.gcd a b : Nat)) H
abbrev s_greatest_divisor : Stmt := top 1
theorem sc_greatest_divisor : FnScope ["first", "second", "rest"] ["first", "second"] (defScope s_greatest_divisor) := ⟨rfl, rfl, rfl, by decide +kernel, rfl, by decide +kernel, by decide +kernel⟩
theorem gcd_step {a b : Int} (h : 0 < b) : Int.gcd b (a.fmod b) = Int.gcd a b := by
  rw [Int.fmod_eq_emod_of_nonneg a (by omega), Int.gcd_comm b]
  have : Int.gcd a b = Int.gcd (a % b + b * (a / b)) b := by rw [Int.emod_add_mul_ediv]
  rw [this]; simp
/-- below 2 ^ e in size -/
def Bd (e : Nat) (x : Int) : Prop := x.natAbs < 2 ^ e
theorem Bd.mono {e e' : Nat} {x : Int} (h : Bd e x) (q : e ≤ e') : Bd e' x := Nat.lt_of_lt_of_le h (Nat.pow_le_pow_right (by omega) q)
theorem Bd.mul {a b : Nat} {x y : Int} (h : Bd a x) (q : Bd b y) : Bd (a + b) (x * y) := wide_lt h q
theorem Bd.le {e : Nat} {x y : Int} (h : Bd e y) (h0 : 0 ≤ x) (q : x ≤ y) : Bd e x := wide_le h0 q h
theorem Bd.add {e : Nat} {x y : Int} (h : Bd e x) (q : Bd e y) : Bd (e + 1) (x + y) := by
  unfold Bd at *
  rw [Nat.pow_succ]; omega
theorem Bd.neg {e : Nat} {x : Int} (h : Bd e x) : Bd e (-x) := by unfold Bd at *; rw [Int.natAbs_neg]; exact h
theorem Bd.cm {a b : Nat} {x y : Int} (h : Bd a x) (q : Bd b y) (h0 : 0 < a := by decide) (h1 : 0 < b := by decide) (h2 : a + b ≤ 1000000 := by decide) : CMulW x y := wide_mul h q h0 h1 h2
theorem Bd.cd {e : Nat} {x y : Int} (h : 0 < y) (q : Bd e y) (h0 : 0 < e := by decide) (h1 : e ≤ 9000 := by decide) : CDivW x y := wide_div h q h0 h1
theorem bd_lit {x : Int} {e : Nat} (h : x.natAbs < 2 ^ e := by decide) : Bd e x := h
theorem gcd_pos {a b : Int} (h : 0 < b) : 0 < (Int.gcd a b : Int) := by
  have := Int.gcd_pos_of_ne_zero_right a (show b ≠ 0 by omega)
  omega
theorem gcd_le {a b : Int} (h : 0 < b) : (Int.gcd a b : Int) ≤ b := Int.gcd_le_right _ h
theorem two_div {a b : Int} (h : 0 < b) : OT.two ((a : Rat) / (b : Rat)) = [a / (Int.gcd a b : Int), b / (Int.gcd a b : Int)] := by
  obtain ⟨n, rfl⟩ : ∃ n : Nat, b = (n : Int) := ⟨b.toNat, by omega⟩
  have hn : n ≠ 0 := by omega
  have e : (a : Rat) / ((n : Int) : Rat) = mkRat a n := (Rat.mkRat_eq_div a n).symm
  rw [e]
  unfold OT.two
  rw [Rat.num_mkRat, Rat.den_mkRat, if_neg hn, if_neg hn]
  have g : Int.gcd a (n : Int) = n.gcd a.natAbs := by rw [Int.gcd_comm]; rfl
  rw [g]
  simp
section
variable {P : Program} {w : World} {K : Fr} {mg : Str → Option Value} {base : Heap} {f : Addr} {fd : FuncData}
theorem ok_gcd (A : At K mg "greatest_divisor" s_greatest_divisor ["first", "second"] f fd) : Got P w K mg base CX0 1 "greatest_divisor" ["first", "second"] spGcd := by
  refine A.got (A.fn.ok sc_greatest_divisor (fun vs H Q E h => ?_) (fun cdv A outer s H vs Q E hr h => ⟨_, by exact
    (pss_cons (ps_while PassesOwn.never (pt_cmpR op_ne (pv 1) pe_int (nomark _)) (pss_cons (ps_set (i := 2) sc_greatest_divisor.nd rfl (Or.inl rfl) (pe_op op_modN (pv 0) (pv 1)))
      (pss_cons (ps_set (i := 0) sc_greatest_divisor.nd rfl (Or.inl rfl) (pv 1))
      (pss_one (ps_set (i := 1) sc_greatest_divisor.nd rfl (Or.inl rfl) (pv 2))))))
      (pss_one (ps_ret (pv 0))))
    , ?_⟩))
  · obtain ⟨a, b, rfl, _⟩ := h
    rfl
  · obtain ⟨a, b, rfl, h0, h1, k⟩ := h
    refine while_by (fun σ H' => ∃ (x y : Int) (z : Option V), σ = [some (.int x), some (.int y), z] ∧ H' = H ∧ 0 ≤ y ∧ (y = 0 → 0 ≤ x) ∧ Int.gcd x y = Int.gcd a b) (fun σ _ => match σ with | [_, some (.int y), _] => y.toNat | _ => 0)
      ⟨a, b, none, rfl, rfl, h0, h1, rfl⟩ ?_ (fun σ H Q Q' m h => ?_)
    · rintro σ H' ⟨x, y, z, rfl, rfl, hy, hx, e⟩
      refine ⟨_, rfl, rfl, _, rfl, ?_⟩
      by_cases c : y = 0
      · subst c
        refine iteNS rfl ?_
        refine ⟨_, rfl, ?_⟩
        have : (x : Int) = (Int.gcd a b : Nat) := by rw [← e, Int.gcd_zero_right]; have := hx rfl; omega
        rw [this]; exact k
      · have c' : decide (V.int y = V.int 0) = false := decide_eq_false fun z => c (V.int.inj z)
        rw [c']
        refine iteT ?_
        refine ⟨_, rfl, _, rfl, _, _, rfl, rfl, c, ?_⟩
        refine ⟨_, rfl, _, rfl, ?_⟩
        have lt : (x.fmod y) < y := Int.fmod_lt_of_pos x (by omega)
        have nn : 0 ≤ x.fmod y := Int.fmod_nonneg_of_pos x (by omega)
        refine ⟨⟨y, x.fmod y, some (.int (x.fmod y)), rfl, rfl, nn, fun _ => by omega, ?_⟩, ?_⟩
        · rw [gcd_step (by omega)]; exact e
        · show (x.fmod y).toNat < y.toNat
          omega
    · obtain ⟨v, h1, h2, b, h3, h4⟩ := h
      exact ⟨v, h1, h2, b, h3, m _ _ h4⟩
end
/-- some common multiple, not above the product -/
def spLcm : Sp := fun vs H Q _ => ∃ a b : Int, vs = [.int a, .int b] ∧ 0 < a ∧ 0 < b ∧ Bd 4000 a ∧ Bd 4000 b ∧ ∀ U : Int, 0 < U → a ∣ U → b ∣ U → U ≤ a * b → Q (.int U) H
abbrev s_least_multiple : Stmt := top 2
theorem sc_least_multiple : FnScope ["first", "second"] ["first", "second"] (defScope s_least_multiple) := ⟨rfl, rfl, rfl, by decide +kernel, rfl, by decide +kernel, by decide +kernel⟩
theorem lcm_is {a b : Int} (ha : 0 < a) (hb : 0 < b) : 0 < a * b / (Int.gcd a b : Int) ∧ a ∣ a * b / (Int.gcd a b : Int) ∧ b ∣ a * b / (Int.gcd a b : Int) ∧ a * b / (Int.gcd a b : Int) ≤ a * b := by
  have g0 := gcd_pos (a := a) hb
  obtain ⟨y, hy⟩ := Int.gcd_dvd_right a b
  obtain ⟨x, hx⟩ := Int.gcd_dvd_left a b
  generalize (Int.gcd a b : Int) = g at *
  have e1 : a * b / g = a * y := by
    rw [hy, show a * (g * y) = g * (a * y) by rw [← Int.mul_assoc, Int.mul_comm a g, Int.mul_assoc], Int.mul_ediv_cancel_left _ (by omega)]
  have e2 : a * y = b * x := by
    rw [hy, hx, Int.mul_assoc, Int.mul_assoc, Int.mul_comm x y]
  have p : 0 < a * b := Int.mul_pos ha hb
  have hy0 : 0 < y := by
    rcases Int.lt_or_le 0 y with q | q
    · exact q
    · have : g * y ≤ 0 := Int.mul_nonpos_of_nonneg_of_nonpos (by omega) q
      omega
  refine ⟨?_, ?_, ?_, ?_⟩
  · rw [e1]; exact Int.mul_pos ha hy0
  · rw [e1]; exact ⟨y, rfl⟩
  · rw [e1, e2]; exact ⟨x, rfl⟩
  · exact Int.ediv_le_self _ (by omega)
section
variable {P : Program} {w : World} {K : Fr} {mg : Str → Option Value} {base : Heap} {f : Addr} {fd : FuncData}
theorem ok_lcm (A : At K mg "least_multiple" s_least_multiple ["first", "second"] f fd) (G1 : Got P w K mg base CX0 1 "greatest_divisor" ["first", "second"] spGcd) : Got P w K mg base CX0 2 "least_multiple" ["first", "second"] spLcm := by
  obtain ⟨f_greatest_divisor, fd1, m_greatest_divisor, k_greatest_divisor, b_greatest_divisor, F_greatest_divisor⟩ := G1
  refine A.got (A.fn.ok sc_least_multiple (fun vs H Q E h => ?_) (fun cdv A outer s H vs Q E hr h => ⟨_, by exact
    (pss_one (ps_ret (pe_op op_fdivW (pe_op op_mulW (pv 0) (pv 1)) (pe_call F_greatest_divisor (hr.mono (by decide)) rfl m_greatest_divisor k_greatest_divisor b_greatest_divisor .nil pass0 (by exact (pa_cons (pv 0) (pa_cons (pv 1) pa_nil)))))))
    , ?_⟩))
  · obtain ⟨a, b, rfl, _⟩ := h
    rfl
  · obtain ⟨a, b, rfl, h0, h1, b0, b1, k⟩ := h
    obtain ⟨l1, l2, l3, l4⟩ := lcm_is h0 h1
    exact ⟨_, rfl, _, rfl, _, _, rfl, rfl, b0.cm b1, _, rfl, _, rfl, a, b, rfl, by omega, fun _ => by omega, _, _, rfl, rfl, (b1.le (by omega) (gcd_le h1)).cd (gcd_pos h1), k _ l1 l2 l3 l4⟩
end
def spLow : Sp := fun vs H Q _ => ∃ a b : Int, vs = [.int a, .int b] ∧ 0 < b ∧ Bd 9000 b ∧ NewL H (intL (OT.two ((a : Rat) / (b : Rat)))) Q
abbrev s_lowest_terms : Stmt := top 3
theorem sc_lowest_terms : FnScope ["numerator", "denominator", "divisor"] ["numerator", "denominator"] (defScope s_lowest_terms) := ⟨rfl, rfl, rfl, by decide +kernel, rfl, by decide +kernel, by decide +kernel⟩
section
variable {P : Program} {w : World} {K : Fr} {mg : Str → Option Value} {base : Heap} {f : Addr} {fd : FuncData}
theorem ok_low (A : At K mg "lowest_terms" s_lowest_terms ["numerator", "denominator"] f fd) (G1 : Got P w K mg base CX0 1 "greatest_divisor" ["first", "second"] spGcd) : Got P w K mg base CX0 2 "lowest_terms" ["numerator", "denominator"] spLow := by
  obtain ⟨f_greatest_divisor, fd1, m_greatest_divisor, k_greatest_divisor, b_greatest_divisor, F_greatest_divisor⟩ := G1
  refine A.got (A.fn.ok sc_lowest_terms (fun vs H Q E h => ?_) (fun cdv A outer s H vs Q E hr h => ⟨_, by exact
    (pss_cons (ps_set (i := 2) sc_lowest_terms.nd rfl (Or.inl rfl) (pe_call F_greatest_divisor (hr.mono (by decide)) rfl m_greatest_divisor k_greatest_divisor b_greatest_divisor .nil pass0 (by exact (pa_cons (pv 0) (pa_cons (pv 1) pa_nil)))))
      (pss_one (ps_ret (pe_lst (pa_cons (pe_op op_fdivW (pv 0) (pv 2)) (pa_cons (pe_op op_fdivW (pv 1) (pv 2)) pa_nil))))))
    , ?_⟩))
  · obtain ⟨a, b, rfl, _⟩ := h
    rfl
  · obtain ⟨a, b, rfl, h1, b1, k⟩ := h
    have c : ∀ x, CDivW x (Int.gcd a b : Int) := fun x => (b1.le (by omega) (gcd_le h1)).cd (gcd_pos h1)
    rw [two_div h1] at k
    exact ⟨_, rfl, _, rfl, a, b, rfl, by omega, fun _ => by omega, _, rfl, _, rfl, _, _, rfl, rfl, c _, _, rfl, _, rfl, _, _, rfl, rfl, c _, by show 2 ≤ sizeLine; decide, k.lay⟩
end
end EH
namespace EH
theorem bd_nat {n : Nat} (h : n < 1024) : Bd 10 (n : Int) := by
  show (n : Int).natAbs < 2 ^ 10
  omega
end EH

namespace EH
/-! ### sums of ints -/
def sumI (n : Nat) (w : Nat → Int) : Int := ((List.range n).map w).sum
theorem sumI_succ {n : Nat} {w : Nat → Int} : sumI (n + 1) w = sumI n w + w n := by
  unfold sumI; rw [List.range_succ, List.map_append, List.sum_append]; simp
theorem sumI_congr {n : Nat} {v w : Nat → Int} (h : ∀ i, i < n → v i = w i) : sumI n v = sumI n w := by
  unfold sumI; rw [List.map_congr_left fun i hi => h i (List.mem_range.mp hi)]
theorem sumI_add : ∀ {n : Nat} {v w : Nat → Int}, sumI n (fun i => v i + w i) = sumI n v + sumI n w
  | 0, _, _ => rfl
  | n + 1, v, w => by rw [sumI_succ, sumI_succ, sumI_succ, sumI_add]; omega
theorem sumI_mul : ∀ {n : Nat} {w : Nat → Int} {c : Int}, sumI n (fun i => w i * c) = sumI n w * c
  | 0, _, c => by show (0 : Int) = 0 * c; rw [Int.zero_mul]
  | n + 1, w, c => by rw [sumI_succ, sumI_succ, sumI_mul, Int.add_mul]
theorem sumI_zero : ∀ {n : Nat}, sumI n (fun _ => 0) = 0
  | 0 => rfl
  | n + 1 => by rw [sumI_succ, sumI_zero]; rfl
theorem sumI_nn : ∀ {n : Nat} {w : Nat → Int}, (∀ i, i < n → 0 ≤ w i) → 0 ≤ sumI n w
  | 0, _, _ => Int.le_refl _
  | n + 1, w, h => by rw [sumI_succ]; have := sumI_nn (w := w) fun i hi => h i (Nat.lt_succ_of_lt hi); have := h n (Nat.lt_succ_self n); omega
theorem sumI_ge : ∀ {n : Nat} {w : Nat → Int}, (∀ i, i < n → 0 ≤ w i) → ∀ i, i < n → w i ≤ sumI n w
  | 0, _, _, i, hi => absurd hi (Nat.not_lt_zero i)
  | n + 1, w, h, i, hi => by
    rw [sumI_succ]
    by_cases e : i = n
    · subst e; have := sumI_nn (w := w) fun j hj => h j (Nat.lt_succ_of_lt hj); omega
    · have := sumI_ge (w := w) (fun j hj => h j (Nat.lt_succ_of_lt hj)) i (by omega); have := h n (Nat.lt_succ_self n); omega
theorem sumI_cast : ∀ {n : Nat} {w : Nat → Int}, ((sumI n w : Int) : Rat) = OT.S n fun i => (w i : Rat)
  | 0, _ => rfl
  | n + 1, w => by rw [sumI_succ, Rat.intCast_add, sumI_cast]; rfl
theorem sumI_pos {n : Nat} {w : Nat → Int} (h : 0 < sumI n w) (nn : ∀ i, i < n → 0 ≤ w i) : ∃ i, i < n ∧ 0 < w i := by
  induction n with
  | zero => exact absurd h (by show ¬ (0 : Int) < 0; omega)
  | succ n ih =>
    rw [sumI_succ] at h
    by_cases q : 0 < w n
    · exact ⟨n, Nat.lt_succ_self n, q⟩
    · obtain ⟨i, a, b⟩ := ih (by have := nn n (Nat.lt_succ_self n); omega) fun i hi => nn i (Nat.lt_succ_of_lt hi)
      exact ⟨i, by omega, b⟩
theorem sumI_comm : ∀ {n m : Nat} {f : Nat → Nat → Int}, sumI n (fun i => sumI m (fun j => f i j)) = sumI m (fun j => sumI n (fun i => f i j))
  | 0, m, f => by
    show (0 : Int) = sumI m fun j => 0
    rw [sumI_zero]
  | n + 1, m, f => by
    rw [sumI_succ, sumI_comm, ← sumI_add]
    exact sumI_congr fun j _ => by rw [sumI_succ]
theorem sumI_sub {n : Nat} {v w : Nat → Int} : sumI n (fun i => v i - w i) = sumI n v - sumI n w := by
  have h : sumI n v = sumI n (fun i => v i - w i) + sumI n w := by
    rw [← sumI_add]; exact sumI_congr fun i _ => by omega
  omega
theorem sumI_mulL {n : Nat} {w : Nat → Int} {c : Int} : sumI n (fun i => c * w i) = c * sumI n w := by
  rw [Int.mul_comm, ← sumI_mul]; exact sumI_congr fun i _ => Int.mul_comm _ _
theorem sumI_le : ∀ {n : Nat} {v w : Nat → Int}, (∀ i, i < n → v i ≤ w i) → sumI n v ≤ sumI n w
  | 0, _, _, _ => Int.le_refl _
  | n + 1, v, w, h => by rw [sumI_succ, sumI_succ]; have := sumI_le fun i hi => h i (Nat.lt_succ_of_lt hi); have := h n (Nat.lt_succ_self n); omega
/-- one place alone -/
theorem sumI_one : ∀ {n k : Nat} {w : Nat → Int}, k < n → sumI n (fun i => if k = i then w i else 0) = w k
  | n + 1, k, w, h => by
    rw [sumI_succ]
    by_cases e : k = n
    · subst e
      rw [if_pos rfl, sumI_congr (w := fun _ => 0) fun i hi => if_neg (by omega), sumI_zero, Int.zero_add]
    · rw [if_neg e, sumI_one (by omega), Int.add_zero]
theorem sumI_eq_zero : ∀ {n : Nat} {w : Nat → Int}, (∀ i, i < n → 0 ≤ w i) → sumI n w = 0 → ∀ i, i < n → w i = 0
  | n + 1, w, h, e, i, hi => by
    rw [sumI_succ] at e
    have h1 := sumI_nn (w := w) fun i hi => h i (Nat.lt_succ_of_lt hi)
    have h2 := h n (Nat.lt_succ_self n)
    by_cases q : i = n
    · subst q; omega
    · exact sumI_eq_zero (fun i hi => h i (Nat.lt_succ_of_lt hi)) (by omega) i (by omega)
end EH

namespace EH
open PySem PySem.Spec PyProof.Rows L2
theorem sq_vec {K : Fr} {H : Hp} {a : Addr} {n : Nat} {u : Nat → Int} (h : SqL K H a (vec n u)) : SqL K H a (((List.range n).map u).map V.int) := by
  rw [vec_ints] at h; exact h
theorem vec_len {n : Nat} {u : Nat → Int} : (vec n u).length = n := tab_len
theorem vec_congr {n : Nat} {u v : Nat → Int} (h : ∀ i, i < n → u i = v i) : vec n u = vec n v := tab_congr fun i hi => by rw [h i hi]
theorem rep_tab {v : V} : ∀ {n : Nat}, (List.replicate n [v]).flatten = tab n fun _ => v
  | 0 => rfl
  | n + 1 => by rw [List.replicate_succ', List.flatten_append, rep_tab, tab_succ]; rfl
theorem size_ok {n : Nat} (h : n ≤ 100000) : n ≤ sizeLine := Nat.le_trans h (by decide)
/-- weights: none below 0, not all 0, of a size -/
structure Wt (n : Nat) (w : Nat → Int) : Prop where
  nn : ∀ i, i < n → 0 ≤ w i
  pos : 0 < sumI n w
  bd : Bd 200 (sumI n w)
theorem Wt.item {n : Nat} {w : Nat → Int} (h : Wt n w) {i : Nat} (hi : i < n) : Bd 200 (w i) := h.bd.le (h.nn i hi) (sumI_ge h.nn i hi)

/-! ### distributions -/
def spCommon (K : Fr) : Sp := fun vs H Q _ => ∃ (a b : Addr) (n : Nat) (u v : Nat → Int), vs = [.ref a, .ref b] ∧ SqL K H a (vec n u) ∧ SqL K H b (vec n v) ∧ Wt n u ∧ Wt n v ∧
  ∀ U : Int, 0 < U → sumI n u ∣ U → sumI n v ∣ U → Bd 400 U → Q (.int U) H
abbrev s_common_units : Stmt := top 5
theorem sc_common_units : FnScope ["first", "second"] ["first", "second"] (defScope s_common_units) := ⟨rfl, rfl, rfl, by decide +kernel, rfl, by decide +kernel, by decide +kernel⟩
section
variable {P : Program} {w : World} {K : Fr} {mg : Str → Option Value} {base : Heap} {f : Addr} {fd : FuncData}
theorem ok_common (T : Tx K mg) (A : At K mg "common_units" s_common_units ["first", "second"] f fd) (G1 : Got P w K mg base CX0 2 "least_multiple" ["first", "second"] spLcm) : Got P w K mg base CX0 3 "common_units" ["first", "second"] (spCommon K) := by
  obtain ⟨f_least_multiple, fd1, m_least_multiple, k_least_multiple, b_least_multiple, F_least_multiple⟩ := G1
  refine A.got (A.fn.ok sc_common_units (fun vs H Q E h => ?_) (fun cdv A outer s H vs Q E hr h => ⟨_, by exact
    (pss_one (ps_ret (pe_call F_least_multiple (hr.mono (by decide)) rfl m_least_multiple k_least_multiple b_least_multiple .nil pass0 (by exact (pa_cons (pe_callB (id := "sum") (csum (K := K) rfl rfl) (by rfl) T.sum (by decide +kernel) (pa_cons (pv 0) pa_nil)) (pa_cons (pe_callB (id := "sum") (csum (K := K) rfl rfl) (by rfl) T.sum (by decide +kernel) (pa_cons (pv 1) pa_nil)) pa_nil))))))
    , ?_⟩))
  · obtain ⟨a, b, n, u, v, rfl, _⟩ := h
    rfl
  · obtain ⟨a, b, n, u, v, rfl, ha, hb, wu, wv, k⟩ := h
    exact ⟨_, rfl, a, _, rfl, sq_vec ha, _, rfl, b, _, rfl, sq_vec hb, _, _, rfl, wu.pos, wv.pos, wu.bd.mono (by decide), wv.bd.mono (by decide), fun U h0 h1 h2 h3 =>
      k U h0 h1 h2 (Bd.le (Bd.mul wu.bd wv.bd) (by omega) h3)⟩
end
def spInU (K : Fr) : Sp := fun vs H Q _ => ∃ (a : Addr) (n : Nat) (u : Nat → Int) (U : Int), vs = [.ref a, .int U] ∧ SqL K H a (vec n u) ∧ n ≤ 1000 ∧ Wt n u ∧ 0 < U ∧ Bd 400 U ∧
  NewL H (vec n fun i => u i * (U / sumI n u)) Q
abbrev s_in_units : Stmt := top 6
theorem sc_in_units : FnScope ["weights", "units", "share", "weight"] ["weights", "units"] (defScope s_in_units) := ⟨rfl, rfl, rfl, by decide +kernel, rfl, by decide +kernel, by decide +kernel⟩
section
variable {P : Program} {w : World} {K : Fr} {mg : Str → Option Value} {base : Heap} {f : Addr} {fd : FuncData}
theorem ok_inu (T : Tx K mg) (A : At K mg "in_units" s_in_units ["weights", "units"] f fd) : Got P w K mg base CX0 1 "in_units" ["weights", "units"] (spInU K) := by
  refine A.got (A.fn.ok sc_in_units (fun vs H Q E h => ?_) (fun cdv A outer s H vs Q E hr h => ⟨_, by exact
    (pss_cons (ps_set (i := 2) sc_in_units.nd rfl (Or.inr rfl) (pe_op op_fdivW (pv 1) (pe_callB (id := "sum") (csum (K := K) rfl rfl) (by rfl) T.sum (by decide +kernel) (pa_cons (pv 0) pa_nil))))
      (pss_one (ps_ret (pe_lc (own := [("weight", 3)]) rfl sc_in_units.nd  (piL (K := K) rfl (pv 0)) (blkOk_by (N := ["weights", "units", "share", "weight"]) (sc := defScope s_in_units) (own := [("weight", 3)]) (by decide +kernel)) (fun _ _ _ _ _ => (pg_name (i := 3) sc_in_units.nd rfl (Or.inl rfl))) (fun _ _ _ _ _ => pts_nil) (fun _ _ _ _ _ => (pe_op op_mulW (pv 3) (pv 2)))))))
    , ?_⟩))
  · obtain ⟨a, n, u, U, rfl, _⟩ := h
    rfl
  · obtain ⟨a, n, u, U, rfl, ha, hn, wu, hU, bU, k⟩ := h
    refine ⟨_, rfl, _, rfl, a, _, rfl, sq_vec ha, _, _, rfl, rfl, wu.bd.cd wu.pos, ?_⟩
    have bs : Bd 400 (U / sumI n u) := bU.le (Int.ediv_nonneg (by omega) (by have := wu.pos; omega)) (Int.ediv_le_self _ (by omega))
    refine ⟨_, rfl, a, rfl, ⟨_, ha⟩, fun D hD => comp_vals (walk_list (xs := vec n u)) (fun i => .int (u i * (U / sumI n u))) hD (by rw [vec_len]; omega) (fun H' s => s.seq ha) (fun i x H1 H' hi s1 y F hF => ?_) (fun H' s1 hl => ?_) gm_name⟩
    · obtain ⟨rfl, e⟩ := y
      obtain ⟨hi', rfl⟩ := tab_of e
      exact ⟨rfl, _, rfl, _, rfl, _, _, rfl, rfl, (wu.item hi').cm bs, hF _ (Same.refl _)⟩
    · rw [vec_len] at hl
      exact k D H' s1 hD hl
end
/-- what comes to j -/
def mapTo (n : Nat) (u : Nat → Int) (t : Nat → Nat) (j : Nat) : Int := sumI n fun i => if t i = j then u i else 0
def spMapped (K : Fr) : Sp := fun vs H Q _ => ∃ (a b : Addr) (n : Nat) (u : Nat → Int) (t : Nat → Nat), vs = [.ref a, .ref b] ∧ SqL K H a (vec n u) ∧ SqL K H b (vec n fun i => (t i : Int)) ∧ n ≤ 1000 ∧ (∀ i, i < n → t i < n) ∧
  NewL H (vec n (mapTo n u t)) Q
abbrev s_mapped_weights : Stmt := top 7
theorem sc_mapped_weights : FnScope ["weights", "targets", "mapped", "point", "weight"] ["weights", "targets"] (defScope s_mapped_weights) := ⟨rfl, rfl, rfl, by decide +kernel, rfl, by decide +kernel, by decide +kernel⟩
section
variable {P : Program} {w : World} {K : Fr} {mg : Str → Option Value} {base : Heap} {f : Addr} {fd : FuncData}
theorem ok_mapped (T : Tx K mg) (A : At K mg "mapped_weights" s_mapped_weights ["weights", "targets"] f fd) : Got P w K mg base CX0 1 "mapped_weights" ["weights", "targets"] (spMapped K) := by
  refine A.got (A.fn.ok sc_mapped_weights (fun vs H Q E h => ?_) (fun cdv A outer s H vs Q E hr h => ⟨_, by exact
    (pss_cons (ps_set (i := 2) sc_mapped_weights.nd rfl (Or.inl rfl) (pe_op op_rep (pe_lst (pa_cons pe_int pa_nil)) (pe_callB (id := "len") (clen (K := K) rfl) (by rfl) T.len (by decide +kernel) (pa_cons (pv 0) pa_nil))))
      (pss_cons (ps_for PassesOwn.never rfl (piEnum (K := K) rfl (by rfl) T.enumerate (pa_cons (pv 0) pa_nil)) (pgTup (K := K) (n := 2) rfl rfl (pgs_cons (pg_name (i := 3) sc_mapped_weights.nd rfl (Or.inl rfl)) (pgs_cons (pg_name (i := 4) sc_mapped_weights.nd rfl (Or.inl rfl)) pgs_nil)) rfl) (pss_one (ps_augL (pv 2) (pe_ix (ixL (K := K) rfl) (pv 1) (pv 3) (fun _ _ => rfl)) (pv 4) ip_add)))
      (pss_one (ps_ret (pv 2)))))
    , ?_⟩))
  · obtain ⟨a, b, n, u, t, rfl, _⟩ := h
    rfl
  · obtain ⟨a, b, n, u, t, rfl, ha, hb, hn, ht, k⟩ := h
    refine ⟨by show 1 ≤ sizeLine; decide, fun p hp => ?_⟩
    have s0 := same_new (o := .lst [V.int 0]) hp
    refine ⟨_, rfl, a, _, rfl, .inl (s0.seq ha), p, _, _, rfl, rfl, upd_same, by omega, by rw [vec_len]; omega, ?_, fun m hm => ?_⟩
    · rw [vec_len]; exact size_ok (by show 1 * (n : Int).toNat ≤ 100000; omega)
    have s1 := s0.trans (same_new (o := .lst (List.replicate ((vec n u).length : Int).toNat [V.int 0]).flatten) hm)
    rw [vec_len] at s1 ⊢
    have hm0 : H m = none := s0.free hm
    refine ⟨_, rfl, a, _, rfl, s1.seq ha, for_it (walk_enum (xs := vec n u)) (fun i σ H' => ∃ v3 v4 : Option V, σ = [some (.ref a), some (.ref b), some (.ref m), v3, v4] ∧ Same H H' ∧ H' m = some (.lst (vec n (mapTo i u t))))
      ⟨none, none, rfl, s1, ?_⟩ (fun i σ H' _ p => ?_) (fun i x σ H1 H2 hi p y => ?_) (fun σ H' p => ?_)⟩
    · rw [upd_same]
      show some (HO.lst (List.replicate n [V.int 0]).flatten) = _
      rw [rep_tab]; rfl
    · obtain ⟨_, _, _, s, _⟩ := p
      exact s.seq ha
    · obtain ⟨v3, v4, rfl, s, hl⟩ := p
      obtain ⟨T', x', y', rfl, hT, rfl, e1, e2⟩ := y
      cases e1
      obtain ⟨hi', rfl⟩ := tab_of e2
      have s2 := s.trans (same_new (o := .tup [V.int (i : Nat), V.int (u i)]) hT)
      have hl2 : upd H1 T' (.tup [V.int (i : Nat), V.int (u i)]) m = some (.lst (vec n (mapTo i u t))) := by rw [upd_ne (ne_of_none hl hT)]; exact hl
      have g1 : (vec n (mapTo i u t))[t i]? = some (V.int (mapTo i u t (t i))) := tab_get (ht i hi')
      refine ⟨T', _, rfl, SqT.of upd_same, rfl, _, _, rfl, _, _, rfl, rfl, ?_⟩
      refine ⟨_, rfl, _, rfl, _, rfl, b, _, _, _, rfl, rfl, s2.seq hb, tab_at hi', m, _, t i, _, rfl, rfl, SqL.of hl2, g1, _, rfl, _, _, rfl, rfl, m, _, _, t i, rfl, rfl, hl2, ixn (by rw [vec_len]; exact ht i hi'), ?_⟩
      refine ⟨_, _, rfl, same_mut s2 hm0, ?_⟩
      rw [upd_same]
      show some (HO.lst ((tab n fun j => .int (mapTo i u t j)).set (t i) (V.int (mapTo i u t (t i) + u i)))) = _
      rw [tab_set]
      refine congrArg (fun l => some (HO.lst l)) (tab_congr fun j hj => ?_)
      show _ = V.int (mapTo (i + 1) u t j)
      unfold mapTo
      rw [sumI_succ]
      by_cases e : j = t i
      · subst e; rw [if_pos rfl, if_pos rfl]
      · rw [if_neg e, if_neg (fun z => e z.symm), Int.add_zero]
    · obtain ⟨v3, v4, rfl, s, hl⟩ := p
      rw [vec_len] at hl
      exact ⟨_, rfl, k m H' s hm0 hl⟩
end
end EH

namespace EH
open PySem PySem.Spec PyProof.Rows L2
/-- the greatest that divides all -/
def gcdI : Nat → (Nat → Int) → Nat
  | 0, _ => 0
  | n + 1, w => Int.gcd (w n) (gcdI n w : Nat)
theorem gcdI_dvd : ∀ {n : Nat} {w : Nat → Int} {i : Nat}, i < n → (gcdI n w : Int) ∣ w i
  | n + 1, w, i, h => by
    by_cases e : i = n
    · subst e; exact Int.gcd_dvd_left _ _
    · exact Int.dvd_trans (Int.gcd_dvd_right _ _) (gcdI_dvd (by omega))
theorem dvd_gcdI : ∀ {n : Nat} {w : Nat → Int} {k : Int}, (∀ i, i < n → k ∣ w i) → k ∣ (gcdI n w : Int)
  | 0, _, k, _ => ⟨0, by show (0 : Int) = k * 0; rw [Int.mul_zero]⟩
  | n + 1, w, k, h => Int.dvd_coe_gcd (h n (Nat.lt_succ_self n)) (dvd_gcdI fun i hi => h i (Nat.lt_succ_of_lt hi))
theorem gcdI_pos {n : Nat} {w : Nat → Int} {i : Nat} (hi : i < n) (h : 0 < w i) : 0 < (gcdI n w : Int) := by
  rcases Nat.eq_zero_or_pos (gcdI n w) with q | q
  · have := gcdI_dvd (w := w) hi
    rw [q] at this
    obtain ⟨c, e⟩ := this
    rw [show ((0 : Nat) : Int) = 0 from rfl, Int.zero_mul] at e
    omega
  · omega
theorem gcdI_le {n : Nat} {w : Nat → Int} {i : Nat} (hi : i < n) (h : 0 < w i) : (gcdI n w : Int) ≤ w i := Int.le_of_dvd h (gcdI_dvd hi)
theorem gcd_pos_of {n : Nat} {w : Nat → Int} (nn : ∀ i, i < n → 0 ≤ w i) (h : 0 < sumI n w) : 0 < (gcdI n w : Int) ∧ (gcdI n w : Int) ≤ sumI n w := by
  obtain ⟨i, hi, p⟩ := sumI_pos h nn
  exact ⟨gcdI_pos hi p, Int.le_trans (gcdI_le hi p) (sumI_ge nn i hi)⟩
/-- weights without a common divisor, of those handed in a part each -/
structure Red (n : Nat) (w m : Nat → Int) (g : Int) : Prop where
  pos : 0 < g
  eq : ∀ i, i < n → m i * g = w i
  nn : ∀ i, i < n → 0 ≤ m i
  one : ∀ k : Int, (∀ i, i < n → k ∣ m i) → k ∣ 1
theorem red_gcd {n : Nat} {w : Nat → Int} (nn : ∀ i, i < n → 0 ≤ w i) (h : 0 < sumI n w) : Red n w (fun i => w i / (gcdI n w : Int)) (gcdI n w : Int) := by
  obtain ⟨p, _⟩ := gcd_pos_of nn h
  have e : ∀ i, i < n → w i / (gcdI n w : Int) * (gcdI n w : Int) = w i := fun i hi => Int.ediv_mul_cancel (gcdI_dvd hi)
  refine ⟨p, e, fun i hi => Int.ediv_nonneg (nn i hi) (by omega), fun k hk => ?_⟩
  have : k * (gcdI n w : Int) ∣ (gcdI n w : Int) := dvd_gcdI fun i hi => by
    rw [← e i hi]; exact Int.mul_dvd_mul (hk i hi) (Int.dvd_refl _)
  obtain ⟨c, q⟩ := this
  refine ⟨c, ?_⟩
  have q2 : (gcdI n w : Int) * (k * c) = (gcdI n w : Int) * 1 := by
    rw [Int.mul_one, ← Int.mul_assoc, Int.mul_comm _ k]; exact q.symm
  exact (Int.eq_of_mul_eq_mul_left (by omega) q2).symm
def spWithout (K : Fr) : Sp := fun vs H Q _ => ∃ (a : Addr) (n : Nat) (u : Nat → Int), vs = [.ref a] ∧ SqL K H a (vec n u) ∧ n ≤ 1000 ∧ (∀ i, i < n → 0 ≤ u i) ∧ 0 < sumI n u ∧ Bd 600 (sumI n u) ∧
  ∀ m g, Red n u m g → NewL H (vec n m) Q
abbrev s_without_divisor : Stmt := top 9
theorem sc_without_divisor : FnScope ["weights", "divisor", "weight"] ["weights"] (defScope s_without_divisor) := ⟨rfl, rfl, rfl, by decide +kernel, rfl, by decide +kernel, by decide +kernel⟩
section
variable {P : Program} {w : World} {K : Fr} {mg : Str → Option Value} {base : Heap} {f : Addr} {fd : FuncData}
theorem ok_without (T : Tx K mg) (A : At K mg "without_divisor" s_without_divisor ["weights"] f fd) (G1 : Got P w K mg base CX0 1 "greatest_divisor" ["first", "second"] spGcd) : Got P w K mg base CX0 2 "without_divisor" ["weights"] (spWithout K) := by
  obtain ⟨f_greatest_divisor, fd1, m_greatest_divisor, k_greatest_divisor, b_greatest_divisor, F_greatest_divisor⟩ := G1
  refine A.got (A.fn.ok sc_without_divisor (fun vs H Q E h => ?_) (fun cdv A outer s H vs Q E hr h => ⟨_, by exact
    (pss_cons (ps_set (i := 1) sc_without_divisor.nd rfl (Or.inr rfl) pe_int)
      (pss_cons (ps_for PassesOwn.never rfl (piL (K := K) rfl (pv 0)) (pg_name (i := 2) sc_without_divisor.nd rfl (Or.inl rfl)) (pss_one (ps_set (i := 1) sc_without_divisor.nd rfl (Or.inr rfl) (pe_call F_greatest_divisor (hr.mono (by decide)) rfl m_greatest_divisor k_greatest_divisor b_greatest_divisor .nil pass0 (by exact (pa_cons (pv 2) (pa_cons (pv 1) pa_nil)))))))
      (pss_one (ps_ret (pe_lc (own := [("weight", 2)]) rfl sc_without_divisor.nd  (piL (K := K) rfl (pv 0)) (blkOk_by (N := ["weights", "divisor", "weight"]) (sc := defScope s_without_divisor) (own := [("weight", 2)]) (by decide +kernel)) (fun _ _ _ _ _ => (pg_name (i := 2) sc_without_divisor.nd rfl (Or.inl rfl))) (fun _ _ _ _ _ => pts_nil) (fun _ _ _ _ _ => (pe_op op_fdivW (pv 2) (pv 1))))))))
    , ?_⟩))
  · obtain ⟨a, n, u, rfl, _⟩ := h
    rfl
  · obtain ⟨a, n, u, rfl, ha, hn, nn, pos, bd, k⟩ := h
    obtain ⟨gp, gl⟩ := gcd_pos_of nn pos
    refine ⟨_, rfl, a, rfl, ⟨_, ha⟩, for_it (walk_list (xs := vec n u)) (fun i σ H' => ∃ v2 : Option V, σ = [some (.ref a), some (.int (gcdI i u : Nat)), v2] ∧ H' = H) ⟨none, rfl, rfl⟩ (fun i σ H' _ p => ?_) (fun i x σ H1 H2 hi p y => ?_) (fun σ H' p => ?_)⟩
    · obtain ⟨_, _, rfl⟩ := p
      exact ha
    · obtain ⟨v2, rfl, rfl⟩ := p
      obtain ⟨rfl, e⟩ := y
      obtain ⟨hi', rfl⟩ := tab_of e
      exact ⟨_, rfl, _, rfl, u i, (gcdI i u : Nat), rfl, by omega, fun _ => nn i hi', _, rfl, rfl⟩
    · obtain ⟨v2, rfl, rfl⟩ := p
      rw [vec_len]
      refine ⟨_, rfl, a, rfl, ⟨_, ha⟩, fun D hD => comp_vals (walk_list (xs := vec n u)) (fun i => .int (u i / (gcdI n u : Int))) hD (by rw [vec_len]; omega) (fun H' s => s.seq ha) (fun i x H1 H' hi s1 y F hF => ?_) (fun H' s1 hl => ?_) gm_name⟩
      · obtain ⟨rfl, e⟩ := y
        obtain ⟨hi', rfl⟩ := tab_of e
        exact ⟨rfl, _, rfl, _, rfl, _, _, rfl, rfl, (bd.le (by omega) gl).cd gp, hF _ (Same.refl _)⟩
      · rw [vec_len] at hl
        exact k _ _ (red_gcd nn pos) D H' s1 hD hl
end
theorem wt_units {n : Nat} {u : Nat → Int} {U : Int} (h : sumI n u ∣ U) : sumI n (fun i => u i * (U / sumI n u)) = U := by
  rw [sumI_mul]; exact Int.mul_ediv_cancel' h
def spMean (K : Fr) : Sp := fun vs H Q _ => ∃ (a b : Addr) (n : Nat) (u v : Nat → Int), vs = [.ref a, .ref b] ∧ SqL K H a (vec n u) ∧ SqL K H b (vec n v) ∧ n ≤ 1000 ∧ Wt n u ∧ Wt n v ∧
  ∀ (m : Nat → Int) (g U : Int), 0 < U → sumI n u ∣ U → sumI n v ∣ U → Bd 400 U → Red n (fun i => u i * (U / sumI n u) + v i * (U / sumI n v)) m g → NewL H (vec n m) Q
abbrev s_mean_weights : Stmt := top 8
theorem sc_mean_weights : FnScope ["first", "second", "units", "mean", "point", "amount"] ["first", "second"] (defScope s_mean_weights) := ⟨rfl, rfl, rfl, by decide +kernel, rfl, by decide +kernel, by decide +kernel⟩
section
variable {P : Program} {w : World} {K : Fr} {mg : Str → Option Value} {base : Heap} {f : Addr} {fd : FuncData}
theorem ok_mean (T : Tx K mg) (A : At K mg "mean_weights" s_mean_weights ["first", "second"] f fd) (G1 : Got P w K mg base CX0 3 "common_units" ["first", "second"] (spCommon K)) (G2 : Got P w K mg base CX0 1 "in_units" ["weights", "units"] (spInU K))
    (G3 : Got P w K mg base CX0 2 "without_divisor" ["weights"] (spWithout K)) : Got P w K mg base CX0 4 "mean_weights" ["first", "second"] (spMean K) := by
  obtain ⟨f_common_units, fd1, m_common_units, k_common_units, b_common_units, F_common_units⟩ := G1
  obtain ⟨f_in_units, fd2, m_in_units, k_in_units, b_in_units, F_in_units⟩ := G2
  obtain ⟨f_without_divisor, fd3, m_without_divisor, k_without_divisor, b_without_divisor, F_without_divisor⟩ := G3
  refine A.got (A.fn.ok sc_mean_weights (fun vs H Q E h => ?_) (fun cdv A outer s H vs Q E hr h => ⟨_, by exact
    (pss_cons (ps_set (i := 2) sc_mean_weights.nd rfl (Or.inl rfl) (pe_call F_common_units (hr.mono (by decide)) rfl m_common_units k_common_units b_common_units .nil pass0 (by exact (pa_cons (pv 0) (pa_cons (pv 1) pa_nil)))))
      (pss_cons (ps_set (i := 3) sc_mean_weights.nd rfl (Or.inl rfl) (pe_call F_in_units (hr.mono (by decide)) rfl m_in_units k_in_units b_in_units .nil pass0 (by exact (pa_cons (pv 0) (pa_cons (pv 2) pa_nil)))))
      (pss_cons (ps_for PassesOwn.never rfl (piEnum (K := K) rfl (by rfl) T.enumerate (pa_cons (pe_call F_in_units (hr.mono (by decide)) rfl m_in_units k_in_units b_in_units .nil pass0 (by exact (pa_cons (pv 1) (pa_cons (pv 2) pa_nil)))) pa_nil)) (pgTup (K := K) (n := 2) rfl rfl (pgs_cons (pg_name (i := 4) sc_mean_weights.nd rfl (Or.inl rfl)) (pgs_cons (pg_name (i := 5) sc_mean_weights.nd rfl (Or.inl rfl)) pgs_nil)) rfl) (pss_one (ps_augL (pv 3) (pv 4) (pv 5) ip_add)))
      (pss_one (ps_ret (pe_call F_without_divisor (hr.mono (by decide)) rfl m_without_divisor k_without_divisor b_without_divisor .nil pass0 (by exact (pa_cons (pv 3) pa_nil))))))))
    , ?_⟩))
  · obtain ⟨a, b, n, u, v, rfl, _⟩ := h
    rfl
  · obtain ⟨a, b, n, u, v, rfl, ha, hb, hn, wu, wv, k⟩ := h
    refine ⟨_, rfl, _, rfl, a, b, n, u, v, rfl, ha, hb, wu, wv, fun U hU d1 d2 bU => ?_⟩
    refine ⟨_, rfl, _, rfl, a, n, u, U, rfl, ha, hn, wu, hU, bU, fun m H1 s1 nm lm => ?_⟩
    refine ⟨_, rfl, _, rfl, b, n, v, U, rfl, s1.seq hb, hn, wv, hU, bU, fun q H2 s2 nq lq => ?_⟩
    have mq : m ≠ q := fun z => by rw [z, nq] at lm; cases lm
    refine ⟨q, _, rfl, SqL.of lq, for_it (walk_enum (xs := vec n fun i => v i * (U / sumI n v))) (fun i σ H' => ∃ v3 v4 : Option V, σ = [some (.ref a), some (.ref b), some (.int U), some (.ref m), v3, v4] ∧ Same H H' ∧
        H' q = some (.lst (vec n fun i => v i * (U / sumI n v))) ∧ H' m = some (.lst (vec n fun j => if j < i then u j * (U / sumI n u) + v j * (U / sumI n v) else u j * (U / sumI n u))))
      ⟨none, none, rfl, s1.trans s2, lq, ?_⟩ (fun i σ H' _ p => ?_) (fun i x σ H3 H4 hi p y => ?_) (fun σ H' p => ?_)⟩
    · rw [s2 _ _ lm]
      refine congrArg (fun l => some (HO.lst l)) (vec_congr fun j hj => ?_)
      rw [if_neg (Nat.not_lt_zero _)]
    · obtain ⟨_, _, _, _, h, _⟩ := p
      exact SqL.of h
    · obtain ⟨v3, v4, rfl, s, hq, hl⟩ := p
      obtain ⟨T', x', y', rfl, hT, rfl, e1, e2⟩ := y
      cases e1
      obtain ⟨hi', rfl⟩ := tab_of e2
      have sT := same_new (o := .tup [V.int (i : Nat), V.int (v i * (U / sumI n v))]) hT
      have hl2 := sT _ _ hl
      have g1 := tab_get (f := fun j => V.int (if j < i then u j * (U / sumI n u) + v j * (U / sumI n v) else u j * (U / sumI n u))) hi'
      rw [if_neg (Nat.lt_irrefl i)] at g1
      refine ⟨T', _, rfl, SqT.of upd_same, rfl, _, _, rfl, _, _, rfl, rfl, ?_⟩
      refine ⟨_, rfl, _, rfl, m, _, i, _, rfl, rfl, SqL.of hl2, g1, _, rfl, _, _, rfl, rfl, m, _, _, i, rfl, rfl, hl2, ixn (by rw [vec_len]; exact hi'), ?_⟩
      refine ⟨_, _, rfl, same_mut (s.trans sT) nm, ?_, ?_⟩
      · rw [upd_ne (fun z => mq z.symm)]; exact sT _ _ hq
      · rw [upd_same]
        show some (HO.lst ((tab n _).set i _)) = some (HO.lst (tab n _))
        rw [tab_set]
        refine congrArg (fun l => some (HO.lst l)) (tab_congr fun j hj => ?_)
        by_cases e : j = i
        · subst e; rw [if_pos rfl]; exact congrArg V.int (if_pos (Nat.lt_succ_self _)).symm
        · rw [if_neg e]
          show V.int (if j < i then _ else _) = V.int (if j < i + 1 then _ else _)
          by_cases c : j < i
          · rw [if_pos c, if_pos (Nat.lt_succ_of_lt c)]
          · rw [if_neg c, if_neg (by omega)]
    · obtain ⟨v3, v4, rfl, s, hq, hl⟩ := p
      rw [vec_len] at hl
      have hl3 : H' m = some (.lst (vec n fun j => u j * (U / sumI n u) + v j * (U / sumI n v))) := by
        rw [hl]
        refine congrArg (fun l => some (HO.lst l)) (vec_congr fun j hj => ?_)
        rw [if_pos hj]
      have nnu : ∀ {x : Nat → Int}, Wt n x → ∀ j, j < n → 0 ≤ x j * (U / sumI n x) := fun wx j hj => Int.mul_nonneg (wx.nn j hj) (Int.ediv_nonneg (by omega) (by have := wx.pos; omega))
      have e2 : sumI n (fun j => u j * (U / sumI n u) + v j * (U / sumI n v)) = U + U := by rw [sumI_add, wt_units d1, wt_units d2]
      exact ⟨_, rfl, m, n, _, rfl, SqL.of hl3, hn, fun j hj => by have := nnu wu j hj; have := nnu wv j hj; omega, by rw [e2]; omega, by rw [e2]; exact (bU.add bU).mono (by decide), fun mm g hr p H5 s5 np lp =>
        k mm g U hU d1 d2 bU hr p H5 (s.trans s5) (s.free np) lp⟩
end
end EH

/-! Shortest ways through one middle after another. -/
namespace OT
set_option linter.unusedVariables false
abbrev OM := Nat → Nat → Option Int
def jn : Option Int → Option Int → Option Int
  | some a, some b => some (a + b)
  | _, _ => none
def sh : Option Int → Option Int → Option Int
  | none, b => b
  | some a, none => some a
  | some a, some b => some (if b < a then b else a)
theorem sh_from {a b : Option Int} {x : Int} (h : sh a b = some x) : a = some x ∨ b = some x := by
  cases a with
  | none => exact .inr h
  | some p => cases b with
    | none => exact .inl h
    | some q =>
      have : (if q < p then q else p) = x := Option.some.inj h
      split at this
      · exact .inr (by rw [this])
      · exact .inl (by rw [this])
theorem sh_left {a b : Option Int} {x : Int} (h : AtMost a x) : AtMost (sh a b) x := by
  obtain ⟨p, rfl, hp⟩ := h
  cases b with
  | none => exact ⟨p, rfl, hp⟩
  | some q => exact ⟨_, rfl, by split <;> omega⟩
theorem sh_right {a b : Option Int} {x : Int} (h : AtMost b x) : AtMost (sh a b) x := by
  obtain ⟨q, rfl, hq⟩ := h
  cases a with
  | none => exact ⟨q, rfl, hq⟩
  | some p => exact ⟨_, rfl, by split <;> omega⟩
theorem jn_some {a b : Option Int} {x : Int} (h : jn a b = some x) : ∃ p q, a = some p ∧ b = some q ∧ x = p + q := by
  cases a <;> cases b <;> first | (cases h; done) | exact ⟨_, _, rfl, rfl, (Option.some.inj h).symm⟩
theorem jn_most {a b : Option Int} {x y : Int} (h : AtMost a x) (q : AtMost b y) : AtMost (jn a b) (x + y) := by
  obtain ⟨p, rfl, hp⟩ := h
  obtain ⟨r, rfl, hr⟩ := q
  exact ⟨p + r, rfl, by omega⟩
def fwP (D : OM) (k : Nat) : OM := fun i j => sh (D i j) (jn (D i k) (D k j))
def fwA (D : OM) : Nat → OM
  | 0 => D
  | k + 1 => fwP (fwA D k) k
/-- steps of a matrix -/
def SArc (n : Nat) (S : OM) : Arcs := fun u v w => u < n ∧ v < n ∧ S u v = some w
structure FW (n : Nat) (S : OM) (g : Nat → Int) (k : Nat) (D : OM) : Prop where
  diag : ∀ i, i < n → D i i = some 0
  pot : ∀ i j x, i < n → j < n → D i j = some x → g j ≤ g i + x
  way : ∀ i j x, i < n → j < n → D i j = some x → ∃ l, Way (fun s => s = i) (SArc n S) l j x
  le : ∀ i j w, i < n → j < n → S i j = some w → AtMost (D i j) w
  tri : ∀ m, m < k → ∀ i j x y, i < n → j < n → AtMost (D i m) x → AtMost (D m j) y → AtMost (D i j) (x + y)
/-- the steps that are handed in: 0 from each place to itself, no round below 0 -/
structure Steps (n : Nat) (S : OM) (g : Nat → Int) : Prop where
  diag : ∀ i, i < n → S i i = some 0
  pot : ∀ i j x, i < n → j < n → S i j = some x → g j ≤ g i + x
theorem fw_start {n S g} (h : Steps n S g) : FW n S g 0 S where
  diag := h.diag
  pot := h.pot
  way := fun i j x hi hj e => ⟨_, by have := Way.snoc (src := fun s => s = i) (E := SArc n S) (.nil rfl) ⟨hi, hj, e⟩; rw [Int.zero_add] at this; exact this⟩
  le := fun i j w _ _ e => ⟨w, e, Int.le_refl _⟩
  tri := fun m hm => absurd hm (Nat.not_lt_zero m)
theorem sh_self (a : Option Int) : sh a a = a := by
  cases a with
  | none => rfl
  | some p => show some (if p < p then p else p) = some p; simp
theorem jn_zero_right (a : Option Int) : jn a (some 0) = a := by
  cases a with
  | none => rfl
  | some p => show some (p + 0) = some p; rw [Int.add_zero]
theorem jn_zero_left (a : Option Int) : jn (some 0) a = a := by
  cases a with
  | none => rfl
  | some p => show some (0 + p) = some p; rw [Int.zero_add]
theorem fwP_col {D : OM} {k : Nat} (h : D k k = some 0) (i : Nat) : fwP D k i k = D i k := by
  unfold fwP; rw [h, jn_zero_right, sh_self]
theorem fwP_row {D : OM} {k : Nat} (h : D k k = some 0) (j : Nat) : fwP D k k j = D k j := by
  unfold fwP; rw [h, jn_zero_left, sh_self]
theorem fw_step {n S g k D} (F : FW n S g k D) (hk : k < n) : FW n S g (k + 1) (fwP D k) := by
  have dk := F.diag k hk
  have pot : ∀ i j x, i < n → j < n → fwP D k i j = some x → g j ≤ g i + x := fun i j x hi hj e => by
    rcases sh_from e with q | q
    · exact F.pot i j x hi hj q
    · obtain ⟨p, r, a, b, c⟩ := jn_some q
      have := F.pot i k p hi hk a
      have := F.pot k j r hk hj b
      omega
  have dn : ∀ {i j x}, AtMost (fwP D k i j) x → AtMost (D i j) x ∨ ∃ p r, D i k = some p ∧ D k j = some r ∧ p + r ≤ x := fun {i j x} h => by
    obtain ⟨y, e, hy⟩ := h
    rcases sh_from e with q | q
    · exact .inl ⟨y, q, hy⟩
    · obtain ⟨p, r, a, b, c⟩ := jn_some q
      exact .inr ⟨p, r, a, b, by omega⟩
  have up : ∀ {i j x}, AtMost (D i j) x → AtMost (fwP D k i j) x := fun h => sh_left h
  have up2 : ∀ {i j x y}, AtMost (D i k) x → AtMost (D k j) y → AtMost (fwP D k i j) (x + y) := fun h q => sh_right (jn_most h q)
  refine ⟨fun i hi => ?_, pot, fun i j x hi hj e => ?_, fun i j w hi hj e => up (F.le i j w hi hj e), fun m hm i j x y hi hj h1 h2 => ?_⟩
  · obtain ⟨y, e, hy⟩ := up (i := i) (j := i) (x := 0) ⟨0, F.diag i hi, Int.le_refl _⟩
    have := pot i i y hi hi e
    rw [e]; congr 1; omega
  · rcases sh_from e with q | q
    · exact F.way i j x hi hj q
    · obtain ⟨p, r, a, b, c⟩ := jn_some q
      subst c
      obtain ⟨l1, w1⟩ := F.way i k p hi hk a
      obtain ⟨l2, w2⟩ := F.way k j r hk hj b
      exact w1.join w2
  · by_cases e : m = k
    · subst e
      rw [fwP_col dk] at h1
      rw [fwP_row dk] at h2
      exact up2 h1 h2
    · have hm' : m < k := by omega
      have hmn : m < n := by omega
      rcases dn h1 with a | ⟨p, r, a1, a2, a3⟩ <;> rcases dn h2 with b | ⟨p', r', b1, b2, b3⟩
      · exact up (F.tri m hm' i j x y hi hj a b)
      · obtain ⟨z, ez, hz⟩ := F.tri m hm' i k x p' hi hk a ⟨p', b1, Int.le_refl _⟩
        exact (up2 ⟨z, ez, hz⟩ ⟨r', b2, Int.le_refl _⟩).le (by omega)
      · obtain ⟨z, ez, hz⟩ := F.tri m hm' k j r y hk hj ⟨r, a2, Int.le_refl _⟩ b
        exact (up2 ⟨p, a1, Int.le_refl _⟩ ⟨z, ez, hz⟩).le (by omega)
      · have n1 := F.pot k m r hk hmn a2
        have n2 := F.pot m k p' hmn hk b1
        exact (up2 ⟨p, a1, Int.le_refl _⟩ ⟨r', b2, Int.le_refl _⟩).le (by omega)
theorem fw_all {n S g} (h : Steps n S g) : ∀ k, k ≤ n → FW n S g k (fwA S k)
  | 0, _ => fw_start h
  | k + 1, hk => fw_step (fw_all h k (by omega)) (by omega)
theorem fw_dist {n S g} (h : Steps n S g) {i j : Nat} (hi : i < n) (hj : j < n) : Dist (fun s => s = i) (SArc n S) j (fwA S n i j) := by
  have F := fw_all h n (Nat.le_refl n)
  refine ⟨fun l x w => ?_, fun x e => F.way i j x hi hj e⟩
  have key : ∀ {l v x}, Way (fun s => s = i) (SArc n S) l v x → v < n ∧ AtMost (fwA S n i v) x := by
    intro l v x w
    induction w with
    | nil a => subst a; exact ⟨hi, 0, F.diag _ hi, Int.le_refl _⟩
    | @snoc l u v x w a b ih =>
      obtain ⟨hu, hv, e⟩ := b
      exact ⟨hv, F.tri u hu i v x w hi hv ih.2 (F.le u v w hu hv e)⟩
  exact (key w).2
end OT

namespace EH
open PySem PySem.Spec PyProof.Rows L2
open OT (OM jn sh fwP fwA SArc FW Steps Dist)
/-! ### graphs -/
def oV : Option Int → V
  | none => .non
  | some x => .int x
def spJoined : Sp := fun vs H Q _ => ∃ a b : Option Int, vs = [oV a, oV b] ∧ Q (oV (jn a b)) H
def spShorter : Sp := fun vs H Q _ => ∃ a b : Option Int, vs = [oV a, oV b] ∧ Q (oV (sh a b)) H
abbrev s_joined : Stmt := top 13
theorem sc_joined : FnScope ["first", "second"] ["first", "second"] (defScope s_joined) := ⟨rfl, rfl, rfl, by decide +kernel, rfl, by decide +kernel, by decide +kernel⟩
abbrev s_shorter : Stmt := top 14
theorem sc_shorter : FnScope ["first", "second"] ["first", "second"] (defScope s_shorter) := ⟨rfl, rfl, rfl, by decide +kernel, rfl, by decide +kernel, by decide +kernel⟩
section
variable {P : Program} {w : World} {K : Fr} {mg : Str → Option Value} {base : Heap} {f : Addr} {fd : FuncData}
theorem ok_joined (A : At K mg "joined" s_joined ["first", "second"] f fd) : Got P w K mg base CX0 1 "joined" ["first", "second"] spJoined := by
  refine A.got (A.fn.ok sc_joined (fun vs H Q E h => ?_) (fun cdv A outer s H vs Q E hr h => ⟨_, by exact
    (pss_cons (ps_if (PW.pt (pw_or (pt_cmpR op_isN (pv 0) pe_non (nomark _)) (pw_or1 (pt_cmpR op_isN (pv 1) pe_non (nomark _))))) (pss_one (ps_ret pe_non)) pss_nil)
      (pss_one (ps_ret (pe_op op_add (pv 0) (pv 1)))))
    , ?_⟩))
  · obtain ⟨a, b, rfl, _⟩ := h
    rfl
  · obtain ⟨a, b, rfl, k⟩ := h
    cases a with
    | none => exact ⟨_, rfl, rfl, _, rfl, iteT (iteT k)⟩
    | some x =>
      refine ⟨_, rfl, rfl, _, rfl, iteF ?_⟩
      cases b with
      | none => exact ⟨_, rfl, rfl, _, rfl, iteT k⟩
      | some y => exact ⟨_, rfl, rfl, _, rfl, iteF ⟨_, rfl, _, rfl, _, _, rfl, rfl, k⟩⟩
theorem ok_shorter (T : Tx K mg) (A : At K mg "shorter" s_shorter ["first", "second"] f fd) : Got P w K mg base CX0 1 "shorter" ["first", "second"] spShorter := by
  refine A.got (A.fn.ok sc_shorter (fun vs H Q E h => ?_) (fun cdv A outer s H vs Q E hr h => ⟨_, by exact
    (pss_cons (ps_if (pt_cmpR op_isN (pv 0) pe_non (nomark _)) (pss_one (ps_ret (pv 1))) pss_nil)
      (pss_cons (ps_if (pt_cmpR op_isN (pv 1) pe_non (nomark _)) (pss_one (ps_ret (pv 0))) pss_nil)
      (pss_one (ps_ret (pe_callB (id := "min") (call_min2 rfl) (by rfl) T.min (by decide +kernel) (pa_cons (pv 0) (pa_cons (pv 1) pa_nil)))))))
    , ?_⟩))
  · obtain ⟨a, b, rfl, _⟩ := h
    rfl
  · obtain ⟨a, b, rfl, k⟩ := h
    cases a with
    | none => exact ⟨_, rfl, rfl, _, rfl, iteT ⟨_, rfl, k⟩⟩
    | some x =>
      refine ⟨_, rfl, rfl, _, rfl, iteF ?_⟩
      cases b with
      | none => exact ⟨_, rfl, rfl, _, rfl, iteT ⟨_, rfl, k⟩⟩
      | some y => exact ⟨_, rfl, rfl, _, rfl, iteF ⟨_, rfl, _, rfl, _, _, rfl, k⟩⟩
end
/-- a matrix of ways in, one of shortest ways out -/
def oM (S : OM) : Nat → Nat → V := fun i j => oV (S i j)
def spWays : Sp := fun vs H Q _ => ∃ (a : Addr) (r : Nat → Addr) (n : Nat) (S : OM) (g : Nat → Int), vs = [.ref a] ∧ Mat H a r n n (oM S) ∧ n ≤ 1000 ∧ Steps n S g ∧ NewM H n n (oM (fwA S n)) Q
abbrev s_shortest_ways : Stmt := top 12
theorem sc_shortest_ways : FnScope ["steps", "points", "ways", "middle", "start", "end", "way", "row"] ["steps"] (defScope s_shortest_ways) := ⟨rfl, rfl, rfl, by decide +kernel, rfl, by decide +kernel, by decide +kernel⟩
section
variable {P : Program} {w : World} {K : Fr} {mg : Str → Option Value} {base : Heap} {f : Addr} {fd : FuncData}
theorem ok_ways (T : Tx K mg) (A : At K mg "shortest_ways" s_shortest_ways ["steps"] f fd) (G1 : Got P w K mg base CX0 1 "joined" ["first", "second"] spJoined) (G2 : Got P w K mg base CX0 1 "shorter" ["first", "second"] spShorter) :
    Got P w K mg base CX0 2 "shortest_ways" ["steps"] spWays := by
  obtain ⟨f_joined, fd1, m_joined, k_joined, b_joined, F_joined⟩ := G1
  obtain ⟨f_shorter, fd2, m_shorter, k_shorter, b_shorter, F_shorter⟩ := G2
  refine A.got (A.fn.ok sc_shortest_ways (fun vs H Q E h => ?_) (fun cdv A outer s H vs Q E hr h => ⟨_, by exact
    (pss_cons (ps_set (i := 1) sc_shortest_ways.nd rfl (Or.inl rfl) (pe_callB (id := "len") (clen (K := K) rfl) (by rfl) T.len (by decide +kernel) (pa_cons (pv 0) pa_nil)))
      (pss_cons (ps_setLc (i := 2) (own := [("row", 7)]) rfl sc_shortest_ways.nd rfl rfl (sw_true rfl rfl rfl (by decide +kernel))  (piL (K := K) rfl (pv 0)) (blkOk_by (N := ["steps", "points", "ways", "middle", "start", "end", "way", "row"]) (sc := defScope s_shortest_ways) (own := [("row", 7)]) (by decide +kernel)) (fun _ _ _ _ _ => (pg_name (i := 7) sc_shortest_ways.nd rfl (Or.inl rfl))) (fun _ _ _ _ _ => pts_nil) (fun _ _ _ _ _ => (pe_callTy (T := "list") (clst (K := K) rfl) (by rfl) T.list (by decide +kernel) (pa_cons (pv 7) pa_nil))))
      (pss_cons (ps_for PassesOwn.never rfl (pi_range1 (by rfl) T.range (pa_cons (pv 1) pa_nil)) (pg_name (i := 3) sc_shortest_ways.nd rfl (Or.inl rfl)) (pss_one (ps_for PassesOwn.never rfl (pi_range1 (by rfl) T.range (pa_cons (pv 1) pa_nil)) (pg_name (i := 4) sc_shortest_ways.nd rfl (Or.inl rfl)) (pss_one (ps_for PassesOwn.never rfl (pi_range1 (by rfl) T.range (pa_cons (pv 1) pa_nil)) (pg_name (i := 5) sc_shortest_ways.nd rfl (Or.inl rfl)) (pss_cons (ps_set (i := 6) sc_shortest_ways.nd rfl (Or.inl rfl) (pe_call F_joined (hr.mono (by decide)) rfl m_joined k_joined b_joined .nil pass0 (by exact (pa_cons (pe_ix (ixL (K := K) rfl) (pe_ix (ixL (K := K) rfl) (pv 2) (pv 4) (fun _ _ => rfl)) (pv 3) (fun _ _ => rfl)) (pa_cons (pe_ix (ixL (K := K) rfl) (pe_ix (ixL (K := K) rfl) (pv 2) (pv 3) (fun _ _ => rfl)) (pv 5) (fun _ _ => rfl)) pa_nil)))))
      (pss_one (ps_asg (pe_call F_shorter (hr.mono (by decide)) rfl m_shorter k_shorter b_shorter .nil pass0 (by exact (pa_cons (pe_ix (ixL (K := K) rfl) (pe_ix (ixL (K := K) rfl) (pv 2) (pv 4) (fun _ _ => rfl)) (pv 5) (fun _ _ => rfl)) (pa_cons (pv 6) pa_nil)))) (pg_sub (pe_ix (ixL (K := K) rfl) (pv 2) (pv 4) (fun _ _ => rfl)) (pv 5) set_list)))))))))
      (pss_one (ps_ret (pv 2))))))
    , ?_⟩))
  · obtain ⟨a, r, n, S, g, rfl, _⟩ := h
    rfl
  · obtain ⟨a, r, n, S, g, rfl, M, hn, st, k⟩ := h
    refine ⟨_, rfl, a, _, rfl, .inl (SqL.of M.at_), ?_⟩
    rw [tab_len]
    refine ⟨_, rfl, a, rfl, ⟨_, SqL.of M.at_⟩, fun W hW => comp_rows (walk_list (xs := tab n fun i => .ref (r i))) n (oM S) hW (by rw [tab_len]; omega) (fun H' s => SqL.of (s _ _ M.at_)) (fun i x H1 H' hi s1 y F hF => ?_) (fun q H1 s1 N => ?_) gm_name⟩
    · obtain ⟨rfl, e⟩ := y
      obtain ⟨hi', rfl⟩ := tab_of e
      exact ⟨rfl, _, rfl, r i, _, rfl, .inl (SqL.of (s1 _ _ (M.row i hi'))), fun l hl => hF l _ (same_new hl) hl upd_same⟩
    · rw [tab_len] at N
      refine ⟨_, rfl, n, rfl, by omega, by omega, for_rng (n := n) (fun k' σ H' => ∃ v3 v4 v5 v6 : Option V, σ = [some (.ref a), some (.int n), some (.ref W), v3, v4, v5, v6, none] ∧ Same H H' ∧ MatNew H H' W q n n (oM (fwA S k')))
        ⟨none, none, none, none, rfl, s1, N⟩ (fun m σ H2 hm p => ?_) (fun σ H' p => ?_)⟩
      · obtain ⟨v3, v4, v5, v6, rfl, s2, N2⟩ := p
        have dk := (OT.fw_all st m (by omega)).diag m hm
        refine ⟨_, rfl, n, rfl, by omega, by omega, for_rng (n := n) (fun i σ H' => ∃ v4 v5 v6 : Option V, σ = [some (.ref a), some (.int n), some (.ref W), some (.int m), v4, v5, v6, none] ∧ Same H H' ∧
            MatNew H H' W q n n (oM fun i' j' => if i' < i then fwP (fwA S m) m i' j' else fwA S m i' j'))
          ⟨v4, v5, v6, rfl, s2, N2.mat.congr fun i j _ _ => congrArg oV (if_neg (Nat.not_lt_zero _)).symm, N2.new, N2.rows⟩ (fun i σ H3 hi p => ?_) (fun σ H' p => ?_)⟩
        · obtain ⟨v4, v5, v6, rfl, s3, N3⟩ := p
          refine ⟨_, rfl, n, rfl, by omega, by omega, for_rng (n := n) (fun j σ H' => ∃ v5 v6 : Option V, σ = [some (.ref a), some (.int n), some (.ref W), some (.int m), some (.int i), v5, v6, none] ∧ Same H H' ∧
              MatNew H H' W q n n (oM fun i' j' => if i' < i ∨ (i' = i ∧ j' < j) then fwP (fwA S m) m i' j' else fwA S m i' j'))
            ⟨v5, v6, rfl, s3, N3.mat.congr fun i' j' _ _ => ?_, N3.new, N3.rows⟩ (fun j σ H4 hj p => ?_) (fun σ H' p => ?_)⟩
          · unfold oM
            have : (i' < i ∨ i' = i ∧ j' < 0) ↔ i' < i := ⟨fun z => by omega, fun z => .inl z⟩
            simp only [this]
          · obtain ⟨v5, v6, rfl, s4, N4⟩ := p
            have c1 : (if i < i ∨ (i = i ∧ m < j) then fwP (fwA S m) m i m else fwA S m i m) = fwA S m i m := by
              rw [OT.fwP_col dk]; exact ite_self _
            have c2 : (if m < i ∨ (m = i ∧ j < j) then fwP (fwA S m) m m j else fwA S m m j) = fwA S m m j := by
              rw [OT.fwP_row dk]; exact ite_self _
            have c3 : (if i < i ∨ (i = i ∧ j < j) then fwP (fwA S m) m i j else fwA S m i j) = fwA S m i j := if_neg (by omega)
            refine ⟨_, rfl, _, rfl, W, _, _, _, rfl, rfl, SqL.of N4.mat.at_, tab_at hi, _, rfl, q i, _, _, _, rfl, rfl, SqL.of (N4.mat.row i hi), (tab_at hm).trans (congrArg (fun z => some (oV z)) c1), ?_⟩
            refine ⟨_, rfl, _, rfl, W, _, _, _, rfl, rfl, SqL.of N4.mat.at_, tab_at hm, _, rfl, q m, _, _, _, rfl, rfl, SqL.of (N4.mat.row m hm), (tab_at hj).trans (congrArg (fun z => some (oV z)) c2), ?_⟩
            refine ⟨_, _, rfl, ?_⟩
            refine ⟨_, rfl, _, rfl, W, _, _, _, rfl, rfl, SqL.of N4.mat.at_, tab_at hi, _, rfl, q i, _, _, _, rfl, rfl, SqL.of (N4.mat.row i hi), (tab_at hj).trans (congrArg (fun z => some (oV z)) c3), ?_⟩
            refine ⟨_, rfl, _, _, rfl, ?_⟩
            refine ⟨_, rfl, _, rfl, W, _, _, _, rfl, rfl, SqL.of N4.mat.at_, tab_at hi, _, rfl, q i, _, _, j, rfl, rfl, N4.mat.row i hi, ixn (by rw [tab_len]; exact hj), ?_⟩
            refine ⟨_, _, rfl, same_mut s4 (N4.rows i hi), (N4.mat.set hi _).congr fun i' j' _ _ => ?_, N4.new, N4.rows⟩
            show (if i' = i ∧ j' = j then oV (fwP (fwA S m) m i j) else oV (if i' < i ∨ (i' = i ∧ j' < j) then fwP (fwA S m) m i' j' else fwA S m i' j')) = oV (if i' < i ∨ (i' = i ∧ j' < j + 1) then fwP (fwA S m) m i' j' else fwA S m i' j')
            by_cases e : i' = i ∧ j' = j
            · obtain ⟨rfl, rfl⟩ := e
              rw [if_pos ⟨rfl, rfl⟩, if_pos (.inr ⟨rfl, Nat.lt_succ_self _⟩)]
            · rw [if_neg e]
              by_cases c : i' < i ∨ (i' = i ∧ j' < j)
              · rw [if_pos c, if_pos (by omega)]
              · rw [if_neg c, if_neg (by omega)]
          · obtain ⟨v5, v6, rfl, s4, N4⟩ := p
            refine ⟨_, _, _, rfl, s4, N4.mat.congr fun i' j' _ hj' => ?_, N4.new, N4.rows⟩
            unfold oM
            have : (i' < i ∨ i' = i ∧ j' < n) ↔ i' < i + 1 := ⟨fun z => by omega, fun z => by omega⟩
            simp only [this]
        · obtain ⟨v4, v5, v6, rfl, s4, N4⟩ := p
          exact ⟨_, _, _, _, rfl, s4, N4.mat.congr fun i' j' hi' _ => congrArg oV (if_pos hi'), N4.new, N4.rows⟩
      · obtain ⟨v3, v4, v5, v6, rfl, s2, N2⟩ := p
        exact ⟨_, rfl, k W q H' s2 N2⟩
end
def stepsOf (L : Nat → Nat → Int) : OM := fun i j => if i = j then some 0 else if 0 < L i j then some (L i j) else none
theorem steps_ok {n : Nat} {L : Nat → Nat → Int} : Steps n (stepsOf L) fun _ => 0 where
  diag := fun i _ => if_pos rfl
  pot := fun i j x _ _ e => by
    unfold stepsOf at e
    split at e
    · have := Option.some.inj e; omega
    · split at e
      · have := Option.some.inj e; omega
      · cases e
def spDist : Sp := fun vs H Q _ => ∃ (a : Addr) (r : Nat → Addr) (n : Nat) (L : Nat → Nat → Int), vs = [.ref a] ∧ Mat H a r n n (fun i j => .int (L i j)) ∧ n ≤ 1000 ∧ NewM H n n (oM (fwA (stepsOf L) n)) Q
abbrev s_all_distances : Stmt := top 11
theorem sc_all_distances : FnScope ["lengths", "steps", "point", "row", "length"] ["lengths"] (defScope s_all_distances) := ⟨rfl, rfl, rfl, by decide +kernel, rfl, by decide +kernel, by decide +kernel⟩
section
variable {P : Program} {w : World} {K : Fr} {mg : Str → Option Value} {base : Heap} {f : Addr} {fd : FuncData}
theorem ok_dist (T : Tx K mg) (A : At K mg "all_distances" s_all_distances ["lengths"] f fd) (G1 : Got P w K mg base CX0 2 "shortest_ways" ["steps"] spWays) :
    Got P w K mg base CX0 3 "all_distances" ["lengths"] spDist := by
  obtain ⟨f_shortest_ways, fd1, m_shortest_ways, k_shortest_ways, b_shortest_ways, F_shortest_ways⟩ := G1
  refine A.got (A.fn.ok sc_all_distances (fun vs H Q E h => ?_) (fun cdv A outer s H vs Q E hr h => ⟨_, by exact
    (pss_cons (ps_setLc (i := 1) (own := [("row", 3)]) rfl sc_all_distances.nd rfl rfl (sw_true rfl rfl rfl (by decide +kernel))  (piL (K := K) rfl (pv 0)) (blkOk_by (N := ["lengths", "steps", "point", "row", "length"]) (sc := defScope s_all_distances) (own := [("row", 3)]) (by decide +kernel)) (fun _ _ _ _ _ => (pg_name (i := 3) sc_all_distances.nd rfl (Or.inl rfl))) (fun _ _ _ _ _ => pts_nil) (fun _ _ _ _ _ => (pe_lc (own := [("length", 4)]) rfl sc_all_distances.nd  (piL (K := K) rfl (pv 3)) (blkOk_by (N := ["lengths", "steps", "point", "row", "length"]) (own := [("length", 4)]) (by rfl)) (fun _ _ _ _ _ => (pg_name (i := 4) sc_all_distances.nd rfl (Or.inl rfl))) (fun _ _ _ _ _ => pts_nil) (fun _ _ _ _ _ => (pe_ifExp (pt_cmpR op_gt (pv 4) pe_int (nomark _)) (pv 4) pe_non)))))
      (pss_cons (ps_for PassesOwn.never rfl (pi_range1 (by rfl) T.range (pa_cons (pe_callB (id := "len") (clen (K := K) rfl) (by rfl) T.len (by decide +kernel) (pa_cons (pv 0) pa_nil)) pa_nil)) (pg_name (i := 2) sc_all_distances.nd rfl (Or.inl rfl)) (pss_one (ps_asg pe_int (pg_sub (pe_ix (ixL (K := K) rfl) (pv 1) (pv 2) (fun _ _ => rfl)) (pv 2) set_list))))
      (pss_one (ps_ret (pe_call F_shortest_ways (hr.mono (by decide)) rfl m_shortest_ways k_shortest_ways b_shortest_ways .nil pass0 (by exact (pa_cons (pv 1) pa_nil)))))))
    , ?_⟩))
  · obtain ⟨a, r, n, L, rfl, _⟩ := h
    rfl
  · obtain ⟨a, r, n, L, rfl, M, hn, k⟩ := h
    refine ⟨_, rfl, a, rfl, ⟨_, SqL.of M.at_⟩, fun W hW => comp_rows (walk_list (xs := tab n fun i => .ref (r i))) n (fun i j => oV (if 0 < L i j then some (L i j) else none)) hW (by rw [tab_len]; omega) (fun H' s => SqL.of (s _ _ M.at_)) (fun i x H1 H' hi s1 y F hF => ?_) (fun q H1 s1 N => ?_) gm_name⟩
    · obtain ⟨rfl, e⟩ := y
      obtain ⟨hi', rfl⟩ := tab_of e
      have hx := SqL.of (K := K) (s1 _ _ (M.row i hi'))
      refine ⟨rfl, _, rfl, r i, rfl, ⟨_, hx⟩, fun D hD => comp_vals (walk_list (xs := tab n fun j => .int (L i j))) (fun j => oV (if 0 < L i j then some (L i j) else none)) hD (by rw [tab_len]; omega) (fun H' s => s.seq hx) (fun j x H2 H3 hj s2 y F2 hF2 => ?_) (fun H' s2 hl => ?_) gm_name⟩
      · obtain ⟨rfl, e⟩ := y
        obtain ⟨hj', rfl⟩ := tab_of e
        refine ⟨rfl, _, rfl, _, _, rfl, rfl, _, rfl, ?_⟩
        have key := hF2 _ (Same.refl _)
        by_cases c : 0 < L i j
        · rw [if_pos c] at key
          rw [decide_eq_true c]
          exact iteT ⟨_, rfl, key⟩
        · rw [if_neg c] at key
          rw [decide_eq_false c]
          exact iteF key
      · rw [tab_len] at hl
        exact hF D H' s2 hD hl
    · rw [tab_len] at N
      refine ⟨_, rfl, a, _, rfl, .inl (SqL.of (s1 _ _ M.at_)), ?_⟩
      rw [tab_len]
      refine ⟨n, rfl, by omega, by omega, for_rng (n := n) (fun i σ H' => ∃ v2 : Option V, σ = [some (.ref a), some (.ref W), v2, none, none] ∧ Same H H' ∧
          MatNew H H' W q n n (oM fun i' j' => if i' = j' ∧ i' < i then some 0 else if 0 < L i' j' then some (L i' j') else none))
        ⟨none, rfl, s1, N.mat.congr fun i j _ _ => congrArg oV (if_neg (by omega)).symm, N.new, N.rows⟩ (fun i σ H2 hi p => ?_) (fun σ H' p => ?_)⟩
      · obtain ⟨v2, rfl, s2, N2⟩ := p
        refine ⟨_, rfl, _, rfl, W, _, _, _, rfl, rfl, SqL.of N2.mat.at_, tab_at hi, _, rfl, q i, _, _, i, rfl, rfl, N2.mat.row i hi, ixn (by rw [tab_len]; exact hi), ?_⟩
        refine ⟨_, rfl, same_mut s2 (N2.rows i hi), (N2.mat.set hi _).congr fun i' j' _ _ => ?_, N2.new, N2.rows⟩
        show (if i' = i ∧ j' = i then V.int 0 else oV (if i' = j' ∧ i' < i then some 0 else if 0 < L i' j' then some (L i' j') else none)) = oV (if i' = j' ∧ i' < i + 1 then some 0 else if 0 < L i' j' then some (L i' j') else none)
        by_cases e : i' = i ∧ j' = i
        · rw [if_pos e, if_pos (by omega)]; rfl
        · rw [if_neg e]
          by_cases c : i' = j' ∧ i' < i
          · rw [if_pos c, if_pos (show i' = j' ∧ i' < i + 1 by omega)]
          · rw [if_neg c, if_neg (show ¬ (i' = j' ∧ i' < i + 1) by omega)]
      · obtain ⟨v2, rfl, s2, N2⟩ := p
        refine ⟨_, rfl, W, q, n, stepsOf L, fun _ => 0, rfl, N2.mat.congr fun i j hi _ => congrArg oV ?_, hn, steps_ok, fun b r' H3 s3 N3 => k b r' H3 (s2.trans s3) ⟨N3.mat, s2.free N3.new, fun i hi => s2.free (N3.rows i hi)⟩⟩
        unfold stepsOf
        have : (i = j ∧ i < n) ↔ i = j := ⟨fun z => z.1, fun z => ⟨z, hi⟩⟩
        simp only [this]
end
def isConn (n : Nat) (D : OM) : Bool := (List.range n).all fun j => (D 0 j).isSome
def spConn : Sp := fun vs H Q _ => ∃ (a : Addr) (r : Nat → Addr) (n : Nat) (D : OM), vs = [.ref a] ∧ Mat H a r n n (oM D) ∧ 0 < n ∧ Q (.bl (isConn n D)) H
theorem conn_in {n : Nat} {D : OM} : (if true = true then !inV V.non (tab n (oM D 0)) else inV V.non (tab n (oM D 0))) = isConn n D := by
  rw [if_pos rfl]
  unfold inV isConn tab
  rw [List.any_map, List.not_any_eq_all_not]
  refine congrFun (congrArg List.all rfl) _ |>.trans ?_
  refine congrArg (fun g => (List.range n).all g) (funext fun j => ?_)
  show (!eqV (oV (D 0 j)) .non) = (D 0 j).isSome
  cases D 0 j <;> rfl
abbrev s_all_connected : Stmt := top 15
theorem sc_all_connected : FnScope ["distances"] ["distances"] (defScope s_all_connected) := ⟨rfl, rfl, rfl, by decide +kernel, rfl, by decide +kernel, by decide +kernel⟩
section
variable {P : Program} {w : World} {K : Fr} {mg : Str → Option Value} {base : Heap} {f : Addr} {fd : FuncData}
theorem ok_conn (A : At K mg "all_connected" s_all_connected ["distances"] f fd) : Got P w K mg base CX0 1 "all_connected" ["distances"] spConn := by
  refine A.got (A.fn.ok sc_all_connected (fun vs H Q E h => ?_) (fun cdv A outer s H vs Q E hr h => ⟨_, by exact
    (pss_one (ps_ret (pe_cmpR (opNotIn (K := K) rfl) pe_non (pe_ix (ixL (K := K) rfl) (pv 0) pe_int (fun _ _ => rfl)) (by rfl))))
    , ?_⟩))
  · obtain ⟨a, r, n, D, rfl, _⟩ := h
    rfl
  · obtain ⟨a, r, n, D, rfl, M, hn, k⟩ := h
    rw [← conn_in] at k
    refine ⟨_, rfl, a, _, 0, _, rfl, rfl, SqL.of M.at_, tab_at hn, r 0, _, rfl, .inl (SqL.of (M.row 0 hn)), rfl, ?_, k⟩
    rw [List.all_eq_true]
    intro x hx
    obtain ⟨j, _, rfl⟩ := List.mem_map.mp hx
    show flatV (oV (D 0 j)) = true
    cases D 0 j <;> rfl
end
end EH

namespace EH
open PySem PySem.Spec PyProof.Rows L2
/-! ### plans: what is not a flow -/
def mI (p : Nat → Nat → Int) : Nat → Nat → V := fun i j => .int (p i j)
def spAllFree : Sp := fun vs H Q _ => ∃ n : Nat, vs = [.int n] ∧ n ≤ 1000 ∧ NewM H n n (fun _ _ => .bl true) Q
abbrev s_all_free : Stmt := top 27
theorem sc_all_free : FnScope ["size", "row"] ["size"] (defScope s_all_free) := ⟨rfl, rfl, rfl, by decide +kernel, rfl, by decide +kernel, by decide +kernel⟩
section
variable {P : Program} {w : World} {K : Fr} {mg : Str → Option Value} {base : Heap} {f : Addr} {fd : FuncData}
theorem ok_allfree (T : Tx K mg) (A : At K mg "all_free" s_all_free ["size"] f fd) : Got P w K mg base CX0 1 "all_free" ["size"] spAllFree := by
  refine A.got (A.fn.ok sc_all_free (fun vs H Q E h => ?_) (fun cdv A outer s H vs Q E hr h => ⟨_, by exact
    (pss_one (ps_ret (pe_lc (own := [("row", 1)]) rfl sc_all_free.nd  (pi_range1 (by rfl) T.range (pa_cons (pv 0) pa_nil)) (blkOk_by (N := ["size", "row"]) (sc := defScope s_all_free) (own := [("row", 1)]) (by decide +kernel)) (fun _ _ _ _ _ => (pg_name (i := 1) sc_all_free.nd rfl (Or.inl rfl))) (fun _ _ _ _ _ => pts_nil) (fun _ _ _ _ _ => (pe_op op_rep (pe_lst (pa_cons pe_bl pa_nil)) (pv 0))))))
    , ?_⟩))
  · obtain ⟨n, rfl, _⟩ := h
    rfl
  · obtain ⟨n, rfl, hn, k⟩ := h
    refine ⟨_, rfl, n, rfl, by omega, by omega, fun D hD => comp_rows (walk_rng (n := n)) n (fun _ _ => .bl true) hD (by omega) (fun _ _ => trivial) (fun i x H1 H' hi s1 y F hF => ?_) (fun r H' s1 N => k D r H' s1 N) gm_name⟩
    obtain ⟨rfl, rfl⟩ := y
    refine ⟨rfl, by show 1 ≤ sizeLine; decide, fun p hp => ⟨_, rfl, p, n, _, rfl, rfl, upd_same, by omega, by omega, ?_, fun q hq => hF q _ ?_ ?_ ?_⟩⟩
    · exact size_ok (by show 1 * (n : Int).toNat ≤ 100000; omega)
    · exact (same_new hp).trans (same_new hq)
    · exact (same_new hp).free hq
    · rw [upd_same]
      show some (HO.lst (List.replicate n [V.bl true]).flatten) = _
      rw [rep_tab]
end
def spUnits : Sp := fun vs H Q _ => ∃ (a : Addr) (r : Nat → Addr) (k m : Nat) (p : Nat → Nat → Int), vs = [.ref a] ∧ Mat H a r k m (mI p) ∧ k ≤ 1000 ∧ ∀ H', Same H H' → Q (.int (sumI k fun i => sumI m (p i))) H'
abbrev s_plan_units : Stmt := top 32
theorem sc_plan_units : FnScope ["plan", "row"] ["plan"] (defScope s_plan_units) := ⟨rfl, rfl, rfl, by decide +kernel, rfl, by decide +kernel, by decide +kernel⟩
section
variable {P : Program} {w : World} {K : Fr} {mg : Str → Option Value} {base : Heap} {f : Addr} {fd : FuncData}
theorem ok_units (T : Tx K mg) (A : At K mg "plan_units" s_plan_units ["plan"] f fd) : Got P w K mg base CX0 1 "plan_units" ["plan"] spUnits := by
  refine A.got (A.fn.ok sc_plan_units (fun vs H Q E h => ?_) (fun cdv A outer s H vs Q E hr h => ⟨_, by exact
    (pss_one (ps_ret (pe_callB (id := "sum") (csum (K := K) rfl rfl) (by rfl) T.sum (by decide +kernel) (pa_cons (pe_lc (own := [("row", 1)]) rfl sc_plan_units.nd  (piL (K := K) rfl (pv 0)) (blkOk_by (N := ["plan", "row"]) (sc := defScope s_plan_units) (own := [("row", 1)]) (by decide +kernel)) (fun _ _ _ _ _ => (pg_name (i := 1) sc_plan_units.nd rfl (Or.inl rfl))) (fun _ _ _ _ _ => pts_nil) (fun _ _ _ _ _ => (pe_callB (id := "sum") (csum (K := K) rfl rfl) (by rfl) T.sum (by decide +kernel) (pa_cons (pv 1) pa_nil)))) pa_nil))))
    , ?_⟩))
  · obtain ⟨a, r, n, m, p, rfl, _⟩ := h
    rfl
  · obtain ⟨a, r, n, m, p, rfl, M, hn, k⟩ := h
    refine ⟨_, rfl, a, rfl, ⟨_, SqL.of M.at_⟩, fun D hD => comp_vals (walk_list (xs := tab n fun i => .ref (r i))) (fun i => .int (sumI m (p i))) hD (by rw [tab_len]; omega) (fun H' s => SqL.of (s _ _ M.at_)) (fun i x H1 H' hi s1 y F hF => ?_) (fun H' s1 hl => ?_) gm_name⟩
    · obtain ⟨rfl, e⟩ := y
      obtain ⟨hi', rfl⟩ := tab_of e
      exact ⟨rfl, _, rfl, r i, _, rfl, sq_vec (SqL.of (s1 _ _ (M.row i hi'))), hF _ (Same.refl _)⟩
    · rw [tab_len] at hl
      exact ⟨D, _, rfl, sq_vec (SqL.of hl), k H' s1⟩
end
/-- what is carried how far -/
def costI (n m : Nat) (p d : Nat → Nat → Int) : Int := sumI n fun i => sumI m fun j => p i j * d i j
def spCost : Sp := fun vs H Q _ => ∃ (a b : Addr) (r r' : Nat → Addr) (n m : Nat) (p d : Nat → Nat → Int), vs = [.ref a, .ref b] ∧ Mat H a r n m (mI p) ∧ Mat H b r' n m (mI d) ∧ (∀ i j, i < n → j < m → Bd 4000 (p i j) ∧ Bd 4000 (d i j)) ∧
  ∀ H', Same H H' → Q (.int (costI n m p d)) H'
abbrev s_plan_cost : Stmt := top 33
theorem sc_plan_cost : FnScope ["plan", "distances", "total", "row", "amounts", "column", "amount"] ["plan", "distances"] (defScope s_plan_cost) := ⟨rfl, rfl, rfl, by decide +kernel, rfl, by decide +kernel, by decide +kernel⟩
section
variable {P : Program} {w : World} {K : Fr} {mg : Str → Option Value} {base : Heap} {f : Addr} {fd : FuncData}
theorem ok_cost (T : Tx K mg) (A : At K mg "plan_cost" s_plan_cost ["plan", "distances"] f fd) : Got P w K mg base CX0 1 "plan_cost" ["plan", "distances"] spCost := by
  refine A.got (A.fn.ok sc_plan_cost (fun vs H Q E h => ?_) (fun cdv A outer s H vs Q E hr h => ⟨_, by exact
    (pss_cons (ps_set (i := 2) sc_plan_cost.nd rfl (Or.inl rfl) pe_int)
      (pss_cons (ps_for PassesOwn.never rfl (piEnum (K := K) rfl (by rfl) T.enumerate (pa_cons (pv 0) pa_nil)) (pgTup (K := K) (n := 2) rfl rfl (pgs_cons (pg_name (i := 3) sc_plan_cost.nd rfl (Or.inl rfl)) (pgs_cons (pg_name (i := 4) sc_plan_cost.nd rfl (Or.inl rfl)) pgs_nil)) rfl) (pss_one (ps_for PassesOwn.never rfl (piEnum (K := K) rfl (by rfl) T.enumerate (pa_cons (pv 4) pa_nil)) (pgTup (K := K) (n := 2) rfl rfl (pgs_cons (pg_name (i := 5) sc_plan_cost.nd rfl (Or.inl rfl)) (pgs_cons (pg_name (i := 6) sc_plan_cost.nd rfl (Or.inl rfl)) pgs_nil)) rfl) (pss_one (ps_aug (i := 2) sc_plan_cost.nd rfl (Or.inl rfl) (pe_op op_mulW (pv 6) (pe_ix (ixL (K := K) rfl) (pe_ix (ixL (K := K) rfl) (pv 1) (pv 3) (fun _ _ => rfl)) (pv 5) (fun _ _ => rfl))) ip_add)))))
      (pss_one (ps_ret (pv 2)))))
    , ?_⟩))
  · obtain ⟨a, b, r, r', n, m, p, d, rfl, _⟩ := h
    rfl
  · obtain ⟨a, b, r, r', n, m, p, d, rfl, M, N, bd, k⟩ := h
    refine ⟨_, rfl, a, _, rfl, SqL.of M.at_, for_it (walk_enum (xs := tab n fun i => .ref (r i))) (fun i σ H' => ∃ v3 v4 v5 v6 : Option V, σ = [some (.ref a), some (.ref b), some (.int (sumI i fun i => sumI m fun j => p i j * d i j)), v3, v4, v5, v6] ∧ Same H H')
      ⟨none, none, none, none, rfl, Same.refl _⟩ (fun i σ H' _ q => ?_) (fun i x σ H1 H2 hi q y => ?_) (fun σ H' q => ?_)⟩
    · obtain ⟨_, _, _, _, _, s⟩ := q
      exact SqL.of (s _ _ M.at_)
    · obtain ⟨v3, v4, v5, v6, rfl, s⟩ := q
      obtain ⟨T', x', y', rfl, hT, rfl, e1, e2⟩ := y
      cases e1
      obtain ⟨hi', rfl⟩ := tab_of e2
      have s2 := s.trans (same_new (o := .tup [V.int (i : Nat), V.ref (r i)]) hT)
      refine ⟨T', _, rfl, SqT.of upd_same, rfl, _, _, rfl, _, _, rfl, rfl, ?_⟩
      refine ⟨_, rfl, r i, _, rfl, SqL.of (s2 _ _ (M.row i hi')), for_it (walk_enum (xs := tab m (mI p i))) (fun j σ H' => ∃ v5 v6 : Option V, σ = [some (.ref a), some (.ref b), some (.int ((sumI i fun i => sumI m fun j => p i j * d i j) + sumI j fun j => p i j * d i j)), some (.int (i : Nat)), some (.ref (r i)), v5, v6] ∧ Same H H')
        ⟨v5, v6, ?_, s2⟩ (fun i σ H' _ q => ?_) (fun j x σ H3 H4 hj q y => ?_) (fun σ H' q => ?_)⟩
      · show _ = [some (.ref a), some (.ref b), some (.int ((sumI i fun i => sumI m fun j => p i j * d i j) + 0)), some (.int (i : Nat)), some (.ref (r i)), v5, v6]
        rw [Int.add_zero]; rfl
      · obtain ⟨_, _, _, s⟩ := q
        exact SqL.of (s _ _ (M.row _ hi'))
      · obtain ⟨v5, v6, rfl, s3⟩ := q
        obtain ⟨T2, x', y', rfl, hT2, rfl, e1, e2⟩ := y
        cases e1
        obtain ⟨hj', rfl⟩ := tab_of e2
        have s4 := s3.trans (same_new (o := .tup [V.int (j : Nat), mI p i j]) hT2)
        obtain ⟨b1, b2⟩ := bd i j hi' hj'
        refine ⟨T2, _, rfl, SqT.of upd_same, rfl, _, _, rfl, _, _, rfl, rfl, ?_⟩
        refine ⟨_, rfl, _, rfl, _, rfl, _, rfl, b, _, _, _, rfl, rfl, SqL.of (s4 _ _ N.at_), tab_at hi', _, rfl, r' i, _, _, _, rfl, rfl, SqL.of (s4 _ _ (N.row i hi')), tab_at hj', _, _, rfl, rfl, b1.cm b2, _, _, rfl, rfl, some (.int (j : Nat)), some (mI p i j), ?_, s4⟩
        rw [sumI_succ, ← Int.add_assoc]; rfl
      · obtain ⟨v5, v6, rfl, s3⟩ := q
        rw [tab_len]
        exact ⟨_, _, _, _, by rw [sumI_succ], s3⟩
    · obtain ⟨v3, v4, v5, v6, rfl, s⟩ := q
      rw [tab_len]
      exact ⟨_, rfl, k H' s⟩
end
/-! ### two lists of ints compared -/
theorem dp_ints {K : Fr} {H : Hp} : ∀ l : List Int, DpAll K H (l.map V.int) (l.map PyData.int)
  | [] => .nil
  | x :: l => .cons (.int x) (dp_ints l)
theorem shaped_ints (l : List Int) : SeqAt.shaped (.list (l.map PyData.int)) = true := by
  have a : ∀ l : List Int, PyData.canLayAll0 (l.map PyData.int) = true := by
    intro l
    induction l with
    | nil => simp [PyData.canLayAll0]
    | cons x l ih => simp [PyData.canLayAll0, PyData.canLay0, ih]
  have b : ∀ l : List Int, PyData.depthAll (l.map PyData.int) = 0 := by
    intro l
    induction l with
    | nil => simp [PyData.depthAll]
    | cons x l ih => simp [PyData.depthAll, PyData.depth, ih]
  unfold SeqAt.shaped
  simp [PyData.canLay0, PyData.depth, a, b]
theorem eqv_ints : ∀ l m : List Int, PyData.eqvAll (l.map PyData.int) (m.map PyData.int) = decide (l = m)
  | [], [] => by simp [PyData.eqvAll]
  | [], y :: m => by simp [PyData.eqvAll]
  | x :: l, [] => by simp [PyData.eqvAll]
  | x :: l, y :: m => by
    rw [List.map_cons, List.map_cons, PyData.eqvAll, PyData.eqv, eqv_ints l m]
    by_cases e : x = y
    · subst e; simp
    · simp [e]
theorem range_eq {n : Nat} {u v : Nat → Int} : (List.range n).map u = (List.range n).map v ↔ ∀ i, i < n → u i = v i :=
  ⟨fun h i hi => by have := congrArg (fun l => l[i]?) h; simpa [hi] using this, fun h => List.map_congr_left fun i hi => h i (List.mem_range.mp hi)⟩
def spShares (K : Fr) : Sp := fun vs H Q _ => ∃ (a b : Addr) (n : Nat) (am : Nat → Int) (U : Int) (u : Nat → Int), vs = [.ref a, .int U, .ref b] ∧ SqL K H a (vec n am) ∧ SqL K H b (vec n u) ∧ n ≤ 1000 ∧ Wt n u ∧ (∀ i, i < n → Bd 1000 (am i)) ∧ Bd 1000 U ∧
  ∀ x : Bool, (x = true ↔ ∀ i, i < n → am i * sumI n u = u i * U) → ∀ H', Same H H' → Q (.bl x) H'
abbrev s_are_shares : Stmt := top 31
theorem sc_are_shares : FnScope ["amounts", "units", "weights", "whole", "amount", "weight"] ["amounts", "units", "weights"] (defScope s_are_shares) := ⟨rfl, rfl, rfl, by decide +kernel, rfl, by decide +kernel, by decide +kernel⟩
section
variable {P : Program} {w : World} {K : Fr} {mg : Str → Option Value} {base : Heap} {f : Addr} {fd : FuncData}
theorem ok_shares (T : Tx K mg) (A : At K mg "are_shares" s_are_shares ["amounts", "units", "weights"] f fd) : Got P w K mg base CX0 1 "are_shares" ["amounts", "units", "weights"] (spShares K) := by
  refine A.got (A.fn.ok sc_are_shares (fun vs H Q E h => ?_) (fun cdv A outer s H vs Q E hr h => ⟨_, by exact
    (pss_cons (ps_set (i := 3) sc_are_shares.nd rfl (Or.inr rfl) (pe_callB (id := "sum") (csum (K := K) rfl rfl) (by rfl) T.sum (by decide +kernel) (pa_cons (pv 2) pa_nil)))
      (pss_one (ps_ret (pe_cmpR (op_eqD hr.units) (pe_lc (own := [("amount", 4)]) rfl sc_are_shares.nd  (piL (K := K) rfl (pv 0)) (blkOk_by (N := ["amounts", "units", "weights", "whole", "amount", "weight"]) (sc := defScope s_are_shares) (own := [("amount", 4)]) (by decide +kernel)) (fun _ _ _ _ _ => (pg_name (i := 4) sc_are_shares.nd rfl (Or.inl rfl))) (fun _ _ _ _ _ => pts_nil) (fun _ _ _ _ _ => (pe_op op_mulW (pv 4) (pv 3)))) (pe_lc (own := [("weight", 5)]) rfl sc_are_shares.nd  (piL (K := K) rfl (pv 2)) (blkOk_by (N := ["amounts", "units", "weights", "whole", "amount", "weight"]) (sc := defScope s_are_shares) (own := [("weight", 5)]) (by decide +kernel)) (fun _ _ _ _ _ => (pg_name (i := 5) sc_are_shares.nd rfl (Or.inl rfl))) (fun _ _ _ _ _ => pts_nil) (fun _ _ _ _ _ => (pe_op op_mulW (pv 5) (pv 1)))) (nomark _)))))
    , ?_⟩))
  · obtain ⟨a, b, n, am, U, u, rfl, _⟩ := h
    rfl
  · obtain ⟨a, b, n, am, U, u, rfl, ha, hb, hn, wu, bam, bU, k⟩ := h
    refine ⟨_, rfl, b, _, rfl, sq_vec hb, ?_⟩
    refine ⟨_, rfl, a, rfl, ⟨_, ha⟩, fun D hD => comp_vals (walk_list (xs := vec n am)) (fun i => .int (am i * sumI n u)) hD (by rw [vec_len]; omega) (fun H' s => s.seq ha) (fun i x H1 H' hi s1 y F hF => ?_) (fun H1 s1 hl => ?_) gm_name⟩
    · obtain ⟨rfl, e⟩ := y
      obtain ⟨hi', rfl⟩ := tab_of e
      exact ⟨rfl, _, rfl, _, rfl, _, _, rfl, rfl, (bam i hi').cm wu.bd, hF _ (Same.refl _)⟩
    · refine ⟨_, rfl, b, rfl, ⟨_, s1.seq hb⟩, fun D2 hD2 => comp_vals (walk_list (xs := vec n u)) (fun i => .int (u i * U)) hD2 (by rw [vec_len]; omega) (fun H' s => (s1.trans s).seq hb) (fun i x H2 H' hi s2 y F hF => ?_) (fun H2 s2 hl2 => ?_) gm_name⟩
      · obtain ⟨rfl, e⟩ := y
        obtain ⟨hi', rfl⟩ := tab_of e
        exact ⟨rfl, _, rfl, _, rfl, _, _, rfl, rfl, (wu.item hi').cm bU, hF _ (Same.refl _)⟩
      · rw [vec_len] at hl hl2
        have e1 := sq_vec (K := K) (u := fun i => am i * sumI n u) (SqL.of (s2 _ _ hl))
        have e2 := sq_vec (K := K) (u := fun i => u i * U) (SqL.of hl2)
        refine ⟨_, _, .lst e1 (dp_ints _), .lst e2 (dp_ints _), shaped_ints _, shaped_ints _, k _ ?_ H2 (s1.trans s2)⟩
        rw [PyData.eqv, eqv_ints, decide_eq_true_iff, range_eq]
end
/-- the least of some -/
def minI : Nat → (Nat → Int) → Int
  | 0, _ => 0
  | 1, w => w 0
  | n + 2, w => if w (n + 1) < minI (n + 1) w then w (n + 1) else minI (n + 1) w
theorem minI_le : ∀ {n : Nat} {w : Nat → Int} {i : Nat}, i < n → minI n w ≤ w i
  | 1, w, i, h => by have : i = 0 := by omega
                     subst this; exact Int.le_refl _
  | n + 2, w, i, h => by
    unfold minI
    by_cases e : i = n + 1
    · subst e; split <;> omega
    · have := minI_le (n := n + 1) (w := w) (i := i) (by omega)
      split <;> omega
theorem minI_is : ∀ {n : Nat} {w : Nat → Int}, 0 < n → ∃ i, i < n ∧ minI n w = w i
  | 1, w, _ => ⟨0, by omega, rfl⟩
  | n + 2, w, _ => by
    obtain ⟨i, a, b⟩ := minI_is (n := n + 1) (w := w) (by omega)
    unfold minI
    split
    · exact ⟨n + 1, by omega, rfl⟩
    · exact ⟨i, by omega, b⟩
theorem minI_of {n : Nat} {w : Nat → Int} {m : Int} (hn : 0 < n) (h1 : m ∈ (List.range n).map w) (h2 : ∀ y, y ∈ (List.range n).map w → m ≤ y) : m = minI n w := by
  obtain ⟨i, a, b⟩ := minI_is (w := w) hn
  obtain ⟨j, c, d⟩ := List.mem_map.mp h1
  have := h2 (w i) (List.mem_map.mpr ⟨i, List.mem_range.mpr a, rfl⟩)
  have := minI_le (w := w) (List.mem_range.mp c)
  omega
/-- a plan in units -/
structure PlanI (n : Nat) (p : Nat → Nat → Int) (U : Int) (u v : Nat → Int) : Prop where
  nn : ∀ i j, i < n → j < n → 0 ≤ p i j
  row : ∀ i, i < n → sumI n (p i) * sumI n u = u i * U
  col : ∀ j, j < n → sumI n (fun i => p i j) * sumI n v = v j * U
def spIsPlan (K : Fr) : Sp := fun vs H Q _ => ∃ (a b c : Addr) (r : Nat → Addr) (n : Nat) (p : Nat → Nat → Int) (U : Int) (u v : Nat → Int), vs = [.ref a, .int U, .ref b, .ref c] ∧ Mat H a r n n (mI p) ∧ SqL K H b (vec n u) ∧ SqL K H c (vec n v) ∧ 0 < n ∧ n ≤ 1000 ∧
  Wt n u ∧ Wt n v ∧ (∀ i, i < n → Bd 1000 (sumI n (p i))) ∧ (∀ j, j < n → Bd 1000 (sumI n fun i => p i j)) ∧ Bd 1000 U ∧ ∀ x : Bool, (x = true ↔ PlanI n p U u v) → ∀ H', Same H H' → Q (.bl x) H'
abbrev s_is_plan : Stmt := top 30
theorem sc_is_plan : FnScope ["plan", "units", "first", "second", "rows", "columns", "row", "column"] ["plan", "units", "first", "second"] (defScope s_is_plan) := ⟨rfl, rfl, rfl, by decide +kernel, rfl, by decide +kernel, by decide +kernel⟩
section
variable {P : Program} {w : World} {K : Fr} {mg : Str → Option Value} {base : Heap} {f : Addr} {fd : FuncData}
theorem ok_isplan (T : Tx K mg) (A : At K mg "is_plan" s_is_plan ["plan", "units", "first", "second"] f fd) (G1 : Got P w K mg base CX0 1 "are_shares" ["amounts", "units", "weights"] (spShares K)) :
    Got P w K mg base CX0 2 "is_plan" ["plan", "units", "first", "second"] (spIsPlan K) := by
  obtain ⟨f_are_shares, fd1, m_are_shares, k_are_shares, b_are_shares, F_are_shares⟩ := G1
  refine A.got (A.fn.ok sc_is_plan (fun vs H Q E h => ?_) (fun cdv A outer s H vs Q E hr h => ⟨_, by exact
    (pss_cons (ps_if (pt_cmpR op_lt (pe_callB (id := "min") (cmin (K := K) rfl rfl) (by rfl) T.min (by decide +kernel) (pa_cons (pe_lc (own := [("row", 6)]) rfl sc_is_plan.nd  (piL (K := K) rfl (pv 0)) (blkOk_by (N := ["plan", "units", "first", "second", "rows", "columns", "row", "column"]) (sc := defScope s_is_plan) (own := [("row", 6)]) (by decide +kernel)) (fun _ _ _ _ _ => (pg_name (i := 6) sc_is_plan.nd rfl (Or.inl rfl))) (fun _ _ _ _ _ => pts_nil) (fun _ _ _ _ _ => (pe_callB (id := "min") (cmin (K := K) rfl rfl) (by rfl) T.min (by decide +kernel) (pa_cons (pv 6) pa_nil)))) pa_nil)) pe_int (nomark _)) (pss_one (ps_ret pe_bl)) pss_nil)
      (pss_cons (ps_setLc (i := 4) (own := [("row", 6)]) rfl sc_is_plan.nd rfl rfl (sw_true rfl rfl rfl (by decide +kernel))  (piL (K := K) rfl (pv 0)) (blkOk_by (N := ["plan", "units", "first", "second", "rows", "columns", "row", "column"]) (sc := defScope s_is_plan) (own := [("row", 6)]) (by decide +kernel)) (fun _ _ _ _ _ => (pg_name (i := 6) sc_is_plan.nd rfl (Or.inl rfl))) (fun _ _ _ _ _ => pts_nil) (fun _ _ _ _ _ => (pe_callB (id := "sum") (csum (K := K) rfl rfl) (by rfl) T.sum (by decide +kernel) (pa_cons (pv 6) pa_nil))))
      (pss_cons (ps_setLc (i := 5) (own := [("column", 7)]) rfl sc_is_plan.nd rfl rfl (sw_true rfl rfl rfl (by decide +kernel))  (pi_range1 (by rfl) T.range (pa_cons (pe_callB (id := "len") (clen (K := K) rfl) (by rfl) T.len (by decide +kernel) (pa_cons (pv 0) pa_nil)) pa_nil)) (blkOk_by (N := ["plan", "units", "first", "second", "rows", "columns", "row", "column"]) (sc := defScope s_is_plan) (own := [("column", 7)]) (by decide +kernel)) (fun _ _ _ _ _ => (pg_name (i := 7) sc_is_plan.nd rfl (Or.inr rfl))) (fun _ _ _ _ _ => pts_nil) (fun _ _ _ _ _ => (pe_callB (id := "sum") (csum (K := K) rfl rfl) (by rfl) T.sum (by decide +kernel) (pa_cons (pe_lc (own := [("row", 6)]) rfl sc_is_plan.nd  (piL (K := K) rfl (pv 0)) (blkOk_by (N := ["plan", "units", "first", "second", "rows", "columns", "row", "column"]) (own := [("row", 6)]) (by rfl)) (fun _ _ _ _ _ => (pg_name (i := 6) sc_is_plan.nd rfl (Or.inl rfl))) (fun _ _ _ _ _ => pts_nil) (fun _ _ _ _ _ => (pe_ix (ixL (K := K) rfl) (pv 6) (pv 7) (fun _ _ => rfl)))) pa_nil))))
      (pss_one (ps_ret (pe_and (pe_call F_are_shares (hr.mono (by decide)) rfl m_are_shares k_are_shares b_are_shares .nil pass0 (by exact (pa_cons (pv 4) (pa_cons (pv 1) (pa_cons (pv 2) pa_nil))))) (pe_one (pe_call F_are_shares (hr.mono (by decide)) rfl m_are_shares k_are_shares b_are_shares .nil pass0 (by exact (pa_cons (pv 5) (pa_cons (pv 1) (pa_cons (pv 3) pa_nil))))))))))))
    , ?_⟩))
  · obtain ⟨a, b, c, r, n, p, U, u, v, rfl, _⟩ := h
    rfl
  · obtain ⟨a, b, c, r, n, p, U, u, v, rfl, M, hb, hc, h0, hn, wu, wv, br, bc, bU, k⟩ := h
    refine ⟨_, rfl, a, rfl, ⟨_, SqL.of M.at_⟩, fun D hD => comp_vals (walk_list (xs := tab n fun i => .ref (r i))) (fun i => .int (minI n (p i))) hD (by rw [tab_len]; omega) (fun H' s => SqL.of (s _ _ M.at_)) (fun i x H1 H' hi s1 y F hF => ?_) (fun H1 s1 hl => ?_) gm_name⟩
    · obtain ⟨rfl, e⟩ := y
      obtain ⟨hi', rfl⟩ := tab_of e
      refine ⟨rfl, _, rfl, r i, _, rfl, sq_vec (SqL.of (s1 _ _ (M.row i hi'))), by rw [List.length_map, List.length_range]; exact h0, fun m h1 h2 => ?_⟩
      rw [minI_of h0 h1 h2]
      exact hF _ (Same.refl _)
    · rw [tab_len] at hl
      refine ⟨D, _, rfl, sq_vec (SqL.of hl), by rw [List.length_map, List.length_range]; exact h0, fun m h1 h2 => ?_⟩
      rw [minI_of h0 h1 h2]
      refine ⟨_, _, rfl, rfl, _, rfl, ?_⟩
      have low : minI n (fun i => minI n (p i)) < 0 ↔ ¬ ∀ i j, i < n → j < n → 0 ≤ p i j := by
        refine ⟨fun z q => ?_, fun z => ?_⟩
        · obtain ⟨i, hi, e⟩ := minI_is (w := fun i => minI n (p i)) h0
          obtain ⟨j, hj, e2⟩ := minI_is (w := p i) h0
          have := q i j hi hj
          omega
        · refine Int.lt_of_not_ge fun q => z fun i j hi hj => ?_
          have a1 := minI_le (w := fun i => minI n (p i)) hi
          have a2 := minI_le (w := p i) hj
          omega
      by_cases cc : minI n (fun i => minI n (p i)) < 0
      · rw [decide_eq_true cc]
        exact iteT (k false ⟨fun z => (Bool.noConfusion z), fun z => absurd z.nn (low.mp cc)⟩ H1 s1)
      · rw [decide_eq_false cc]
        refine iteF ?_
        have nn : ∀ i j, i < n → j < n → 0 ≤ p i j := Classical.byContradiction fun z => cc (low.mpr z)
        refine ⟨_, rfl, a, rfl, ⟨_, SqL.of (s1 _ _ M.at_)⟩, fun R hR => comp_vals (walk_list (xs := tab n fun i => .ref (r i))) (fun i => .int (sumI n (p i))) hR (by rw [tab_len]; omega) (fun H' s => SqL.of ((s1.trans s) _ _ M.at_)) (fun i x H2 H' hi s2 y F hF => ?_) (fun H2 s2 hl2 => ?_) gm_name⟩
        · obtain ⟨rfl, e⟩ := y
          obtain ⟨hi', rfl⟩ := tab_of e
          exact ⟨rfl, _, rfl, r i, _, rfl, sq_vec (SqL.of ((s1.trans s2) _ _ (M.row i hi'))), hF _ (Same.refl _)⟩
        · rw [tab_len] at hl2
          have s12 := s1.trans s2
          refine ⟨_, rfl, a, _, rfl, .inl (SqL.of (s12 _ _ M.at_)), ?_⟩
          rw [tab_len]
          refine ⟨n, rfl, by omega, by omega, fun C hC => comp_vals (walk_rng (n := n)) (fun j => .int (sumI n fun i => p i j)) hC (by omega) (fun _ _ => trivial) (fun j x H3 H' hj s3 y F hF => ?_) (fun H3 s3 hl3 => ?_) gm_name⟩
          · obtain ⟨rfl, rfl⟩ := y
            have s13 := s12.trans s3
            refine ⟨rfl, _, rfl, a, rfl, ⟨_, SqL.of (s13 _ _ M.at_)⟩, fun D4 hD4 => comp_vals (walk_list (xs := tab n fun i => .ref (r i))) (fun i => .int (p i j)) hD4 (by rw [tab_len]; omega) (fun H' s => SqL.of ((s13.trans s) _ _ M.at_)) (fun i x H4 H' hi s4 y F4 hF4 => ?_) (fun H4 s4 hl4 => ?_) gm_name⟩
            · obtain ⟨rfl, e⟩ := y
              obtain ⟨hi', rfl⟩ := tab_of e
              exact ⟨rfl, _, rfl, _, rfl, r i, _, _, _, rfl, rfl, SqL.of ((s13.trans s4) _ _ (M.row i hi')), tab_at hj, hF4 _ (Same.refl _)⟩
            · rw [tab_len] at hl4
              exact ⟨D4, _, rfl, sq_vec (SqL.of hl4), hF _ s4⟩
          · have s13 := s12.trans s3
            refine ⟨_, rfl, _, rfl, _, rfl, R, b, n, _, U, u, rfl, SqL.of (s3 _ _ hl2), s13.seq hb, hn, wu, br, bU, fun x1 e1 H5 s5 => ?_⟩
            have s15 := s13.trans s5
            refine ⟨x1, rfl, ?_⟩
            cases x1 with
            | false =>
              refine iteF (k false ⟨fun z => (Bool.noConfusion z), fun z => ?_⟩ H5 s15)
              exact absurd (e1.mpr z.row) Bool.false_ne_true
            | true =>
              refine iteT ⟨_, rfl, _, rfl, _, rfl, C, c, n, _, U, v, rfl, SqL.of (s5 _ _ hl3), s15.seq hc, hn, wv, bc, bU, fun x2 e2 H6 s6 => k x2 ?_ H6 (s15.trans s6)⟩
              exact ⟨fun z => ⟨nn, e1.mp rfl, e2.mp z⟩, fun z => e2.mpr z.col⟩
end
end EH

namespace EH
open PySem PySem.Spec PyProof.Rows L2
/-- a multiple of all that are above 0 -/
structure Whole (n : Nat) (u : Nat → Int) (L : Int) : Prop where
  pos : 0 < L
  dvd : ∀ i, i < n → 0 < u i → u i ∣ L
  bd : Bd (200 * n + 1) L
def partOf (u : Nat → Int) (L : Int) (i : Nat) : Int := if 0 < u i then L / u i else 0
def spParts (K : Fr) : Sp := fun vs H Q _ => ∃ (a : Addr) (n : Nat) (u : Nat → Int), vs = [.ref a] ∧ SqL K H a (vec n u) ∧ n ≤ 6 ∧ Wt n u ∧ ∀ L, Whole n u L → NewL H (vec n (partOf u L)) Q
abbrev s_inverse_parts : Stmt := top 29
theorem sc_inverse_parts : FnScope ["weights", "whole", "weight"] ["weights"] (defScope s_inverse_parts) := ⟨rfl, rfl, rfl, by decide +kernel, rfl, by decide +kernel, by decide +kernel⟩
section
variable {P : Program} {w : World} {K : Fr} {mg : Str → Option Value} {base : Heap} {f : Addr} {fd : FuncData}
theorem ok_parts (T : Tx K mg) (A : At K mg "inverse_parts" s_inverse_parts ["weights"] f fd) (G1 : Got P w K mg base CX0 2 "least_multiple" ["first", "second"] spLcm) :
    Got P w K mg base CX0 3 "inverse_parts" ["weights"] (spParts K) := by
  obtain ⟨f_least_multiple, fd1, m_least_multiple, k_least_multiple, b_least_multiple, F_least_multiple⟩ := G1
  refine A.got (A.fn.ok sc_inverse_parts (fun vs H Q E h => ?_) (fun cdv A outer s H vs Q E hr h => ⟨_, by exact
    (pss_cons (ps_set (i := 1) sc_inverse_parts.nd rfl (Or.inr rfl) pe_int)
      (pss_cons (ps_for PassesOwn.never rfl (piL (K := K) rfl (pv 0)) (pg_name (i := 2) sc_inverse_parts.nd rfl (Or.inl rfl)) (pss_one (ps_if (pt_cmpR op_gt (pv 2) pe_int (nomark _)) (pss_one (ps_set (i := 1) sc_inverse_parts.nd rfl (Or.inr rfl) (pe_call F_least_multiple (hr.mono (by decide)) rfl m_least_multiple k_least_multiple b_least_multiple .nil pass0 (by exact (pa_cons (pv 1) (pa_cons (pv 2) pa_nil)))))) pss_nil)))
      (pss_one (ps_ret (pe_lc (own := [("weight", 2)]) rfl sc_inverse_parts.nd  (piL (K := K) rfl (pv 0)) (blkOk_by (N := ["weights", "whole", "weight"]) (sc := defScope s_inverse_parts) (own := [("weight", 2)]) (by decide +kernel)) (fun _ _ _ _ _ => (pg_name (i := 2) sc_inverse_parts.nd rfl (Or.inl rfl))) (fun _ _ _ _ _ => pts_nil) (fun _ _ _ _ _ => (pe_ifExp (pt_cmpR op_gt (pv 2) pe_int (nomark _)) (pe_op op_fdivW (pv 1) (pv 2)) pe_int)))))))
    , ?_⟩))
  · obtain ⟨a, n, u, rfl, _⟩ := h
    rfl
  · obtain ⟨a, n, u, rfl, ha, hn, wu, k⟩ := h
    refine ⟨_, rfl, a, rfl, ⟨_, ha⟩, for_it (walk_list (xs := vec n u)) (fun i σ H' => ∃ (L : Int) (v2 : Option V), σ = [some (.ref a), some (.int L), v2] ∧ H' = H ∧ Whole i u L) ⟨1, none, rfl, rfl, by omega, fun i hi => absurd hi (Nat.not_lt_zero i), bd_lit⟩ (fun i σ H' _ p => ?_) (fun i x σ H1 H2 hi p y => ?_) (fun σ H' p => ?_)⟩
    · obtain ⟨_, _, _, rfl, _⟩ := p
      exact ha
    · obtain ⟨L, v2, rfl, rfl, W⟩ := p
      obtain ⟨rfl, e⟩ := y
      obtain ⟨hi', rfl⟩ := tab_of e
      refine ⟨_, rfl, _, _, rfl, rfl, _, rfl, ?_⟩
      by_cases c : 0 < u i
      · rw [decide_eq_true c]
        refine iteT ⟨_, rfl, _, rfl, L, u i, rfl, W.pos, c, W.bd.mono (by omega), (wu.item hi').mono (by decide), fun U h0 h1 h2 h3 => ?_⟩
        refine ⟨U, _, rfl, rfl, h0, fun j hj pj => ?_, ?_⟩
        · by_cases e : j = i
          · subst e; exact h2
          · exact Int.dvd_trans (W.dvd j (by omega) pj) h1
        · exact (Bd.le (Bd.mul W.bd (wu.item hi')) (by omega) h3).mono (by omega)
      · rw [decide_eq_false c]
        refine iteF ⟨L, _, rfl, rfl, W.pos, fun j hj pj => ?_, W.bd.mono (by omega)⟩
        by_cases e : j = i
        · subst e; exact absurd pj c
        · exact W.dvd j (by omega) pj
    · obtain ⟨L, v2, rfl, rfl, W⟩ := p
      rw [vec_len] at W
      refine ⟨_, rfl, a, rfl, ⟨_, ha⟩, fun D hD => comp_vals (walk_list (xs := vec n u)) (fun i => .int (partOf u L i)) hD (by rw [vec_len]; omega) (fun H' s => s.seq ha) (fun i x H1 H' hi s1 y F hF => ?_) (fun H' s1 hl => ?_) gm_name⟩
      · obtain ⟨rfl, e⟩ := y
        obtain ⟨hi', rfl⟩ := tab_of e
        have key := hF _ (Same.refl _)
        refine ⟨rfl, _, rfl, _, _, rfl, rfl, _, rfl, ?_⟩
        unfold partOf at key
        by_cases c : 0 < u i
        · rw [if_pos c] at key
          rw [decide_eq_true c]
          exact iteT ⟨_, rfl, _, rfl, _, _, rfl, rfl, (wu.item hi').cd c, key⟩
        · rw [if_neg c] at key
          rw [decide_eq_false c]
          exact iteF key
      · rw [vec_len] at hl
        exact k L W D H' s1 hD hl
end
theorem part_bd {n : Nat} {u : Nat → Int} {L : Int} (hn : n ≤ 6) (wu : Wt n u) (W : Whole n u L) {i : Nat} (hi : i < n) : Bd 1201 (partOf u L i) := by
  unfold partOf
  split
  · rename_i c
    exact (W.bd.mono (by omega)).le (Int.ediv_nonneg (by have := W.pos; omega) (by omega)) (Int.ediv_le_self _ (by have := W.pos; omega))
  · show Int.natAbs 0 < 2 ^ 1201
    exact Nat.pow_pos (by decide)
/-- what arrives goes on -/
def compI (n : Nat) (p q : Nat → Nat → Int) (c : Nat → Int) (i k : Nat) : Int := sumI n fun j => p i j * c j * q j k
def spComposed (K : Fr) : Sp := fun vs H Q _ => ∃ (a b c : Addr) (r r' : Nat → Addr) (n : Nat) (p q : Nat → Nat → Int) (u : Nat → Int), vs = [.ref a, .ref b, .ref c] ∧ Mat H a r n n (mI p) ∧ Mat H b r' n n (mI q) ∧ SqL K H c (vec n u) ∧ n ≤ 6 ∧ Wt n u ∧
  (∀ i j, i < n → j < n → Bd 450 (p i j) ∧ Bd 450 (q i j)) ∧ ∀ L, Whole n u L → NewM H n n (mI (compI n p q (partOf u L))) Q
abbrev s_composed_plan : Stmt := top 28
theorem sc_composed_plan : FnScope ["first_plan", "second_plan", "weights", "size", "parts", "plan", "row", "middle", "arriving", "column"] ["first_plan", "second_plan", "weights"] (defScope s_composed_plan) := ⟨rfl, rfl, rfl, by decide +kernel, rfl, by decide +kernel, by decide +kernel⟩
section
variable {P : Program} {w : World} {K : Fr} {mg : Str → Option Value} {base : Heap} {f : Addr} {fd : FuncData}
theorem ok_composed (T : Tx K mg) (A : At K mg "composed_plan" s_composed_plan ["first_plan", "second_plan", "weights"] f fd) (G1 : Got P w K mg base CX0 3 "inverse_parts" ["weights"] (spParts K)) :
    Got P w K mg base CX0 4 "composed_plan" ["first_plan", "second_plan", "weights"] (spComposed K) := by
  obtain ⟨f_inverse_parts, fd1, m_inverse_parts, k_inverse_parts, b_inverse_parts, F_inverse_parts⟩ := G1
  refine A.got (A.fn.ok sc_composed_plan (fun vs H Q E h => ?_) (fun cdv A outer s H vs Q E hr h => ⟨_, by exact
    (pss_cons (ps_set (i := 3) sc_composed_plan.nd rfl (Or.inr rfl) (pe_callB (id := "len") (clen (K := K) rfl) (by rfl) T.len (by decide +kernel) (pa_cons (pv 2) pa_nil)))
      (pss_cons (ps_set (i := 4) sc_composed_plan.nd rfl (Or.inl rfl) (pe_call F_inverse_parts (hr.mono (by decide)) rfl m_inverse_parts k_inverse_parts b_inverse_parts .nil pass0 (by exact (pa_cons (pv 2) pa_nil))))
      (pss_cons (ps_setLc (i := 5) (own := [("row", 6)]) rfl sc_composed_plan.nd rfl rfl (sw_true rfl rfl rfl (by decide +kernel))  (pi_range1 (by rfl) T.range (pa_cons (pv 3) pa_nil)) (blkOk_by (N := ["first_plan", "second_plan", "weights", "size", "parts", "plan", "row", "middle", "arriving", "column"]) (sc := defScope s_composed_plan) (own := [("row", 6)]) (by decide +kernel)) (fun _ _ _ _ _ => (pg_name (i := 6) sc_composed_plan.nd rfl (Or.inl rfl))) (fun _ _ _ _ _ => pts_nil) (fun _ _ _ _ _ => (pe_op op_rep (pe_lst (pa_cons pe_int pa_nil)) (pv 3))))
      (pss_cons (ps_for PassesOwn.never rfl (pi_range1 (by rfl) T.range (pa_cons (pv 3) pa_nil)) (pg_name (i := 6) sc_composed_plan.nd rfl (Or.inl rfl)) (pss_one (ps_for PassesOwn.never rfl (pi_range1 (by rfl) T.range (pa_cons (pv 3) pa_nil)) (pg_name (i := 7) sc_composed_plan.nd rfl (Or.inl rfl)) (pss_cons (ps_set (i := 8) sc_composed_plan.nd rfl (Or.inl rfl) (pe_op op_mulW (pe_ix (ixL (K := K) rfl) (pe_ix (ixL (K := K) rfl) (pv 0) (pv 6) (fun _ _ => rfl)) (pv 7) (fun _ _ => rfl)) (pe_ix (ixL (K := K) rfl) (pv 4) (pv 7) (fun _ _ => rfl))))
      (pss_one (ps_for PassesOwn.never rfl (pi_range1 (by rfl) T.range (pa_cons (pv 3) pa_nil)) (pg_name (i := 9) sc_composed_plan.nd rfl (Or.inl rfl)) (pss_one (ps_augL (pe_ix (ixL (K := K) rfl) (pv 5) (pv 6) (fun _ _ => rfl)) (pv 9) (pe_op op_mulW (pv 8) (pe_ix (ixL (K := K) rfl) (pe_ix (ixL (K := K) rfl) (pv 1) (pv 7) (fun _ _ => rfl)) (pv 9) (fun _ _ => rfl))) ip_add))))))))
      (pss_one (ps_ret (pv 5)))))))
    , ?_⟩))
  · obtain ⟨a, b, c, r, r', n, p, q, u, rfl, _⟩ := h
    rfl
  · obtain ⟨a, b, c, r, r', n, p, q, u, rfl, M, N, hc, hn, wu, bd, k⟩ := h
    refine ⟨_, rfl, c, _, rfl, .inl hc, ?_⟩
    rw [vec_len]
    refine ⟨_, rfl, c, n, u, rfl, hc, hn, wu, fun L W l H1 s1 nl hl => ?_⟩
    refine ⟨_, rfl, n, rfl, by omega, by omega, fun D hD => comp_rows (walk_rng (n := n)) n (fun _ _ => .int 0) hD (by omega) (fun _ _ => trivial) (fun i x H2 H' hi s2 y F hF => ?_) (fun z H2 s2 Z => ?_) gm_name⟩
    · obtain ⟨rfl, rfl⟩ := y
      refine ⟨rfl, by show 1 ≤ sizeLine; decide, fun t ht => ⟨_, rfl, t, n, _, rfl, rfl, upd_same, by omega, by omega, ?_, fun t2 ht2 => hF t2 _ ?_ ?_ ?_⟩⟩
      · exact size_ok (by show 1 * (n : Int).toNat ≤ 100000; omega)
      · exact (same_new ht).trans (same_new ht2)
      · exact (same_new ht).free ht2
      · rw [upd_same]
        show some (HO.lst (List.replicate n [V.int 0]).flatten) = _
        rw [rep_tab]
    · have s02 := s1.trans s2
      have nD : H D = none := s1.free hD
      have nz : ∀ i, i < n → H (z i) = none := fun i hi => s1.free (Z.rows i hi)
      have lD : l ≠ D := fun e => by rw [e, hD] at hl; cases hl
      have lz : ∀ i, i < n → l ≠ z i := fun i hi e => by have := Z.rows i hi; rw [← e, hl] at this; cases this
      have pb : ∀ j, j < n → Bd 1201 (partOf u L j) := fun j hj => part_bd hn wu W hj
      refine ⟨_, rfl, n, rfl, by omega, by omega, for_rng (n := n) (fun i σ H' => ∃ v6 v7 v8 v9 : Option V, σ = [some (.ref a), some (.ref b), some (.ref c), some (.int n), some (.ref l), some (.ref D), v6, v7, v8, v9] ∧ Same H H' ∧ H' l = some (.lst (vec n (partOf u L))) ∧
          Mat H' D z n n (mI fun i' k' => if i' < i then compI n p q (partOf u L) i' k' else 0))
        ⟨none, none, none, none, rfl, s02, s2 _ _ hl, Z.mat.congr fun i j _ _ => congrArg V.int (if_neg (Nat.not_lt_zero _)).symm⟩ (fun i σ H3 hi w3 => ?_) (fun σ H' w3 => ?_)⟩
      · obtain ⟨v6, v7, v8, v9, rfl, s3, hl3, Z3⟩ := w3
        refine ⟨_, rfl, n, rfl, by omega, by omega, for_rng (n := n) (fun j σ H' => ∃ v7 v8 v9 : Option V, σ = [some (.ref a), some (.ref b), some (.ref c), some (.int n), some (.ref l), some (.ref D), some (.int i), v7, v8, v9] ∧ Same H H' ∧ H' l = some (.lst (vec n (partOf u L))) ∧
            Mat H' D z n n (mI fun i' k' => if i' < i then compI n p q (partOf u L) i' k' else if i' = i then compI j (fun i j => p i j) q (partOf u L) i' k' else 0))
          ⟨v7, v8, v9, rfl, s3, hl3, Z3.congr fun i' k' _ _ => congrArg V.int ?_⟩ (fun j σ H4 hj w4 => ?_) (fun σ H' w4 => ?_)⟩
        · show (if i' < i then _ else _) = if i' < i then _ else if i' = i then (0 : Int) else 0
          rw [ite_self]
        · obtain ⟨v7, v8, v9, rfl, s4, hl4, Z4⟩ := w4
          obtain ⟨b1, _⟩ := bd i j hi hj
          refine ⟨_, rfl, _, rfl, a, _, _, _, rfl, rfl, SqL.of (s4 _ _ M.at_), tab_at hi, _, rfl, r i, _, _, _, rfl, rfl, SqL.of (s4 _ _ (M.row i hi)), tab_at hj, _, rfl, _, rfl, l, _, _, _, rfl, rfl, SqL.of hl4, tab_at hj, _, _, rfl, rfl, b1.cm (pb j hj), ?_⟩
          refine ⟨_, rfl, n, rfl, by omega, by omega, for_rng (n := n) (fun k' σ H' => ∃ v9 : Option V, σ = [some (.ref a), some (.ref b), some (.ref c), some (.int n), some (.ref l), some (.ref D), some (.int i), some (.int j), some (.int (p i j * partOf u L j)), v9] ∧ Same H H' ∧ H' l = some (.lst (vec n (partOf u L))) ∧
              Mat H' D z n n (mI fun i' k2 => if i' < i then compI n p q (partOf u L) i' k2 else if i' = i then (if k2 < k' then compI (j + 1) (fun i j => p i j) q (partOf u L) i' k2 else compI j (fun i j => p i j) q (partOf u L) i' k2) else 0))
            ⟨v9, rfl, s4, hl4, Z4.congr fun i' k2 _ _ => congrArg V.int (by simp only [Nat.not_lt_zero, if_false])⟩ (fun k' σ H5 hk w5 => ?_) (fun σ H' w5 => ?_)⟩
          · obtain ⟨v9, rfl, s5, hl5, Z5⟩ := w5
            obtain ⟨_, b2⟩ := bd j k' hj hk
            have g1 := tab_get (f := mI (fun i' k2 => if i' < i then compI n p q (partOf u L) i' k2 else if i' = i then (if k2 < k' then compI (j + 1) (fun i j => p i j) q (partOf u L) i' k2 else compI j (fun i j => p i j) q (partOf u L) i' k2) else 0) i) hk
            have e1 : (if i < i then compI n p q (partOf u L) i k' else if i = i then (if k' < k' then compI (j + 1) (fun i j => p i j) q (partOf u L) i k' else compI j (fun i j => p i j) q (partOf u L) i k') else 0) = compI j (fun i j => p i j) q (partOf u L) i k' := by simp
            refine ⟨_, rfl, _, rfl, D, _, _, _, rfl, rfl, SqL.of Z5.at_, tab_at hi, _, rfl, z i, _, k', _, rfl, rfl, SqL.of (Z5.row i hi), g1.trans (congrArg (fun x => some (V.int x)) e1), ?_⟩
            refine ⟨_, rfl, _, rfl, _, rfl, b, _, _, _, rfl, rfl, SqL.of (s5 _ _ N.at_), tab_at hj, _, rfl, r' j, _, _, _, rfl, rfl, SqL.of (s5 _ _ (N.row j hj)), tab_at hk, _, _, rfl, rfl, (Bd.mul b1 (pb j hj)).cm b2, ?_⟩
            refine ⟨_, _, rfl, rfl, z i, _, _, k', rfl, rfl, Z5.row i hi, ixn (by rw [tab_len]; exact hk), ?_⟩
            refine ⟨_, rfl, same_mut s5 (nz i hi), ?_, (Z5.set hi _).congr fun i' k2 _ _ => ?_⟩
            · rw [upd_ne (lz i hi)]; exact hl5
            · show (if i' = i ∧ k2 = k' then V.int (compI j (fun i j => p i j) q (partOf u L) i k' + p i j * partOf u L j * q j k') else V.int _) = V.int _
              by_cases e : i' = i ∧ k2 = k'
              · obtain ⟨rfl, rfl⟩ := e
                rw [if_pos ⟨rfl, rfl⟩]
                refine congrArg V.int ?_
                dsimp only
                rw [if_neg (Nat.lt_irrefl _), if_pos rfl, if_pos (Nat.lt_succ_self _)]
                unfold compI
                rw [sumI_succ]
              · rw [if_neg e]
                refine congrArg V.int ?_
                dsimp only
                by_cases c1 : i' < i
                · rw [if_pos c1, if_pos c1]
                · rw [if_neg c1, if_neg c1]
                  by_cases c2 : i' = i
                  · rw [if_pos c2, if_pos c2]
                    by_cases c3 : k2 < k'
                    · rw [if_pos c3, if_pos (Nat.lt_succ_of_lt c3)]
                    · rw [if_neg c3, if_neg (show ¬ k2 < k' + 1 by omega)]
                  · rw [if_neg c2, if_neg c2]
          · obtain ⟨v9, rfl, s5, hl5, Z5⟩ := w5
            exact ⟨_, _, _, rfl, s5, hl5, Z5.congr fun i' k2 _ hk2 => congrArg V.int (by dsimp only; rw [if_pos hk2])⟩
        · obtain ⟨v7, v8, v9, rfl, s4, hl4, Z4⟩ := w4
          refine ⟨_, _, _, _, rfl, s4, hl4, Z4.congr fun i' k' _ _ => congrArg V.int ?_⟩
          dsimp only
          by_cases c1 : i' < i
          · rw [if_pos c1, if_pos (Nat.lt_succ_of_lt c1)]
          · rw [if_neg c1]
            by_cases c2 : i' = i
            · rw [if_pos c2, if_pos (show i' < i + 1 by omega)]
            · rw [if_neg c2, if_neg (show ¬ i' < i + 1 by omega)]
      · obtain ⟨v6, v7, v8, v9, rfl, s3, hl3, Z3⟩ := w3
        exact ⟨_, rfl, k L W D z H' s3 ⟨Z3.congr fun i j hi _ => congrArg V.int (if_pos hi), nD, nz⟩⟩
end
end EH

/-! The search for a cheapest way with the fewest steps: labels (cost, steps), passes over a list of steps. -/
namespace OT
set_option linter.unusedVariables false
abbrev Lab := Int × Int
abbrev Stp3 := Nat × Nat × Int
def lt2 (a b : Lab) : Bool := if a.1 = b.1 then (if a.2 = b.2 then false else decide (a.2 < b.2)) else decide (a.1 < b.1)
structure LS where
  R : Nat → Option Lab
  P : Nat → Option Nat
  ch : Bool
def set1 {α : Type} (f : Nat → α) (v : Nat) (x : α) : Nat → α := fun u => if u = v then x else f u
theorem set1_same {α : Type} {f : Nat → α} {v : Nat} {x : α} : set1 f v x v = x := if_pos rfl
theorem set1_ne {α : Type} {f : Nat → α} {v u : Nat} {x : α} (h : u ≠ v) : set1 f v x u = f u := if_neg h
def better (R : Nat → Option Lab) (v : Nat) (z : Lab) : Bool := match R v with
  | none => true
  | some t => lt2 z t
def rl (st : LS) (y : Stp3) : LS := match st.R y.1 with
  | none => st
  | some p => if better st.R y.2.1 (p.1 + y.2.2, p.2 + 1) = true then ⟨set1 st.R y.2.1 (some (p.1 + y.2.2, p.2 + 1)), set1 st.P y.2.1 (some y.1), true⟩ else st
theorem lt2_iff {a b : Lab} : lt2 a b = true ↔ a.1 < b.1 ∨ (a.1 = b.1 ∧ a.2 < b.2) := by
  unfold lt2
  by_cases h : a.1 = b.1
  · rw [if_pos h]
    by_cases q : a.2 = b.2
    · rw [if_pos q]
      exact ⟨fun z => Bool.noConfusion z, fun z => by omega⟩
    · rw [if_neg q, decide_eq_true_iff]; omega
  · rw [if_neg h, decide_eq_true_iff]; omega
/-- one number for both -/
def enc (M : Int) (p : Lab) : Int := p.1 * M + p.2
theorem enc_lt {M : Int} {a b : Lab} (ha : 0 ≤ a.2 ∧ a.2 < M) (hb : 0 ≤ b.2 ∧ b.2 < M) : lt2 a b = true ↔ enc M a < enc M b := by
  rw [lt2_iff]
  unfold enc
  constructor
  · rintro (h | ⟨h, q⟩)
    · have : (a.1 + 1) * M ≤ b.1 * M := Int.mul_le_mul_of_nonneg_right (by omega) (by omega)
      rw [Int.add_mul] at this
      omega
    · rw [h]; omega
  · intro h
    rcases Int.lt_trichotomy a.1 b.1 with q | q | q
    · exact .inl q
    · rw [q] at h; exact .inr ⟨q, by omega⟩
    · have : (b.1 + 1) * M ≤ a.1 * M := Int.mul_le_mul_of_nonneg_right (by omega) (by omega)
      rw [Int.add_mul] at this
      omega
def SA (L : List Stp3) : Arcs := fun u v z => ∃ y, y ∈ L ∧ y.1 = u ∧ y.2.1 = v ∧ y.2.2 = z
/-- a step's weight for both -/
def EA (L : List Stp3) (M : Int) : Arcs := fun u v z => ∃ y, y ∈ L ∧ y.1 = u ∧ y.2.1 = v ∧ z = y.2.2 * M + 1
def curE (M : Int) (R : Nat → Option Lab) (v : Nat) : Option Int := (R v).map (enc M)
/-- what always holds: of the start, of the ways behind the labels, of whence they came -/
structure LI (L : List Stp3) (M : Int) (s0 : Nat) (g : Nat → Int) (B : Int) (st : LS) : Prop where
  start : st.R s0 = some (0, 0)
  low : ∀ v p, st.R v = some p → g v ≤ g s0 + p.1
  steps : ∀ v p, st.R v = some p → 0 ≤ p.2 ∧ p.2 ≤ B
  way : ∀ v p, st.R v = some p → ∃ l, Way (fun s => s = s0) (EA L M) l v (enc M p)
  from_ : ∀ v p, st.R v = some p → v ≠ s0 → ∃ u q z, st.P v = some u ∧ st.R u = some q ∧ (u, v, z) ∈ L ∧ lt2 p (q.1 + z, q.2 + 1) = false
/-- the start's label is never bettered -/
theorem LI.keepStart {L M s0 g B st} (I : LI L M s0 g B st) {u v : Nat} {z : Int} {p : Lab} (hg : g v ≤ g u + z) (e : st.R u = some p) (b : better st.R v (p.1 + z, p.2 + 1) = true) : v ≠ s0 := by
  rintro rfl
  unfold better at b
  rw [I.start] at b
  have h1 := I.low u p e
  have h2 := (I.steps u p e).1
  have := lt2_iff.mp b
  simp only at this
  omega
theorem lt2_irrefl (p : Lab) : lt2 p p = false := by
  unfold lt2; rw [if_pos rfl, if_pos rfl]
theorem lt2_false {a b : Lab} : lt2 a b = false ↔ b.1 < a.1 ∨ (a.1 = b.1 ∧ b.2 ≤ a.2) := by
  have := lt2_iff (a := a) (b := b)
  cases h : lt2 a b with
  | true => rw [h] at this; simp at this; constructor <;> intro q <;> first | (cases q; done) | omega
  | false =>
    rw [h] at this
    simp at this
    constructor
    · intro _
      obtain ⟨h1, h2⟩ := this
      by_cases e : a.1 = b.1
      · exact .inr ⟨e, h2 e⟩
      · exact .inl (by omega)
    · intro _; rfl
/-- one step -/
theorem rl_ok {L M s0 g B st} (I : LI L M s0 g B st) {y : Stp3} (hy : y ∈ L) (hg : ∀ y, y ∈ L → g y.2.1 ≤ g y.1 + y.2.2) (hM : B + 1 < M) :
    LI L M s0 g (B + 1) (rl st y) ∧ (∀ v x, AtMost (curE M st.R v) x → AtMost (curE M (rl st y).R v) x) ∧ (∀ x, AtMost (curE M st.R y.1) x → AtMost (curE M (rl st y).R y.2.1) (x + (y.2.2 * M + 1))) := by
  obtain ⟨u, v, z⟩ := y
  have mon : LI L M s0 g (B + 1) st := ⟨I.start, I.low, fun v p e => by have := I.steps v p e; omega, I.way, I.from_⟩
  unfold rl
  simp only
  cases e : st.R u with
  | none =>
    refine ⟨mon, fun _ _ h => h, fun x h => ?_⟩
    obtain ⟨y, a, _⟩ := h
    unfold curE at a; rw [e] at a; cases a
  | some p =>
    simp only
    have sp := I.steps u p e
    by_cases b : better st.R v (p.1 + z, p.2 + 1) = true
    · rw [if_pos b]
      have ne := I.keepStart (hg _ hy) e b
      have down : ∀ q, st.R v = some q → enc M (p.1 + z, p.2 + 1) < enc M q := fun q eq => by
        unfold better at b
        rw [eq] at b
        have := I.steps v q eq
        exact (enc_lt (by simp only; omega) (by omega)).mp b
      have key : enc M (p.1 + z, p.2 + 1) = enc M p + (z * M + 1) := by unfold enc; simp only; rw [Int.add_mul]; omega
      refine ⟨⟨?_, fun t q h => ?_, fun t q h => ?_, fun t q h => ?_, fun t q h hn => ?_⟩, fun t x h => ?_, fun x h => ?_⟩
      · simp only; rw [set1_ne (fun h => ne h.symm)]; exact I.start
      · simp only at h
        by_cases c : t = v
        · subst c
          rw [set1_same] at h
          have := Option.some.inj h
          subst this
          have h1 := I.low u p e
          have h2 := hg _ hy
          simp only at *
          omega
        · rw [set1_ne c] at h; exact I.low t q h
      · simp only at h
        by_cases c : t = v
        · subst c
          rw [set1_same] at h
          have := Option.some.inj h
          subst this
          simp only; omega
        · rw [set1_ne c] at h; have := I.steps t q h; omega
      · simp only at h
        by_cases c : t = v
        · subst c
          rw [set1_same] at h
          have := Option.some.inj h
          subst this
          obtain ⟨l, w⟩ := I.way u p e
          rw [key]
          exact ⟨_, .snoc w ⟨_, hy, rfl, rfl, rfl⟩⟩
        · rw [set1_ne c] at h; exact I.way t q h
      · simp only at h ⊢
        -- the label that a later one came from may have fallen, never risen
        have fall : ∀ a q0, st.R a = some q0 → ∃ q1, set1 st.R v (some (p.1 + z, p.2 + 1)) a = some q1 ∧ (q1 = q0 ∨ lt2 q1 q0 = true) := fun a q0 h0 => by
          by_cases c : a = v
          · subst c
            refine ⟨_, set1_same, ?_⟩
            unfold better at b
            rw [h0] at b
            exact .inr b
          · exact ⟨q0, by rw [set1_ne c]; exact h0, .inl rfl⟩
        by_cases c : t = v
        · subst c
          rw [set1_same] at h
          have := Option.some.inj h
          subst this
          obtain ⟨q1, f1, f2⟩ := fall u p e
          refine ⟨u, q1, z, set1_same, f1, hy, ?_⟩
          rw [lt2_false]
          rcases f2 with rfl | f2
          · exact .inr ⟨rfl, Int.le_refl _⟩
          · have := lt2_iff.mp f2
            simp only; omega
        · rw [set1_ne c] at h
          obtain ⟨a, q0, z0, h1, h2, h3, h4⟩ := I.from_ t q h hn
          obtain ⟨q1, f1, f2⟩ := fall a q0 h2
          refine ⟨a, q1, z0, by rw [set1_ne c]; exact h1, f1, h3, ?_⟩
          rw [lt2_false] at h4 ⊢
          rcases f2 with rfl | f2
          · exact h4
          · have := lt2_iff.mp f2
            simp only at h4 ⊢; omega
      · by_cases c : t = v
        · subst c
          obtain ⟨y, a, hy⟩ := h
          unfold curE at a
          cases q : st.R t with
          | none => rw [q] at a; cases a
          | some q0 =>
            rw [q] at a
            have a2 : enc M q0 = y := Option.some.inj a
            refine ⟨_, by unfold curE; simp only; rw [set1_same]; rfl, ?_⟩
            have := down q0 q
            omega
        · unfold curE at h ⊢
          simp only
          rw [set1_ne c]; exact h
      · obtain ⟨y, a, hy⟩ := h
        unfold curE at a
        rw [e] at a
        have a2 : enc M p = y := Option.some.inj a
        refine ⟨_, by unfold curE; simp only; rw [set1_same]; rfl, ?_⟩
        rw [key]; omega
    · rw [if_neg b]
      refine ⟨mon, fun _ _ h => h, fun x h => ?_⟩
      obtain ⟨y, a, hy⟩ := h
      unfold curE at a
      rw [e] at a
      have a2 : enc M p = y := Option.some.inj a
      unfold better at b
      cases q : st.R v with
      | none => rw [q] at b; exact absurd rfl b
      | some q0 =>
        rw [q] at b
        have := I.steps v q0 q
        have nb : ¬ enc M (p.1 + z, p.2 + 1) < enc M q0 := fun h => b ((enc_lt (by simp only; omega) (by omega)).mpr h)
        have key : enc M (p.1 + z, p.2 + 1) = enc M p + (z * M + 1) := by unfold enc; simp only; rw [Int.add_mul]; omega
        refine ⟨enc M q0, by unfold curE; rw [q]; rfl, ?_⟩
        omega
/-- what a pass leaves -/
structure Pass (L A : List Stp3) (M : Int) (s0 : Nat) (g : Nat → Int) (B : Int) (st st' : LS) : Prop where
  inv : LI L M s0 g (B + A.length) st'
  mono : ∀ v x, AtMost (curE M st.R v) x → AtMost (curE M st'.R v) x
  arc : ∀ y, y ∈ A → ∀ x, AtMost (curE M st.R y.1) x → AtMost (curE M st'.R y.2.1) (x + (y.2.2 * M + 1))
  still : st'.ch = false → st.ch = false ∧ st' = st ∧ ∀ y, y ∈ A → ∀ p, st.R y.1 = some p → better st.R y.2.1 (p.1 + y.2.2, p.2 + 1) = false
theorem rl_still {st : LS} {y : Stp3} (h : (rl st y).ch = false) : st.ch = false ∧ rl st y = st ∧ ∀ p, st.R y.1 = some p → better st.R y.2.1 (p.1 + y.2.2, p.2 + 1) = false := by
  unfold rl at h ⊢
  cases e : st.R y.1 with
  | none => rw [e] at h; exact ⟨h, rfl, fun p q => nomatch q⟩
  | some p =>
    rw [e] at h
    simp only at h ⊢
    by_cases b : better st.R y.2.1 (p.1 + y.2.2, p.2 + 1) = true
    · rw [if_pos b] at h; cases h
    · rw [if_neg b] at h ⊢
      refine ⟨h, rfl, fun q eq => ?_⟩
      have := Option.some.inj eq
      subst this
      exact Bool.not_eq_true _ |>.mp b
theorem pass_ok {L M s0 g} (hg : ∀ y, y ∈ L → g y.2.1 ≤ g y.1 + y.2.2) : ∀ (A : List Stp3) (B : Int) (st : LS), (∀ y, y ∈ A → y ∈ L) → LI L M s0 g B st → B + A.length < M → Pass L A M s0 g B st (A.foldl rl st)
  | [], B, st, _, I, _ => ⟨by simpa using I, fun _ _ h => h, fun y hy => (nomatch hy), fun h => ⟨h, rfl, fun y hy => (nomatch hy)⟩⟩
  | y :: A, B, st, h, I, hM => by
    have hl : ((y :: A).length : Int) = A.length + 1 := by simp
    obtain ⟨I1, m1, a1⟩ := rl_ok I (h y List.mem_cons_self) hg (by rw [hl] at hM; have : (0 : Int) ≤ A.length := by omega
                                                                   omega)
    have p := pass_ok hg A (B + 1) (rl st y) (fun t ht => h t (List.mem_cons_of_mem _ ht)) I1 (by rw [hl] at hM; omega)
    show Pass L (y :: A) M s0 g B st (A.foldl rl (rl st y))
    refine ⟨?_, fun v x q => p.mono v x (m1 v x q), fun t ht x q => ?_, fun q => ?_⟩
    · have := p.inv
      have e : B + ((y :: A).length : Int) = B + 1 + A.length := by rw [hl]; omega
      rw [e]; exact this
    · rcases List.mem_cons.mp ht with rfl | ht
      · exact p.mono _ _ (a1 x q)
      · exact p.arc t ht x (m1 _ _ q)
    · obtain ⟨c1, c2, c3⟩ := p.still q
      obtain ⟨d1, d2, d3⟩ := rl_still c1
      refine ⟨d1, by rw [c2, d2], fun t ht => ?_⟩
      rcases List.mem_cons.mp ht with rfl | ht
      · exact d3
      · have := c3 t ht
        rw [d2] at this
        exact this
/-- within k passes all ways of k steps are known -/
def Known (L : List Stp3) (M : Int) (s0 : Nat) (k : Nat) (R : Nat → Option Lab) : Prop := ∀ l v x, Way (fun s => s = s0) (EA L M) l v x → l.length ≤ k + 1 → AtMost (curE M R v) x
theorem known_start {L M s0 g B st} (I : LI L M s0 g B st) : Known L M s0 0 st.R := by
  intro l v x w hl
  cases w with
  | nil a => subst a; exact ⟨0, by unfold curE; rw [I.start]; show some (0 * M + 0) = some 0; simp, Int.le_refl _⟩
  | @snoc l u v x z w a =>
    obtain ⟨r, hr⟩ := w.head
    rw [hr] at hl
    simp at hl
theorem known_pass {L M s0 g B st st' k} (p : Pass L L M s0 g B st st') (h : Known L M s0 k st.R) : Known L M s0 (k + 1) st'.R := by
  intro l v x w hl
  cases w with
  | nil a => exact p.mono _ _ (h _ _ _ (.nil a) (by simp))
  | @snoc l u v x z w a =>
    obtain ⟨y, hy, rfl, rfl, rfl⟩ := a
    exact p.arc y hy x (h l _ x w (by simpa using hl))
/-- as many passes as places: a further one changes nothing -/
theorem known_all {L M s0 R N} {g : Nat → Int} (hM : 0 < M) (hg : ∀ y, y ∈ L → g y.2.1 ≤ g y.1 + y.2.2) (hN : ∀ y, y ∈ L → y.2.1 < N) (hs : s0 < N) (h : Known L M s0 N R) :
    ∀ l v x, Way (fun s => s = s0) (EA L M) l v x → AtMost (curE M R v) x := by
  intro l v x w
  have hf : ∀ u v z, EA L M u v z → g v * M ≤ g u * M + z := by
    rintro u v z ⟨y, hy, rfl, rfl, rfl⟩
    have := hg y hy
    have h2 : g y.2.1 * M ≤ (g y.1 + y.2.2) * M := Int.mul_le_mul_of_nonneg_right this (by omega)
    rw [Int.add_mul] at h2
    omega
  obtain ⟨l1, x1, a, b, c, d⟩ := w.simple (f := fun v => g v * M) hf
  have := nodup_len c (a.within (N := N) (src := fun s => s = s0) (fun s (e : s = s0) => by subst e; exact hs) (by rintro u v z ⟨y, hy, rfl, rfl, rfl⟩; exact hN y hy))
  exact (h _ _ _ a (by omega)).le b
theorem stable_pass {L M s0 g} (hg : ∀ y, y ∈ L → g y.2.1 ≤ g y.1 + y.2.2) : ∀ (A : List Stp3) (B : Int) (st : LS), (∀ y, y ∈ A → y ∈ L) → LI L M s0 g B st → B + 1 < M →
    (∀ l v x, Way (fun s => s = s0) (EA L M) l v x → AtMost (curE M st.R v) x) → A.foldl rl st = st
  | [], _, _, _, _, _, _ => rfl
  | y :: A, B, st, h, I, hM, K => by
    have e : rl st y = st := by
      unfold rl
      cases q : st.R y.1 with
      | none => rfl
      | some p =>
        simp only
        rw [if_neg]
        intro b
        obtain ⟨l, w⟩ := I.way _ _ q
        obtain ⟨t, a, c⟩ := K _ _ _ (.snoc w ⟨y, h y List.mem_cons_self, rfl, rfl, rfl⟩)
        unfold curE at a
        unfold better at b
        cases q2 : st.R y.2.1 with
        | none => rw [q2] at a; cases a
        | some p2 =>
          rw [q2] at a b
          have a2 : enc M p2 = t := Option.some.inj a
          have s1 := I.steps _ _ q
          have s2 := I.steps _ _ q2
          have := (enc_lt (M := M) (a := (p.1 + y.2.2, p.2 + 1)) (b := p2) (by simp only; omega) (by omega)).mp b
          have key : enc M (p.1 + y.2.2, p.2 + 1) = enc M p + (y.2.2 * M + 1) := by unfold enc; simp only; rw [Int.add_mul]; omega
          omega
    rw [List.foldl_cons, e]
    exact stable_pass hg A B st (fun t ht => h t (List.mem_cons_of_mem _ ht)) I hM K
/-- the search's end: no step betters a label; each label but the start's is the one before it and a step -/
structure Done (L : List Stp3) (s0 : Nat) (st : LS) : Prop where
  start : st.R s0 = some (0, 0)
  nn : ∀ v p, st.R v = some p → 0 ≤ p.2
  zero : ∀ v p, st.R v = some p → v ≠ s0 → 0 < p.2
  step : ∀ y, y ∈ L → ∀ p, st.R y.1 = some p → ∃ q, st.R y.2.1 = some q ∧ q.1 ≤ p.1 + y.2.2
  back : ∀ v p, st.R v = some p → v ≠ s0 → ∃ u z, st.P v = some u ∧ (u, v, z) ∈ L ∧ st.R u = some (p.1 - z, p.2 - 1)
theorem done_of {L M s0 g B st} (I : LI L M s0 g B st) (h : ∀ y, y ∈ L → ∀ p, st.R y.1 = some p → better st.R y.2.1 (p.1 + y.2.2, p.2 + 1) = false) : Done L s0 st := by
  have back : ∀ v p, st.R v = some p → v ≠ s0 → ∃ u z, st.P v = some u ∧ (u, v, z) ∈ L ∧ st.R u = some (p.1 - z, p.2 - 1) := fun v p e ne => by
    obtain ⟨u, q, z, h1, h2, h3, h4⟩ := I.from_ v p e ne
    refine ⟨u, z, h1, h3, ?_⟩
    have b := h _ h3 q h2
    unfold better at b
    simp only at b
    rw [e] at b
    have b2 : lt2 (q.1 + z, q.2 + 1) p = false := b
    rw [lt2_false] at h4 b2
    simp only at h4 b2
    rw [h2]
    congr 1
    apply Prod.ext <;> simp only <;> omega
  refine ⟨I.start, fun v p e => (I.steps v p e).1, fun v p e ne => ?_, fun y hy p e => ?_, back⟩
  · obtain ⟨u, z, _, _, h3⟩ := back v p e ne
    have := (I.steps u _ h3).1
    simp only at this
    omega
  · have b := h y hy p e
    unfold better at b
    cases q : st.R y.2.1 with
    | none => rw [q] at b; cases b
    | some t =>
      rw [q] at b
      have b2 : lt2 (p.1 + y.2.2, p.2 + 1) t = false := b
      rw [lt2_false] at b2
      simp only at b2
      exact ⟨t, rfl, by omega⟩
/-- a way from the start, place by place -/
structure Trace (L : List Stp3) (s0 goal : Nat) (st : LS) (n : Nat) (a : Nat → Nat) : Prop where
  first : a 0 = s0
  last : a n = goal
  lab : ∀ k, k ≤ n → ∃ x, st.R (a k) = some (x, (k : Int))
  step : ∀ k, k < n → ∃ z x, (a k, a (k + 1), z) ∈ L ∧ st.R (a k) = some (x, (k : Int)) ∧ st.R (a (k + 1)) = some (x + z, (k : Int) + 1)
  prev : ∀ k, k < n → st.P (a (k + 1)) = some (a k)
theorem trace_of {L s0 st} (D : Done L s0 st) : ∀ (n : Nat) (goal : Nat) (x : Int), st.R goal = some (x, (n : Int)) → ∃ a, Trace L s0 goal st n a
  | 0, goal, x, h => by
    have e : goal = s0 := Classical.byContradiction fun ne => by have := D.zero goal _ h ne; simp at this
    subst e
    exact ⟨fun _ => goal, rfl, rfl, fun k hk => ⟨x, by have : k = 0 := by omega
                                                       subst this; exact h⟩, fun k hk => absurd hk (Nat.not_lt_zero k), fun k hk => absurd hk (Nat.not_lt_zero k)⟩
  | n + 1, goal, x, h => by
    have ne : goal ≠ s0 := fun e => by
      subst e
      rw [D.start] at h
      have := (Prod.mk.inj (Option.some.inj h)).2
      omega
    obtain ⟨u, z, h1, h2, h3⟩ := D.back goal _ h ne
    have h3' : st.R u = some (x - z, (n : Int)) := by
      rw [h3]; congr 1; apply Prod.ext <;> simp only <;> omega
    obtain ⟨a, T⟩ := trace_of D n u _ h3'
    refine ⟨fun k => if k ≤ n then a k else goal, by show (if 0 ≤ n then a 0 else goal) = s0; rw [if_pos (by omega)]; exact T.first, if_neg (by omega), fun k hk => ?_, fun k hk => ?_, fun k hk => ?_⟩
    · by_cases q : k ≤ n
      · simp only [if_pos q]; exact T.lab k q
      · have : k = n + 1 := by omega
        subst this
        simp only [if_neg q]
        exact ⟨x, h⟩
    · by_cases q : k + 1 ≤ n
      · simp only [if_pos q, if_pos (show k ≤ n by omega)]
        exact T.step k (by omega)
      · have : k = n := by omega
        subst this
        simp only [if_pos (Nat.le_refl _), if_neg q]
        rw [T.last]
        exact ⟨z, x - z, h2, h3', by rw [h]; congr 1; apply Prod.ext <;> simp only <;> omega⟩
    · by_cases q : k + 1 ≤ n
      · simp only [if_pos q, if_pos (show k ≤ n by omega)]
        exact T.prev k (by omega)
      · have : k = n := by omega
        subst this
        simp only [if_pos (Nat.le_refl _), if_neg q]
        rw [T.last]; exact h1
theorem Trace.inj {L s0 goal st n a} (T : Trace L s0 goal st n a) {i j : Nat} (hi : i ≤ n) (hj : j ≤ n) (e : a i = a j) : i = j := by
  obtain ⟨x, h1⟩ := T.lab i hi
  obtain ⟨y, h2⟩ := T.lab j hj
  rw [e, h2] at h1
  have := (Prod.mk.inj (Option.some.inj h1)).2
  omega
end OT

/-! Flows: prices that fit them, rounds along which an entry is raised. -/
namespace OT
set_option linter.unusedVariables false
open EH
abbrev IM := Nat → Nat → Int
abbrev Free := Nat → Nat → Bool
def OpenS (m : Nat) (F c : IM) (fr : Free) (y : Stp3) : Prop :=
  (∃ i j, i < m ∧ j < m ∧ fr i j = true ∧ y = (i, m + j, c i j)) ∨ ∃ i j, i < m ∧ j < m ∧ fr i j = true ∧ 0 < F i j ∧ y = (m + j, i, -c i j)
structure Fit (m : Nat) (F c : IM) (fr : Free) (f : Nat → Int) : Prop where
  le : ∀ i j, i < m → j < m → fr i j = true → f (m + j) ≤ f i + c i j
  eq : ∀ i j, i < m → j < m → fr i j = true → 0 < F i j → f (m + j) = f i + c i j
theorem Fit.steps {m F c fr f} (h : Fit m F c fr f) : ∀ y, OpenS m F c fr y → f y.2.1 ≤ f y.1 + y.2.2 := by
  rintro y (⟨i, j, hi, hj, hf, rfl⟩ | ⟨i, j, hi, hj, hf, hF, rfl⟩)
  · exact h.le i j hi hj hf
  · have := h.eq i j hi hj hf hF
    simp only; omega
/-- the labels as prices, all else far above -/
theorem new_fit {m F c fr g L s0 st r0 c0} (hL : ∀ y, y ∈ L ↔ OpenS m F c fr y) (hf : Fit m F c fr g) (D : Done L s0 st) (hr : r0 < m) (hc : c0 < m) (hs : s0 = m + c0) :
    ∃ f, Fit m F c fr f ∧ (∀ v p, st.R v = some p → f v = p.1) ∧ f (m + c0) = 0 ∧ (st.R r0 = none → 0 < c r0 c0 + f r0) := by
  have key : ∃ K : Int, (∀ i j p, i < m → j < m → st.R (m + j) = some p → p.1 ≤ g i + K + c i j) ∧ 0 < c r0 c0 + (g r0 + K) := by
    refine ⟨sumI m (fun i => sumI m fun j => (((match st.R (m + j) with | some p => p.1 | none => 0) - g i - c i j).natAbs : Int)) + ((c r0 c0 + g r0).natAbs : Int) + 1, fun i j p hi hj e => ?_, ?_⟩
    · have h1 := sumI_ge (n := m) (w := fun i => sumI m fun j => (((match st.R (m + j) with | some p => p.1 | none => 0) - g i - c i j).natAbs : Int)) (fun i _ => sumI_nn fun j _ => by omega) i hi
      have h2 := sumI_ge (n := m) (w := fun j => (((match st.R (m + j) with | some p => p.1 | none => 0) - g i - c i j).natAbs : Int)) (fun j _ => by omega) j hj
      simp only [e] at h2
      omega
    · have h1 := sumI_nn (n := m) (w := fun i => sumI m fun j => (((match st.R (m + j) with | some p => p.1 | none => 0) - g i - c i j).natAbs : Int)) (fun i _ => sumI_nn fun j _ => by omega)
      omega
  obtain ⟨K, k1, k2⟩ := key
  refine ⟨fun v => match st.R v with | some p => p.1 | none => g v + K, ⟨fun i j hi hj h => ?_, fun i j hi hj h hF => ?_⟩, fun v p e => by simp only [e], by simp only [← hs, D.start], fun e => by simp only [e]; exact k2⟩
  · show (match st.R (m + j) with | some p => p.1 | none => g (m + j) + K) ≤ (match st.R i with | some p => p.1 | none => g i + K) + c i j
    cases e : st.R i with
    | some p =>
      obtain ⟨q, e2, le⟩ := D.step (i, m + j, c i j) ((hL _).mpr (.inl ⟨i, j, hi, hj, h, rfl⟩)) p e
      simp only at e2 le
      simp only [e2]; exact le
    | none =>
      cases e2 : st.R (m + j) with
      | some q => simp only; exact k1 i j q hi hj e2
      | none => simp only; have := hf.le i j hi hj h; omega
  · show (match st.R (m + j) with | some p => p.1 | none => g (m + j) + K) = (match st.R i with | some p => p.1 | none => g i + K) + c i j
    cases e2 : st.R (m + j) with
    | some q =>
      obtain ⟨p, e, le⟩ := D.step (m + j, i, -c i j) ((hL _).mpr (.inr ⟨i, j, hi, hj, h, hF, rfl⟩)) q e2
      simp only at e le
      obtain ⟨q', e3, le'⟩ := D.step (i, m + j, c i j) ((hL _).mpr (.inl ⟨i, j, hi, hj, h, rfl⟩)) p e
      simp only at e3 le'
      rw [e2] at e3
      have := Option.some.inj e3
      subst this
      simp only [e]; omega
    | none =>
      cases e : st.R i with
      | some p =>
        obtain ⟨q, e3, _⟩ := D.step (i, m + j, c i j) ((hL _).mpr (.inl ⟨i, j, hi, hj, h, rfl⟩)) p e
        simp only at e3
        rw [e2] at e3; cases e3
      | none => simp only; have := hf.eq i j hi hj h hF; omega
/-- the way round: t entries less, t entries more -/
structure Round (m : Nat) (F c : IM) (fr : Free) (r0 c0 : Nat) (f : Nat → Int) (t : Nat) (I J : Nat → Nat) : Prop where
  pos : 0 < t
  ilt : ∀ k, k < t → I k < m
  jlt : ∀ k, k < t → J k < m
  low : ∀ k, k < t → fr (I k) (J k) = true ∧ 0 < F (I k) (J k) ∧ f (m + J k) = f (I k) + c (I k) (J k)
  up : ∀ k, k + 1 < t → fr (I k) (J (k + 1)) = true ∧ f (m + J (k + 1)) = f (I k) + c (I k) (J (k + 1))
  inj : ∀ k l, k < t → l < t → I k = I l → k = l
  first : J 0 = c0
  last : I (t - 1) = r0
def shift (t : Nat) (I : Nat → Nat) : Nat → Nat := fun k => if k = 0 then I (t - 1) else I (k - 1)
def cnt (t : Nat) (I J : Nat → Nat) (i j : Nat) : Int := sumI t fun k => if I k = i ∧ J k = j then 1 else 0
def pushed (F : IM) (A : Int) (t : Nat) (I J : Nat → Nat) : IM := fun i j => F i j - A * cnt t I J i j + A * cnt t (shift t I) J i j
theorem cnt_nn {t I J i j} : 0 ≤ cnt t I J i j := sumI_nn fun k _ => by split <;> omega
theorem cnt_pos {t I J i j} (h : 0 < cnt t I J i j) : ∃ k, k < t ∧ I k = i ∧ J k = j := by
  obtain ⟨k, hk, p⟩ := sumI_pos h fun k _ => by split <;> omega
  refine ⟨k, hk, ?_⟩
  split at p
  · assumption
  · omega
theorem cnt_some {t I J k} (h : k < t) : 0 < cnt t I J (I k) (J k) := by
  have := sumI_ge (w := fun q => if I q = I k ∧ J q = J k then (1 : Int) else 0) (fun q _ => by split <;> omega) k h
  rw [if_pos ⟨rfl, rfl⟩] at this
  unfold cnt; omega
theorem cnt_zero {t I J i j} (h : ∀ k, k < t → ¬ (I k = i ∧ J k = j)) : cnt t I J i j = 0 := by
  unfold cnt
  rw [sumI_congr (w := fun _ => 0) fun k hk => if_neg (h k hk), sumI_zero]
theorem one_of {t : Nat} {I : Nat → Nat} (hi : ∀ k l, k < t → l < t → I k = I l → k = l) (i : Nat) : ∀ n, n ≤ t → sumI n (fun k => if I k = i then (1 : Int) else 0) ≤ 1
  | 0, _ => by show (0 : Int) ≤ 1; omega
  | n + 1, hn => by
    rw [sumI_succ]
    by_cases e : I n = i
    · rw [if_pos e, sumI_congr (w := fun _ => 0) fun k hk => if_neg fun z => by have := hi k n (by omega) (by omega) (z.trans e.symm); omega, sumI_zero]
      omega
    · rw [if_neg e]; have := one_of hi i n (by omega); omega
theorem cnt_le {t I J i j} (hi : ∀ k l, k < t → l < t → I k = I l → k = l) : cnt t I J i j ≤ 1 := by
  have h1 := one_of hi i t (Nat.le_refl t)
  have h2 : cnt t I J i j ≤ sumI t (fun k => if I k = i then (1 : Int) else 0) := sumI_le fun k _ => by
    by_cases e : I k = i
    · rw [if_pos e]; split <;> omega
    · rw [if_neg e, if_neg fun z => e z.1]; omega
  omega
theorem cnt_row {t m I J i} (hj : ∀ k, k < t → J k < m) : sumI m (fun j => cnt t I J i j) = sumI t fun k => if I k = i then 1 else 0 := by
  unfold cnt
  rw [sumI_comm]
  refine sumI_congr fun k hk => ?_
  rw [← sumI_one (w := fun _ => if I k = i then (1 : Int) else 0) (hj k hk)]
  refine sumI_congr fun j _ => ?_
  by_cases e : J k = j
  · rw [if_pos e]
    by_cases q : I k = i
    · rw [if_pos ⟨q, e⟩, if_pos q]
    · rw [if_neg fun z => q z.1, if_neg q]
  · rw [if_neg e, if_neg fun z => e z.2]
theorem cnt_col {t m I J j} (hi : ∀ k, k < t → I k < m) : sumI m (fun i => cnt t I J i j) = sumI t fun k => if J k = j then 1 else 0 := by
  unfold cnt
  rw [sumI_comm]
  refine sumI_congr fun k hk => ?_
  rw [← sumI_one (w := fun _ => if J k = j then (1 : Int) else 0) (hi k hk)]
  refine sumI_congr fun i _ => ?_
  by_cases e : I k = i
  · rw [if_pos e]
    by_cases q : J k = j
    · rw [if_pos ⟨e, q⟩, if_pos q]
    · rw [if_neg fun z => q z.2, if_neg q]
  · rw [if_neg e, if_neg fun z => e z.1]
theorem sum_shift (x : Nat → Int) (z : Int) : ∀ t, sumI (t + 1) (fun k => if k = 0 then z else x (k - 1)) = z + sumI t x
  | 0 => by rw [sumI_succ]; show (0 : Int) + (if 0 = 0 then z else _) = z + 0; rw [if_pos rfl]; omega
  | t + 1 => by
    rw [sumI_succ, sum_shift x z t, if_neg (by omega), sumI_succ]
    show z + sumI t x + x t = _; omega
theorem shift_sum {t : Nat} {I : Nat → Nat} (h : Nat → Int) (ht : 0 < t) : sumI t (fun k => h (shift t I k)) = sumI t fun k => h (I k) := by
  obtain ⟨s, rfl⟩ : ∃ s, t = s + 1 := ⟨t - 1, by omega⟩
  have e : sumI (s + 1) (fun k => h (shift (s + 1) I k)) = sumI (s + 1) (fun k => if k = 0 then h (I s) else (fun q => h (I q)) (k - 1)) := sumI_congr fun k _ => by
    unfold shift
    by_cases q : k = 0
    · rw [if_pos q, if_pos q]; rfl
    · rw [if_neg q, if_neg q]
  rw [e]
  exact (sum_shift (fun q => h (I q)) (h (I s)) s).trans (by rw [sumI_succ]; omega)
theorem shift_lt {t m I} (ht : 0 < t) (hi : ∀ k, k < t → I k < m) : ∀ k, k < t → shift t I k < m := fun k hk => by
  unfold shift
  split
  · exact hi _ (by omega)
  · exact hi _ (by omega)
theorem cnt_cost {t m I J} (c : IM) (hi : ∀ k, k < t → I k < m) (hj : ∀ k, k < t → J k < m) : sumI m (fun i => sumI m fun j => cnt t I J i j * c i j) = sumI t fun k => c (I k) (J k) := by
  have e1 : ∀ i, sumI m (fun j => cnt t I J i j * c i j) = sumI t fun k => if I k = i then c i (J k) else 0 := fun i => by
    have : ∀ j, j < m → cnt t I J i j * c i j = sumI t fun k => if I k = i ∧ J k = j then c i j else 0 := fun j _ => by
      unfold cnt
      rw [← sumI_mul]
      exact sumI_congr fun k _ => by split <;> simp
    rw [sumI_congr this, sumI_comm]
    refine sumI_congr fun k hk => ?_
    by_cases q : I k = i
    · rw [if_pos q, ← sumI_one (w := fun j => c i j) (hj k hk)]
      exact sumI_congr fun j _ => by
        by_cases e : J k = j
        · rw [if_pos e, if_pos ⟨q, e⟩]
        · rw [if_neg e, if_neg fun z => e z.2]
    · rw [if_neg q, sumI_congr (w := fun _ => 0) fun j _ => if_neg fun z => q z.1, sumI_zero]
  rw [sumI_congr fun i _ => e1 i, sumI_comm]
  refine sumI_congr fun k hk => ?_
  exact sumI_one (w := fun i => c i (J k)) (hi k hk)
def costF (m : Nat) (F c : IM) : Int := sumI m fun i => sumI m fun j => F i j * c i j
section
variable {m : Nat} {F c : IM} {fr : Free} {r0 c0 : Nat} {f : Nat → Int} {t : Nat} {I J : Nat → Nat} {A : Int}
theorem pushed_row (R : Round m F c fr r0 c0 f t I J) (i : Nat) : sumI m (fun j => pushed F A t I J i j) = sumI m fun j => F i j := by
  unfold pushed
  rw [sumI_add, sumI_sub, sumI_mulL, sumI_mulL, cnt_row R.jlt, cnt_row R.jlt, shift_sum (fun x => if x = i then 1 else 0) R.pos]
  have : sumI m (fun j => F i j) = sumI m (F i) := rfl
  omega
theorem pushed_col (R : Round m F c fr r0 c0 f t I J) (j : Nat) : sumI m (fun i => pushed F A t I J i j) = sumI m fun i => F i j := by
  unfold pushed
  rw [sumI_add, sumI_sub, sumI_mulL, sumI_mulL, cnt_col R.ilt, cnt_col (shift_lt R.pos R.ilt)]
  omega
theorem pushed_cost (R : Round m F c fr r0 c0 f t I J) : costF m (pushed F A t I J) c = costF m F c + A * ((sumI t fun k => c (shift t I k) (J k)) - sumI t fun k => c (I k) (J k)) := by
  have e : costF m (pushed F A t I J) c = costF m F c - A * (sumI m fun i => sumI m fun j => cnt t I J i j * c i j) + A * (sumI m fun i => sumI m fun j => cnt t (shift t I) J i j * c i j) := by
    unfold costF
    rw [← sumI_mulL, ← sumI_mulL, ← sumI_sub, ← sumI_add]
    refine sumI_congr fun i _ => ?_
    rw [← sumI_mulL, ← sumI_mulL, ← sumI_sub, ← sumI_add]
    refine sumI_congr fun j _ => ?_
    unfold pushed
    rw [Int.add_mul, Int.sub_mul, Int.mul_assoc, Int.mul_assoc]
  rw [e, cnt_cost c R.ilt R.jlt, cnt_cost c (shift_lt R.pos R.ilt) R.jlt, Int.mul_sub]
  omega
/-- round is the entry and the way's price -/
theorem round_cost (R : Round m F c fr r0 c0 f t I J) (h0 : f (m + c0) = 0) : (sumI t fun k => c (shift t I k) (J k)) - (sumI t fun k => c (I k) (J k)) = c r0 c0 + f r0 := by
  obtain ⟨s, rfl⟩ : ∃ s, t = s + 1 := ⟨t - 1, by have := R.pos; omega⟩
  have key : ∀ q, q ≤ s → (sumI (q + 1) fun k => if k = 0 then 0 else c (I (k - 1)) (J k)) - (sumI (q + 1) fun k => c (I k) (J k)) = f (I q) := by
    intro q
    induction q with
    | zero =>
      intro _
      rw [sumI_succ, sumI_succ]
      have := (R.low 0 (by omega)).2.2
      rw [R.first, h0] at this
      show (0 + (if 0 = 0 then 0 else _)) - (0 + c (I 0) (J 0)) = f (I 0)
      rw [if_pos rfl, R.first]
      omega
    | succ q ih =>
      intro hq
      have h1 := ih (by omega)
      have h2 := (R.up q (by omega)).2
      have h3 := (R.low (q + 1) (by omega)).2.2
      rw [sumI_succ, sumI_succ (w := fun k => c (I k) (J k)), if_neg (by omega)]
      show _ + c (I q) (J (q + 1)) - _ = _
      omega
  have k1 := key s (Nat.le_refl s)
  have el : I s = r0 := R.last
  rw [el] at k1
  have e : (sumI (s + 1) fun k => c (shift (s + 1) I k) (J k)) = c r0 c0 + sumI (s + 1) fun k => if k = 0 then 0 else c (I (k - 1)) (J k) := by
    have e2 : (sumI (s + 1) fun k => c (shift (s + 1) I k) (J k)) = sumI (s + 1) fun k => (if 0 = k then c r0 c0 else 0) + (if k = 0 then 0 else c (I (k - 1)) (J k)) := sumI_congr fun k _ => by
      unfold shift
      by_cases q : k = 0
      · subst q
        rw [if_pos rfl, if_pos rfl, if_pos rfl, R.first]
        show c (I s) c0 = _
        rw [el]; omega
      · rw [if_neg q, if_neg (fun z => q z.symm), if_neg q]; omega
    rw [e2, sumI_add, sumI_one (w := fun _ => c r0 c0) (by omega)]
  rw [e]; omega
theorem pushed_nn (R : Round m F c fr r0 c0 f t I J) (nn : ∀ i j, i < m → j < m → 0 ≤ F i j) (hA : 0 ≤ A) (hl : ∀ k, k < t → A ≤ F (I k) (J k)) : ∀ i j, i < m → j < m → 0 ≤ pushed F A t I J i j := fun i j hi hj => by
  unfold pushed
  have h1 := cnt_nn (t := t) (I := shift t I) (J := J) (i := i) (j := j)
  have h2 := Int.mul_nonneg hA h1
  have h3 := cnt_nn (t := t) (I := I) (J := J) (i := i) (j := j)
  have h4 := cnt_le (J := J) (i := i) (j := j) R.inj
  have h5 := nn i j hi hj
  rcases Int.lt_or_le 0 (cnt t I J i j) with q | q
  · obtain ⟨k, hk, rfl, rfl⟩ := cnt_pos q
    have e : cnt t I J (I k) (J k) = 1 := by omega
    rw [e]
    have := hl k hk
    omega
  · have e : cnt t I J i j = 0 := by omega
    rw [e]; omega
/-- what is not free stands, but the entry itself -/
theorem pushed_off (R : Round m F c fr r0 c0 f t I J) {i j : Nat} (hf : fr i j = false) (ne : ¬ (i = r0 ∧ j = c0)) : pushed F A t I J i j = F i j := by
  unfold pushed
  rw [cnt_zero, cnt_zero]
  · omega
  · rintro k hk ⟨a, b⟩
    unfold shift at a
    by_cases q : k = 0
    · subst q
      rw [if_pos rfl, R.last] at a
      rw [R.first] at b
      exact ne ⟨a.symm, b.symm⟩
    · rw [if_neg q] at a
      have := (R.up (k - 1) (by omega)).1
      rw [show k - 1 + 1 = k by omega, a, b, hf] at this
      cases this
  · rintro k hk ⟨a, b⟩
    have := (R.low k hk).1
    rw [a, b, hf] at this
    cases this
theorem pushed_at (R : Round m F c fr r0 c0 f t I J) (hf : fr r0 c0 = false) (hA : 0 ≤ A) : F r0 c0 + A ≤ pushed F A t I J r0 c0 := by
  unfold pushed
  have e : cnt t I J r0 c0 = 0 := cnt_zero (by
    rintro k hk ⟨a, b⟩
    have := (R.low k hk).1
    rw [a, b, hf] at this
    cases this)
  have h := cnt_some (I := shift t I) (J := J) R.pos
  have e1 : shift t I 0 = r0 := by unfold shift; rw [if_pos rfl, R.last]
  rw [e1, R.first] at h
  rw [e]
  have := Int.mul_le_mul_of_nonneg_left (show (1 : Int) ≤ cnt t (shift t I) J r0 c0 by omega) hA
  omega
theorem pushed_fit (R : Round m F c fr r0 c0 f t I J) (nn : ∀ i j, i < m → j < m → 0 ≤ F i j) (hA : 0 ≤ A) (hf0 : fr r0 c0 = false) (h : Fit m F c fr f) : Fit m (pushed F A t I J) c fr f := by
  refine ⟨h.le, fun i j hi hj hf hp => ?_⟩
  by_cases q : 0 < F i j
  · exact h.eq i j hi hj hf q
  · unfold pushed at hp
    have h3 := Int.mul_nonneg hA (cnt_nn (t := t) (I := I) (J := J) (i := i) (j := j))
    have h4 := nn i j hi hj
    have h5 : 0 < cnt t (shift t I) J i j := by
      rcases Int.lt_or_le 0 (cnt t (shift t I) J i j) with z | z
      · exact z
      · have := Int.mul_nonpos_of_nonneg_of_nonpos hA z
        omega
    obtain ⟨k, hk, a, b⟩ := cnt_pos h5
    unfold shift at a
    by_cases z : k = 0
    · subst z
      rw [if_pos rfl, R.last] at a
      rw [R.first] at b
      rw [← a, ← b, hf0] at hf
      cases hf
    · rw [if_neg z] at a
      have := (R.up (k - 1) (by omega)).2
      rw [show k - 1 + 1 = k by omega, a, b] at this
      exact this
end
/-- the traced way is such a round -/
theorem round_of {m F c fr g L st r0 c0 n a} (hL : ∀ y, y ∈ L ↔ OpenS m F c fr y) (T : Trace L (m + c0) r0 st n a) (hr : r0 < m) (hf : ∀ v p, st.R v = some p → g v = p.1) :
    ∃ t, n + 1 = 2 * t ∧ Round m F c fr r0 c0 g t (fun k => a (2 * k + 1)) (fun k => a (2 * k) - m) ∧ ∀ k, k < t → m ≤ a (2 * k) := by
  have alt : ∀ k, k < n → (a k < m → m ≤ a (k + 1)) ∧ (m ≤ a k → a (k + 1) < m) := fun k hk => by
    obtain ⟨z, x, h, _, _⟩ := T.step k hk
    rcases (hL _).mp h with ⟨i, j, hi, hj, _, e⟩ | ⟨i, j, hi, hj, _, _, e⟩
    · have e1 := (Prod.mk.inj e).1
      have e2 := (Prod.mk.inj (Prod.mk.inj e).2).1
      omega
    · have e1 := (Prod.mk.inj e).1
      have e2 := (Prod.mk.inj (Prod.mk.inj e).2).1
      omega
  have par : ∀ k, (2 * k ≤ n → m ≤ a (2 * k)) ∧ (2 * k + 1 ≤ n → a (2 * k + 1) < m) := by
    intro k
    induction k with
    | zero =>
      have h0 : m ≤ a 0 := by rw [T.first]; omega
      exact ⟨fun _ => h0, fun h => (alt 0 (by omega)).2 h0⟩
    | succ k ih =>
      have h1 : 2 * (k + 1) ≤ n → m ≤ a (2 * (k + 1)) := fun h => (alt (2 * k + 1) (by omega)).1 (ih.2 (by omega))
      exact ⟨h1, fun h => (alt (2 * (k + 1)) (by omega)).2 (h1 (by omega))⟩
  obtain ⟨t, ht⟩ : ∃ t, n + 1 = 2 * t := by
    rcases Nat.mod_two_eq_zero_or_one n with h | h
    · have := (par (n / 2)).1 (by omega)
      rw [show 2 * (n / 2) = n by omega, T.last] at this
      omega
    · exact ⟨(n + 1) / 2, by omega⟩
  have low : ∀ k, k < t → ∃ i j, i < m ∧ j < m ∧ fr i j = true ∧ 0 < F i j ∧ a (2 * k) = m + j ∧ a (2 * k + 1) = i ∧ g (m + j) = g i + c i j := fun k hk => by
    obtain ⟨z, x, h, e1, e2⟩ := T.step (2 * k) (by omega)
    have hge := (par k).1 (by omega)
    rcases (hL _).mp h with ⟨i, j, hi, hj, _, e⟩ | ⟨i, j, hi, hj, hfr, hF, e⟩
    · have := (Prod.mk.inj e).1
      omega
    · have q1 := (Prod.mk.inj e).1
      have q2 := (Prod.mk.inj (Prod.mk.inj e).2).1
      have q3 := (Prod.mk.inj (Prod.mk.inj e).2).2
      refine ⟨i, j, hi, hj, hfr, hF, q1, q2, ?_⟩
      rw [q1] at e1
      rw [q2] at e2
      have g1 := hf _ _ e1
      have g2 := hf _ _ e2
      simp only at g1 g2
      omega
  have up : ∀ k, k + 1 < t → ∃ i j, i < m ∧ j < m ∧ fr i j = true ∧ a (2 * k + 1) = i ∧ a (2 * (k + 1)) = m + j ∧ g (m + j) = g i + c i j := fun k hk => by
    obtain ⟨z, x, h, e1, e2⟩ := T.step (2 * k + 1) (by omega)
    have hlt := (par k).2 (by omega)
    rcases (hL _).mp h with ⟨i, j, hi, hj, hfr, e⟩ | ⟨i, j, hi, hj, _, hF, e⟩
    · have q1 := (Prod.mk.inj e).1
      have q2 := (Prod.mk.inj (Prod.mk.inj e).2).1
      have q3 := (Prod.mk.inj (Prod.mk.inj e).2).2
      refine ⟨i, j, hi, hj, hfr, q1, q2, ?_⟩
      rw [q1] at e1
      rw [q2] at e2
      have g1 := hf _ _ e1
      have g2 := hf _ _ e2
      simp only at g1 g2
      omega
    · have := (Prod.mk.inj e).1
      omega
  refine ⟨t, ht, ⟨by omega, fun k hk => (par k).2 (by omega), fun k hk => ?_, fun k hk => ?_, fun k hk => ?_, fun k l hk hl e => ?_, ?_, ?_⟩, fun k hk => (par k).1 (by omega)⟩
  · obtain ⟨i, j, _, hj, _, _, h, _⟩ := low k hk
    show a (2 * k) - m < m
    omega
  · obtain ⟨i, j, hi, hj, h1, h2, h3, h4, h5⟩ := low k hk
    have e : a (2 * k) - m = j := by omega
    simp only [e, h4]
    exact ⟨h1, h2, h5⟩
  · obtain ⟨i, j, hi, hj, h1, h3, h4, h5⟩ := up k hk
    have e : a (2 * (k + 1)) - m = j := by omega
    simp only [e, h3]
    exact ⟨h1, h5⟩
  · have := T.inj (i := 2 * k + 1) (j := 2 * l + 1) (by omega) (by omega) e
    omega
  · show a (2 * 0) - m = c0
    rw [show 2 * 0 = 0 from rfl, T.first]; omega
  · show a (2 * (t - 1) + 1) = r0
    rw [show 2 * (t - 1) + 1 = n by omega, T.last]
end OT

namespace EH
open PySem PySem.Spec PyProof.Rows L2
open OT (Stp3 LS Lab lt2 set1 better rl LI Done Trace Known Pass)
/-! ### flows: the steps that are open -/
def stepV (y : Stp3) : List V := [.int (y.1 : Int), .int (y.2.1 : Int), .int y.2.2]
/-- at L: a list of tuples, a step each -/
def TS (H : Hp) (L : Addr) (As : List Stp3) : Prop := ∃ q : Nat → Addr, H L = some (.lst (tab As.length fun k => .ref (q k))) ∧ ∀ k y, As[k]? = some y → H (q k) = some (.tup (stepV y))
theorem TS.same {H H' : Hp} {L : Addr} {As : List Stp3} (s : Same H H') (h : TS H L As) : TS H' L As := by
  obtain ⟨q, a, b⟩ := h
  exact ⟨q, s _ _ a, fun k y e => s _ _ (b k y e)⟩
theorem TS.push {H : Hp} {L p : Addr} {As : List Stp3} {y : Stp3} {xs : List V} (h : TS H L As) (hp : H p = some (.tup (stepV y))) (e : H L = some (.lst xs)) : TS (upd H L (.lst (xs ++ [.ref p]))) L (As ++ [y]) := by
  obtain ⟨q, a, b⟩ := h
  rw [a] at e
  have e2 := HO.lst.inj (Option.some.inj e)
  subst e2
  have ne : ∀ c xs, H c = some (.tup xs) → c ≠ L := fun c xs z w => by rw [w, a] at z; cases z
  refine ⟨set1 q As.length p, ?_, fun k z hk => ?_⟩
  · rw [upd_same, List.length_append]
    show _ = some (HO.lst (tab (As.length + 1) _))
    rw [tab_succ]
    unfold set1
    rw [if_pos rfl, tab_congr (g := fun k => V.ref (if k = As.length then p else q k)) fun k hk => by rw [if_neg (by omega)]]
  · unfold set1
    by_cases c : k = As.length
    · subst c
      rw [if_pos rfl, upd_ne (ne _ _ hp), hp]
      rw [List.getElem?_append_right (Nat.le_refl _), Nat.sub_self] at hk
      have := Option.some.inj hk
      rw [this]
    · rw [if_neg c]
      have hk2 : As[k]? = some z := by
        have : k < As.length := by
          have := (List.getElem?_eq_some_iff.mp hk).1
          rw [List.length_append] at this
          have : ([y] : List Stp3).length = 1 := rfl
          omega
        rw [List.getElem?_append_left this] at hk
        exact hk
      have := b k z hk2
      rw [upd_ne (ne _ _ this)]
      exact this
def opAt (m : Nat) (F c : Nat → Nat → Int) (fr : Nat → Nat → Bool) (i j : Nat) : List Stp3 := if fr i j = true then (i, m + j, c i j) :: (if 0 < F i j then [(m + j, i, -c i j)] else []) else []
def opRow (m : Nat) (F c : Nat → Nat → Int) (fr : Nat → Nat → Bool) (i n : Nat) : List Stp3 := (List.range n).flatMap (opAt m F c fr i)
def opTo (m : Nat) (F c : Nat → Nat → Int) (fr : Nat → Nat → Bool) (n : Nat) : List Stp3 := (List.range n).flatMap fun i => opRow m F c fr i m
section
variable {m : Nat} {F c : Nat → Nat → Int} {fr : Nat → Nat → Bool}
theorem opRow_succ {i n : Nat} : opRow m F c fr i (n + 1) = opRow m F c fr i n ++ opAt m F c fr i n := by
  unfold opRow; rw [List.range_succ, List.flatMap_append]; simp
theorem opTo_succ {n : Nat} : opTo m F c fr (n + 1) = opTo m F c fr n ++ opRow m F c fr n m := by
  unfold opTo; rw [List.range_succ, List.flatMap_append]; simp
theorem opRow_len {i : Nat} : ∀ n, (opRow m F c fr i n).length ≤ 2 * n
  | 0 => by simp [opRow]
  | n + 1 => by
    rw [opRow_succ, List.length_append]
    have := opRow_len (i := i) n
    have : (opAt m F c fr i n).length ≤ 2 := by
      unfold opAt
      split
      · rw [List.length_cons]; split <;> simp
      · simp
    omega
theorem opTo_len : ∀ n, (opTo m F c fr n).length ≤ n * (2 * m)
  | 0 => by simp [opTo]
  | n + 1 => by
    rw [opTo_succ, List.length_append, Nat.add_mul]
    have := opTo_len n
    have := opRow_len (m := m) (F := F) (c := c) (fr := fr) (i := n) m
    omega
theorem mem_opTo {y : Stp3} : y ∈ opTo m F c fr m ↔ OT.OpenS m F c fr y := by
  unfold opTo opRow OT.OpenS
  simp only [List.mem_flatMap, List.mem_range]
  constructor
  · rintro ⟨i, hi, j, hj, h⟩
    unfold opAt at h
    split at h
    · rename_i hf
      rcases List.mem_cons.mp h with e | h
      · exact .inl ⟨i, j, hi, hj, hf, e⟩
      · split at h
        · rename_i hF
          exact .inr ⟨i, j, hi, hj, hf, hF, List.mem_singleton.mp h⟩
        · cases h
    · cases h
  · rintro (⟨i, j, hi, hj, hf, rfl⟩ | ⟨i, j, hi, hj, hf, hF, rfl⟩)
    · refine ⟨i, hi, j, hj, ?_⟩
      unfold opAt
      rw [if_pos hf]
      exact List.mem_cons_self
    · refine ⟨i, hi, j, hj, ?_⟩
      unfold opAt
      rw [if_pos hf, if_pos hF]
      exact List.mem_cons_of_mem _ (List.mem_singleton.mpr rfl)
end
def bM (fr : Nat → Nat → Bool) : Nat → Nat → V := fun i j => .bl (fr i j)
def spOpen : Sp := fun vs H Q _ => ∃ (a b d : Addr) (r r' r2 : Nat → Addr) (m : Nat) (F c : Nat → Nat → Int) (fr : Nat → Nat → Bool), vs = [.ref a, .ref b, .ref d] ∧ Mat H a r m m (mI F) ∧ Mat H b r' m m (mI c) ∧ Mat H d r2 m m (bM fr) ∧ m ≤ 20 ∧
  ∀ L H', Same H H' → TS H' L (opTo m F c fr m) → Q (.ref L) H'
abbrev s_open_steps : Stmt := top 18
theorem sc_open_steps : FnScope ["flow", "costs", "free", "size", "steps", "row", "column"] ["flow", "costs", "free"] (defScope s_open_steps) := ⟨rfl, rfl, rfl, by decide +kernel, rfl, by decide +kernel, by decide +kernel⟩
section
variable {P : Program} {w : World} {K : Fr} {mg : Str → Option Value} {base : Heap} {f : Addr} {fd : FuncData}
theorem ok_open (T : Tx K mg) (A : At K mg "open_steps" s_open_steps ["flow", "costs", "free"] f fd) : Got P w K mg base CX0 1 "open_steps" ["flow", "costs", "free"] spOpen := by
  refine A.got (A.fn.ok sc_open_steps (fun vs H Q E h => ?_) (fun cdv A outer s H vs Q E hr h => ⟨_, by exact
    (pss_cons (ps_set (i := 3) sc_open_steps.nd rfl (Or.inl rfl) (pe_callB (id := "len") (clen (K := K) rfl) (by rfl) T.len (by decide +kernel) (pa_cons (pv 0) pa_nil)))
      (pss_cons (ps_set (i := 4) sc_open_steps.nd rfl (Or.inl rfl) (pe_lst pa_nil))
      (pss_cons (ps_for PassesOwn.never rfl (pi_range1 (by rfl) T.range (pa_cons (pv 3) pa_nil)) (pg_name (i := 5) sc_open_steps.nd rfl (Or.inl rfl)) (pss_one (ps_for PassesOwn.never rfl (pi_range1 (by rfl) T.range (pa_cons (pv 3) pa_nil)) (pg_name (i := 6) sc_open_steps.nd rfl (Or.inl rfl)) (pss_one (ps_if (pt_val (pe_ix (ixL (K := K) rfl) (pe_ix (ixL (K := K) rfl) (pv 2) (pv 5) (fun _ _ => rfl)) (pv 6) (fun _ _ => rfl))) (pss_cons (ps_expr (pe_bm PySem.F.plainAttrs_list PySem.F.slot_list_append PySem.F.type_list_append mt_append (pv 4) (pa_cons (pe_tup (pa_cons (pv 5) (pa_cons (pe_op op_add (pv 3) (pv 6)) (pa_cons (pe_ix (ixL (K := K) rfl) (pe_ix (ixL (K := K) rfl) (pv 1) (pv 5) (fun _ _ => rfl)) (pv 6) (fun _ _ => rfl)) pa_nil)))) pa_nil)))
      (pss_one (ps_if (pt_cmpR op_gt (pe_ix (ixL (K := K) rfl) (pe_ix (ixL (K := K) rfl) (pv 0) (pv 5) (fun _ _ => rfl)) (pv 6) (fun _ _ => rfl)) pe_int (nomark _)) (pss_one (ps_expr (pe_bm PySem.F.plainAttrs_list PySem.F.slot_list_append PySem.F.type_list_append mt_append (pv 4) (pa_cons (pe_tup (pa_cons (pe_op op_add (pv 3) (pv 6)) (pa_cons (pv 5) (pa_cons (pe_un un_neg (pe_ix (ixL (K := K) rfl) (pe_ix (ixL (K := K) rfl) (pv 1) (pv 5) (fun _ _ => rfl)) (pv 6) (fun _ _ => rfl))) pa_nil)))) pa_nil)))) pss_nil))) pss_nil)))))
      (pss_one (ps_ret (pv 4))))))
    , ?_⟩))
  · obtain ⟨a, b, d, r, r', r2, m, F, c, fr, rfl, _⟩ := h
    rfl
  · obtain ⟨a, b, d, r, r', r2, m, F, c, fr, rfl, MF, MC, MB, hm, k⟩ := h
    refine ⟨_, rfl, a, _, rfl, .inl (SqL.of MF.at_), ?_⟩
    rw [tab_len]
    refine ⟨by show 0 ≤ sizeLine; decide, fun L hL => ?_⟩
    have mm : m * (2 * m) ≤ 800 := Nat.mul_le_mul hm (show 2 * m ≤ 40 by omega)
    refine ⟨_, rfl, m, rfl, by omega, by omega, for_rng (n := m) (fun i σ H' => ∃ v5 v6 : Option V, σ = [some (.ref a), some (.ref b), some (.ref d), some (.int m), some (.ref L), v5, v6] ∧ Same H H' ∧ TS H' L (opTo m F c fr i))
      ⟨none, none, rfl, same_new hL, fun _ => L, upd_same, fun k y e => by cases e⟩ (fun i σ H1 hi p => ?_) (fun σ H' p => ?_)⟩
    · obtain ⟨v5, v6, rfl, s1, t1⟩ := p
      refine ⟨_, rfl, m, rfl, by omega, by omega, for_rng (n := m) (fun j σ H' => ∃ v6 : Option V, σ = [some (.ref a), some (.ref b), some (.ref d), some (.int m), some (.ref L), some (.int i), v6] ∧ Same H H' ∧ TS H' L (opTo m F c fr i ++ opRow m F c fr i j))
        ⟨v6, rfl, s1, by rw [show opRow m F c fr i 0 = [] from rfl, List.append_nil]; exact t1⟩ (fun j σ H2 hj p => ?_) (fun σ H' p => ?_)⟩
      · obtain ⟨v6, rfl, s2, t2⟩ := p
        have l1 := opTo_len (m := m) (F := F) (c := c) (fr := fr) i
        have l2 := opRow_len (m := m) (F := F) (c := c) (fr := fr) (i := i) j
        have l3 : i * (2 * m) ≤ m * (2 * m) := Nat.mul_le_mul_right _ (by omega)
        have small : ∀ n, n ≤ 900 → n < sizeLine := fun n h => Nat.lt_of_le_of_lt h (by decide)
        have len : (opTo m F c fr i ++ opRow m F c fr i j).length ≤ 840 := by rw [List.length_append]; omega
        refine ⟨_, rfl, _, rfl, d, _, _, _, rfl, rfl, SqL.of (s2 _ _ MB.at_), tab_at hi, _, rfl, r2 i, _, _, _, rfl, rfl, SqL.of (s2 _ _ (MB.row i hi)), tab_at hj, _, rfl, ?_⟩
        have go : ∀ H3, Same H H3 → TS H3 L (opTo m F c fr i ++ opRow m F c fr i (j + 1)) → ∃ v6 : Option V, [some (V.ref a), some (.ref b), some (.ref d), some (.int m), some (.ref L), some (.int i), some (.int j)] = [some (V.ref a), some (.ref b), some (.ref d), some (.int m), some (.ref L), some (.int i), v6] ∧ Same H H3 ∧ TS H3 L (opTo m F c fr i ++ opRow m F c fr i (j + 1)) :=
          fun H3 s3 t3 => ⟨_, rfl, s3, t3⟩
        by_cases e : fr i j = true
        · rw [e]
          refine iteT ?_
          obtain ⟨q2, hL2, _⟩ := id t2
          refine ⟨_, rfl, .inl ⟨rfl, _, SqL.of hL2⟩, _, rfl, _, rfl, _, rfl, _, _, rfl, rfl, _, rfl, _, rfl, b, _, _, _, rfl, rfl, SqL.of (s2 _ _ MC.at_), tab_at hi, _, rfl, r' i, _, _, _, rfl, rfl, SqL.of (s2 _ _ (MC.row i hi)), tab_at hj,
            by show 3 ≤ sizeLine; decide, fun p hp => ?_⟩
          have t3 := t2.same (same_new (o := .tup [V.int (i : Nat), V.int ((m : Int) + (j : Nat)), mI c i j]) hp)
          have s3 := s2.trans (same_new (o := .tup [V.int (i : Nat), V.int ((m : Int) + (j : Nat)), mI c i j]) hp)
          have hL3 := same_new (o := .tup [V.int (i : Nat), V.int ((m : Int) + (j : Nat)), mI c i j]) hp _ _ hL2
          refine ⟨L, _, _, rfl, rfl, hL3, by rw [tab_len]; exact small _ (by omega), ?_⟩
          have hp3 : upd H2 p (.tup [V.int (i : Nat), V.int ((m : Int) + (j : Nat)), mI c i j]) p = some (.tup (stepV (i, m + j, c i j))) := by rw [upd_same]; rfl
          have t4 := t3.push hp3 hL3
          have s4 := same_mut (o := .lst ((tab (opTo m F c fr i ++ opRow m F c fr i j).length fun k => .ref (q2 k)) ++ [.ref p])) s3 hL
          refine ⟨_, rfl, _, rfl, a, _, _, _, rfl, rfl, SqL.of (s4 _ _ MF.at_), tab_at hi, _, rfl, r i, _, _, _, rfl, rfl, SqL.of (s4 _ _ (MF.row i hi)), tab_at hj, _, _, rfl, rfl, _, rfl, ?_⟩
          by_cases e2 : 0 < F i j
          · rw [decide_eq_true e2]
            refine iteT ?_
            obtain ⟨q4, hL4, _⟩ := id t4
            refine ⟨_, rfl, .inl ⟨rfl, _, SqL.of hL4⟩, _, rfl, _, rfl, _, _, rfl, rfl, _, rfl, _, rfl, _, rfl, b, _, _, _, rfl, rfl, SqL.of (s4 _ _ MC.at_), tab_at hi, _, rfl, r' i, _, _, _, rfl, rfl, SqL.of (s4 _ _ (MC.row i hi)), tab_at hj, _, rfl,
              by show 3 ≤ sizeLine; decide, fun p5 hp5 => ?_⟩
            have t5 := t4.same (same_new (o := .tup [V.int ((m : Int) + (j : Nat)), V.int (i : Nat), .int (-c i j)]) hp5)
            have s5 := s4.trans (same_new (o := .tup [V.int ((m : Int) + (j : Nat)), V.int (i : Nat), .int (-c i j)]) hp5)
            have hL5 := same_new (o := .tup [V.int ((m : Int) + (j : Nat)), V.int (i : Nat), .int (-c i j)]) hp5 _ _ hL4
            have one : ([(i, m + j, c i j)] : List Stp3).length = 1 := rfl
            refine ⟨L, _, _, rfl, rfl, hL5, by rw [tab_len, List.length_append]; exact small _ (by omega), ?_⟩
            have t6 := t5.push (y := (m + j, i, -c i j)) (by rw [upd_same]; rfl) hL5
            refine go _ (same_mut s5 hL) ?_
            rw [opRow_succ]
            unfold opAt
            rw [if_pos e, if_pos e2]
            have el : opTo m F c fr i ++ (opRow m F c fr i j ++ [(i, m + j, c i j), (m + j, i, -c i j)]) = opTo m F c fr i ++ opRow m F c fr i j ++ [(i, m + j, c i j)] ++ [(m + j, i, -c i j)] := by simp
            rw [el]
            exact t6
          · rw [decide_eq_false e2]
            refine iteF (go _ s4 ?_)
            rw [opRow_succ]
            unfold opAt
            rw [if_pos e, if_neg e2]
            have el : opTo m F c fr i ++ (opRow m F c fr i j ++ [(i, m + j, c i j)]) = opTo m F c fr i ++ opRow m F c fr i j ++ [(i, m + j, c i j)] := by simp
            rw [el]
            exact t4
        · rw [Bool.not_eq_true] at e
          rw [e]
          refine iteF (go _ s2 ?_)
          rw [opRow_succ]
          unfold opAt
          rw [if_neg (by rw [e]; exact Bool.false_ne_true), List.append_nil]
          exact t2
      · obtain ⟨v6, rfl, s2, t2⟩ := p
        exact ⟨_, _, rfl, s2, by rw [opTo_succ]; exact t2⟩
    · obtain ⟨v5, v6, rfl, s1, t1⟩ := p
      exact ⟨_, rfl, k L H' s1 t1⟩
end
end EH

namespace EH
open PySem PySem.Spec PyProof.Rows L2
open OT (Stp3 LS Lab lt2 set1 better rl LI Done Trace Known Pass)
/-! ### a dict of ints -/
def IntD (H : Hp) (d : Addr) (val : Nat → Option V) (b : Nat) : Prop := ∃ kvs : List (Key × V), H d = some (.dK kvs) ∧ kvs.length ≤ b ∧ ∀ k : Nat, valV kvs (Sum.inl (k : Int)) = val k
theorem IntD.same {H H' : Hp} {d : Addr} {val : Nat → Option V} {b : Nat} (s : Same H H') (h : IntD H d val b) : IntD H' d val b := by
  obtain ⟨kvs, a, c⟩ := h
  exact ⟨kvs, s _ _ a, c⟩
theorem IntD.mono {H : Hp} {d : Addr} {val : Nat → Option V} {b b' : Nat} (h : IntD H d val b) (q : b ≤ b') : IntD H d val b' := by
  obtain ⟨kvs, a, c, e⟩ := h
  exact ⟨kvs, a, by omega, e⟩
theorem IntD.get {H : Hp} {d : Addr} {val : Nat → Option V} {b : Nat} (h : IntD H d val b) (k : Nat) : DGet H d (.int (k : Int)) (val k) := by
  obtain ⟨kvs, a, c, e⟩ := h
  rw [← e k]
  exact DGet.k (k := Sum.inl (k : Int)) a
theorem putK_len {kvs : List (Key × V)} {k : Key} {v : V} : (putK kvs k v).length ≤ kvs.length + 1 := by
  unfold putK
  split
  · rw [List.length_map]; omega
  · rw [List.length_append]; exact Nat.le_refl _
theorem IntD.put {H : Hp} {d : Addr} {val : Nat → Option V} {b : Nat} (h : IntD H d val b) (k : Nat) (v : V) (hb : b ≤ 1000000) :
    ∃ o, DPut H d (.int (k : Int)) v (upd H d o) ∧ IntD (upd H d o) d (set1 val k (some v)) (b + 1) := by
  obtain ⟨kvs, a, c, e⟩ := h
  refine ⟨.dK (putK kvs (Sum.inl (k : Int)) v), DPut.k (k := Sum.inl (k : Int)) a (Nat.lt_of_le_of_lt (show kvs.length ≤ 1000000 by omega) (by decide)), putK kvs (Sum.inl (k : Int)) v, upd_same, by have := putK_len (kvs := kvs) (k := Sum.inl (k : Int)) (v := v); omega, fun j => ?_⟩
  rw [valV_put]
  unfold set1
  by_cases q : j = k
  · subst q; rw [if_pos rfl, if_pos rfl]
  · rw [if_neg q, if_neg (fun z => q (by have := Sum.inl.inj z; omega)), e]
theorem IntD.ne {H : Hp} {d p : Addr} {val : Nat → Option V} {b : Nat} {o : HO} (h : IntD H d val b) (hp : H p = some o) (q : ∀ kvs, o ≠ .dK kvs) : d ≠ p := by
  obtain ⟨kvs, a, _⟩ := h
  intro e
  rw [e, hp] at a
  exact q kvs (Option.some.inj a)
theorem IntD.upd {H : Hp} {d p : Addr} {val : Nat → Option V} {b : Nat} {o : HO} (h : IntD H d val b) (q : d ≠ p) : IntD (upd H p o) d val b := by
  obtain ⟨kvs, a, c⟩ := h
  exact ⟨kvs, by rw [upd_ne q]; exact a, c⟩
/-! ### the way back -/
def spTraced : Sp := fun vs H Q _ => ∃ (d : Addr) (val : Nat → Option V) (b s0 goal n : Nat) (a : Nat → Nat), vs = [.ref d, .int s0, .int goal] ∧ IntD H d val b ∧ a 0 = s0 ∧ a n = goal ∧ (∀ k, k < n → val (a (k + 1)) = some (.int (a k))) ∧ (∀ k, k < n → a (k + 1) ≠ s0) ∧ n ≤ 1000000 ∧
  NewL H (vec (n + 1) fun k => (a k : Int)) Q
abbrev s_traced_way : Stmt := top 20
theorem sc_traced_way : FnScope ["previous", "start", "goal", "way"] ["previous", "start", "goal"] (defScope s_traced_way) := ⟨rfl, rfl, rfl, by decide +kernel, rfl, by decide +kernel, by decide +kernel⟩
theorem atI_lst {n : Nat} {f : Nat → V} : atI (tab (n + 1) f) (-1) = some (f n) := by
  rw [tab_succ]; exact atI_last _ _
theorem tab_rev : ∀ {n : Nat} {f : Nat → V}, (tab (n + 1) fun k => f (n - k)).reverse = tab (n + 1) f := by
  intro n f
  refine List.ext_getElem? fun i => ?_
  by_cases h : i < n + 1
  · rw [List.getElem?_reverse (by rw [tab_len]; exact h), tab_len, tab_get (by omega), tab_get h]
    congr 2; omega
  · rw [List.getElem?_eq_none (by rw [List.length_reverse, tab_len]; omega), List.getElem?_eq_none (by rw [tab_len]; omega)]
section
variable {P : Program} {w : World} {K : Fr} {mg : Str → Option Value} {base : Heap} {f : Addr} {fd : FuncData}
theorem ok_traced (T : Tx K mg) (A : At K mg "traced_way" s_traced_way ["previous", "start", "goal"] f fd) : Got P w K mg base CX0 1 "traced_way" ["previous", "start", "goal"] spTraced := by
  refine A.got (A.fn.ok sc_traced_way (fun vs H Q E h => ?_) (fun cdv A outer s H vs Q E hr h => ⟨_, by exact
    (pss_cons (ps_set (i := 3) sc_traced_way.nd rfl (Or.inl rfl) (pe_lst (pa_cons (pv 2) pa_nil)))
      (pss_cons (ps_while PassesOwn.never (pt_cmpR op_ne (pe_ix (ixL (K := K) rfl) (pv 3) (pe_un un_neg pe_int) (fun _ _ => rfl)) (pv 1) (nomark _)) (pss_one (ps_expr (pe_bm PySem.F.plainAttrs_list PySem.F.slot_list_append PySem.F.type_list_append mt_append (pv 3) (pa_cons (pe_dget (hu_of hr) (pv 0) (pe_ix (ixL (K := K) rfl) (pv 3) (pe_un un_neg pe_int) (fun _ _ => rfl)) (fun _ _ => rfl)) pa_nil)))))
      (pss_cons (ps_expr (pe_bm0 PySem.F.plainAttrs_list PySem.F.slot_list_reverse PySem.F.type_list_reverse mt_reverse (pv 3)))
      (pss_one (ps_ret (pv 3))))))
    , ?_⟩))
  · obtain ⟨d, val, b, s0, goal, n, a, rfl, _⟩ := h
    rfl
  · obtain ⟨d, val, b, s0, goal, n, a, rfl, D, h0, hn, hv, hne, hb, k⟩ := h
    refine ⟨_, rfl, by show 1 ≤ sizeLine; decide, fun W hW => ?_⟩
    refine ⟨fun m σ H' => ∃ j, m = n - j ∧ j ≤ n ∧ σ = [some (.ref d), some (.int s0), some (.int goal), some (.ref W)] ∧ Same H H' ∧ H' W = some (.lst (tab (j + 1) fun i => .int (a (n - i)))), ⟨n, 0, rfl, Nat.zero_le _, rfl, same_new hW, ?_⟩, ?_⟩
    · rw [upd_same]
      show some (HO.lst [V.int goal]) = some (HO.lst [V.int (a (n - 0))])
      rw [Nat.sub_zero, hn]
    · rintro m σ H1 ⟨j, rfl, hj, rfl, s1, hl⟩
      refine ⟨_, rfl, _, rfl, W, _, _, _, rfl, rfl, SqL.of hl, atI_lst, _, rfl, rfl, _, rfl, ?_⟩
      by_cases e : j = n
      · subst e
        have : decide (V.int (a (j - j) : Nat) = V.int (s0 : Nat)) = true := by rw [Nat.sub_self, h0]; exact decide_eq_true rfl
        rw [this]
        refine iteF ?_
        refine ⟨_, rfl, .inl ⟨rfl, _, SqL.of hl⟩, W, _, rfl, rfl, hl, ?_⟩
        refine ⟨_, rfl, k W _ (same_mut s1 hW) hW ?_⟩
        rw [upd_same]
        refine congrArg (fun l => some (HO.lst l)) ?_
        exact tab_rev (f := fun i => V.int (a i))
      · have hne2 : a (n - j) ≠ s0 := by
          have := hne (n - j - 1) (by omega)
          rw [show n - j - 1 + 1 = n - j by omega] at this
          exact this
        have : decide (V.int (a (n - j) : Nat) = V.int (s0 : Nat)) = false := decide_eq_false fun z => hne2 (by have := V.int.inj z; omega)
        rw [this]
        refine iteT ?_
        have hv2 := hv (n - j - 1) (by omega)
        rw [show n - j - 1 + 1 = n - j by omega] at hv2
        have g := (D.same s1).get (a (n - j))
        rw [hv2] at g
        refine ⟨fun σ' H' => σ' = [some (.ref d), some (.int s0), some (.int goal), some (.ref W)] ∧ Same H H' ∧ H' W = some (.lst (tab (j + 2) fun i => .int (a (n - i)))), fun σ' H' ⟨e1, e2, e3⟩ => ⟨n - (j + 1), by omega, j + 1, rfl, by omega, e1, e2, e3⟩, ?_⟩
        refine ⟨_, rfl, .inl ⟨rfl, _, SqL.of hl⟩, _, rfl, _, rfl, _, rfl, W, _, _, _, rfl, rfl, SqL.of hl, atI_lst, d, _, rfl, g, W, _, _, rfl, rfl, hl, by rw [tab_len]; exact Nat.lt_of_le_of_lt (show j + 1 ≤ 1000001 by omega) (by decide), ?_⟩
        refine ⟨rfl, same_mut s1 hW, ?_⟩
        rw [upd_same, tab_succ (n := j + 1)]
        rw [show n - j - 1 = n - (j + 1) by omega]
end
/-! ### entries of a way -/
/-- a list of pairs -/
def TP (H : Hp) (L : Addr) (n : Nat) (x y : Nat → Int) : Prop := ∃ q : Nat → Addr, H L = some (.lst (tab n fun k => .ref (q k))) ∧ ∀ k, k < n → H (q k) = some (.tup [.int (x k), .int (y k)])
theorem TP.same {H H' : Hp} {L : Addr} {n : Nat} {x y : Nat → Int} (s : Same H H') (h : TP H L n x y) : TP H' L n x y := by
  obtain ⟨q, a, b⟩ := h
  exact ⟨q, s _ _ a, fun k e => s _ _ (b k e)⟩
theorem TP.congr {H : Hp} {L : Addr} {n : Nat} {x y x' y' : Nat → Int} (h : TP H L n x y) (hx : ∀ k, k < n → x k = x' k) (hy : ∀ k, k < n → y k = y' k) : TP H L n x' y' := by
  obtain ⟨q, a, b⟩ := h
  exact ⟨q, a, fun k e => by rw [← hx k e, ← hy k e]; exact b k e⟩
section
variable {J : It} {n : Nat} {G : Hp → Prop} {Y : Nat → Hp → V → Hp → Prop} {g : TG} {te : TE} {vs : List Nat} {σ : L2.St} {H1 : Hp} {D : Addr} {Qd : Hp → Prop}
/-- each item is a new pair -/
theorem comp_pairs (w : Walk J n G Y) (x y : Nat → Int) (hD : H1 D = none) (hn : n ≤ 100000) (hG : ∀ H, Same H1 H → G H)
    (hs : ∀ i z H H', i < n → Same H1 H → Y i H z H' → ∀ F : VK, (∀ p H4, Same H H4 → H p = none → H4 p = some (.tup [.int (x i), .int (y i)]) → F (.ref p) H4) → g z (wipe σ vs) H' fun σ2 H2 => wipe σ2 vs = wipe σ vs ∧ te σ2 H2 F)
    (hd : ∀ H, Same H1 H → TP H D n x y → Qd H) (hg : GMono g) :
    ∃ W : Nat → Nat → Hp → Prop, (∃ m, W 0 m (upd H1 D (.lst []))) ∧ ∀ i m H, W i m H →
      (J.stop i H ∧ Qd H) ∨ (J.go i H ∧ ∃ Nx : Hp → Prop, (∀ H', Nx H' → ∃ m', m' < m ∧ W (i + 1) m' H') ∧ ∀ x H', J.yld i H x H' → g x (wipe σ vs) H' fun σ2 H2 => wipe σ2 vs = wipe σ vs ∧ tYes σ2 H2 fun b H3 =>
        if b = true then te σ2 H3 fun y H4 => ∃ acc, H4 D = some (.lst acc) ∧ acc.length < sizeLine ∧ Nx (upd H4 D (.lst (acc ++ [y]))) else Nx H3) := by
  refine lc_it w (fun i H => Same H1 H ∧ TP H D i x y) ⟨same_mut (Same.refl _) hD, fun _ => D, upd_same, fun k hk => absurd hk (Nat.not_lt_zero k)⟩ (fun i H _ p => hG H p.1) (fun i z H H' hi p yy => ?_) (fun H p => hd H p.1 p.2)
  obtain ⟨s, q, hl, hq⟩ := p
  refine hg z _ H' _ _ (fun σ2 H2 q => ⟨q.1, ?_⟩) (hs i z H H' hi s yy (fun y1 H4 => ∃ acc, H4 D = some (.lst acc) ∧ acc.length < sizeLine ∧ Same H1 (upd H4 D (.lst (acc ++ [y1]))) ∧ TP (upd H4 D (.lst (acc ++ [y1]))) D (i + 1) x y) fun p H4 s4 hp h4 => ?_)
  · exact q.2
  · have pD : p ≠ D := fun e => by rw [e, hl] at hp; cases hp
    refine ⟨_, s4 _ _ hl, ?_, same_mut (s.trans s4) hD, set1 q i p, ?_, fun k hk => ?_⟩
    · rw [tab_len]; exact Nat.lt_of_lt_of_le (by omega : i < 100001) (by decide)
    · unfold set1
      rw [upd_same, tab_succ, tab_congr (f := fun k => V.ref (if k = i then p else q k)) (g := fun k => V.ref (q k)) fun k hk => by rw [if_neg (by omega)], if_pos rfl]
    · unfold set1
      by_cases e : k = i
      · subst e; rw [if_pos rfl, upd_ne pD]; exact h4
      · rw [if_neg e]
        have h5 := s4 _ _ (hq k (by omega))
        have : q k ≠ D := fun z => by
          have h6 := s4 _ _ hl
          rw [z, h6] at h5; cases h5
        rw [upd_ne this]; exact h5
end
/-- the whole steps of two below an even end -/
theorem fits {z : Int} (h : 0 ≤ z) (h2 : z < 1000000000) : Builtin.Range.rangeFitsLong z = true := by
  unfold Builtin.Range.rangeFitsLong
  rw [Bool.and_eq_true]
  exact ⟨decide_eq_true (by omega), decide_eq_true (by omega)⟩
theorem two_steps {t : Nat} (h : t ≤ 100000) : RgC 0 ((2 * t : Nat) : Int) 2 t := by
  have e : Builtin.Range.rangeSize 0 ((2 * t : Nat) : Int) 2 = t := by
    unfold Builtin.Range.rangeSize
    rw [if_pos (by decide)]
    split <;> omega
  refine ⟨by decide, by decide, ?_, e⟩
  unfold Builtin.Range.small
  rw [e, fits (z := 0) (by omega) (by omega), fits (z := ((2 * t : Nat) : Int)) (by omega) (by omega), fits (z := 2) (by omega) (by omega), fits (z := (t : Int)) (by omega) (by omega), if_pos (by decide), fits (z := ((2 * t : Nat) : Int) + (2 - 1)) (by omega) (by omega)]
  simp
theorem walk_two {n : Nat} : Walk (Itc 0 2 n) n (fun _ => True) (YFn fun i => .int ((2 * i : Nat) : Int)) :=
  ⟨fun _ _ hi _ => hi, fun _ _ => Nat.le_refl _, fun i _ _ _ _ _ y => ⟨y.1, by rw [y.2]; exact congrArg V.int (by omega)⟩⟩
theorem tab_atZ {n i : Nat} {f : Nat → V} {z : Int} (e : z = (i : Int)) (h : i < n) : atI (tab n f) z = some (f i) := by rw [e]; exact tab_at h
theorem tab_atM {t i : Nat} {f : Nat → V} (h : i < t) : atI (tab (2 * t) f) (((2 * i : Nat) : Int) - 1) = some (f (if i = 0 then 2 * t - 1 else 2 * i - 1)) := by
  by_cases e : i = 0
  · subst e
    rw [if_pos rfl]
    obtain ⟨s, hs⟩ : ∃ s, 2 * t = s + 1 := ⟨2 * t - 1, by omega⟩
    rw [hs]
    exact atI_lst
  · rw [if_neg e]
    exact tab_atZ (by omega) (by omega)
def spLowered (K : Fr) : Sp := fun vs H Q _ => ∃ (W : Addr) (t m : Nat) (a : Nat → Nat), vs = [.ref W, .int m] ∧ SqL K H W (vec (2 * t) fun k => (a k : Int)) ∧ t ≤ 1000 ∧ ∀ L H', Same H H' → TP H' L t (fun k => (a (2 * k + 1) : Int)) (fun k => (a (2 * k) : Int) - m) → Q (.ref L) H'
def spRaised (K : Fr) : Sp := fun vs H Q _ => ∃ (W : Addr) (t m : Nat) (a : Nat → Nat), vs = [.ref W, .int m] ∧ SqL K H W (vec (2 * t) fun k => (a k : Int)) ∧ t ≤ 1000 ∧ ∀ L H', Same H H' → TP H' L t (fun k => (a (if k = 0 then 2 * t - 1 else 2 * k - 1) : Int)) (fun k => (a (2 * k) : Int) - m) → Q (.ref L) H'
abbrev s_lowered_entries : Stmt := top 21
theorem sc_lowered_entries : FnScope ["way", "size", "k"] ["way", "size"] (defScope s_lowered_entries) := ⟨rfl, rfl, rfl, by decide +kernel, rfl, by decide +kernel, by decide +kernel⟩
abbrev s_raised_entries : Stmt := top 22
theorem sc_raised_entries : FnScope ["way", "size", "k"] ["way", "size"] (defScope s_raised_entries) := ⟨rfl, rfl, rfl, by decide +kernel, rfl, by decide +kernel, by decide +kernel⟩
section
variable {P : Program} {w : World} {K : Fr} {mg : Str → Option Value} {base : Heap} {f : Addr} {fd : FuncData}
theorem ok_lowered (T : Tx K mg) (A : At K mg "lowered_entries" s_lowered_entries ["way", "size"] f fd) : Got P w K mg base CX0 1 "lowered_entries" ["way", "size"] (spLowered K) := by
  refine A.got (A.fn.ok sc_lowered_entries (fun vs H Q E h => ?_) (fun cdv A outer s H vs Q E hr h => ⟨_, by exact
    (pss_one (ps_ret (pe_lc (own := [("k", 2)]) rfl sc_lowered_entries.nd  (pi_range3 (by rfl) T.range (pa_cons pe_int (pa_cons (pe_callB (id := "len") (clen (K := K) rfl) (by rfl) T.len (by decide +kernel) (pa_cons (pv 0) pa_nil)) (pa_cons pe_int pa_nil)))) (blkOk_by (N := ["way", "size", "k"]) (sc := defScope s_lowered_entries) (own := [("k", 2)]) (by decide +kernel)) (fun _ _ _ _ _ => (pg_name (i := 2) sc_lowered_entries.nd rfl (Or.inl rfl))) (fun _ _ _ _ _ => pts_nil) (fun _ _ _ _ _ => (pe_tup (pa_cons (pe_ix (ixL (K := K) rfl) (pv 0) (pe_op op_add (pv 2) pe_int) (fun _ _ => rfl)) (pa_cons (pe_op op_sub (pe_ix (ixL (K := K) rfl) (pv 0) (pv 2) (fun _ _ => rfl)) (pv 1)) pa_nil)))))))
    , ?_⟩))
  · obtain ⟨W, t, m, a, rfl, _⟩ := h
    rfl
  · obtain ⟨W, t, m, a, rfl, hW, ht, k⟩ := h
    refine ⟨_, rfl, W, _, rfl, .inl hW, ?_⟩
    rw [vec_len]
    refine ⟨0, _, 2, t, rfl, two_steps (by omega), fun D hD => comp_pairs (walk_two (n := t)) (fun k => (a (2 * k + 1) : Int)) (fun k => (a (2 * k) : Int) - m) hD (by omega) (fun _ _ => trivial) (fun i z H1 H' hi s1 y F hF => ?_) (fun H' s1 hp => k D H' s1 hp) gm_name⟩
    obtain ⟨rfl, rfl⟩ := y
    refine ⟨rfl, _, rfl, _, rfl, _, _, rfl, rfl, W, _, _, _, rfl, rfl, s1.seq hW, tab_atZ (i := 2 * i + 1) (by omega) (by omega), _, rfl, _, rfl, W, _, _, _, rfl, rfl, s1.seq hW, tab_atZ (i := 2 * i) rfl (by omega), _, rfl, _, _, rfl, rfl, by show 2 ≤ sizeLine; decide, fun p hp => hF p _ (same_new hp) hp upd_same⟩
theorem ok_raised (T : Tx K mg) (A : At K mg "raised_entries" s_raised_entries ["way", "size"] f fd) : Got P w K mg base CX0 1 "raised_entries" ["way", "size"] (spRaised K) := by
  refine A.got (A.fn.ok sc_raised_entries (fun vs H Q E h => ?_) (fun cdv A outer s H vs Q E hr h => ⟨_, by exact
    (pss_one (ps_ret (pe_lc (own := [("k", 2)]) rfl sc_raised_entries.nd  (pi_range3 (by rfl) T.range (pa_cons pe_int (pa_cons (pe_callB (id := "len") (clen (K := K) rfl) (by rfl) T.len (by decide +kernel) (pa_cons (pv 0) pa_nil)) (pa_cons pe_int pa_nil)))) (blkOk_by (N := ["way", "size", "k"]) (sc := defScope s_raised_entries) (own := [("k", 2)]) (by decide +kernel)) (fun _ _ _ _ _ => (pg_name (i := 2) sc_raised_entries.nd rfl (Or.inl rfl))) (fun _ _ _ _ _ => pts_nil) (fun _ _ _ _ _ => (pe_tup (pa_cons (pe_ix (ixL (K := K) rfl) (pv 0) (pe_op op_sub (pv 2) pe_int) (fun _ _ => rfl)) (pa_cons (pe_op op_sub (pe_ix (ixL (K := K) rfl) (pv 0) (pv 2) (fun _ _ => rfl)) (pv 1)) pa_nil)))))))
    , ?_⟩))
  · obtain ⟨W, t, m, a, rfl, _⟩ := h
    rfl
  · obtain ⟨W, t, m, a, rfl, hW, ht, k⟩ := h
    refine ⟨_, rfl, W, _, rfl, .inl hW, ?_⟩
    rw [vec_len]
    refine ⟨0, _, 2, t, rfl, two_steps (by omega), fun D hD => comp_pairs (walk_two (n := t)) (fun k => (a (if k = 0 then 2 * t - 1 else 2 * k - 1) : Int)) (fun k => (a (2 * k) : Int) - m) hD (by omega) (fun _ _ => trivial) (fun i z H1 H' hi s1 y F hF => ?_) (fun H' s1 hp => k D H' s1 hp) gm_name⟩
    obtain ⟨rfl, rfl⟩ := y
    refine ⟨rfl, _, rfl, _, rfl, _, _, rfl, rfl, W, _, _, _, rfl, rfl, s1.seq hW, tab_atM hi, _, rfl, _, rfl, W, _, _, _, rfl, rfl, s1.seq hW, tab_atZ (i := 2 * i) rfl (by omega), _, rfl, _, _, rfl, rfl, by show 2 ≤ sizeLine; decide, fun p hp => hF p _ (same_new hp) hp upd_same⟩
end
def spTotal : Sp := fun vs H Q _ => ∃ (b L : Addr) (r : Nat → Addr) (m t : Nat) (c : Nat → Nat → Int) (I J : Nat → Nat), vs = [.ref b, .ref L] ∧ Mat H b r m m (mI c) ∧ TP H L t (fun k => (I k : Int)) (fun k => (J k : Int)) ∧ (∀ k, k < t → I k < m ∧ J k < m) ∧ t ≤ 1000 ∧ ∀ H', Same H H' → Q (.int (sumI t fun k => c (I k) (J k))) H'
abbrev s_total_cost : Stmt := top 23
theorem sc_total_cost : FnScope ["costs", "entries", "i", "j"] ["costs", "entries"] (defScope s_total_cost) := ⟨rfl, rfl, rfl, by decide +kernel, rfl, by decide +kernel, by decide +kernel⟩
section
variable {P : Program} {w : World} {K : Fr} {mg : Str → Option Value} {base : Heap} {f : Addr} {fd : FuncData}
theorem ok_total (T : Tx K mg) (A : At K mg "total_cost" s_total_cost ["costs", "entries"] f fd) : Got P w K mg base CX0 1 "total_cost" ["costs", "entries"] spTotal := by
  refine A.got (A.fn.ok sc_total_cost (fun vs H Q E h => ?_) (fun cdv A outer s H vs Q E hr h => ⟨_, by exact
    (pss_one (ps_ret (pe_callB (id := "sum") (csum (K := K) rfl rfl) (by rfl) T.sum (by decide +kernel) (pa_cons (pe_lc (own := [("i", 2), ("j", 3)]) rfl sc_total_cost.nd  (piL (K := K) rfl (pv 1)) (blkOk_by (N := ["costs", "entries", "i", "j"]) (sc := defScope s_total_cost) (own := [("i", 2), ("j", 3)]) (by decide +kernel)) (fun _ _ _ _ _ => (pgTup (K := K) (n := 2) rfl rfl (pgs_cons (pg_name (i := 2) sc_total_cost.nd rfl (Or.inl rfl)) (pgs_cons (pg_name (i := 3) sc_total_cost.nd rfl (Or.inl rfl)) pgs_nil)) rfl)) (fun _ _ _ _ _ => pts_nil) (fun _ _ _ _ _ => (pe_ix (ixL (K := K) rfl) (pe_ix (ixL (K := K) rfl) (pv 0) (pv 2) (fun _ _ => rfl)) (pv 3) (fun _ _ => rfl)))) pa_nil))))
    , ?_⟩))
  · obtain ⟨b, L, r, m, t, c, I, J, rfl, _⟩ := h
    rfl
  · obtain ⟨b, L, r, m, t, c, I, J, rfl, M, ⟨q, hL, hq⟩, hIJ, ht, k⟩ := h
    refine ⟨_, rfl, L, rfl, ⟨_, SqL.of hL⟩, fun D hD => comp_vals (walk_list (xs := tab t fun k => .ref (q k))) (fun k => .int (c (I k) (J k))) hD (by rw [tab_len]; omega) (fun H' s => SqL.of (s _ _ hL)) (fun i x H1 H' hi s1 y F hF => ?_) (fun H' s1 hl => ?_) gm_tup⟩
    · obtain ⟨rfl, e⟩ := y
      obtain ⟨hi', rfl⟩ := tab_of e
      obtain ⟨h1, h2⟩ := hIJ i hi'
      exact ⟨q i, _, rfl, SqT.of (s1 _ _ (hq i hi')), rfl, _, _, rfl, _, _, rfl, rfl, rfl, _, rfl, _, rfl, b, _, _, _, rfl, rfl, SqL.of (s1 _ _ M.at_), tab_at h1, _, rfl, r (I i), _, _, _, rfl, rfl, SqL.of (s1 _ _ (M.row _ h1)), tab_at h2, hF _ (Same.refl _)⟩
    · rw [tab_len] at hl
      exact ⟨D, _, rfl, sq_vec (SqL.of hl), k H' s1⟩
end
end EH

namespace EH
open PySem PySem.Spec PyProof.Rows L2
open OT (Stp3 LS Lab lt2 set1 better rl LI Done Trace Known Pass)
/-! ### the search -/
/-- the labels and whence they came, as the two dicts have them -/
structure Rep (H : Hp) (rd pd : Addr) (tq : Nat → Addr) (b : Nat) (st : LS) : Prop where
  r : IntD H rd (fun k => (st.R k).map fun _ => V.ref (tq k)) b
  t : ∀ k p, st.R k = some p → H (tq k) = some (.tup [.int p.1, .int p.2])
  p : IntD H pd (fun k => (st.P k).map fun (u : Nat) => V.int (u : Int)) b
  ne : rd ≠ pd
theorem Rep.same {H H' : Hp} {rd pd : Addr} {tq : Nat → Addr} {b : Nat} {st : LS} (s : Same H H') (h : Rep H rd pd tq b st) : Rep H' rd pd tq b st :=
  ⟨h.r.same s, fun k p e => s _ _ (h.t k p e), h.p.same s, h.ne⟩
theorem Rep.mono {H : Hp} {rd pd : Addr} {tq : Nat → Addr} {b b' : Nat} {st : LS} (h : Rep H rd pd tq b st) (q : b ≤ b') : Rep H rd pd tq b' st := ⟨h.r.mono q, h.t, h.p.mono q, h.ne⟩
theorem Rep.chg {H : Hp} {rd pd : Addr} {tq : Nat → Addr} {b : Nat} {st : LS} (h : Rep H rd pd tq b st) (x : Bool) : Rep H rd pd tq b { st with ch := x } := ⟨h.r, h.t, h.p, h.ne⟩
/-- a label is bettered: what the two stores leave -/
theorem Rep.put {H : Hp} {rd pd T : Addr} {tq : Nat → Addr} {b : Nat} {st : LS} (h : Rep H rd pd tq b st) (hb : b ≤ 1000000) {u v : Nat} {z : Lab} (hT : H T = some (.tup [.int z.1, .int z.2])) :
    ∃ o1 o2, DPut H rd (.int (v : Int)) (.ref T) (upd H rd o1) ∧ DPut (upd H rd o1) pd (.int (v : Int)) (.int (u : Int)) (upd (upd H rd o1) pd o2) ∧
      Rep (upd (upd H rd o1) pd o2) rd pd (set1 tq v T) (b + 1) ⟨set1 st.R v (some z), set1 st.P v (some u), true⟩ := by
  obtain ⟨o1, d1, e1⟩ := h.r.put v (.ref T) hb
  have p1 : IntD (upd H rd o1) pd (fun k => (st.P k).map fun (u : Nat) => V.int (u : Int)) b := h.p.upd h.ne.symm
  obtain ⟨o2, d2, e2⟩ := p1.put v (.int (u : Int)) hb
  have kr : ∀ c xs, H c = some (.tup xs) → c ≠ rd ∧ c ≠ pd := fun c xs e => ⟨fun q => (h.r.ne e (fun _ w => nomatch w)) q.symm, fun q => (h.p.ne e (fun _ w => nomatch w)) q.symm⟩
  refine ⟨o1, o2, d1, d2, ?_, fun k p e => ?_, ?_, h.ne⟩
  · have := e1.upd (o := o2) h.ne
    obtain ⟨kvs, a1, a2, a3⟩ := this
    refine ⟨kvs, a1, a2, fun k => ?_⟩
    rw [a3 k]
    unfold set1
    dsimp only
    by_cases q : k = v
    · rw [if_pos q, if_pos q, if_pos q]; rfl
    · rw [if_neg q, if_neg q, if_neg q]
  · unfold set1 at e ⊢
    dsimp only at e ⊢
    by_cases q : k = v
    · rw [if_pos q] at e ⊢
      obtain rfl := Option.some.inj e
      rw [upd_ne (kr _ _ hT).2, upd_ne (kr _ _ hT).1]; exact hT
    · rw [if_neg q] at e ⊢
      have := h.t k p e
      rw [upd_ne (kr _ _ this).2, upd_ne (kr _ _ this).1]; exact this
  · obtain ⟨kvs, a1, a2, a3⟩ := e2
    refine ⟨kvs, a1, a2, fun k => ?_⟩
    rw [a3 k]
    unfold set1
    dsimp only
    by_cases q : k = v
    · rw [if_pos q, if_pos q]; rfl
    · rw [if_neg q, if_neg q]
theorem lex_lt2 {a b : Lab} : HT.lexLt [a.1, a.2] [b.1, b.2] = lt2 a b := rfl
theorem fold_take {As : List Stp3} {j : Nat} {y : Stp3} {st : LS} (h : As[j]? = some y) : (As.take (j + 1)).foldl rl st = rl ((As.take j).foldl rl st) y := by
  rw [List.take_succ, h]
  show (As.take j ++ [y]).foldl rl st = _
  rw [List.foldl_append]; rfl
def spSearch : Sp := fun vs H Q _ => ∃ (L : Addr) (As : List Stp3) (s0 goal N : Nat) (g : Nat → Int), vs = [.ref L, .int s0, .int goal] ∧ TS H L As ∧ As.length ≤ 1000 ∧ N ≤ 100 ∧ (∀ y, y ∈ As → y.2.1 < N) ∧ s0 < N ∧ (∀ y, y ∈ As → g y.2.1 ≤ g y.1 + y.2.2) ∧
  (∀ st, Done As s0 st → st.R goal = none → NewL H [] Q) ∧ ∀ st n a, Done As s0 st → Trace As s0 goal st n a → n ≤ 1000000 → NewL H (vec (n + 1) fun k => (a k : Int)) Q
abbrev s_cheapest_way : Stmt := top 19
theorem sc_cheapest_way : FnScope ["steps", "start", "goal", "reached", "previous", "changed", "tail", "head", "cost", "found"] ["steps", "start", "goal"] (defScope s_cheapest_way) := ⟨rfl, rfl, rfl, by decide +kernel, rfl, by decide +kernel, by decide +kernel⟩
section
variable {P : Program} {w : World} {K : Fr} {mg : Str → Option Value} {base : Heap} {f : Addr} {fd : FuncData}
theorem ok_search (T : Tx K mg) (A : At K mg "cheapest_way" s_cheapest_way ["steps", "start", "goal"] f fd) (G1 : Got P w K mg base CX0 1 "traced_way" ["previous", "start", "goal"] spTraced) :
    Got P w K mg base CX0 2 "cheapest_way" ["steps", "start", "goal"] spSearch := by
  obtain ⟨f_traced_way, fd1, m_traced_way, k_traced_way, b_traced_way, F_traced_way⟩ := G1
  refine A.got (A.fn.ok sc_cheapest_way (fun vs H Q E h => ?_) (fun cdv A outer s H vs Q E hr h => ⟨_, by exact
    (pss_cons (ps_set (i := 3) sc_cheapest_way.nd rfl (Or.inl rfl) (pe_disp (pps_cons (pv 1) (pe_tup (pa_cons pe_int (pa_cons pe_int pa_nil))) pps_nil) (by rfl) (by rfl) (fun z => by cases z) (by decide)))
      (pss_cons (ps_set (i := 4) sc_cheapest_way.nd rfl (Or.inl rfl) pe_dnewK)
      (pss_cons (ps_set (i := 5) sc_cheapest_way.nd rfl (Or.inl rfl) pe_bl)
      (pss_cons (ps_while PassesOwn.never (pt_val (pv 5)) (pss_cons (ps_set (i := 5) sc_cheapest_way.nd rfl (Or.inl rfl) pe_bl)
      (pss_one (ps_for PassesOwn.never rfl (piL (K := K) rfl (pv 0)) (pgTup (K := K) (n := 3) rfl rfl (pgs_cons (pg_name (i := 6) sc_cheapest_way.nd rfl (Or.inl rfl)) (pgs_cons (pg_name (i := 7) sc_cheapest_way.nd rfl (Or.inl rfl)) (pgs_cons (pg_name (i := 8) sc_cheapest_way.nd rfl (Or.inl rfl)) pgs_nil))) rfl) (pss_one (ps_if (pt_cmp (pc_din (hu_of hr) (pv 6) (pv 3))) (pss_cons (ps_set (i := 9) sc_cheapest_way.nd rfl (Or.inl rfl) (pe_tup (pa_cons (pe_op op_add (pe_ix (ixT (K := K) rfl) (pe_dget (hu_of hr) (pv 3) (pv 6) (fun _ _ => rfl)) pe_int (fun _ _ => rfl)) (pv 8)) (pa_cons (pe_op op_add (pe_ix (ixT (K := K) rfl) (pe_dget (hu_of hr) (pv 3) (pv 6) (fun _ _ => rfl)) pe_int (fun _ _ => rfl)) pe_int) pa_nil))))
      (pss_one (ps_if (PW.pt (pw_or (pt_cmp (pc_dnotin (hu_of hr) (pv 7) (pv 3))) (pw_or1 (pt_cmpR (op_ltT hr.units0) (pv 9) (pe_dget (hu_of hr) (pv 3) (pv 7) (fun _ _ => rfl)) (nomark _))))) (pss_cons (ps_dput (hu_of hr) (pv 3) (pv 7) (pv 9) rfl)
      (pss_cons (ps_dput (hu_of hr) (pv 4) (pv 7) (pv 6) rfl)
      (pss_one (ps_set (i := 5) sc_cheapest_way.nd rfl (Or.inl rfl) pe_bl)))) pss_nil))) pss_nil))))))
      (pss_cons (ps_if (pt_cmp (pc_dnotin (hu_of hr) (pv 2) (pv 3))) (pss_one (ps_ret (pe_lst pa_nil))) pss_nil)
      (pss_one (ps_ret (pe_call F_traced_way (hr.mono (by decide)) rfl m_traced_way k_traced_way b_traced_way .nil pass0 (by exact (pa_cons (pv 4) (pa_cons (pv 1) (pa_cons (pv 2) pa_nil))))))))))))
    , ?_⟩))
  · obtain ⟨L, As, s0, goal, N, g, rfl, _⟩ := h
    rfl
  · obtain ⟨L, As, s0, goal, N, g, rfl, hL, hlen, hN, hlt, hs, hg, k0, k1⟩ := h
    -- reached = {start: (0, 0)}
    intro rd hrd
    refine ⟨_, rfl, by show 2 ≤ sizeLine; decide, fun t0 ht0 => ⟨?_, [(Sum.inl (s0 : Int), .ref t0)], rfl, (by show 1 ≤ 15; decide), ?_⟩⟩
    · rw [upd_ne (fun e => by rw [← e, upd_same] at ht0; cases ht0), upd_same]
    have ht0' : t0 ≠ rd := fun e => by rw [e, upd_same] at ht0; cases ht0
    have ht0H : H t0 = none := by rw [upd_ne ht0'] at ht0; exact ht0
    have s1 : Same H (upd (upd (upd H rd (.dK [])) t0 (.tup [V.int 0, V.int 0])) rd (.dK (mergeK [] [(Sum.inl (s0 : Int), .ref t0)]))) := same_mut ((same_new hrd).trans (same_new ht0)) hrd
    -- previous = {}
    intro pd hpd
    have s2 := s1.trans (same_new (o := .dK []) hpd)
    have hpdH : H pd = none := s1.free hpd
    have hrp : rd ≠ pd := fun e => by rw [← e, upd_same] at hpd; cases hpd
    have htp : t0 ≠ pd := fun e => by rw [← e, upd_ne ht0', upd_same] at hpd; cases hpd
    let st0 : LS := ⟨set1 (fun _ => none) s0 (some (0, 0)), fun _ => none, true⟩
    have rep0 : Rep (upd (upd (upd (upd H rd (.dK [])) t0 (.tup [V.int 0, V.int 0])) rd (.dK (mergeK [] [(Sum.inl (s0 : Int), .ref t0)]))) pd (.dK [])) rd pd (fun _ => t0) 1 st0 := by
      refine ⟨⟨mergeK [] [(Sum.inl (s0 : Int), .ref t0)], by rw [upd_ne hrp, upd_same], Nat.le_refl 1, fun k => ?_⟩, fun k p e => ?_, ⟨[], upd_same, by decide, fun k => rfl⟩, hrp⟩
      · show valV (putK [] (Sum.inl (s0 : Int)) (V.ref t0)) (Sum.inl (k : Int)) = _
        rw [valV_put]
        show _ = (set1 (fun _ => none) s0 (some (0, 0)) k : Option Lab).map _
        unfold set1
        by_cases q : k = s0
        · subst q; rw [if_pos rfl, if_pos rfl]; rfl
        · rw [if_neg (fun z => q (by have := Sum.inl.inj z; omega)), if_neg q]; rfl
      · have e' : set1 (fun _ => none) s0 (some ((0, 0) : Lab)) k = some p := e
        unfold set1 at e'
        split at e'
        · obtain rfl := Option.some.inj e'
          rw [upd_ne htp, upd_ne ht0', upd_same]
        · cases e'
    generalize upd (upd (upd (upd H rd (.dK [])) t0 (.tup [V.int 0, V.int 0])) rd (.dK (mergeK [] [(Sum.inl (s0 : Int), .ref t0)]))) pd (.dK []) = H2 at s2 rep0 ⊢
    let M : Int := ((N + 3) * (As.length + 1) : Nat)
    have li0 : LI As M s0 g ((0 * As.length : Nat) : Int) st0 := by
      have st0R : ∀ v p, st0.R v = some p → v = s0 ∧ p = (0, 0) := fun v p e => by
        have e' : set1 (fun _ => none) s0 (some ((0, 0) : Lab)) v = some p := e
        unfold set1 at e'
        split at e'
        · rename_i q; exact ⟨q, (Option.some.inj e').symm⟩
        · cases e'
      refine ⟨(OT.set1_same (f := fun _ => none) (v := s0) (x := some ((0, 0) : Lab))), fun v p e => ?_, fun v p e => ?_, fun v p e => ?_, fun v p e ne => ?_⟩
      · obtain ⟨rfl, rfl⟩ := st0R v p e; simp
      · obtain ⟨rfl, rfl⟩ := st0R v p e; simp
      · obtain ⟨rfl, rfl⟩ := st0R v p e
        refine ⟨[v], ?_⟩
        have : OT.enc M (0, 0) = 0 := by unfold OT.enc; simp
        rw [this]; exact .nil rfl
      · exact absurd (st0R v p e).1 ne
    refine ⟨fun m σ H' => ∃ (kk : Nat) (st : LS) (tq : Nat → Addr) (v6 v7 v8 v9 : Option V), m = N + 2 - kk ∧ kk ≤ N + 1 ∧ σ = [some (.ref L), some (.int s0), some (.int goal), some (.ref rd), some (.ref pd), some (.bl st.ch), v6, v7, v8, v9] ∧ Same H H' ∧
        Rep H' rd pd tq (kk * As.length + 1) st ∧ LI As M s0 g ((kk * As.length : Nat) : Int) st ∧ (st.ch = true → kk ≤ N ∧ Known As M s0 kk st.R) ∧
        (st.ch = false → ∀ y, y ∈ As → ∀ p, st.R y.1 = some p → better st.R y.2.1 (p.1 + y.2.2, p.2 + 1) = false),
      ⟨N + 2, 0, st0, fun _ => t0, none, none, none, none, rfl, by omega, rfl, s2, by rw [Nat.zero_mul]; exact rep0, li0, fun _ => ⟨by omega, OT.known_start li0⟩, fun e => nomatch e⟩, ?_⟩
    rintro m σ H3 ⟨kk, st, tq, v6, v7, v8, v9, rfl, hkk, rfl, s3, rep, li, hk, hfix⟩
    have kl : kk * As.length ≤ 101 * 1000 := Nat.mul_le_mul (by omega) hlen
    refine ⟨_, rfl, _, rfl, ?_⟩
    cases hch : st.ch with
    | false =>
      refine iteF ?_
      have D := OT.done_of li (hfix hch)
      have gd := rep.r.get goal
      refine ⟨_, rfl, _, rfl, rd, _, rfl, gd, _, rfl, ?_⟩
      cases hgoal : st.R goal with
      | none =>
        refine iteT ⟨by show 0 ≤ sizeLine; decide, fun p hp => k0 st D hgoal p _ (s3.trans (same_new hp)) (s3.free hp) upd_same⟩
      | some p =>
        have np := D.nn goal p hgoal
        have hb := (li.steps goal p hgoal).2
        obtain ⟨a, Tr⟩ := OT.trace_of D p.2.toNat goal p.1 (by rw [hgoal]; congr 1; apply Prod.ext <;> simp only <;> omega)
        refine iteF ⟨_, rfl, _, rfl, _, rfl, pd, _, _, s0, goal, p.2.toNat, a, rfl, rep.p, Tr.first, Tr.last, fun k hk => ?_, fun k hk => ?_, by omega, fun q H4 s4 nq hq => k1 st _ a D Tr (by omega) q H4 (s3.trans s4) (s3.free nq) hq⟩
        · rw [Tr.prev k hk]; rfl
        · intro e
          have := Tr.inj (i := k + 1) (j := 0) (by omega) (by omega) (by rw [e, Tr.first])
          omega
    | true =>
      obtain ⟨hkN, hknown⟩ := hk hch
      refine iteT ?_
      have hM : ((kk * As.length : Nat) : Int) + As.length < M := by
        have h1 : kk * As.length ≤ N * As.length := Nat.mul_le_mul_right _ hkN
        have h2 : (N + 3) * (As.length + 1) = N * As.length + 3 * As.length + (N + 3) := by rw [Nat.add_mul, Nat.mul_add, Nat.mul_one]; omega
        show _ < (((N + 3) * (As.length + 1) : Nat) : Int)
        rw [h2]; omega
      have M0 : 0 < M := by omega
      let st1 : LS := { st with ch := false }
      have li1 : LI As M s0 g ((kk * As.length : Nat) : Int) st1 := ⟨li.start, li.low, li.steps, li.way, li.from_⟩
      refine ⟨fun σ' H' => ∃ (st' : LS) (tq : Nat → Addr) (v6 v7 v8 v9 : Option V), st' = As.foldl rl st1 ∧ σ' = [some (.ref L), some (.int s0), some (.int goal), some (.ref rd), some (.ref pd), some (.bl st'.ch), v6, v7, v8, v9] ∧ Same H H' ∧ Rep H' rd pd tq (kk * As.length + 1 + As.length) st',
        fun σ' H' h => ?_, ?_⟩
      · -- a pass more
        obtain ⟨st', tq', w6, w7, w8, w9, e, rfl, s4, rep'⟩ := h
        have ps := OT.pass_ok hg As _ st1 (fun _ h => h) li1 hM
        rw [← e] at ps
        have km : (kk + 1) * As.length = kk * As.length + As.length := by rw [Nat.add_mul, Nat.one_mul]
        refine ⟨N + 2 - (kk + 1), by omega, kk + 1, st', tq', w6, w7, w8, w9, rfl, by omega, rfl, s4, rep'.mono (by omega), ?_, fun hc => ?_, fun hc => ?_⟩
        · have := ps.inv
          rw [km]
          have e2 : ((kk * As.length + As.length : Nat) : Int) = ((kk * As.length : Nat) : Int) + As.length := by omega
          rw [e2]; exact this
        · refine ⟨?_, OT.known_pass ps hknown⟩
          rcases Nat.lt_or_ge kk N with q | q
          · omega
          · have e3 : kk = N := by omega
            subst e3
            have all := OT.known_all (L := As) (M := M) (s0 := s0) (R := st1.R) M0 hg hlt hs hknown
            have same := OT.stable_pass hg As _ st1 (fun _ h => h) li1 (by
              have : 0 ≤ As.length := Nat.zero_le _
              have h2 : (kk + 3) * (As.length + 1) = kk * As.length + 3 * As.length + (kk + 3) := by rw [Nat.add_mul, Nat.mul_add, Nat.mul_one]; omega
              show _ < (((kk + 3) * (As.length + 1) : Nat) : Int)
              rw [h2]; omega) all
            rw [← e] at same
            rw [same] at hc
            cases hc
        · obtain ⟨_, c2, c3⟩ := ps.still hc
          rw [c2]
          exact c3
      · -- changed = False; the steps
        obtain ⟨q, hLl, hq⟩ := hL
        refine ⟨_, rfl, L, rfl, ⟨_, SqL.of (s3 _ _ hLl)⟩, for_it (walk_list (xs := tab As.length fun k => .ref (q k))) (fun j σ' H' => ∃ (st' : LS) (tq : Nat → Addr) (v6 v7 v8 v9 : Option V), st' = (As.take j).foldl rl st1 ∧ σ' = [some (.ref L), some (.int s0), some (.int goal), some (.ref rd), some (.ref pd), some (.bl st'.ch), v6, v7, v8, v9] ∧ Same H H' ∧ Rep H' rd pd tq (kk * As.length + 1 + j) st')
          ⟨st1, tq, v6, v7, v8, v9, rfl, rfl, s3, rep.chg false⟩ (fun j σ' H' _ p => ?_) (fun j x σ' H4 H5 hj p y => ?_) (fun σ' H' p => ?_)⟩
        · obtain ⟨_, _, _, _, _, _, _, _, s4, _⟩ := p
          exact SqL.of (s4 _ _ hLl)
        · obtain ⟨st', tq', w6, w7, w8, w9, e, rfl, s4, rep'⟩ := p
          obtain ⟨rfl, ex⟩ := y
          obtain ⟨hj', rfl⟩ := tab_of ex
          obtain ⟨y, hy⟩ : ∃ y, As[j]? = some y := ⟨As[j], List.getElem?_eq_getElem hj'⟩
          have hty := s4 _ _ (hq j y hy)
          have step : (As.take (j + 1)).foldl rl st1 = rl st' y := by rw [fold_take hy, e]
          obtain ⟨u, v, z⟩ := y
          refine ⟨q j, _, rfl, SqT.of hty, rfl, _, _, rfl, _, _, rfl, _, _, rfl, rfl, ?_⟩
          refine ⟨_, rfl, _, rfl, rd, _, rfl, rep'.r.get u, _, rfl, ?_⟩
          cases hu : st'.R u with
          | none =>
            refine iteF ⟨st', tq', _, _, _, _, ?_, rfl, s4, rep'.mono (by omega)⟩
            rw [step]
            unfold rl
            simp only [hu]
          | some p =>
            refine iteT ?_
            have gu : DGet H5 rd (.int (u : Int)) (some (.ref (tq' u))) := by
              have := rep'.r.get u
              rw [hu] at this
              exact this
            have htu := rep'.t u p hu
            have at0 : atI [V.int p.1, V.int p.2] 0 = some (V.int p.1) := atI_nat (j := 0) rfl
            have at1 : atI [V.int p.1, V.int p.2] 1 = some (V.int p.2) := atI_nat (j := 1) rfl
            refine ⟨_, rfl, _, rfl, rd, _, rfl, gu, tq' u, _, _, _, rfl, rfl, SqT.of htu, at0, _, rfl, _, _, rfl, rfl, _, rfl, _, rfl, rd, _, rfl, gu, tq' u, _, _, _, rfl, rfl, SqT.of htu, at1, _, _, rfl, rfl, by show 2 ≤ sizeLine; decide, fun T hT => ?_⟩
            have sT := same_new (o := .tup [V.int (p.1 + z), V.int (p.2 + 1)]) hT
            have rep6 := rep'.same sT
            have s6 := s4.trans sT
            have hTt : upd H5 T (.tup [V.int (p.1 + z), V.int (p.2 + 1)]) T = some (.tup [.int (p.1 + z), .int (p.2 + 1)]) := upd_same
            have yes : better st'.R v (p.1 + z, p.2 + 1) = true → rl st' (u, v, z) = ⟨set1 st'.R v (some (p.1 + z, p.2 + 1)), set1 st'.P v (some u), true⟩ := fun b => by
              unfold rl
              simp only [hu]
              rw [if_pos b]
            have no : better st'.R v (p.1 + z, p.2 + 1) = false → rl st' (u, v, z) = st' := fun b => by
              unfold rl
              simp only [hu]
              rw [if_neg (by rw [b]; exact Bool.false_ne_true)]
            obtain ⟨o1, o2, d1, d2, rp⟩ := rep6.put (z := (p.1 + z, p.2 + 1)) (u := u) (v := v) (by omega) hTt
            have nrd : H rd = none := hrd
            have s7 : Same H (upd (upd (upd H5 T (.tup [V.int (p.1 + z), V.int (p.2 + 1)])) rd o1) pd o2) := same_mut (same_mut s6 hrd) hpdH
            have gv := rep6.r.get v
            refine ⟨_, rfl, _, rfl, rd, _, rfl, gv, _, rfl, ?_⟩
            cases hv : st'.R v with
            | none =>
              refine iteT (iteT ?_)
              refine ⟨_, rfl, _, rfl, _, rfl, rd, _, rfl, d1, _, rfl, _, rfl, _, rfl, pd, _, rfl, d2, ?_⟩
              refine ⟨_, _, _, _, _, _, step.trans (yes (by unfold better; rw [hv])) |>.symm, rfl, s7, rp.mono (by omega)⟩
            | some pv' =>
              refine iteF ?_
              have gv2 : DGet (upd H5 T (.tup [V.int (p.1 + z), V.int (p.2 + 1)])) rd (.int (v : Int)) (some (.ref (tq' v))) := by
                rw [hv] at gv; exact gv
              refine ⟨_, rfl, _, rfl, _, rfl, rd, _, rfl, gv2, T, tq' v, [p.1 + z, p.2 + 1], [pv'.1, pv'.2], rfl, rfl, SqT.of hTt, SqT.of (rep6.t v pv' hv), _, rfl, ?_⟩
              have eb : better st'.R v (p.1 + z, p.2 + 1) = HT.lexLt [p.1 + z, p.2 + 1] [pv'.1, pv'.2] := by unfold better; rw [hv]; rfl
              cases hb : HT.lexLt [p.1 + z, p.2 + 1] [pv'.1, pv'.2] with
              | true =>
                refine iteT ?_
                refine ⟨_, rfl, _, rfl, _, rfl, rd, _, rfl, d1, _, rfl, _, rfl, _, rfl, pd, _, rfl, d2, ?_⟩
                refine ⟨_, _, _, _, _, _, step.trans (yes (eb.trans hb)) |>.symm, rfl, s7, rp.mono (by omega)⟩
              | false =>
                refine iteF ⟨st', tq', _, _, _, _, (step.trans (no (eb.trans hb))).symm, rfl, s6, rep6.mono (by omega)⟩
        · obtain ⟨st', tq', w6, w7, w8, w9, e, rfl, s4, rep'⟩ := p
          rw [tab_len] at e rep'
          rw [List.take_length] at e
          exact ⟨st', tq', w6, w7, w8, w9, e, rfl, s4, rep'⟩
end
end EH

/-! A flow while an entry is raised, and behind that. -/
namespace OT
set_option linter.unusedVariables false
open EH
structure Mid (m : Nat) (F c : IM) (fr : Free) (r0 c0 : Nat) (G : IM) : Prop where
  nn : ∀ i j, i < m → j < m → 0 ≤ G i j
  row : ∀ i, i < m → sumI m (fun j => G i j) = sumI m fun j => F i j
  col : ∀ j, j < m → sumI m (fun i => G i j) = sumI m fun i => F i j
  off : ∀ i j, i < m → j < m → fr i j = false → ¬ (i = r0 ∧ j = c0) → G i j = F i j
  at_ : F r0 c0 ≤ G r0 c0
  cost : costF m G c ≤ costF m F c
structure RaisedF (m : Nat) (F c : IM) (fr : Free) (r0 c0 : Nat) (G : IM) : Prop where
  mid : Mid m F c fr r0 c0 G
  fit : ∃ f, Fit m G c fr f ∧ 0 < c r0 c0 + f r0 - f (m + c0)
theorem mid_start {m F c fr r0 c0} (nn : ∀ i j, i < m → j < m → 0 ≤ F i j) : Mid m F c fr r0 c0 F :=
  ⟨nn, fun _ _ => rfl, fun _ _ => rfl, fun _ _ _ _ _ _ => rfl, Int.le_refl _, Int.le_refl _⟩
theorem mid_push {m F c fr r0 c0 G f t I J A} (M : Mid m F c fr r0 c0 G) (R : Round m G c fr r0 c0 f t I J) (hf : fr r0 c0 = false) (hA : 0 ≤ A) (hl : ∀ k, k < t → A ≤ G (I k) (J k))
    (hc : (sumI t fun k => c (shift t I k) (J k)) ≤ sumI t fun k => c (I k) (J k)) : Mid m F c fr r0 c0 (pushed G A t I J) where
  nn := pushed_nn R M.nn hA hl
  row := fun i hi => (pushed_row R i).trans (M.row i hi)
  col := fun j hj => (pushed_col R j).trans (M.col j hj)
  off := fun i j hi hj h ne => (pushed_off R h ne).trans (M.off i j hi hj h ne)
  at_ := by have := pushed_at (A := A) R hf hA; have := M.at_; omega
  cost := by
    rw [pushed_cost R]
    have := M.cost
    have h2 : A * ((sumI t fun k => c (shift t I k) (J k)) - sumI t fun k => c (I k) (J k)) ≤ 0 := Int.mul_nonpos_of_nonneg_of_nonpos hA (by omega)
    omega
end OT
namespace OT
theorem nodup_le {m F c fr r0 c0 f t I J} (R : Round m F c fr r0 c0 f t I J) : t ≤ m := by
  have h1 : ((List.range t).map I).Nodup := List.pairwise_map.mpr (List.Pairwise.imp_of_mem (fun ha hb ne e => ne (R.inj _ _ (List.mem_range.mp ha) (List.mem_range.mp hb) e)) List.nodup_range)
  have := nodup_len (N := m) h1 fun z hz => by
    obtain ⟨k, hk, rfl⟩ := List.mem_map.mp hz
    exact R.ilt k (List.mem_range.mp hk)
  rw [List.length_map, List.length_range] at this
  exact this
end OT

namespace EH
open PySem PySem.Spec PyProof.Rows L2
open OT (Stp3 LS Lab Done Trace Fit Round Mid RaisedF cnt shift pushed IM)
/-! ### an entry is raised -/
theorem row_ne {H : Hp} {a L : Addr} {r : Nat → Addr} {m n : Nat} {F : Nat → Nat → Int} {q : Nat → Addr} (M : Mat H a r m m (mI F)) (hL : H L = some (.lst (tab n fun k => .ref (q k)))) {i : Nat} (hi : i < m) : L ≠ r i := fun e => by
  have h := M.row i hi
  rw [← e, hL] at h
  have h2 := HO.lst.inj (Option.some.inj h)
  have h3 := congrArg (fun l => l[0]?) h2
  have h0 : 0 < m := by omega
  have e1 : (tab m (mI F i))[0]? = some (mI F i 0) := tab_get h0
  by_cases hn : 0 < n
  · have h4 : (tab n fun k => V.ref (q k))[0]? = (tab m (mI F i))[0]? := h3
    rw [tab_get hn, e1] at h4
    cases Option.some.inj h4
  · have h4 : (tab n fun k => V.ref (q k))[0]? = (tab m (mI F i))[0]? := h3
    rw [e1, List.getElem?_eq_none (by rw [tab_len]; omega)] at h4
    cases h4
theorem TP.but {H H' : Hp} {a L : Addr} {r : Nat → Addr} {m n : Nat} {F : Nat → Nat → Int} {x y : Nat → Int} (M : Mat H a r m m (mI F)) (b : But H H' r m) (h : TP H L n x y) : TP H' L n x y := by
  obtain ⟨q, hl, hq⟩ := h
  refine ⟨q, b _ _ hl fun i hi => row_ne M hl hi, fun k hk => b _ _ (hq k hk) fun i hi e => ?_⟩
  have := M.row i hi
  rw [← e, hq k hk] at this
  cases this
/-- the rows of the flow are no other list's -/
structure Apart (r : Nat → Addr) (m : Nat) (b d : Addr) (r' r2 : Nat → Addr) : Prop where
  cb : ∀ i, i < m → b ≠ r i
  fb : ∀ i, i < m → d ≠ r i
  cr : ∀ i j, i < m → j < m → r' i ≠ r j
  fr : ∀ i j, i < m → j < m → r2 i ≠ r j
def spRaise : Sp := fun vs H Q _ => ∃ (a b d : Addr) (r r' r2 : Nat → Addr) (m r0 c0 : Nat) (F c : IM) (fr : Nat → Nat → Bool) (g : Nat → Int), vs = [.ref a, .ref b, .ref d, .int r0, .int c0] ∧ Mat H a r m m (mI F) ∧ Mat H b r' m m (mI c) ∧ Mat H d r2 m m (bM fr) ∧ m ≤ 20 ∧
  r0 < m ∧ c0 < m ∧ fr r0 c0 = false ∧ (∀ i j, i < m → j < m → 0 ≤ F i j) ∧ Fit m F c fr g ∧ Apart r m b d r' r2 ∧ ∀ F' H', But H H' r m → Mat H' a r m m (mI F') → RaisedF m F c fr r0 c0 F' → Q .non H'
abbrev s_raise_entry : Stmt := top 17
theorem sc_raise_entry : FnScope ["flow", "costs", "free", "row", "column", "size", "way", "lowered", "raised", "amount", "i", "j"] ["flow", "costs", "free", "row", "column"] (defScope s_raise_entry) := ⟨rfl, rfl, rfl, by decide +kernel, rfl, by decide +kernel, by decide +kernel⟩
theorem cnt_succ {t : Nat} {I J : Nat → Nat} {i j : Nat} : cnt (t + 1) I J i j = cnt t I J i j + if I t = i ∧ J t = j then 1 else 0 := by
  unfold OT.cnt; rw [sumI_succ]
section
variable {P : Program} {w : World} {K : Fr} {mg : Str → Option Value} {base : Heap} {f : Addr} {fd : FuncData}
theorem ok_raise (T : Tx K mg) (A : At K mg "raise_entry" s_raise_entry ["flow", "costs", "free", "row", "column"] f fd) (G1 : Got P w K mg base CX0 2 "cheapest_way" ["steps", "start", "goal"] spSearch)
    (G2 : Got P w K mg base CX0 1 "open_steps" ["flow", "costs", "free"] spOpen) (G3 : Got P w K mg base CX0 1 "lowered_entries" ["way", "size"] (spLowered K)) (G4 : Got P w K mg base CX0 1 "raised_entries" ["way", "size"] (spRaised K))
    (G5 : Got P w K mg base CX0 1 "total_cost" ["costs", "entries"] spTotal) :
    Got P w K mg base CX0 3 "raise_entry" ["flow", "costs", "free", "row", "column"] spRaise := by
  obtain ⟨f_cheapest_way, fd1, m_cheapest_way, k_cheapest_way, b_cheapest_way, F_cheapest_way⟩ := G1
  obtain ⟨f_open_steps, fd2, m_open_steps, k_open_steps, b_open_steps, F_open_steps⟩ := G2
  obtain ⟨f_lowered_entries, fd3, m_lowered_entries, k_lowered_entries, b_lowered_entries, F_lowered_entries⟩ := G3
  obtain ⟨f_raised_entries, fd4, m_raised_entries, k_raised_entries, b_raised_entries, F_raised_entries⟩ := G4
  obtain ⟨f_total_cost, fd5, m_total_cost, k_total_cost, b_total_cost, F_total_cost⟩ := G5
  refine A.got (A.fn.ok sc_raise_entry (fun vs H Q E h => ?_) (fun cdv A outer s H vs Q E hr h => ⟨_, by exact
    (pss_cons (ps_set (i := 5) sc_raise_entry.nd rfl (Or.inl rfl) (pe_callB (id := "len") (clen (K := K) rfl) (by rfl) T.len (by decide +kernel) (pa_cons (pv 0) pa_nil)))
      (pss_one (ps_while PassesOwn.never (pt_val pe_bl) (pss_cons (ps_set (i := 6) sc_raise_entry.nd rfl (Or.inl rfl) (pe_call F_cheapest_way (hr.mono (by decide)) rfl m_cheapest_way k_cheapest_way b_cheapest_way .nil pass0 (by exact (pa_cons (pe_call F_open_steps (hr.mono (by decide)) rfl m_open_steps k_open_steps b_open_steps .nil pass0 (by exact (pa_cons (pv 0) (pa_cons (pv 1) (pa_cons (pv 2) pa_nil))))) (pa_cons (pe_op op_add (pv 5) (pv 4)) (pa_cons (pv 3) pa_nil))))))
      (pss_cons (ps_set (i := 7) sc_raise_entry.nd rfl (Or.inl rfl) (pe_call F_lowered_entries (hr.mono (by decide)) rfl m_lowered_entries k_lowered_entries b_lowered_entries .nil pass0 (by exact (pa_cons (pv 6) (pa_cons (pv 5) pa_nil)))))
      (pss_cons (ps_set (i := 8) sc_raise_entry.nd rfl (Or.inl rfl) (pe_call F_raised_entries (hr.mono (by decide)) rfl m_raised_entries k_raised_entries b_raised_entries .nil pass0 (by exact (pa_cons (pv 6) (pa_cons (pv 5) pa_nil)))))
      (pss_cons (ps_if (PW.pt (pw_or (pt_not (pt_truth (pv 6) (by intro _; rfl))) (pw_or1 (pt_cmpR op_gt (pe_call F_total_cost (hr.mono (by decide)) rfl m_total_cost k_total_cost b_total_cost .nil pass0 (by exact (pa_cons (pv 1) (pa_cons (pv 8) pa_nil)))) (pe_call F_total_cost (hr.mono (by decide)) rfl m_total_cost k_total_cost b_total_cost .nil pass0 (by exact (pa_cons (pv 1) (pa_cons (pv 7) pa_nil)))) (nomark _))))) (pss_one ps_retN) pss_nil)
      (pss_cons (ps_set (i := 9) sc_raise_entry.nd rfl (Or.inl rfl) (pe_callB (id := "min") (cmin (K := K) rfl rfl) (by rfl) T.min (by decide +kernel) (pa_cons (pe_lc (own := [("i", 10), ("j", 11)]) rfl sc_raise_entry.nd  (piL (K := K) rfl (pv 7)) (blkOk_by (N := ["flow", "costs", "free", "row", "column", "size", "way", "lowered", "raised", "amount", "i", "j"]) (sc := defScope s_raise_entry) (own := [("i", 10), ("j", 11)]) (by decide +kernel)) (fun _ _ _ _ _ => (pgTup (K := K) (n := 2) rfl rfl (pgs_cons (pg_name (i := 10) sc_raise_entry.nd rfl (Or.inl rfl)) (pgs_cons (pg_name (i := 11) sc_raise_entry.nd rfl (Or.inl rfl)) pgs_nil)) rfl)) (fun _ _ _ _ _ => pts_nil) (fun _ _ _ _ _ => (pe_ix (ixL (K := K) rfl) (pe_ix (ixL (K := K) rfl) (pv 0) (pv 10) (fun _ _ => rfl)) (pv 11) (fun _ _ => rfl)))) pa_nil)))
      (pss_cons (ps_for PassesOwn.never rfl (piL (K := K) rfl (pv 7)) (pgTup (K := K) (n := 2) rfl rfl (pgs_cons (pg_name (i := 10) sc_raise_entry.nd rfl (Or.inl rfl)) (pgs_cons (pg_name (i := 11) sc_raise_entry.nd rfl (Or.inl rfl)) pgs_nil)) rfl) (pss_one (ps_augL (pe_ix (ixL (K := K) rfl) (pv 0) (pv 10) (fun _ _ => rfl)) (pv 11) (pv 9) ip_sub)))
      (pss_one (ps_for PassesOwn.never rfl (piL (K := K) rfl (pv 8)) (pgTup (K := K) (n := 2) rfl rfl (pgs_cons (pg_name (i := 10) sc_raise_entry.nd rfl (Or.inl rfl)) (pgs_cons (pg_name (i := 11) sc_raise_entry.nd rfl (Or.inl rfl)) pgs_nil)) rfl) (pss_one (ps_augL (pe_ix (ixL (K := K) rfl) (pv 0) (pv 10) (fun _ _ => rfl)) (pv 11) (pv 9) ip_add)))))))))))))
    , ?_⟩))
  · obtain ⟨a, b, d, r, r', r2, m, r0, c0, F, c, fr, g, rfl, _⟩ := h
    rfl
  · obtain ⟨a, b, d, r, r', r2, m, r0, c0, F, c, fr, g, rfl, MF, MC, MB, hm, hr0, hc0, hf0, nn, ft, ap, k⟩ := h
    refine ⟨_, rfl, a, _, rfl, .inl (SqL.of MF.at_), ?_⟩
    rw [tab_len]
    refine ⟨fun mm σ H' => ∃ (G : IM) (g : Nat → Int) (v6 v7 v8 v9 v10 v11 : Option V), mm = (sumI m (fun j => F r0 j) - G r0 c0).toNat ∧ σ = [some (.ref a), some (.ref b), some (.ref d), some (.int r0), some (.int c0), some (.int m), v6, v7, v8, v9, v10, v11] ∧
        But H H' r m ∧ Mat H' a r m m (mI G) ∧ Mid m F c fr r0 c0 G ∧ Fit m G c fr g,
      ⟨_, F, g, none, none, none, none, none, none, rfl, rfl, But.refl _ _ _, MF, OT.mid_start nn, ft⟩, ?_⟩
    rintro mm σ H1 ⟨G, g, v6, v7, v8, v9, v10, v11, rfl, rfl, b1, MG, mid, ft⟩
    have MC1 := MC.but b1 ap.cb ap.cr
    have MB1 := MB.but b1 ap.fb ap.fr
    refine ⟨_, rfl, iteT ⟨fun σ' H' => ∃ (G' : IM) (g' : Nat → Int) (v6 v7 v8 v9 v10 v11 : Option V), G r0 c0 < G' r0 c0 ∧ σ' = [some (.ref a), some (.ref b), some (.ref d), some (.int r0), some (.int c0), some (.int m), v6, v7, v8, v9, v10, v11] ∧
        But H H' r m ∧ Mat H' a r m m (mI G') ∧ Mid m F c fr r0 c0 G' ∧ Fit m G' c fr g', fun σ' H' h => ?_, ?_⟩⟩
    · obtain ⟨G', g', w6, w7, w8, w9, w10, w11, lt, rfl, q1, q2, q3, q4⟩ := h
      refine ⟨(sumI m (fun j => F r0 j) - G' r0 c0).toNat, ?_, G', g', w6, w7, w8, w9, w10, w11, rfl, rfl, q1, q2, q3, q4⟩
      have h1 := sumI_ge (n := m) (w := fun j => G' r0 j) (fun j hj => q3.nn r0 j hr0 hj) c0 hc0
      have h2 := q3.row r0 hr0
      omega
    · refine ⟨_, rfl, _, rfl, _, rfl, a, b, d, r, r', r2, m, G, c, fr, rfl, MG, MC1, MB1, hm, fun L H2 s2 tL => ?_⟩
      have l1 := opTo_len (m := m) (F := G) (c := c) (fr := fr) m
      have l2 : m * (2 * m) ≤ 20 * 40 := Nat.mul_le_mul hm (by omega)
      have hmem : ∀ y, y ∈ opTo m G c fr m ↔ OT.OpenS m G c fr y := fun y => mem_opTo
      refine ⟨_, rfl, _, rfl, _, _, rfl, rfl, _, rfl, L, opTo m G c fr m, m + c0, r0, 2 * m, g, rfl, tL, by omega, by omega, fun y hy => ?_, by omega, fun y hy => ft.steps y ((hmem y).mp hy), fun st D hn => ?_, fun st n al D Tr hn => ?_⟩
      · rcases (hmem y).mp hy with ⟨i, j, hi, hj, _, rfl⟩ | ⟨i, j, hi, hj, _, _, rfl⟩
        · show m + j < 2 * m; omega
        · show i < 2 * m; omega
      · -- no way
        intro W H3 s3 nW hW
        obtain ⟨f', ft', _, h0, hlow⟩ := OT.new_fit hmem ft D hr0 hc0 rfl
        refine ⟨_, rfl, _, rfl, W, 0, m, fun _ => 0, rfl, SqL.of hW, by omega, fun L1 H4 s4 t4 => ?_⟩
        refine ⟨_, rfl, _, rfl, W, 0, m, fun _ => 0, rfl, SqL.of (s4 _ _ hW), by omega, fun L2 H5 s5 t5 => ?_⟩
        have s15 := ((s2.trans s3).trans s4).trans s5
        refine ⟨_, rfl, _, .inl ⟨_, SqL.of (s5 _ _ (s4 _ _ hW)), rfl⟩, ?_⟩
        exact k G H5 (b1.trans (But.of s15)) (MG.same s15) ⟨mid, f', ft', by have := hlow hn; omega⟩
      · -- a way
        intro W H3 s3 nW hW
        obtain ⟨f', ft', hlab, h0, _⟩ := OT.new_fit hmem ft D hr0 hc0 rfl
        obtain ⟨t, ht, R, hge⟩ := OT.round_of hmem Tr hr0 hlab
        have tm : t ≤ m := OT.nodup_le R
        rw [ht] at hW
        refine ⟨_, rfl, _, rfl, W, t, m, al, rfl, SqL.of hW, by omega, fun L1 H4 s4 t4 => ?_⟩
        refine ⟨_, rfl, _, rfl, W, t, m, al, rfl, SqL.of (s4 _ _ hW), by omega, fun L2 H5 s5 t5 => ?_⟩
        have s15 := ((s2.trans s3).trans s4).trans s5
        have M5 := MG.same s15
        have C5 := MC1.same s15
        have p1 := (t4.same s5).congr (x' := fun k => ((al (2 * k + 1) : Nat) : Int)) (y' := fun k => ((al (2 * k) - m : Nat) : Int)) (fun k _ => rfl) (fun k hk => by have := hge k hk; omega)
        have p2 := t5.congr (x' := fun k => ((shift t (fun k => al (2 * k + 1)) k : Nat) : Int)) (y' := fun k => ((al (2 * k) - m : Nat) : Int)) (fun k hk => by
          show ((al (if k = 0 then 2 * t - 1 else 2 * k - 1) : Nat) : Int) = ((if k = 0 then al (2 * (t - 1) + 1) else al (2 * (k - 1) + 1) : Nat) : Int)
          by_cases e : k = 0
          · rw [if_pos e, if_pos e]; congr 2; omega
          · rw [if_neg e, if_neg e]; congr 2; omega) (fun k hk => by have := hge k hk; omega)
        have hW5 := s5 _ _ (s4 _ _ hW)
        clear t4 t5
        generalize hI : (fun k => al (2 * k + 1)) = I at R p1 p2
        generalize hJ : (fun k => al (2 * k) - m) = J at R
        have p1 : TP H5 L1 t (fun k => (I k : Int)) (fun k => (J k : Int)) := by
          subst hI hJ; exact p1
        have p2 : TP H5 L2 t (fun k => (shift t I k : Int)) (fun k => (J k : Int)) := by
          subst hI hJ; exact p2
        have pos := R.pos
        have ne : (vec (2 * t) fun k => (al k : Int)).isEmpty = false := by
          cases e : (vec (2 * t) fun k => (al k : Int)) with
          | nil => have := congrArg List.length e; rw [vec_len] at this; simp at this; omega
          | cons _ _ => rfl
        have hsh := OT.shift_lt pos R.ilt
        refine ⟨_, rfl, _, .inl ⟨_, SqL.of hW5, rfl⟩, ?_⟩
        rw [ne]
        refine iteF ?_
        refine ⟨_, rfl, _, rfl, b, L2, r', m, t, c, shift t I, J, rfl, C5, p2, fun k hk => ⟨hsh k hk, R.jlt k hk⟩, by omega, fun H6 s6 => ?_⟩
        refine ⟨_, rfl, _, rfl, b, L1, r', m, t, c, I, J, rfl, C5.same s6, p1.same s6, fun k hk => ⟨R.ilt k hk, R.jlt k hk⟩, by omega, fun H7 s7 => ?_⟩
        have s17 := (s15.trans s6).trans s7
        have rc := OT.round_cost R h0
        refine ⟨_, _, rfl, rfl, _, rfl, ?_⟩
        by_cases cc : (sumI t fun k => c (I k) (J k)) < sumI t fun k => c (shift t I k) (J k)
        · rw [decide_eq_true cc]
          refine iteT ?_
          exact k G H7 (b1.trans (But.of s17)) (MG.same s17) ⟨mid, f', ft', by omega⟩
        · rw [decide_eq_false cc]
          refine iteF ?_
          have M7 := MG.same s17
          have q1 := (p1.same s6).same s7
          have q2 := (p2.same s6).same s7
          obtain ⟨qa, hL1, hq1⟩ := id q1
          refine ⟨_, rfl, L1, rfl, ⟨_, SqL.of hL1⟩, fun D hD => comp_vals (walk_list (xs := tab t fun k => .ref (qa k))) (fun k => .int (G (I k) (J k))) hD (by rw [tab_len]; omega) (fun H' s => SqL.of (s _ _ hL1)) (fun i x H8 H' hi s8 y F2 hF2 => ?_) (fun H8 s8 hl => ?_) gm_tup⟩
          · obtain ⟨rfl, e⟩ := y
            obtain ⟨hi', rfl⟩ := tab_of e
            have M8 := M7.same s8
            exact ⟨qa i, _, rfl, SqT.of (s8 _ _ (hq1 i hi')), rfl, _, _, rfl, _, _, rfl, rfl, rfl, _, rfl, _, rfl, a, _, _, _, rfl, rfl, SqL.of M8.at_, tab_at (R.ilt i hi'), _, rfl, r (I i), _, _, _, rfl, rfl, SqL.of (M8.row _ (R.ilt i hi')), tab_at (R.jlt i hi'), hF2 _ (Same.refl _)⟩
          · rw [tab_len] at hl
            refine ⟨D, _, rfl, sq_vec (u := fun k => G (I k) (J k)) (SqL.of hl), by rw [List.length_map, List.length_range]; exact pos, fun Am hA1 hA2 => ?_⟩
            have hAl : ∀ k, k < t → Am ≤ G (I k) (J k) := fun k hk => hA2 _ (List.mem_map.mpr ⟨k, List.mem_range.mpr hk, rfl⟩)
            have hA0 : 0 < Am := by
              obtain ⟨k, hk, e⟩ := List.mem_map.mp hA1
              have := (R.low k (List.mem_range.mp hk)).2.1
              omega
            have M8 := M7.same s8
            have q1 := q1.same s8
            have q2 := q2.same s8
            have b8 := b1.trans (But.of (s17.trans s8))
            clear hL1 hq1
            obtain ⟨qa, hL1, hq1⟩ := id q1
            refine ⟨_, rfl, L1, rfl, ⟨_, SqL.of hL1⟩, for_it (walk_list (xs := tab t fun k => .ref (qa k))) (fun kk σ' H' => ∃ v10 v11 : Option V, σ' = [some (.ref a), some (.ref b), some (.ref d), some (.int r0), some (.int c0), some (.int m), some (.ref W), some (.ref L1), some (.ref L2), some (.int Am), v10, v11] ∧
                But H H' r m ∧ But H8 H' r m ∧ Mat H' a r m m (mI fun i j => G i j - Am * cnt kk I J i j))
              ⟨v10, v11, rfl, b8, But.refl _ _ _, M8.congr fun i j _ _ => congrArg V.int (by show _ = G i j - Am * 0; omega)⟩ (fun kk σ' H' _ p => ?_) (fun kk x σ' H9 H10 hk p y => ?_) (fun σ' H' p => ?_)⟩
            · obtain ⟨_, _, _, _, q, _⟩ := p
              exact SqL.of (q _ _ hL1 fun i hi => row_ne M8 hL1 hi)
            · obtain ⟨w10, w11, rfl, c1, c2, M9⟩ := p
              obtain ⟨rfl, ex⟩ := y
              obtain ⟨hk', rfl⟩ := tab_of ex
              obtain ⟨qb, hb1, hb2⟩ := q1.but M8 c2
              have eq : qb kk = qa kk := by
                have h1 := c2 _ _ hL1 fun i hi => row_ne M8 hL1 hi
                rw [hb1] at h1
                have h2 := HO.lst.inj (Option.some.inj h1)
                have h3 := congrArg (fun l => l[kk]?) h2
                have h4 : (tab t fun k => V.ref (qb k))[kk]? = (tab t fun k => V.ref (qa k))[kk]? := h3
                rw [tab_get hk', tab_get hk'] at h4
                exact V.ref.inj (Option.some.inj h4)
              have ht1 := hb2 kk hk'
              rw [eq] at ht1
              have hi1 := R.ilt kk hk'
              have hj1 := R.jlt kk hk'
              refine ⟨qa kk, _, rfl, SqT.of ht1, rfl, _, _, rfl, _, _, rfl, rfl, ?_⟩
              refine ⟨_, rfl, _, rfl, a, _, _, _, rfl, rfl, SqL.of M9.at_, tab_at hi1, _, rfl, r (I kk), _, J kk, _, rfl, rfl, SqL.of (M9.row _ hi1), tab_get hj1, _, rfl, _, _, rfl, rfl, r (I kk), _, _, J kk, rfl, rfl, M9.row _ hi1, ixn (by rw [tab_len]; exact hj1), ?_⟩
              refine ⟨_, _, rfl, c1.trans (But.set hi1), c2.trans (But.set hi1), (M9.set hi1 _).congr fun i j _ _ => ?_⟩
              show (if i = I kk ∧ j = J kk then V.int (G (I kk) (J kk) - Am * cnt kk I J (I kk) (J kk) - Am) else V.int (G i j - Am * cnt kk I J i j)) = V.int (G i j - Am * cnt (kk + 1) I J i j)
              rw [cnt_succ]
              by_cases e : i = I kk ∧ j = J kk
              · obtain ⟨rfl, rfl⟩ := e
                rw [if_pos ⟨rfl, rfl⟩, if_pos ⟨rfl, rfl⟩, Int.mul_add, Int.mul_one]
                congr 1; omega
              · rw [if_neg e, if_neg fun z => e ⟨z.1.symm, z.2.symm⟩, Int.add_zero]
            · obtain ⟨w10, w11, rfl, c1, c2, M9⟩ := p
              rw [tab_len] at M9
              have q2' := q2.but M8 c2
              obtain ⟨qc, hL2, hq2⟩ := id q2'
              refine ⟨_, rfl, L2, rfl, ⟨_, SqL.of hL2⟩, for_it (walk_list (xs := tab t fun k => .ref (qc k))) (fun kk σ' H3' => ∃ v10 v11 : Option V, σ' = [some (.ref a), some (.ref b), some (.ref d), some (.int r0), some (.int c0), some (.int m), some (.ref W), some (.ref L1), some (.ref L2), some (.int Am), v10, v11] ∧
                  But H H3' r m ∧ But H' H3' r m ∧ Mat H3' a r m m (mI fun i j => G i j - Am * cnt t I J i j + Am * cnt kk (shift t I) J i j))
                ⟨w10, w11, rfl, c1, But.refl _ _ _, M9.congr fun i j _ _ => congrArg V.int (by show G i j - Am * cnt t I J i j = G i j - Am * cnt t I J i j + Am * 0; omega)⟩ (fun kk σ' H' _ p => ?_) (fun kk x σ' H9 H10 hk p y => ?_) (fun σ' H11 p => ?_)⟩
              · obtain ⟨_, _, _, _, q, _⟩ := p
                exact SqL.of (q _ _ hL2 fun i hi => row_ne M9 hL2 hi)
              · obtain ⟨z10, z11, rfl, e1, e2, M10⟩ := p
                obtain ⟨rfl, ex⟩ := y
                obtain ⟨hk', rfl⟩ := tab_of ex
                obtain ⟨qb, hb1, hb2⟩ := q2'.but M9 e2
                have eq : qb kk = qc kk := by
                  have h1 := e2 _ _ hL2 fun i hi => row_ne M9 hL2 hi
                  rw [hb1] at h1
                  have h2 := HO.lst.inj (Option.some.inj h1)
                  have h3 := congrArg (fun l => l[kk]?) h2
                  have h4 : (tab t fun k => V.ref (qb k))[kk]? = (tab t fun k => V.ref (qc k))[kk]? := h3
                  rw [tab_get hk', tab_get hk'] at h4
                  exact V.ref.inj (Option.some.inj h4)
                have ht1 := hb2 kk hk'
                rw [eq] at ht1
                have hi1 := hsh kk hk'
                have hj1 := R.jlt kk hk'
                refine ⟨qc kk, _, rfl, SqT.of ht1, rfl, _, _, rfl, _, _, rfl, rfl, ?_⟩
                refine ⟨_, rfl, _, rfl, a, _, _, _, rfl, rfl, SqL.of M10.at_, tab_at hi1, _, rfl, r (shift t I kk), _, J kk, _, rfl, rfl, SqL.of (M10.row _ hi1), tab_get hj1, _, rfl, _, _, rfl, rfl, r (shift t I kk), _, _, J kk, rfl, rfl, M10.row _ hi1, ixn (by rw [tab_len]; exact hj1), ?_⟩
                refine ⟨_, _, rfl, e1.trans (But.set hi1), e2.trans (But.set hi1), (M10.set hi1 _).congr fun i j _ _ => ?_⟩
                show (if i = shift t I kk ∧ j = J kk then V.int (G (shift t I kk) (J kk) - Am * cnt t I J (shift t I kk) (J kk) + Am * cnt kk (shift t I) J (shift t I kk) (J kk) + Am) else V.int (G i j - Am * cnt t I J i j + Am * cnt kk (shift t I) J i j)) = V.int (G i j - Am * cnt t I J i j + Am * cnt (kk + 1) (shift t I) J i j)
                rw [cnt_succ]
                by_cases e : i = shift t I kk ∧ j = J kk
                · obtain ⟨rfl, rfl⟩ := e
                  rw [if_pos ⟨rfl, rfl⟩, if_pos ⟨rfl, rfl⟩, Int.mul_add, Int.mul_one]
                  congr 1; omega
                · rw [if_neg e, if_neg fun z => e ⟨z.1.symm, z.2.symm⟩, Int.add_zero]
              · obtain ⟨z10, z11, rfl, e1, e2, M10⟩ := p
                rw [tab_len] at M10
                refine ⟨pushed G Am t I J, f', _, _, _, _, _, _, ?_, rfl, e1, M10, OT.mid_push (A := Am) mid R hf0 (Int.le_of_lt hA0) hAl (Int.not_lt.mp cc), OT.pushed_fit (A := Am) R mid.nn (Int.le_of_lt hA0) hf0 ft'⟩
                have := OT.pushed_at (A := Am) R hf0 (Int.le_of_lt hA0)
                omega
end
end EH

/-! A cheapest plan by a store; the greatest one, entry by entry. -/
namespace OT
set_option linter.unusedVariables false
open EH
def allF : Free := fun _ _ => true
/-- a plan in whole units, with prices that fit -/
structure CheapI (n : Nat) (P : IM) (A B : Nat → Int) (d : IM) : Prop where
  nn : ∀ i j, i < n → j < n → 0 ≤ P i j
  row : ∀ i, i < n → sumI n (fun j => P i j) = A i
  col : ∀ j, j < n → sumI n (fun i => P i j) = B j
  fit : ∃ f, Fit n P d allF f
def stF (n : Nat) (A B : Nat → Int) : IM := fun i j => if j = n then (if i = n then 0 else A i) else if i = n then B j else 0
def stC (n : Nat) (d : IM) (gain : Int) : IM := fun i j => if i = n then (if j = n then -gain else 0) else if j = n then 0 else d i j
def stFr (n : Nat) : Free := fun i j => if i = n ∧ j = n then false else true
section
variable {n : Nat} {A B : Nat → Int} {d : IM} {gain : Int}
theorem st_nn (hA : ∀ i, i < n → 0 ≤ A i) (hB : ∀ j, j < n → 0 ≤ B j) : ∀ i j, i < n + 1 → j < n + 1 → 0 ≤ stF n A B i j := fun i j hi hj => by
  unfold stF
  split
  · split
    · omega
    · exact hA i (by omega)
  · split
    · exact hB j (by omega)
    · omega
theorem st_fit (hd : ∀ i j, i < n → j < n → 0 ≤ d i j) : Fit (n + 1) (stF n A B) (stC n d gain) (stFr n) fun _ => 0 := by
  refine ⟨fun i j hi hj h => ?_, fun i j hi hj h hF => ?_⟩
  · unfold stFr at h
    unfold stC
    by_cases e : i = n
    · by_cases q : j = n
      · rw [if_pos ⟨e, q⟩] at h; cases h
      · rw [if_pos e, if_neg q]; omega
    · rw [if_neg e]
      by_cases q : j = n
      · rw [if_pos q]; omega
      · rw [if_neg q]; have := hd i j (by omega) (by omega); omega
  · unfold stFr at h
    unfold stF at hF
    unfold stC
    by_cases e : i = n
    · by_cases q : j = n
      · rw [if_pos ⟨e, q⟩] at h; cases h
      · rw [if_pos e, if_neg q]; rfl
    · rw [if_neg e]
      by_cases q : j = n
      · rw [if_pos q]; rfl
      · rw [if_neg q, if_neg e] at hF; omega
theorem st_done {U : Int} {G : IM} (hA : sumI n A = U) (hB : sumI n B = U) (hd : ∀ i j, i < n → j < n → 0 ≤ d i j) (hg : gain = 1 + sumI n fun i => sumI n (d i)) (R : RaisedF (n + 1) (stF n A B) (stC n d gain) (stFr n) n n G) : CheapI n G A B d := by
  obtain ⟨f, F, hrc⟩ := R.fit
  have nn := R.mid.nn
  have cnn : stC n d gain n n = -gain := by unfold stC; rw [if_pos rfl, if_pos rfl]
  rw [cnn] at hrc
  have row : ∀ i, i < n → sumI n (fun j => G i j) + G i n = A i := fun i hi => by
    have h := R.mid.row i (by omega)
    rw [sumI_succ, sumI_succ] at h
    rw [h]
    have e1 : sumI n (fun j => stF n A B i j) = 0 := by
      rw [sumI_congr (w := fun _ => 0) fun j hj => ?_, sumI_zero]
      unfold stF
      rw [if_neg (by omega), if_neg (by omega)]
    rw [e1]
    unfold stF
    rw [if_pos rfl, if_neg (by omega)]; omega
  have col : ∀ j, j < n → sumI n (fun i => G i j) + G n j = B j := fun j hj => by
    have h := R.mid.col j (by omega)
    rw [sumI_succ, sumI_succ] at h
    rw [h]
    have e1 : sumI n (fun i => stF n A B i j) = 0 := by
      rw [sumI_congr (w := fun _ => 0) fun i hi => ?_, sumI_zero]
      unfold stF
      rw [if_neg (by omega), if_neg (by omega)]
    rw [e1]
    unfold stF
    rw [if_neg (by omega), if_pos rfl]; omega
  have rowN : sumI n (fun j => G n j) + G n n = U := by
    have h := R.mid.row n (by omega)
    rw [sumI_succ, sumI_succ] at h
    rw [h, ← hB]
    have e1 : sumI n (fun j => stF n A B n j) = sumI n B := sumI_congr fun j hj => by
      unfold stF
      rw [if_neg (by omega), if_pos rfl]
    rw [e1]
    unfold stF
    rw [if_pos rfl, if_pos rfl]; omega
  have colN : sumI n (fun i => G i n) + G n n = U := by
    have h := R.mid.col n (by omega)
    rw [sumI_succ, sumI_succ] at h
    rw [h, ← hA]
    have e1 : sumI n (fun i => stF n A B i n) = sumI n A := sumI_congr fun i hi => by
      unfold stF
      rw [if_pos rfl, if_neg (by omega)]
    rw [e1]
    unfold stF
    rw [if_pos rfl, if_pos rfl]; omega
  have n1 : ∀ i, i < n → 0 ≤ G i n := fun i hi => nn i n (by omega) (by omega)
  have n2 : ∀ j, j < n → 0 ≤ G n j := fun j hj => nn n j (by omega) (by omega)
  have z : sumI n (fun i => G i n) = 0 := by
    have h0 := sumI_nn n1
    rcases Int.lt_or_le 0 (sumI n fun i => G i n) with q | q
    · exfalso
      obtain ⟨i, hi, pi⟩ := sumI_pos q n1
      obtain ⟨j, hj, pj⟩ := sumI_pos (show 0 < sumI n fun j => G n j by omega) n2
      have f1 := F.eq i n (by omega) (by omega) (by unfold stFr; rw [if_neg (by omega)]) pi
      have f2 := F.eq n j (by omega) (by omega) (by unfold stFr; rw [if_neg (by omega)]) pj
      have f3 := F.le i j (by omega) (by omega) (by unfold stFr; rw [if_neg (by omega)])
      have c1 : stC n d gain i n = 0 := by unfold stC; rw [if_neg (by omega), if_pos rfl]
      have c2 : stC n d gain n j = 0 := by unfold stC; rw [if_pos rfl, if_neg (by omega)]
      have c3 : stC n d gain i j = d i j := by unfold stC; rw [if_neg (by omega), if_neg (by omega)]
      rw [c1] at f1
      rw [c2] at f2
      rw [c3] at f3
      have d1 := sumI_ge (n := n) (w := fun i => sumI n (d i)) (fun i hi => sumI_nn fun j hj => hd i j hi hj) i hi
      have d2 := sumI_ge (n := n) (w := d i) (fun j hj => hd i j hi hj) j hj
      omega
    · omega
  have z1 := sumI_eq_zero n1 z
  have z2 := sumI_eq_zero n2 (show sumI n (fun j => G n j) = 0 by omega)
  refine ⟨fun i j hi hj => nn i j (by omega) (by omega), fun i hi => by have := row i hi; have := z1 i hi; omega, fun j hj => by have := col j hj; have := z2 j hj; omega, fun v => if v < n then f v else f (v + 1), ?_⟩
  refine ⟨fun i j hi hj _ => ?_, fun i j hi hj _ hG => ?_⟩
  · have h := F.le i j (by omega) (by omega) (by unfold stFr; rw [if_neg (by omega)])
    have c3 : stC n d gain i j = d i j := by unfold stC; rw [if_neg (by omega), if_neg (by omega)]
    rw [c3] at h
    show (if n + j < n then _ else f (n + j + 1)) ≤ (if i < n then f i else _) + d i j
    rw [if_neg (by omega), if_pos hi, show n + j + 1 = n + 1 + j by omega]
    exact h
  · have h := F.eq i j (by omega) (by omega) (by unfold stFr; rw [if_neg (by omega)]) hG
    have c3 : stC n d gain i j = d i j := by unfold stC; rw [if_neg (by omega), if_neg (by omega)]
    rw [c3] at h
    show (if n + j < n then _ else f (n + j + 1)) = (if i < n then f i else _) + d i j
    rw [if_neg (by omega), if_pos hi, show n + j + 1 = n + 1 + j by omega]
    exact h
end
end OT

/-! The greatest of the cheapest, entry by entry; what it says of plans in parts of one. -/
namespace OT
set_option linter.unusedVariables false
open EH
/-- any plan, in the units of P, of the same sums -/
structure SameSums (n : Nat) (P : IM) (q : Mat) : Prop where
  nn : ∀ i j, i < n → j < n → 0 ≤ q i j
  row : ∀ i, i < n → S n (fun j => q i j) = ((sumI n fun j => P i j : Int) : Rat)
  col : ∀ j, j < n → S n (fun i => q i j) = ((sumI n fun i => P i j : Int) : Rat)
theorem cost_cast {n : Nat} {d P : IM} : cost n d (fun i j => (P i j : Rat)) = ((costF n P d : Int) : Rat) := by
  unfold cost costF
  rw [sumI_cast]
  refine S_congr fun i _ => ?_
  rw [sumI_cast]
  refine S_congr fun j _ => ?_
  rw [Rat.intCast_mul, Rat.mul_comm]
/-- what a plan costs more than another, by prices -/
theorem red_eq {n : Nat} {d : IM} {G : IM} {q : Mat} {f : Nat → Int} (h : SameSums n G q) :
    cost n d q = ((costF n G d : Int) : Rat) + S n fun i => S n fun j => ((d i j + f i - f (n + j) : Int) : Rat) * (q i j - (G i j : Rat)) := by
  have e1 : (S n fun i => S n fun j => ((d i j + f i - f (n + j) : Int) : Rat) * (q i j - (G i j : Rat))) =
      (cost n d q - cost n d (fun i j => (G i j : Rat))) + (S n fun i => (f i : Rat) * (S n (fun j => q i j) - S n fun j => (G i j : Rat))) - S n fun j => (f (n + j) : Rat) * (S n (fun i => q i j) - S n fun i => (G i j : Rat)) := by
    have e2 : (S n fun j => (f (n + j) : Rat) * (S n (fun i => q i j) - S n fun i => (G i j : Rat))) = S n fun i => S n fun j => (f (n + j) : Rat) * (q i j - (G i j : Rat)) := by
      rw [S_comm]
      refine S_congr fun j _ => ?_
      rw [S_mul, S_sub]
    rw [e2]
    unfold cost
    rw [← S_sub, ← S_add, ← S_sub]
    refine S_congr fun i _ => ?_
    rw [← S_sub, ← S_sub, ← S_mul, ← S_add, ← S_sub]
    refine S_congr fun j _ => ?_
    rw [Rat.intCast_sub, Rat.intCast_add]
    grind
  have e3 : (S n fun i => (f i : Rat) * (S n (fun j => q i j) - S n fun j => (G i j : Rat))) = 0 := S_zero' fun i hi => by
    rw [h.row i hi, sumI_cast]; grind
  have e4 : (S n fun j => (f (n + j) : Rat) * (S n (fun i => q i j) - S n fun i => (G i j : Rat))) = 0 := S_zero' fun j hj => by
    rw [h.col j hj, sumI_cast]; grind
  rw [e1, e3, e4, cost_cast]
  grind
def BefD (i j i' j' : Nat) : Prop := i' < i ∨ (i' = i ∧ j' < j)
instance (i j i' j' : Nat) : Decidable (BefD i j i' j') := inferInstanceAs (Decidable (_ ∨ _))
theorem pos_of {x : Rat} {a : Int} (ha : 0 < a) (hx : 0 < x) : 0 < (a : Rat) * x := Rat.mul_pos (by exact_mod_cast ha) hx
theorem int_nn {a : Int} (h : 0 ≤ a) : (0 : Rat) ≤ (a : Rat) := by exact_mod_cast h
/-- entries not yet come to are free -/
def frTo (i j : Nat) : Free := fun i' j' => if BefD i j i' j' then false else true
/-- so far (all entries ahead of i, j) P is the greatest of the cheapest -/
structure LexI (n : Nat) (d P0 : IM) (i j : Nat) (P : IM) : Prop where
  nn : ∀ i j, i < n → j < n → 0 ≤ P i j
  row : ∀ i, i < n → sumI n (fun j => P i j) = sumI n fun j => P0 i j
  col : ∀ j, j < n → sumI n (fun i => P i j) = sumI n fun i => P0 i j
  least : ∀ q, SameSums n P0 q → ((costF n P d : Int) : Rat) ≤ cost n d q
  most : ∀ i' j', i' < n → j' < n → BefD i j i' j' → ∀ q, SameSums n P0 q → cost n d q ≤ ((costF n P d : Int) : Rat) → (∀ a b, a < n → b < n → BefD i' j' a b → q a b = (P a b : Rat)) → q i' j' ≤ (P i' j' : Rat)
  fit : ∃ f, Fit n P d (frTo i j) f
theorem SameSums.of {n P P' q} (h : SameSums n P q) (hr : ∀ i, i < n → sumI n (fun j => P' i j) = sumI n fun j => P i j) (hc : ∀ j, j < n → sumI n (fun i => P' i j) = sumI n fun i => P i j) : SameSums n P' q :=
  ⟨h.nn, fun i hi => by rw [h.row i hi, hr i hi], fun j hj => by rw [h.col j hj, hc j hj]⟩
theorem lex_start {n d P A B} (h : CheapI n P A B d) : LexI n d P 0 0 P := by
  obtain ⟨f, F⟩ := h.fit
  refine ⟨h.nn, fun _ _ => rfl, fun _ _ => rfl, fun q hq => ?_, fun i' j' _ _ b => ?_, f, ⟨fun i j hi hj _ => F.le i j hi hj rfl, fun i j hi hj _ => F.eq i j hi hj rfl⟩⟩
  · rw [red_eq (f := f) hq]
    have : 0 ≤ S n fun i => S n fun j => ((d i j + f i - f (n + j) : Int) : Rat) * (q i j - (P i j : Rat)) := S_nonneg fun i hi => S_nonneg fun j hj => by
      rcases Int.lt_or_le 0 (P i j) with c | c
      · have e := F.eq i j hi hj rfl c
        rw [show d i j + f i - f (n + j) = 0 by omega]
        simp
      · have e : P i j = 0 := by have := h.nn i j hi hj; omega
        rw [e]
        have := F.le i j hi hj rfl
        refine Rat.mul_nonneg (int_nn (by omega)) ?_
        have := hq.nn i j hi hj
        have e0 : ((0 : Int) : Rat) = 0 := rfl
        rw [e0]; grind
    grind
  · rcases b with b | ⟨_, b⟩ <;> omega
/-- one entry more -/
theorem lex_step {n d P0 i j P G} (L : LexI n d P0 i j P) (hi : i < n) (hj : j < n) (R : RaisedF n P d (frTo i (j + 1)) i j G) : LexI n d P0 i (j + 1) G := by
  obtain ⟨f, F, hrc⟩ := R.fit
  have M := R.mid
  have off : ∀ a b, a < n → b < n → BefD i j a b → G a b = P a b := fun a b ha hb h => M.off a b ha hb (by
    unfold frTo
    rw [if_pos]
    unfold BefD at *
    omega) (by unfold BefD at h; omega)
  have hrow : ∀ a, a < n → sumI n (fun b => G a b) = sumI n fun b => P0 a b := fun a ha => (M.row a ha).trans (L.row a ha)
  have hcol : ∀ b, b < n → sumI n (fun a => G a b) = sumI n fun a => P0 a b := fun b hb => (M.col b hb).trans (L.col b hb)
  have ck : ((costF n G d : Int) : Rat) ≤ ((costF n P d : Int) : Rat) := by exact_mod_cast M.cost
  refine ⟨M.nn, hrow, hcol, fun q hq => Rat.le_trans ck (L.least q hq), fun a b ha hb h q hq hc he => ?_, f, F⟩
  by_cases e : a = i ∧ b = j
  · obtain ⟨rfl, rfl⟩ := e
    have hq2 := hq.of hrow hcol
    have key := red_eq (d := d) (f := f) hq2
    refine Rat.not_lt.mp fun lt => ?_
    have t0 : ∀ x y, x < n → y < n → 0 ≤ ((d x y + f x - f (n + y) : Int) : Rat) * (q x y - (G x y : Rat)) := fun x y hx hy => by
      by_cases c1 : BefD a b x y
      · rw [he x y hx hy c1]
        have : (G x y : Rat) - (G x y : Rat) = 0 := by grind
        rw [this]; simp
      · by_cases c2 : x = a ∧ y = b
        · obtain ⟨rfl, rfl⟩ := c2
          refine Rat.mul_nonneg (int_nn (by omega)) ?_
          grind
        · have hfr : frTo a (b + 1) x y = true := by
            unfold frTo
            rw [if_neg]
            unfold BefD at *
            omega
          rcases Int.lt_or_le 0 (G x y) with c | c
          · have e := F.eq x y hx hy hfr c
            rw [show d x y + f x - f (n + y) = 0 by omega]
            simp
          · have e : G x y = 0 := by have := M.nn x y hx hy; omega
            rw [e]
            have := F.le x y hx hy hfr
            refine Rat.mul_nonneg (int_nn (by omega)) ?_
            have := hq.nn x y hx hy
            have e0 : ((0 : Int) : Rat) = 0 := rfl
            rw [e0]; grind
    have t1 : 0 < ((d a b + f a - f (n + b) : Int) : Rat) * (q a b - (G a b : Rat)) := pos_of (by omega) (by grind)
    have t2 : ((d a b + f a - f (n + b) : Int) : Rat) * (q a b - (G a b : Rat)) ≤ S n fun y => ((d a y + f a - f (n + y) : Int) : Rat) * (q a y - (G a y : Rat)) := S_ge_one (f := fun y => ((d a y + f a - f (n + y) : Int) : Rat) * (q a y - (G a y : Rat))) hj fun y hy => t0 a y hi hy
    have t3 : (S n fun y => ((d a y + f a - f (n + y) : Int) : Rat) * (q a y - (G a y : Rat))) ≤ S n fun x => S n fun y => ((d x y + f x - f (n + y) : Int) : Rat) * (q x y - (G x y : Rat)) :=
      S_ge_one (f := fun x => S n fun y => ((d x y + f x - f (n + y) : Int) : Rat) * (q x y - (G x y : Rat))) hi fun x hx => S_nonneg fun y hy => t0 x y hx hy
    grind
  · have hb' : BefD i j a b := by unfold BefD at *; omega
    have eG := off a b ha hb hb'
    rw [eG]
    refine L.most a b ha hb hb' q hq (Rat.le_trans hc ck) fun x y hx hy h2 => ?_
    rw [he x y hx hy h2, off x y hx hy (by unfold BefD at *; omega)]
theorem lex_row {n d P0 i P} (L : LexI n d P0 i n P) : LexI n d P0 (i + 1) 0 P := by
  have e : ∀ a b, b < n → (BefD i n a b ↔ BefD (i + 1) 0 a b) := fun a b hb => by unfold BefD; omega
  refine ⟨L.nn, L.row, L.col, L.least, fun a b ha hb h => L.most a b ha hb ((e a b hb).mpr h), ?_⟩
  obtain ⟨f, F⟩ := L.fit
  have fr : ∀ a b, b < n → frTo (i + 1) 0 a b = frTo i n a b := fun a b hb => by
    unfold frTo
    simp only [e a b hb]
  exact ⟨f, fun a b ha hb h => F.le a b ha hb (by rw [← fr a b hb]; exact h), fun a b ha hb h => F.eq a b ha hb (by rw [← fr a b hb]; exact h)⟩
/-- parts of one -/
def part (P : IM) (U : Int) : Mat := fun i j => (P i j : Rat) / (U : Rat)
structure Sums (n : Nat) (P : IM) (U : Int) (al be : Nat → Rat) : Prop where
  pos : 0 < U
  row : ∀ i, i < n → ((sumI n fun j => P i j : Int) : Rat) = al i * (U : Rat)
  col : ∀ j, j < n → ((sumI n fun i => P i j : Int) : Rat) = be j * (U : Rat)
theorem u_pos {U : Int} (h : 0 < U) : (0 : Rat) < (U : Rat) := by exact_mod_cast h
theorem div_mul {x u : Rat} (h : 0 < u) : x / u * u = x := Rat.div_mul_cancel (by grind)
theorem S_div {n : Nat} {u : Rat} {f : Nat → Rat} : S n (fun i => f i / u) = S n f / u := by
  rw [Rat.div_def, Rat.mul_comm, ← S_mul]
  exact S_congr fun i _ => by rw [Rat.div_def, Rat.mul_comm]
theorem part_plan {n P U al be} (nn : ∀ i j, i < n → j < n → 0 ≤ P i j) (s : Sums n P U al be) : Plan n al be (part P U) := by
  have u := u_pos s.pos
  refine ⟨fun i j hi hj => ?_, fun i hi => ?_, fun j hj => ?_⟩
  · unfold part
    rw [Rat.div_def]
    exact Rat.mul_nonneg (int_nn (nn i j hi hj)) (Rat.le_of_lt (Rat.inv_pos.mpr u))
  · unfold part
    rw [S_div, ← sumI_cast, s.row i hi]
    exact Rat.mul_div_cancel (by grind)
  · unfold part
    rw [S_div, ← sumI_cast, s.col j hj]
    exact Rat.mul_div_cancel (by grind)
theorem scaled {n P U al be} {q : Mat} (s : Sums n P U al be) (h : Plan n al be q) : SameSums n P (fun i j => q i j * (U : Rat)) := by
  have u := u_pos s.pos
  have e : ∀ f : Nat → Rat, S n (fun j => f j * (U : Rat)) = S n f * (U : Rat) := fun f => by
    rw [Rat.mul_comm, ← S_mul]; exact S_congr fun i _ => Rat.mul_comm _ _
  refine ⟨fun i j hi hj => Rat.mul_nonneg (h.nn i j hi hj) (Rat.le_of_lt u), fun i hi => ?_, fun j hj => ?_⟩
  · rw [e, h.row i hi, s.row i hi]
  · rw [e, h.col j hj, s.col j hj]
theorem cost_scaled {n d} {q : Mat} {u : Rat} : cost n d (fun i j => q i j * u) = cost n d q * u := by
  unfold cost
  rw [Rat.mul_comm, ← S_mul]
  refine S_congr fun i _ => ?_
  rw [← S_mul]
  refine S_congr fun j _ => ?_
  grind
theorem cost_part {n d P U} (h : 0 < U) : cost n d (part P U) * (U : Rat) = ((costF n P d : Int) : Rat) := by
  rw [← cost_scaled, ← cost_cast]
  refine cost_congr fun i j _ _ => ?_
  unfold part
  exact div_mul (u_pos h)
theorem le_scaled {a b u : Rat} (h : 0 < u) : a * u ≤ b * u ↔ a ≤ b := ⟨fun q => Rat.le_of_mul_le_mul_right q h, fun q => Rat.mul_le_mul_of_nonneg_right q (Rat.le_of_lt h)⟩
theorem part_optimal {n d P P0 U al be} (nn : ∀ i j, i < n → j < n → 0 ≤ P i j) (s : Sums n P U al be) (s0 : Sums n P0 U al be) (hl : ∀ q, SameSums n P0 q → ((costF n P d : Int) : Rat) ≤ cost n d q) : Optimal n d al be (part P U) := by
  have u := u_pos s.pos
  refine ⟨part_plan nn s, fun q hq => ?_⟩
  rw [← le_scaled u, cost_part s.pos, ← cost_scaled]
  exact hl _ (scaled s0 hq)
theorem lex_done {n d P0 P U al be} (L : LexI n d P0 n 0 P) (s0 : Sums n P0 U al be) : Lex n (Optimal n d al be) (part P U) := by
  have s : Sums n P U al be := ⟨s0.pos, fun i hi => by rw [L.row i hi, s0.row i hi], fun j hj => by rw [L.col j hj, s0.col j hj]⟩
  have u := u_pos s.pos
  refine ⟨part_optimal L.nn s s0 L.least, fun q hq i j hi hj he => ?_⟩
  have hc : cost n d (fun i j => q i j * (U : Rat)) ≤ ((costF n P d : Int) : Rat) := by
    rw [cost_scaled, ← cost_part s.pos, le_scaled u]
    exact hq.least _ (part_plan L.nn s)
  have := L.most i j hi hj (.inl hi) _ (scaled s0 hq.plan) hc fun a b ha hb h => by
    rw [he a b ha hb h]
    unfold part
    exact div_mul u
  unfold part
  rw [← le_scaled u, div_mul u]
  exact this
/-- two-sided prices of a cheapest plan -/
theorem cheap_pot {n P A B d U} (h : CheapI n P A B d) (hU : 0 < U) : ∃ f, Pot n d (part P U) f := by
  obtain ⟨f, F⟩ := h.fit
  exact ⟨f, fun i j hi hj => ⟨F.le i j hi hj rfl, fun hp => Int.le_of_eq (Eq.symm <| F.eq i j hi hj rfl <| by
    unfold part at hp
    rcases Int.lt_or_le 0 (P i j) with c | c
    · exact c
    · have e : P i j = 0 := by have := h.nn i j hi hj; omega
      rw [e, Rat.div_def] at hp
      simp at hp)⟩⟩
end OT

namespace EH
open PySem PySem.Spec PyProof.Rows L2
open OT (Fit Mid RaisedF IM CheapI allF stF stC stFr LexI frTo BefD)
/-! ### the cheapest plans -/
theorem Mat.push {H : Hp} {a p : Addr} {r : Nat → Addr} {k m : Nat} {f g : Nat → Nat → V} (M : Mat H a r k m f) (hp : H p = some (.lst (tab m (g k)))) (pa : p ≠ a) (pr : ∀ i, i < k → r i ≠ p) (hg : ∀ i j, i < k → j < m → f i j = g i j) :
    Mat (upd H a (.lst ((tab k fun i => .ref (r i)) ++ [.ref p]))) a (OT.set1 r k p) (k + 1) m g where
  at_ := by
    unfold OT.set1
    rw [upd_same, tab_succ, tab_congr (f := fun i => V.ref (if i = k then p else r i)) (g := fun i => V.ref (r i)) fun i hi => by rw [if_neg (by omega)], if_pos rfl]
  inj := fun i j hi hj e => by
    unfold OT.set1 at e
    by_cases ei : i = k <;> by_cases ej : j = k
    · omega
    · rw [if_pos ei, if_neg ej] at e; exact absurd e.symm (pr j (by omega))
    · rw [if_neg ei, if_pos ej] at e; exact absurd e (pr i (by omega))
    · rw [if_neg ei, if_neg ej] at e; exact M.inj i j (by omega) (by omega) e
  out := fun i hi => by
    unfold OT.set1
    by_cases ei : i = k
    · rw [if_pos ei]; exact pa
    · rw [if_neg ei]; exact M.out i (by omega)
  row := fun i hi => by
    unfold OT.set1
    by_cases ei : i = k
    · rw [if_pos ei, upd_ne pa, ei]; exact hp
    · rw [if_neg ei, upd_ne (M.out i (by omega)), M.row i (by omega), tab_congr fun j hj => hg i j (by omega) hj]
theorem MatNew.push {H H' : Hp} {a p : Addr} {r : Nat → Addr} {k m : Nat} {f g : Nat → Nat → V} (M : MatNew H H' a r k m f) (hp : H' p = some (.lst (tab m (g k)))) (np : H p = none) (pa : p ≠ a) (pr : ∀ i, i < k → r i ≠ p) (hg : ∀ i j, i < k → j < m → f i j = g i j) :
    MatNew H (upd H' a (.lst ((tab k fun i => .ref (r i)) ++ [.ref p]))) a (OT.set1 r k p) (k + 1) m g :=
  ⟨M.mat.push hp pa pr hg, M.new, fun i hi => by
    unfold OT.set1
    by_cases ei : i = k
    · rw [if_pos ei]; exact np
    · rw [if_neg ei]; exact M.rows i (by omega)⟩
theorem MatNew.same {H H1 H2 : Hp} {a : Addr} {r : Nat → Addr} {k m : Nat} {f : Nat → Nat → V} (M : MatNew H H1 a r k m f) (s : Same H1 H2) : MatNew H H2 a r k m f := ⟨M.mat.same s, M.new, M.rows⟩
theorem MatNew.back {H0 H H1 : Hp} {a : Addr} {r : Nat → Addr} {k m : Nat} {f : Nat → Nat → V} (M : MatNew H H1 a r k m f) (s : Same H0 H) : MatNew H0 H1 a r k m f := ⟨M.mat, s.free M.new, fun i hi => s.free (M.rows i hi)⟩
theorem cut_tab {n : Nat} {f : Nat → V} : cutV (tab (n + 1) f) none (some (n : Int)) = tab n f := by
  unfold cutV
  rw [HT.sIx_none, HT.sIx_nat, tab_len, Nat.min_eq_left (Nat.le_succ n)]
  show ((tab (n + 1) f).drop 0).take (n - 0) = _
  rw [List.drop_zero, Nat.sub_zero, tab_succ, List.take_append_of_le_length (by rw [tab_len]; exact Nat.le_refl n), List.take_of_length_le (by rw [tab_len]; exact Nat.le_refl n)]
/-- who asks for a plan -/
structure Asks (K : Fr) (H : Hp) (a b e : Addr) (r : Nat → Addr) (n : Nat) (u v : Nat → Int) (d : IM) : Prop where
  first : SqL K H a (vec n u)
  second : SqL K H b (vec n v)
  dist : Mat H e r n n (mI d)
  le : n ≤ 6
  wu : Wt n u
  wv : Wt n v
  nn : ∀ i j, i < n → j < n → 0 ≤ d i j
/-- common units -/
structure Unit_ (n : Nat) (u v : Nat → Int) (U : Int) : Prop where
  pos : 0 < U
  d1 : sumI n u ∣ U
  d2 : sumI n v ∣ U
  bd : Bd 400 U
def inU (n : Nat) (u : Nat → Int) (U : Int) : Nat → Int := fun i => u i * (U / sumI n u)
theorem inU_nn {n : Nat} {u : Nat → Int} {U : Int} (w : Wt n u) (h : 0 < U) : ∀ i, i < n → 0 ≤ inU n u U i := fun i hi => Int.mul_nonneg (w.nn i hi) (Int.ediv_nonneg (by omega) (by have := w.pos; omega))
def spSome (K : Fr) : Sp := fun vs H Q _ => ∃ (a b e : Addr) (r : Nat → Addr) (n : Nat) (u v : Nat → Int) (d : IM), vs = [.ref a, .ref b, .ref e] ∧ Asks K H a b e r n u v d ∧
  ∀ U P, Unit_ n u v U → CheapI n P (inU n u U) (inU n v U) d → NewM H n n (mI P) Q
abbrev s_some_cheapest_plan : Stmt := top 25
theorem sc_some_cheapest_plan : FnScope ["first", "second", "distances", "size", "units", "supplies", "flow", "gain", "costs", "free", "row"] ["first", "second", "distances"] (defScope s_some_cheapest_plan) := ⟨rfl, rfl, rfl, by decide +kernel, rfl, by decide +kernel, by decide +kernel⟩
theorem app1 {m : Nat} {f : Nat → V} {x : V} : tab m f ++ [x] = tab (m + 1) fun j => if j = m then x else f j := by
  rw [tab_succ, if_pos rfl, tab_congr (f := fun j => if j = m then x else f j) (g := f) fun j hj => if_neg (by omega)]
section
variable {P : Program} {w : World} {K : Fr} {mg : Str → Option Value} {base : Heap} {f : Addr} {fd : FuncData}
theorem ok_some (T : Tx K mg) (A : At K mg "some_cheapest_plan" s_some_cheapest_plan ["first", "second", "distances"] f fd) (G1 : Got P w K mg base CX0 3 "common_units" ["first", "second"] (spCommon K)) (G2 : Got P w K mg base CX0 1 "in_units" ["weights", "units"] (spInU K))
    (G3 : Got P w K mg base CX0 1 "all_free" ["size"] spAllFree) (G4 : Got P w K mg base CX0 3 "raise_entry" ["flow", "costs", "free", "row", "column"] spRaise) :
    Got P w K mg base CX0 4 "some_cheapest_plan" ["first", "second", "distances"] (spSome K) := by
  obtain ⟨f_common_units, fd1, m_common_units, k_common_units, b_common_units, F_common_units⟩ := G1
  obtain ⟨f_in_units, fd2, m_in_units, k_in_units, b_in_units, F_in_units⟩ := G2
  obtain ⟨f_all_free, fd3, m_all_free, k_all_free, b_all_free, F_all_free⟩ := G3
  obtain ⟨f_raise_entry, fd4, m_raise_entry, k_raise_entry, b_raise_entry, F_raise_entry⟩ := G4
  refine A.got (A.fn.ok sc_some_cheapest_plan (fun vs H Q E h => ?_) (fun cdv A outer s H vs Q E hr h => ⟨_, by exact
    (pss_cons (ps_set (i := 3) sc_some_cheapest_plan.nd rfl (Or.inr rfl) (pe_callB (id := "len") (clen (K := K) rfl) (by rfl) T.len (by decide +kernel) (pa_cons (pv 2) pa_nil)))
      (pss_cons (ps_set (i := 4) sc_some_cheapest_plan.nd rfl (Or.inl rfl) (pe_call F_common_units (hr.mono (by decide)) rfl m_common_units k_common_units b_common_units .nil pass0 (by exact (pa_cons (pv 0) (pa_cons (pv 1) pa_nil)))))
      (pss_cons (ps_set (i := 5) sc_some_cheapest_plan.nd rfl (Or.inr rfl) (pe_call F_in_units (hr.mono (by decide)) rfl m_in_units k_in_units b_in_units .nil pass0 (by exact (pa_cons (pv 0) (pa_cons (pv 4) pa_nil)))))
      (pss_cons (ps_setLc (i := 6) (own := [("row", 10)]) rfl sc_some_cheapest_plan.nd rfl rfl (sw_true rfl rfl rfl (by decide +kernel))  (pi_range1 (by rfl) T.range (pa_cons (pv 3) pa_nil)) (blkOk_by (N := ["first", "second", "distances", "size", "units", "supplies", "flow", "gain", "costs", "free", "row"]) (sc := defScope s_some_cheapest_plan) (own := [("row", 10)]) (by decide +kernel)) (fun _ _ _ _ _ => (pg_name (i := 10) sc_some_cheapest_plan.nd rfl (Or.inl rfl))) (fun _ _ _ _ _ => pts_nil) (fun _ _ _ _ _ => (pe_op op_cat (pe_op op_rep (pe_lst (pa_cons pe_int pa_nil)) (pv 3)) (pe_lst (pa_cons (pe_ix (ixL (K := K) rfl) (pv 5) (pv 10) (fun _ _ => rfl)) pa_nil)))))
      (pss_cons (ps_expr (pe_bm PySem.F.plainAttrs_list PySem.F.slot_list_append PySem.F.type_list_append mt_append (pv 6) (pa_cons (pe_op op_cat (pe_call F_in_units (hr.mono (by decide)) rfl m_in_units k_in_units b_in_units .nil pass0 (by exact (pa_cons (pv 1) (pa_cons (pv 4) pa_nil)))) (pe_lst (pa_cons pe_int pa_nil))) pa_nil)))
      (pss_cons (ps_set (i := 7) sc_some_cheapest_plan.nd rfl (Or.inl rfl) (pe_op op_add pe_int (pe_callB (id := "sum") (csum (K := K) rfl rfl) (by rfl) T.sum (by decide +kernel) (pa_cons (pe_lc (own := [("row", 10)]) rfl sc_some_cheapest_plan.nd  (piL (K := K) rfl (pv 2)) (blkOk_by (N := ["first", "second", "distances", "size", "units", "supplies", "flow", "gain", "costs", "free", "row"]) (sc := defScope s_some_cheapest_plan) (own := [("row", 10)]) (by decide +kernel)) (fun _ _ _ _ _ => (pg_name (i := 10) sc_some_cheapest_plan.nd rfl (Or.inl rfl))) (fun _ _ _ _ _ => pts_nil) (fun _ _ _ _ _ => (pe_callB (id := "sum") (csum (K := K) rfl rfl) (by rfl) T.sum (by decide +kernel) (pa_cons (pv 10) pa_nil)))) pa_nil))))
      (pss_cons (ps_setLc (i := 8) (own := [("row", 10)]) rfl sc_some_cheapest_plan.nd rfl rfl (sw_true rfl rfl rfl (by decide +kernel))  (piL (K := K) rfl (pv 2)) (blkOk_by (N := ["first", "second", "distances", "size", "units", "supplies", "flow", "gain", "costs", "free", "row"]) (sc := defScope s_some_cheapest_plan) (own := [("row", 10)]) (by decide +kernel)) (fun _ _ _ _ _ => (pg_name (i := 10) sc_some_cheapest_plan.nd rfl (Or.inl rfl))) (fun _ _ _ _ _ => pts_nil) (fun _ _ _ _ _ => (pe_op op_cat (pv 10) (pe_lst (pa_cons pe_int pa_nil)))))
      (pss_cons (ps_expr (pe_bm PySem.F.plainAttrs_list PySem.F.slot_list_append PySem.F.type_list_append mt_append (pv 8) (pa_cons (pe_op op_cat (pe_op op_rep (pe_lst (pa_cons pe_int pa_nil)) (pv 3)) (pe_lst (pa_cons (pe_un un_neg (pv 7)) pa_nil))) pa_nil)))
      (pss_cons (ps_set (i := 9) sc_some_cheapest_plan.nd rfl (Or.inl rfl) (pe_call F_all_free (hr.mono (by decide)) rfl m_all_free k_all_free b_all_free .nil pass0 (by exact (pa_cons (pe_op op_add (pv 3) pe_int) pa_nil))))
      (pss_cons (ps_asg pe_bl (pg_sub (pe_ix (ixL (K := K) rfl) (pv 9) (pv 3) (fun _ _ => rfl)) (pv 3) set_list))
      (pss_cons (ps_expr (pe_call F_raise_entry (hr.mono (by decide)) rfl m_raise_entry k_raise_entry b_raise_entry .nil pass0 (by exact (pa_cons (pv 6) (pa_cons (pv 8) (pa_cons (pv 9) (pa_cons (pv 3) (pa_cons (pv 3) pa_nil))))))))
      (pss_one (ps_ret (pe_lc (own := [("row", 10)]) rfl sc_some_cheapest_plan.nd  (piL (K := K) rfl (pe_slice (slL (K := K) rfl) (pv 6) po_none (po_some (pv 3)))) (blkOk_by (N := ["first", "second", "distances", "size", "units", "supplies", "flow", "gain", "costs", "free", "row"]) (sc := defScope s_some_cheapest_plan) (own := [("row", 10)]) (by decide +kernel)) (fun _ _ _ _ _ => (pg_name (i := 10) sc_some_cheapest_plan.nd rfl (Or.inl rfl))) (fun _ _ _ _ _ => pts_nil) (fun _ _ _ _ _ => (pe_slice (slL (K := K) rfl) (pv 10) po_none (po_some (pv 3))))))))))))))))))
    , ?_⟩))
  · obtain ⟨a, b, e, r, n, u, v, d, rfl, _⟩ := h
    rfl
  · obtain ⟨a, b, e, r, n, u, v, d, rfl, ⟨ha, hb, M, hn, wu, wv, nn⟩, k⟩ := h
    refine ⟨_, rfl, e, _, rfl, .inl (SqL.of M.at_), ?_⟩
    rw [tab_len]
    refine ⟨_, rfl, _, rfl, a, b, n, u, v, rfl, ha, hb, wu, wv, fun U hU d1 d2 bU => ?_⟩
    refine ⟨_, rfl, _, rfl, a, n, u, U, rfl, ha, by omega, wu, hU, bU, fun S H1 s1 nS lS => ?_⟩
    have zr : ∀ m : Nat, m ≤ 10 → 1 * (m : Int).toNat ≤ sizeLine := fun m h => size_ok (by show 1 * m ≤ 100000; omega)
    have rep : ∀ (m : Nat) (x : V), (List.replicate (m : Int).toNat [x]).flatten = tab m fun _ => x := fun m x => rep_tab
    -- flow, without the store's row
    refine ⟨_, rfl, n, rfl, by omega, by omega, fun D hD => comp_rows (walk_rng (n := n)) (n + 1) (fun i j => V.int (if j = n then inU n u U i else 0)) hD (by omega) (fun _ _ => trivial) (fun i x H2 H' hi s2 y F hF => ?_) (fun rd H2 s2 N => ?_) gm_name⟩
    · obtain ⟨rfl, rfl⟩ := y
      refine ⟨rfl, by show 1 ≤ sizeLine; decide, fun p hp => ⟨_, rfl, p, n, _, rfl, rfl, upd_same, by omega, by omega, zr n (by omega), fun p1 hp1 => ⟨_, rfl, _, rfl, S, _, _, _, rfl, rfl, SqL.of (same_new hp1 _ _ (same_new hp _ _ (s2 _ _ lS))), tab_at hi, by show 1 ≤ sizeLine; decide, fun p2 hp2 =>
        ⟨p1, p2, _, _, rfl, rfl, same_new hp2 _ _ upd_same, upd_same, ?_, fun p3 hp3 => hF p3 _ (((same_new hp).trans (same_new hp1)).trans ((same_new hp2).trans (same_new hp3))) ?_ ?_⟩⟩⟩⟩
      · rw [rep n, tab_len]; exact size_ok (by show n + 1 ≤ 100000; omega)
      · exact ((same_new hp).trans (same_new hp1)).free ((same_new hp2).free hp3)
      · rw [upd_same, rep n, app1]
        refine congrArg (fun l => some (HO.lst l)) (tab_congr fun j hj => ?_)
        by_cases q : j = n
        · rw [if_pos q, if_pos q]; rfl
        · rw [if_neg q, if_neg q]
    · -- the store's row
      have s02 := s1.trans s2
      refine ⟨_, rfl, .inl ⟨rfl, _, SqL.of N.mat.at_⟩, _, rfl, _, rfl, b, n, v, U, rfl, s02.seq hb, by omega, wv, hU, bU, fun q H3 s3 nq lq => ⟨by show 1 ≤ sizeLine; decide, fun p hp => ⟨q, p, _, _, rfl, rfl, same_new hp _ _ lq, upd_same, ?_, fun p2 hp2 => ?_⟩⟩⟩
      · rw [vec_len]; exact size_ok (by show n + 1 ≤ 100000; omega)
      have s35 : Same H2 (upd (upd H3 p (.lst [V.int 0])) p2 (.lst ((vec n fun i => v i * (U / sumI n v)) ++ [V.int 0]))) := s3.trans ((same_new hp).trans (same_new hp2))
      have N5 := N.same s35
      have np2 : H2 p2 = none := (s3.trans (same_new hp)).free hp2
      refine ⟨D, _, _, rfl, rfl, N5.mat.at_, by rw [tab_len]; exact small1000 (by omega), ?_⟩
      have hp2l : upd (upd H3 p (.lst [V.int 0])) p2 (.lst ((vec n fun i => v i * (U / sumI n v)) ++ [V.int 0])) p2 = some (.lst (tab (n + 1) (mI (stF n (inU n u U) (inU n v U)) n))) := by
        rw [upd_same]
        unfold vec
        rw [app1]
        refine congrArg (fun l => some (HO.lst l)) (tab_congr fun j hj => ?_)
        show _ = V.int (stF n (inU n u U) (inU n v U) n j)
        unfold stF
        by_cases c : j = n
        · rw [if_pos c, if_pos c, if_pos rfl]
        · rw [if_neg c, if_neg c, if_pos rfl]; rfl
      have N6 := N5.push (g := mI (stF n (inU n u U) (inU n v U))) hp2l (s2.free np2) (fun z => by rw [z, N.mat.at_] at np2; cases np2) (fun i hi z => by have := N.mat.row i hi; rw [z, np2] at this; cases this) (fun i j hi hj => by
        show V.int _ = V.int (stF n (inU n u U) (inU n v U) i j)
        unfold stF
        by_cases c : j = n
        · rw [if_pos c, if_pos c, if_neg (by omega)]
        · rw [if_neg c, if_neg c, if_neg (by omega)])
      have N6 := N6.back s1
      have s06 : Same H (upd (upd (upd H3 p (.lst [V.int 0])) p2 (.lst ((vec n fun i => v i * (U / sumI n v)) ++ [V.int 0]))) D (.lst ((tab n fun i => .ref (rd i)) ++ [.ref p2]))) := same_mut (s02.trans s35) N6.new
      generalize upd (upd (upd H3 p (.lst [V.int 0])) p2 (.lst ((vec n fun i => v i * (U / sumI n v)) ++ [V.int 0]))) D (.lst ((tab n fun i => .ref (rd i)) ++ [.ref p2])) = H6 at N6 s06 ⊢
      generalize OT.set1 rd n p2 = rf at N6
      clear hp2l N5 s35 np2
      -- gain
      refine ⟨_, rfl, e, rfl, ⟨_, SqL.of (s06 _ _ M.at_)⟩, fun G hG => comp_vals (walk_list (xs := tab n fun i => .ref (r i))) (fun i => .int (sumI n (d i))) hG (by rw [tab_len]; omega) (fun H' s => SqL.of ((s06.trans s) _ _ M.at_)) (fun i x H7 H' hi s7 y F hF => ?_) (fun H7 s7 hl => ?_) gm_name⟩
      · obtain ⟨rfl, ex⟩ := y
        obtain ⟨hi', rfl⟩ := tab_of ex
        exact ⟨rfl, _, rfl, r i, _, rfl, sq_vec (SqL.of ((s06.trans s7) _ _ (M.row i hi'))), hF _ (Same.refl _)⟩
      rw [tab_len] at hl
      refine ⟨G, _, rfl, sq_vec (u := fun i => sumI n (d i)) (SqL.of hl), _, _, rfl, rfl, ?_⟩
      have s07 := s06.trans s7
      have N7 := N6.same s7
      -- costs, without the store's row
      refine ⟨_, rfl, e, rfl, ⟨_, SqL.of (s07 _ _ M.at_)⟩, fun C hC => comp_rows (walk_list (xs := tab n fun i => .ref (r i))) (n + 1) (fun i j => V.int (if j = n then 0 else d i j)) hC (by rw [tab_len]; omega) (fun H' s => SqL.of ((s07.trans s) _ _ M.at_)) (fun i x H8 H' hi s8 y F hF => ?_) (fun rc H8 s8 NC => ?_) gm_name⟩
      · obtain ⟨rfl, ex⟩ := y
        obtain ⟨hi', rfl⟩ := tab_of ex
        refine ⟨rfl, _, rfl, by show 1 ≤ sizeLine; decide, fun p hp => ⟨r i, p, _, _, rfl, rfl, same_new hp _ _ ((s07.trans s8) _ _ (M.row i hi')), upd_same, ?_, fun p2 hp2 => hF p2 _ ((same_new hp).trans (same_new hp2)) ((same_new hp).free hp2) ?_⟩⟩
        · rw [tab_len]; exact size_ok (by show n + 1 ≤ 100000; omega)
        · rw [upd_same, app1]
          refine congrArg (fun l => some (HO.lst l)) (tab_congr fun j hj => ?_)
          by_cases q : j = n
          · rw [if_pos q, if_pos q]
          · rw [if_neg q, if_neg q]; rfl
      rw [tab_len] at NC
      have s08 := s07.trans s8
      have N8 := N7.same s8
      refine ⟨_, rfl, .inl ⟨rfl, _, SqL.of NC.mat.at_⟩, by show 1 ≤ sizeLine; decide, fun p hp => ⟨_, rfl, p, n, _, rfl, rfl, upd_same, by omega, by omega, zr n (by omega), fun p1 hp1 => ⟨_, rfl, _, rfl, by show 1 ≤ sizeLine; decide, fun p2 hp2 =>
        ⟨p1, p2, _, _, rfl, rfl, same_new hp2 _ _ upd_same, upd_same, ?_, fun p3 hp3 => ?_⟩⟩⟩⟩
      · rw [rep n, tab_len]; exact size_ok (by show n + 1 ≤ 100000; omega)
      have s812 := ((same_new (o := .lst [V.int 0]) hp).trans (same_new (o := .lst (List.replicate (n : Int).toNat [V.int 0]).flatten) hp1)).trans ((same_new (o := .lst [V.int (-(1 + (((List.range n).map fun i => sumI n (d i))).sum))]) hp2).trans (same_new (o := .lst ((List.replicate (n : Int).toNat [V.int 0]).flatten ++ [V.int (-(1 + (((List.range n).map fun i => sumI n (d i))).sum))])) hp3))
      have NC5 := NC.same s812
      have np3 := ((same_new (o := .lst [V.int 0]) hp).trans (same_new (o := .lst (List.replicate (n : Int).toNat [V.int 0]).flatten) hp1)).free ((same_new (o := .lst [V.int (-(1 + (((List.range n).map fun i => sumI n (d i))).sum))]) hp2).free hp3)
      refine ⟨C, _, _, rfl, rfl, NC5.mat.at_, by rw [tab_len]; exact small1000 (by omega), ?_⟩
      have hp3l : upd (upd (upd (upd H8 p (.lst [V.int 0])) p1 (.lst (List.replicate (n : Int).toNat [V.int 0]).flatten)) p2 (.lst [V.int (-(1 + (((List.range n).map fun i => sumI n (d i))).sum))])) p3 (.lst ((List.replicate (n : Int).toNat [V.int 0]).flatten ++ [V.int (-(1 + (((List.range n).map fun i => sumI n (d i))).sum))])) p3 =
          some (.lst (tab (n + 1) (mI (stC n d (1 + sumI n fun i => sumI n (d i))) n))) := by
        rw [upd_same, rep n, app1]
        refine congrArg (fun l => some (HO.lst l)) (tab_congr fun j hj => ?_)
        show _ = V.int (stC n d (1 + sumI n fun i => sumI n (d i)) n j)
        unfold OT.stC
        by_cases c : j = n
        · rw [if_pos c, if_pos rfl, if_pos c]; rfl
        · rw [if_neg c, if_pos rfl, if_neg c]
      have NC6 := NC5.push (g := mI (stC n d (1 + sumI n fun i => sumI n (d i)))) hp3l (s8.free np3) (fun z => by rw [z, NC.mat.at_] at np3; cases np3) (fun i hi z => by have := NC.mat.row i hi; rw [z, np3] at this; cases this) (fun i j hi hj => by
        show V.int _ = V.int (stC n d _ i j)
        unfold OT.stC
        rw [if_neg (show ¬ i = n by omega)])
      have N9 := N8.same s812
      have nC : H7 C = none := NC.new
      have nC0 : H C = none := s07.free nC
      have sN : ∀ c o, H7 c = some o → upd (upd (upd (upd (upd H8 p (.lst [V.int 0])) p1 (.lst (List.replicate (n : Int).toNat [V.int 0]).flatten)) p2 (.lst [V.int (-(1 + (((List.range n).map fun i => sumI n (d i))).sum))])) p3 (.lst ((List.replicate (n : Int).toNat [V.int 0]).flatten ++ [V.int (-(1 + (((List.range n).map fun i => sumI n (d i))).sum))]))) C (.lst ((tab n fun i => .ref (rc i)) ++ [.ref p3])) c = some o := same_mut (s8.trans s812) nC
      have N10 := N7.same sN
      have s010 := s07.trans sN
      generalize upd (upd (upd (upd (upd H8 p (.lst [V.int 0])) p1 (.lst (List.replicate (n : Int).toNat [V.int 0]).flatten)) p2 (.lst [V.int (-(1 + (((List.range n).map fun i => sumI n (d i))).sum))])) p3 (.lst ((List.replicate (n : Int).toNat [V.int 0]).flatten ++ [V.int (-(1 + (((List.range n).map fun i => sumI n (d i))).sum))]))) C (.lst ((tab n fun i => .ref (rc i)) ++ [.ref p3])) = H10 at NC6 sN N10 s010 ⊢
      generalize OT.set1 rc n p3 = rk at NC6
      -- free
      refine ⟨_, rfl, _, _, rfl, rfl, n + 1, rfl, by omega, fun Fa rb H11 s11 NB => ?_⟩
      refine ⟨_, rfl, _, rfl, Fa, _, _, _, rfl, rfl, SqL.of NB.mat.at_, tab_at (Nat.lt_succ_self n), _, rfl, rb n, _, _, n, rfl, rfl, NB.mat.row n (Nat.lt_succ_self n), ixn (by rw [tab_len]; exact Nat.lt_succ_self n), ?_⟩
      have MB := (NB.mat.set (i := n) (j := n) (Nat.lt_succ_self n) (.bl false)).congr (g := bM (stFr n)) fun i j _ _ => by
        show (if i = n ∧ j = n then V.bl false else V.bl true) = V.bl (if i = n ∧ j = n then false else true)
        split <;> rfl
      have sB : Same H10 (upd H11 (rb n) (.lst ((tab (n + 1) fun _ => V.bl true).set n (.bl false)))) := same_mut s11 (NB.rows n (Nat.lt_succ_self n))
      have MF := N10.mat.same sB
      have MC := NC6.mat.same sB
      refine ⟨_, rfl, _, rfl, _, rfl, _, rfl, _, rfl, D, C, Fa, rf, rk, rb, n + 1, n, n, stF n (inU n u U) (inU n v U), stC n d (1 + sumI n fun i => sumI n (d i)), stFr n, fun _ => 0, rfl, MF, MC, MB, by omega, Nat.lt_succ_self n, Nat.lt_succ_self n, ?_, ?_, OT.st_fit nn, ?_, fun P' H12 bt M12 R => ?_⟩
      · unfold stFr; rw [if_pos ⟨rfl, rfl⟩]
      · exact OT.st_nn (inU_nn wu hU) (inU_nn wv hU)
      · -- the flow's rows stand apart
        have k7 : ∀ i, i < n + 1 → ∃ o, H7 (rf i) = some o := fun i hi => ⟨_, N7.mat.row i hi⟩
        have k10 : ∀ i, i < n + 1 → ∃ o, H10 (rf i) = some o := fun i hi => ⟨_, N10.mat.row i hi⟩
        refine ⟨fun i hi z => ?_, fun i hi z => ?_, fun i j hi hj z => ?_, fun i j hi hj z => ?_⟩
        · obtain ⟨o, ho⟩ := k7 i hi
          rw [← z, nC] at ho; cases ho
        · obtain ⟨o, ho⟩ := k10 i hi
          rw [← z, NB.new] at ho; cases ho
        · obtain ⟨o, ho⟩ := k7 j hj
          rw [← z, NC6.rows i hi] at ho; cases ho
        · obtain ⟨o, ho⟩ := k10 j hj
          rw [← z, NB.rows i hi] at ho; cases ho
      have s012 : Same H H12 := But.same (H := upd H11 (rb n) (.lst ((tab (n + 1) fun _ => V.bl true).set n (.bl false)))) (s010.trans sB) bt N10.rows
      have cheap := OT.st_done (wt_units d1) (wt_units d2) nn rfl R
      refine ⟨_, rfl, _, rfl, _, rfl, D, _, rfl, SqL.of M12.at_, fun E1 hE1 => ⟨E1, rfl, ⟨_, SqL.of upd_same⟩, fun Z hZ => comp_rows (walk_list (xs := tab n fun i => .ref (rf i))) n (mI P') hZ (by rw [tab_len]; omega) (fun H' s => SqL.of (s _ _ (by rw [upd_same, cut_tab]))) (fun i x H13 H' hi s13 y F hF => ?_) (fun rz H13 s13 NZ => ?_) gm_name⟩⟩
      · obtain ⟨rfl, ex⟩ := y
        obtain ⟨hi', rfl⟩ := tab_of ex
        refine ⟨rfl, _, rfl, _, rfl, _, rfl, rf i, _, rfl, SqL.of (s13 _ _ (same_new hE1 _ _ (M12.row i (by omega)))), fun p hp => hF p _ (same_new hp) hp ?_⟩
        rw [upd_same, cut_tab]
      · rw [tab_len] at NZ
        exact k U P' ⟨hU, d1, d2, bU⟩ cheap Z rz H13 ((s012.trans (same_new hE1)).trans s13) (NZ.back (s012.trans (same_new hE1)))
end
end EH

namespace EH
open PySem PySem.Spec PyProof.Rows L2
open OT (Fit Mid RaisedF IM CheapI allF LexI frTo BefD)
def spGreatest (K : Fr) : Sp := fun vs H Q _ => ∃ (a b e : Addr) (r : Nat → Addr) (n : Nat) (u v : Nat → Int) (d : IM), vs = [.ref a, .ref b, .ref e] ∧ Asks K H a b e r n u v d ∧
  ∀ U P0 P, Unit_ n u v U → CheapI n P0 (inU n u U) (inU n v U) d → LexI n d P0 n 0 P → NewM H n n (mI P) Q
abbrev s_greatest_cheapest_plan : Stmt := top 26
theorem sc_greatest_cheapest_plan : FnScope ["first", "second", "distances", "size", "plan", "free", "row", "column"] ["first", "second", "distances"] (defScope s_greatest_cheapest_plan) := ⟨rfl, rfl, rfl, by decide +kernel, rfl, by decide +kernel, by decide +kernel⟩
section
variable {P : Program} {w : World} {K : Fr} {mg : Str → Option Value} {base : Heap} {f : Addr} {fd : FuncData}
theorem ok_greatest (T : Tx K mg) (A : At K mg "greatest_cheapest_plan" s_greatest_cheapest_plan ["first", "second", "distances"] f fd) (G1 : Got P w K mg base CX0 4 "some_cheapest_plan" ["first", "second", "distances"] (spSome K))
    (G3 : Got P w K mg base CX0 1 "all_free" ["size"] spAllFree) (G4 : Got P w K mg base CX0 3 "raise_entry" ["flow", "costs", "free", "row", "column"] spRaise) :
    Got P w K mg base CX0 5 "greatest_cheapest_plan" ["first", "second", "distances"] (spGreatest K) := by
  obtain ⟨f_some_cheapest_plan, fd1, m_some_cheapest_plan, k_some_cheapest_plan, b_some_cheapest_plan, F_some_cheapest_plan⟩ := G1
  obtain ⟨f_all_free, fd3, m_all_free, k_all_free, b_all_free, F_all_free⟩ := G3
  obtain ⟨f_raise_entry, fd4, m_raise_entry, k_raise_entry, b_raise_entry, F_raise_entry⟩ := G4
  refine A.got (A.fn.ok sc_greatest_cheapest_plan (fun vs H Q E h => ?_) (fun cdv A outer s H vs Q E hr h => ⟨_, by exact
    (pss_cons (ps_set (i := 3) sc_greatest_cheapest_plan.nd rfl (Or.inl rfl) (pe_callB (id := "len") (clen (K := K) rfl) (by rfl) T.len (by decide +kernel) (pa_cons (pv 2) pa_nil)))
      (pss_cons (ps_set (i := 4) sc_greatest_cheapest_plan.nd rfl (Or.inl rfl) (pe_call F_some_cheapest_plan (hr.mono (by decide)) rfl m_some_cheapest_plan k_some_cheapest_plan b_some_cheapest_plan .nil pass0 (by exact (pa_cons (pv 0) (pa_cons (pv 1) (pa_cons (pv 2) pa_nil))))))
      (pss_cons (ps_set (i := 5) sc_greatest_cheapest_plan.nd rfl (Or.inl rfl) (pe_call F_all_free (hr.mono (by decide)) rfl m_all_free k_all_free b_all_free .nil pass0 (by exact (pa_cons (pv 3) pa_nil))))
      (pss_cons (ps_for PassesOwn.never rfl (pi_range1 (by rfl) T.range (pa_cons (pv 3) pa_nil)) (pg_name (i := 6) sc_greatest_cheapest_plan.nd rfl (Or.inl rfl)) (pss_one (ps_for PassesOwn.never rfl (pi_range1 (by rfl) T.range (pa_cons (pv 3) pa_nil)) (pg_name (i := 7) sc_greatest_cheapest_plan.nd rfl (Or.inl rfl)) (pss_cons (ps_asg pe_bl (pg_sub (pe_ix (ixL (K := K) rfl) (pv 5) (pv 6) (fun _ _ => rfl)) (pv 7) set_list))
      (pss_one (ps_expr (pe_call F_raise_entry (hr.mono (by decide)) rfl m_raise_entry k_raise_entry b_raise_entry .nil pass0 (by exact (pa_cons (pv 4) (pa_cons (pv 2) (pa_cons (pv 5) (pa_cons (pv 6) (pa_cons (pv 7) pa_nil)))))))))))))
      (pss_one (ps_ret (pv 4)))))))
    , ?_⟩))
  · obtain ⟨a, b, e, r, n, u, v, d, rfl, _⟩ := h
    rfl
  · obtain ⟨a, b, e, r, n, u, v, d, rfl, as, k⟩ := h
    have M := as.dist
    have hn := as.le
    refine ⟨_, rfl, e, _, rfl, .inl (SqL.of M.at_), ?_⟩
    rw [tab_len]
    refine ⟨_, rfl, _, rfl, _, rfl, a, b, e, r, n, u, v, d, rfl, as, fun U P0 hU ch D rp H1 s1 N => ?_⟩
    refine ⟨_, rfl, n, rfl, by omega, fun Fa rb H2 s2 NB => ?_⟩
    have np : ∀ i, i < n → H (rp i) = none := N.rows
    have ap : Apart rp n e Fa r rb := by
      refine ⟨fun i hi z => ?_, fun i hi z => ?_, fun i j hi hj z => ?_, fun i j hi hj z => ?_⟩
      · have := M.at_; rw [z, np i hi] at this; cases this
      · have := N.mat.row i hi; rw [← z, NB.new] at this; cases this
      · have := M.row i hi; rw [z, np j hj] at this; cases this
      · have := N.mat.row j hj; rw [← z, NB.rows i hi] at this; cases this
    have nb : ∀ i, i < n → H (rb i) = none := fun i hi => s1.free (NB.rows i hi)
    have Db : ∀ i, i < n → D ≠ rb i := fun i hi z => by have := N.mat.at_; rw [z, NB.rows i hi] at this; cases this
    refine ⟨_, rfl, n, rfl, by omega, by omega, for_rng (n := n) (fun i σ H' => ∃ (P : IM) (v6 v7 : Option V), σ = [some (.ref a), some (.ref b), some (.ref e), some (.int n), some (.ref D), some (.ref Fa), v6, v7] ∧ Same H H' ∧ Mat H' D rp n n (mI P) ∧ Mat H' Fa rb n n (bM (frTo i 0)) ∧ LexI n d P0 i 0 P)
      ⟨P0, none, none, rfl, s1.trans s2, N.mat.same s2, NB.mat.congr fun i j _ _ => ?_, OT.lex_start ch⟩ (fun i σ H3 hi p => ?_) (fun σ H' p => ?_)⟩
    · show V.bl true = V.bl (if BefD 0 0 i j then false else true)
      rw [if_neg (by unfold BefD; omega)]
    · obtain ⟨P, v6, v7, rfl, s3, MP, MB, L⟩ := p
      refine ⟨_, rfl, n, rfl, by omega, by omega, for_rng (n := n) (fun j σ H' => ∃ (P : IM) (v7 : Option V), σ = [some (.ref a), some (.ref b), some (.ref e), some (.int n), some (.ref D), some (.ref Fa), some (.int i), v7] ∧ Same H H' ∧ Mat H' D rp n n (mI P) ∧ Mat H' Fa rb n n (bM (frTo i j)) ∧ LexI n d P0 i j P)
        ⟨P, v7, rfl, s3, MP, MB, L⟩ (fun j σ H4 hj p => ?_) (fun σ H' p => ?_)⟩
      · obtain ⟨P, v7, rfl, s4, MP, MB, L⟩ := p
        refine ⟨_, rfl, _, rfl, Fa, _, _, _, rfl, rfl, SqL.of MB.at_, tab_at hi, _, rfl, rb i, _, _, j, rfl, rfl, MB.row i hi, ixn (by rw [tab_len]; exact hj), ?_⟩
        have MB5 := (MB.set (i := i) (j := j) hi (.bl false)).congr (g := bM (frTo i (j + 1))) fun a b _ _ => by
          show (if a = i ∧ b = j then V.bl false else V.bl (if BefD i j a b then false else true)) = V.bl (if BefD i (j + 1) a b then false else true)
          by_cases c : a = i ∧ b = j
          · rw [if_pos c, if_pos (by unfold BefD; omega)]
          · rw [if_neg c]
            by_cases c2 : BefD i j a b
            · rw [if_pos c2, if_pos (by unfold BefD at *; omega)]
            · rw [if_neg c2, if_neg (by unfold BefD at *; omega)]
        have s5 : Same H (upd H4 (rb i) (.lst ((tab n (bM (frTo i j) i)).set j (.bl false)))) := same_mut s4 (nb i hi)
        have MP5 : Mat (upd H4 (rb i) (.lst ((tab n (bM (frTo i j) i)).set j (.bl false)))) D rp n n (mI P) :=
          ⟨by rw [upd_ne (Db i hi)]; exact MP.at_, MP.inj, MP.out, fun x hx => by rw [upd_ne (fun z => ap.fr i x hi hx z.symm)]; exact MP.row x hx⟩
        obtain ⟨g, ft⟩ := L.fit
        have fre : frTo i (j + 1) i j = false := by unfold frTo; rw [if_pos]; unfold BefD; omega
        have ft2 : Fit n P d (frTo i (j + 1)) g := by
          have sub : ∀ x y, frTo i (j + 1) x y = true → frTo i j x y = true := fun x y h => by
            unfold frTo at *
            by_cases c : BefD i (j + 1) x y
            · rw [if_pos c] at h; cases h
            · rw [if_neg]; unfold BefD at *; omega
          exact ⟨fun x y hx hy h => ft.le x y hx hy (sub x y h), fun x y hx hy h => ft.eq x y hx hy (sub x y h)⟩
        refine ⟨_, rfl, _, rfl, _, rfl, _, rfl, _, rfl, D, e, Fa, rp, r, rb, n, i, j, P, d, frTo i (j + 1), g, rfl, MP5, M.same s5, MB5, by omega, hi, hj, fre, L.nn, ft2, ap, fun G H6 bt MG R => ?_⟩
        exact ⟨G, _, rfl, But.same s5 bt np, MG, MB5.but bt (fun x hx => ap.fb x hx) (fun x y hx hy => ap.fr x y hx hy), OT.lex_step L hi hj R⟩
      · obtain ⟨P, v7, rfl, s4, MP, MB, L⟩ := p
        refine ⟨P, _, _, rfl, s4, MP, MB.congr fun x y _ hy => ?_, OT.lex_row L⟩
        show V.bl (if BefD i n x y then false else true) = V.bl (if BefD (i + 1) 0 x y then false else true)
        by_cases c : BefD i n x y
        · rw [if_pos c, if_pos (by unfold BefD at *; omega)]
        · rw [if_neg c, if_neg (by unfold BefD at *; omega)]
    · obtain ⟨P, v6, v7, rfl, s3, MP, MB, L⟩ := p
      exact ⟨_, rfl, k U P0 P hU ch L D rp H' s3 ⟨MP, N.new, np⟩⟩
end
end EH

/-! The best prices as shortest ways. -/
namespace OT
set_option linter.unusedVariables false
open EH
def risesOf (P d : IM) : OM := fun x y => some (if 0 < P y x then - d y x else d x y)
theorem Way.lower {src : Nat → Prop} {E E' : Arcs} (h : ∀ u v w, E u v w → ∃ w', w' ≤ w ∧ E' u v w') {l v x} (a : Way src E l v x) : ∃ x', x' ≤ x ∧ Way src E' l v x' := by
  induction a with
  | nil s => exact ⟨0, Int.le_refl _, .nil s⟩
  | @snoc l u v x w a b ih =>
    obtain ⟨x', hx, a'⟩ := ih
    obtain ⟨w', hw, b'⟩ := h _ _ _ b
    exact ⟨x' + w', by omega, .snoc a' b'⟩
theorem part_pos {P : IM} {U : Int} (hU : 0 < U) {i j : Nat} : 0 < part P U i j ↔ 0 < P i j := by
  unfold part
  have u := u_pos hU
  constructor
  · intro h
    have := Rat.mul_lt_mul_of_pos_right h u
    rw [Rat.div_mul_cancel (by grind)] at this
    have h2 : (0 : Rat) < (P i j : Rat) := by grind
    exact_mod_cast h2
  · intro h
    rw [Rat.div_def]
    exact pos_of h (Rat.inv_pos.mpr u)
structure Best (n : Nat) (d P : IM) (U : Int) (g : Nat → Int) : Prop where
  pos : 0 < U
  met : Met n d
  nn : ∀ i j, i < n → j < n → 0 ≤ d i j
  feas : Feas n d g
  tight : Tight n d g (part P U)
theorem rises_steps {n d P U g} (B : Best n d P U g) : Steps n (risesOf P d) g where
  diag := fun i hi => by
    unfold risesOf
    rw [B.met.refl i hi]
    split <;> rfl
  pot := fun x y w hx hy e => by
    unfold risesOf at e
    have e2 := Option.some.inj e
    split at e2
    · rename_i c
      have := B.tight y x hy hx ((part_pos B.pos).mpr c)
      omega
    · have := B.feas x y hx hy
      omega
theorem fw_total {S : OM} (h : ∀ x y, (S x y).isSome = true) : ∀ k x y, (fwA S k x y).isSome = true
  | 0, x, y => h x y
  | k + 1, x, y => by
    have h1 := fw_total h k x y
    have h2 := fw_total h k x k
    have h3 := fw_total h k k y
    show (sh (fwA S k x y) (jn (fwA S k x k) (fwA S k k y))).isSome = true
    cases e1 : fwA S k x y with
    | none => rw [e1] at h1; cases h1
    | some a => cases e2 : fwA S k x k with
      | none => rw [e2] at h2; cases h2
      | some b => cases e3 : fwA S k k y with
        | none => rw [e3] at h3; cases h3
        | some c => rfl
theorem best_prices {n d P U g al be} (hn : 0 < n) (B : Best n d P U g) (hp : Plan n al be (part P U)) :
    ∃ f : Nat → Int, (∀ j, fwA (risesOf P d) n 0 j = some (f j)) ∧ Prices n d al be f := by
  have tot : ∀ j, ∃ x, fwA (risesOf P d) n 0 j = some x := fun j => Option.isSome_iff_exists.mp (fw_total (fun _ _ => rfl) n 0 j)
  refine ⟨fun j => (fwA (risesOf P d) n 0 j).getD 0, fun j => ?_, ?_⟩
  · obtain ⟨x, e⟩ := tot j
    show fwA (risesOf P d) n 0 j = some ((fwA (risesOf P d) n 0 j).getD 0)
    rw [e]; rfl
  · refine (prices_of_dist hn hp B.feas B.tight fun j hj => ?_).1
    have D := fw_dist (rises_steps B) hn hj
    obtain ⟨x, e⟩ := tot j
    rw [e] at D
    have e2 : (some ((fwA (risesOf P d) n 0 j).getD 0) : Option Int) = some x := by rw [e]; rfl
    rw [e2]
    refine ⟨fun l z w => ?_, fun z ez => ?_⟩
    · obtain ⟨z', hz, w'⟩ := w.lower (E' := SArc n (risesOf P d)) (by
        rintro u v w ⟨hu, hv, h⟩
        by_cases c : 0 < P v u
        · refine ⟨- d v u, ?_, hu, hv, by unfold risesOf; rw [if_pos c]⟩
          have := B.nn u v hu hv
          have := B.nn v u hv hu
          rcases h with h | h <;> omega
        · refine ⟨d u v, ?_, hu, hv, by unfold risesOf; rw [if_neg c]⟩
          rcases h with h | ⟨h, _⟩
          · omega
          · exact absurd ((part_pos B.pos).mp h) c)
      exact (D.least l z' w').le hz
    · obtain ⟨l, w⟩ := D.way z ez
      refine ⟨l, w.mono (fun _ h => h) ?_⟩
      rintro u v w ⟨hu, hv, e⟩
      unfold risesOf at e
      have e2 := Option.some.inj e
      refine ⟨hu, hv, ?_⟩
      split at e2
      · rename_i c
        exact .inr ⟨(part_pos B.pos).mpr c, e2.symm⟩
      · exact .inl e2.symm
end OT

namespace EH
open PySem PySem.Spec PyProof.Rows L2
open OT (IM CheapI allF LexI part Sums Prices Feas Met)
/-! ### potentials -/
def ra (n : Nat) (u : Nat → Int) : Nat → Rat := fun i => (u i : Rat) / (sumI n u : Rat)
theorem inU_cast {n : Nat} {u : Nat → Int} {U : Int} (wu : Wt n u) (hd : sumI n u ∣ U) (i : Nat) : ((inU n u U i : Int) : Rat) = ra n u i * (U : Rat) := by
  obtain ⟨c, rfl⟩ := hd
  unfold inU ra
  rw [Int.mul_ediv_cancel_left _ (by have := wu.pos; omega), Rat.intCast_mul, Rat.intCast_mul]
  have h : (sumI n u : Rat) ≠ 0 := by have := OT.u_pos wu.pos; grind
  rw [Rat.div_def, Rat.mul_assoc, ← Rat.mul_assoc (sumI n u : Rat)⁻¹, Rat.inv_mul_cancel _ h, Rat.one_mul]
theorem cheap_sums {n : Nat} {P d : IM} {u v : Nat → Int} {U : Int} (wu : Wt n u) (wv : Wt n v) (hU : Unit_ n u v U) (h : CheapI n P (inU n u U) (inU n v U) d) : Sums n P U (ra n u) (ra n v) :=
  ⟨hU.pos, fun i hi => by rw [h.row i hi, inU_cast wu hU.d1], fun j hj => by rw [h.col j hj, inU_cast wv hU.d2]⟩
def spBestPot (K : Fr) : Sp := fun vs H Q _ => ∃ (a b e : Addr) (r : Nat → Addr) (n : Nat) (u v : Nat → Int) (d : IM), vs = [.ref a, .ref b, .ref e] ∧ Asks K H a b e r n u v d ∧ 0 < n ∧ Met n d ∧
  ∀ f : Nat → Int, Prices n d (ra n u) (ra n v) f → NewL H (vec n f) Q
abbrev s_greatest_best_potentials : Stmt := top 35
theorem sc_greatest_best_potentials : FnScope ["first", "second", "distances", "rises", "row", "amounts", "column", "amount"] ["first", "second", "distances"] (defScope s_greatest_best_potentials) := ⟨rfl, rfl, rfl, by decide +kernel, rfl, by decide +kernel, by decide +kernel⟩
section
variable {P : Program} {w : World} {K : Fr} {mg : Str → Option Value} {base : Heap} {f : Addr} {fd : FuncData}
theorem ok_bestpot (T : Tx K mg) (A : At K mg "greatest_best_potentials" s_greatest_best_potentials ["first", "second", "distances"] f fd) (G1 : Got P w K mg base CX0 4 "some_cheapest_plan" ["first", "second", "distances"] (spSome K))
    (G2 : Got P w K mg base CX0 2 "shortest_ways" ["steps"] spWays) : Got P w K mg base CX0 5 "greatest_best_potentials" ["first", "second", "distances"] (spBestPot K) := by
  obtain ⟨f_some_cheapest_plan, fd1, m_some_cheapest_plan, k_some_cheapest_plan, b_some_cheapest_plan, F_some_cheapest_plan⟩ := G1
  obtain ⟨f_shortest_ways, fd2, m_shortest_ways, k_shortest_ways, b_shortest_ways, F_shortest_ways⟩ := G2
  refine A.got (A.fn.ok sc_greatest_best_potentials (fun vs H Q E h => ?_) (fun cdv A outer s H vs Q E hr h => ⟨_, by exact
    (pss_cons (ps_setLc (i := 3) (own := [("row", 4)]) rfl sc_greatest_best_potentials.nd rfl rfl (sw_true rfl rfl rfl (by decide +kernel))  (piL (K := K) rfl (pv 2)) (blkOk_by (N := ["first", "second", "distances", "rises", "row", "amounts", "column", "amount"]) (sc := defScope s_greatest_best_potentials) (own := [("row", 4)]) (by decide +kernel)) (fun _ _ _ _ _ => (pg_name (i := 4) sc_greatest_best_potentials.nd rfl (Or.inl rfl))) (fun _ _ _ _ _ => pts_nil) (fun _ _ _ _ _ => (pe_callTy (T := "list") (clst (K := K) rfl) (by rfl) T.list (by decide +kernel) (pa_cons (pv 4) pa_nil))))
      (pss_cons (ps_for PassesOwn.never rfl (piEnum (K := K) rfl (by rfl) T.enumerate (pa_cons (pe_call F_some_cheapest_plan (hr.mono (by decide)) rfl m_some_cheapest_plan k_some_cheapest_plan b_some_cheapest_plan .nil pass0 (by exact (pa_cons (pv 0) (pa_cons (pv 1) (pa_cons (pv 2) pa_nil))))) pa_nil)) (pgTup (K := K) (n := 2) rfl rfl (pgs_cons (pg_name (i := 4) sc_greatest_best_potentials.nd rfl (Or.inl rfl)) (pgs_cons (pg_name (i := 5) sc_greatest_best_potentials.nd rfl (Or.inl rfl)) pgs_nil)) rfl) (pss_one (ps_for PassesOwn.never rfl (piEnum (K := K) rfl (by rfl) T.enumerate (pa_cons (pv 5) pa_nil)) (pgTup (K := K) (n := 2) rfl rfl (pgs_cons (pg_name (i := 6) sc_greatest_best_potentials.nd rfl (Or.inl rfl)) (pgs_cons (pg_name (i := 7) sc_greatest_best_potentials.nd rfl (Or.inl rfl)) pgs_nil)) rfl) (pss_one (ps_if (pt_cmpR op_gt (pv 7) pe_int (nomark _)) (pss_one (ps_asg (pe_un un_neg (pe_ix (ixL (K := K) rfl) (pe_ix (ixL (K := K) rfl) (pv 2) (pv 4) (fun _ _ => rfl)) (pv 6) (fun _ _ => rfl))) (pg_sub (pe_ix (ixL (K := K) rfl) (pv 3) (pv 6) (fun _ _ => rfl)) (pv 4) set_list))) pss_nil)))))
      (pss_one (ps_ret (pe_ix (ixL (K := K) rfl) (pe_call F_shortest_ways (hr.mono (by decide)) rfl m_shortest_ways k_shortest_ways b_shortest_ways .nil pass0 (by exact (pa_cons (pv 3) pa_nil))) pe_int (fun _ _ => rfl))))))
    , ?_⟩))
  · obtain ⟨a, b, e, r, n, u, v, d, rfl, _⟩ := h
    rfl
  · obtain ⟨a, b, e, r, n, u, v, d, rfl, as, hn, met, k⟩ := h
    have M := as.dist
    have n6 := as.le
    refine ⟨_, rfl, e, rfl, ⟨_, SqL.of M.at_⟩, fun R hR => comp_rows (walk_list (xs := tab n fun i => .ref (r i))) n (mI d) hR (by rw [tab_len]; omega) (fun H' s => SqL.of (s _ _ M.at_)) (fun i x H1 H' hi s1 y F hF => ?_) (fun rr H1 s1 NR => ?_) gm_name⟩
    · obtain ⟨rfl, ex⟩ := y
      obtain ⟨hi', rfl⟩ := tab_of ex
      exact ⟨rfl, _, rfl, r i, _, rfl, .inl (SqL.of (s1 _ _ (M.row i hi'))), fun l hl => hF l _ (same_new hl) hl upd_same⟩
    rw [tab_len] at NR
    refine ⟨_, rfl, _, rfl, _, rfl, a, b, e, r, n, u, v, d, rfl, ⟨s1.seq as.first, s1.seq as.second, M.same s1, n6, as.wu, as.wv, as.nn⟩, fun U P hU ch D rp H2 s2 NP => ?_⟩
    have sm := cheap_sums as.wu as.wv hU ch
    obtain ⟨pf, hpf⟩ := OT.cheap_pot ch hU.pos
    obtain ⟨g, gF, gT⟩ := OT.pot_prices hn met hpf
    have B : OT.Best n d P U g := ⟨hU.pos, met, as.nn, gF, gT⟩
    obtain ⟨fb, hfb, pr⟩ := OT.best_prices hn B (OT.part_plan ch.nn sm)
    have s02 := s1.trans s2
    refine ⟨D, _, rfl, SqL.of NP.mat.at_, for_it (walk_enum (xs := tab n fun i => .ref (rp i))) (fun i σ H' => ∃ v4 v5 v6 v7 : Option V, σ = [some (.ref a), some (.ref b), some (.ref e), some (.ref R), v4, v5, v6, v7] ∧ Same H H' ∧ Mat H' D rp n n (mI P) ∧
        MatNew H H' R rr n n (mI fun x y => if y < i ∧ 0 < P y x then - d y x else d x y))
      ⟨none, none, none, none, rfl, s02, NP.mat, (NR.mat.same s2).congr fun x y _ _ => congrArg V.int (if_neg (by omega)).symm, NR.new, NR.rows⟩ (fun i σ H' _ p => ?_) (fun i x σ H3 H4 hi p y => ?_) (fun σ H' p => ?_)⟩
    · obtain ⟨_, _, _, _, _, _, q, _⟩ := p
      exact SqL.of q.at_
    · obtain ⟨v4, v5, v6, v7, rfl, s3, MP, MR⟩ := p
      obtain ⟨T', x', y', rfl, hT, rfl, e1, e2⟩ := y
      cases e1
      obtain ⟨hi', rfl⟩ := tab_of e2
      have sT := same_new (o := .tup [V.int (i : Nat), V.ref (rp i)]) hT
      have MP4 := MP.same sT
      refine ⟨T', _, rfl, SqT.of upd_same, rfl, _, _, rfl, _, _, rfl, rfl, ?_⟩
      refine ⟨_, rfl, rp i, _, rfl, SqL.of (MP4.row i hi'), for_it (walk_enum (xs := tab n (mI P i))) (fun j σ H' => ∃ v6 v7 : Option V, σ = [some (.ref a), some (.ref b), some (.ref e), some (.ref R), some (.int (i : Nat)), some (.ref (rp i)), v6, v7] ∧ Same H H' ∧ Mat H' D rp n n (mI P) ∧
          MatNew H H' R rr n n (mI fun x y => if (y < i ∨ (y = i ∧ x < j)) ∧ 0 < P y x then - d y x else d x y))
        ⟨v6, v7, rfl, s3.trans sT, MP4, (MR.mat.same sT).congr fun x y _ _ => congrArg V.int (by
          have : ((y < i ∨ (y = i ∧ x < 0)) ∧ 0 < P y x) ↔ (y < i ∧ 0 < P y x) := ⟨fun z => ⟨by omega, z.2⟩, fun z => ⟨.inl z.1, z.2⟩⟩
          simp only [this]), MR.new, MR.rows⟩ (fun j σ H' _ p => ?_) (fun j x σ H5 H6 hj p y => ?_) (fun σ H' p => ?_)⟩
      · obtain ⟨_, _, _, _, q, _⟩ := p
        exact SqL.of (q.row i hi')
      · obtain ⟨v6, v7, rfl, s5, MP5, MR5⟩ := p
        obtain ⟨T2, x', y', rfl, hT2, rfl, e1, e2⟩ := y
        cases e1
        obtain ⟨hj', rfl⟩ := tab_of e2
        have sT2 := same_new (o := .tup [V.int (j : Nat), mI P i j]) hT2
        have s6 := s5.trans sT2
        have MP6 := MP5.same sT2
        have MR6 := MR5.mat.same sT2
        have DR : ∀ x, x < n → D ≠ rr x := fun x hx z => by
          have := NR.mat.row x hx
          rw [← z, NP.new] at this; cases this
        have PR : ∀ x y, x < n → y < n → rp x ≠ rr y := fun x y hx hy z => by
          have := NR.mat.row y hy
          rw [← z, NP.rows x hx] at this; cases this
        refine ⟨T2, _, rfl, SqT.of upd_same, rfl, _, _, rfl, _, _, rfl, rfl, ?_⟩
        refine ⟨_, rfl, _, _, rfl, rfl, _, rfl, ?_⟩
        by_cases c : 0 < P i j
        · rw [decide_eq_true c]
          refine iteT ⟨_, rfl, _, rfl, e, _, _, _, rfl, rfl, SqL.of (s6 _ _ M.at_), tab_at hi', _, rfl, r i, _, _, _, rfl, rfl, SqL.of (s6 _ _ (M.row i hi')), tab_at hj', _, rfl, ?_⟩
          refine ⟨_, rfl, _, rfl, R, _, _, _, rfl, rfl, SqL.of MR6.at_, tab_at hj', _, rfl, rr j, _, _, i, rfl, rfl, MR6.row j hj', ixn (by rw [tab_len]; exact hi'), ?_⟩
          refine ⟨_, _, rfl, same_mut s6 (NR.rows j hj'), MP6.but (But.set (r := rr) (k := n) hj') DR PR, (MR6.set hj' _).congr fun x y _ _ => ?_, NR.new, NR.rows⟩
          show (if x = j ∧ y = i then V.int (-d i j) else V.int (if (y < i ∨ (y = i ∧ x < j)) ∧ 0 < P y x then - d y x else d x y)) = V.int (if (y < i ∨ (y = i ∧ x < j + 1)) ∧ 0 < P y x then - d y x else d x y)
          by_cases q : x = j ∧ y = i
          · obtain ⟨rfl, rfl⟩ := q
            rw [if_pos ⟨rfl, rfl⟩, if_pos ⟨by omega, c⟩]
          · rw [if_neg q]
            have : ((y < i ∨ (y = i ∧ x < j)) ∧ 0 < P y x) ↔ ((y < i ∨ (y = i ∧ x < j + 1)) ∧ 0 < P y x) := ⟨fun z => ⟨by omega, z.2⟩, fun z => ⟨by omega, z.2⟩⟩
            simp only [this]
        · rw [decide_eq_false c]
          refine iteF ⟨_, _, rfl, s6, MP6, MR6.congr fun x y _ _ => congrArg V.int ?_, NR.new, NR.rows⟩
          have : ((y < i ∨ (y = i ∧ x < j)) ∧ 0 < P y x) ↔ ((y < i ∨ (y = i ∧ x < j + 1)) ∧ 0 < P y x) := by
            constructor
            · exact fun z => ⟨by omega, z.2⟩
            · intro z
              refine ⟨?_, z.2⟩
              rcases z.1 with q | ⟨q1, q2⟩
              · exact .inl q
              · subst q1
                by_cases q3 : x = j
                · subst q3; exact absurd z.2 c
                · exact .inr ⟨rfl, by omega⟩
          simp only [this]
      · obtain ⟨v6, v7, rfl, s5, MP5, MR5⟩ := p
        rw [tab_len] at MR5
        refine ⟨_, _, _, _, rfl, s5, MP5, MR5.mat.congr fun x y hx _ => congrArg V.int ?_, MR5.new, MR5.rows⟩
        have : ((y < i ∨ (y = i ∧ x < n)) ∧ 0 < P y x) ↔ (y < i + 1 ∧ 0 < P y x) := ⟨fun z => ⟨by omega, z.2⟩, fun z => ⟨by omega, z.2⟩⟩
        simp only [this]
    · obtain ⟨v4, v5, v6, v7, rfl, s3, MP, MR⟩ := p
      rw [tab_len] at MR
      refine ⟨_, rfl, R, rr, n, OT.risesOf P d, g, rfl, MR.mat.congr fun x y _ hy => ?_, by omega, OT.rises_steps B, fun W rw_ H5 s5 NW => ?_⟩
      · show V.int _ = oV (OT.risesOf P d x y)
        unfold OT.risesOf
        have : (y < n ∧ 0 < P y x) ↔ 0 < P y x := ⟨fun z => z.2, fun z => ⟨hy, z⟩⟩
        simp only [this]
        rfl
      · refine ⟨W, _, 0, _, rfl, rfl, SqL.of NW.mat.at_, tab_at hn, k fb pr (rw_ 0) H5 (s3.trans s5) (s3.free (NW.rows 0 hn)) ?_⟩
        rw [NW.mat.row 0 hn]
        refine congrArg (fun l => some (HO.lst l)) (tab_congr fun j hj => ?_)
        show oV (OT.fwA (OT.risesOf P d) n 0 j) = V.int (fb j)
        rw [hfb j]; rfl
end
def spFeas (K : Fr) : Sp := fun vs H Q _ => ∃ (a e : Addr) (r : Nat → Addr) (n : Nat) (p : Nat → Int) (d : IM), vs = [.ref a, .ref e] ∧ SqL K H a (vec n p) ∧ Mat H e r n n (mI d) ∧ ∀ x : Bool, (x = true ↔ Feas n d p) → ∀ H', Same H H' → Q (.bl x) H'
abbrev s_are_feasible : Stmt := top 36
theorem sc_are_feasible : FnScope ["potentials", "distances", "start", "ways", "end", "way"] ["potentials", "distances"] (defScope s_are_feasible) := ⟨rfl, rfl, rfl, by decide +kernel, rfl, by decide +kernel, by decide +kernel⟩
section
variable {P : Program} {w : World} {K : Fr} {mg : Str → Option Value} {base : Heap} {f : Addr} {fd : FuncData}
theorem ok_feas (T : Tx K mg) (A : At K mg "are_feasible" s_are_feasible ["potentials", "distances"] f fd) : Got P w K mg base CX0 1 "are_feasible" ["potentials", "distances"] (spFeas K) := by
  refine A.got (A.fn.ok sc_are_feasible (fun vs H Q E h => ?_) (fun cdv A outer s H vs Q E hr h => ⟨_, by exact
    (pss_cons (ps_for PassesOwn.never rfl (piEnum (K := K) rfl (by rfl) T.enumerate (pa_cons (pv 1) pa_nil)) (pgTup (K := K) (n := 2) rfl rfl (pgs_cons (pg_name (i := 2) sc_are_feasible.nd rfl (Or.inl rfl)) (pgs_cons (pg_name (i := 3) sc_are_feasible.nd rfl (Or.inl rfl)) pgs_nil)) rfl) (pss_one (ps_for PassesOwn.never rfl (piEnum (K := K) rfl (by rfl) T.enumerate (pa_cons (pv 3) pa_nil)) (pgTup (K := K) (n := 2) rfl rfl (pgs_cons (pg_name (i := 4) sc_are_feasible.nd rfl (Or.inl rfl)) (pgs_cons (pg_name (i := 5) sc_are_feasible.nd rfl (Or.inl rfl)) pgs_nil)) rfl) (pss_one (ps_if (pt_cmpR op_gt (pe_op op_sub (pe_ix (ixL (K := K) rfl) (pv 0) (pv 4) (fun _ _ => rfl)) (pe_ix (ixL (K := K) rfl) (pv 0) (pv 2) (fun _ _ => rfl))) (pv 5) (nomark _)) (pss_one (ps_ret pe_bl)) pss_nil)))))
      (pss_one (ps_ret pe_bl)))
    , ?_⟩))
  · obtain ⟨a, e, r, n, p, d, rfl, _⟩ := h
    rfl
  · obtain ⟨a, e, r, n, p, d, rfl, ha, M, k⟩ := h
    refine ⟨_, rfl, e, _, rfl, SqL.of M.at_, for_it (walk_enum (xs := tab n fun i => .ref (r i))) (fun i σ H' => ∃ v2 v3 v4 v5 : Option V, σ = [some (.ref a), some (.ref e), v2, v3, v4, v5] ∧ Same H H' ∧ ∀ x y, x < i → y < n → p y - p x ≤ d x y)
      ⟨none, none, none, none, rfl, Same.refl _, fun x y hx => absurd hx (Nat.not_lt_zero x)⟩ (fun i σ H' _ q => ?_) (fun i x σ H1 H2 hi q y => ?_) (fun σ H' q => ?_)⟩
    · obtain ⟨_, _, _, _, _, s, _⟩ := q
      exact SqL.of (s _ _ M.at_)
    · obtain ⟨v2, v3, v4, v5, rfl, s, hf⟩ := q
      obtain ⟨T', x', y', rfl, hT, rfl, e1, e2⟩ := y
      cases e1
      obtain ⟨hi', rfl⟩ := tab_of e2
      have s2 := s.trans (same_new (o := .tup [V.int (i : Nat), V.ref (r i)]) hT)
      refine ⟨T', _, rfl, SqT.of upd_same, rfl, _, _, rfl, _, _, rfl, rfl, ?_⟩
      refine ⟨_, rfl, r i, _, rfl, SqL.of (s2 _ _ (M.row i hi')), for_it (walk_enum (xs := tab n (mI d i))) (fun j σ H' => ∃ v4 v5 : Option V, σ = [some (.ref a), some (.ref e), some (.int (i : Nat)), some (.ref (r i)), v4, v5] ∧ Same H H' ∧ ∀ y, y < j → p y - p i ≤ d i y)
        ⟨v4, v5, rfl, s2, fun y hy => absurd hy (Nat.not_lt_zero y)⟩ (fun j σ H' _ q => ?_) (fun j x σ H3 H4 hj q y => ?_) (fun σ H' q => ?_)⟩
      · obtain ⟨_, _, _, s, _⟩ := q
        exact SqL.of (s _ _ (M.row i hi'))
      · obtain ⟨v4, v5, rfl, s3, hg⟩ := q
        obtain ⟨T2, x', y', rfl, hT2, rfl, e1, e2⟩ := y
        cases e1
        obtain ⟨hj', rfl⟩ := tab_of e2
        have s4 := s3.trans (same_new (o := .tup [V.int (j : Nat), mI d i j]) hT2)
        refine ⟨T2, _, rfl, SqT.of upd_same, rfl, _, _, rfl, _, _, rfl, rfl, ?_⟩
        refine ⟨_, rfl, _, rfl, a, _, _, _, rfl, rfl, s4.seq ha, tab_at hj', _, rfl, _, rfl, a, _, _, _, rfl, rfl, s4.seq ha, tab_at hi', _, _, rfl, rfl, _, rfl, _, _, rfl, rfl, _, rfl, ?_⟩
        by_cases c : d i j < p j - p i
        · rw [decide_eq_true c]
          refine iteT (k false ⟨fun z => Bool.noConfusion z, fun z => ?_⟩ _ s4)
          have := z i j hi' hj'
          omega
        · rw [decide_eq_false c]
          refine iteF ⟨_, _, rfl, s4, fun y hy => ?_⟩
          by_cases q : y = j
          · subst q; omega
          · exact hg y (by omega)
      · obtain ⟨v4, v5, rfl, s3, hg⟩ := q
        rw [tab_len] at hg
        refine ⟨_, _, _, _, rfl, s3, fun x y hx hy => ?_⟩
        by_cases q : x = i
        · subst q; exact hg y hy
        · exact hf x y (by omega) hy
    · obtain ⟨v2, v3, v4, v5, rfl, s, hf⟩ := q
      rw [tab_len] at hf
      exact k true ⟨fun _ x y hx hy => hf x y hx hy, fun _ => rfl⟩ H' s
end
def spValue (K : Fr) : Sp := fun vs H Q _ => ∃ (c a b : Addr) (n : Nat) (p u v : Nat → Int), vs = [.ref c, .ref a, .ref b] ∧ SqL K H c (vec n p) ∧ SqL K H a (vec n u) ∧ SqL K H b (vec n v) ∧ n ≤ 1000 ∧ Wt n u ∧ Wt n v ∧ (∀ i, i < n → Bd 100 (p i)) ∧
  NewL H (intL (OT.two (OT.value n p (ra n u) (ra n v)))) Q
abbrev s_value_of_potentials : Stmt := top 37
theorem sc_value_of_potentials : FnScope ["potentials", "first", "second", "units", "before", "after", "value", "point", "potential"] ["potentials", "first", "second"] (defScope s_value_of_potentials) := ⟨rfl, rfl, rfl, by decide +kernel, rfl, by decide +kernel, by decide +kernel⟩
theorem value_cast {n : Nat} {p u v : Nat → Int} {U : Int} (wu : Wt n u) (wv : Wt n v) (hU : Unit_ n u v U) :
    ((sumI n fun i => p i * (v i * (U / sumI n v) - u i * (U / sumI n u)) : Int) : Rat) / (U : Rat) = OT.value n p (ra n u) (ra n v) := by
  have h := OT.u_pos hU.pos
  rw [sumI_cast, ← OT.S_div]
  unfold OT.value
  refine OT.S_congr fun i _ => ?_
  have e1 : ((u i * (U / sumI n u) : Int) : Rat) = ra n u i * (U : Rat) := inU_cast wu hU.d1 i
  have e2 : ((v i * (U / sumI n v) : Int) : Rat) = ra n v i * (U : Rat) := inU_cast wv hU.d2 i
  rw [Rat.intCast_mul, Rat.intCast_sub, e1, e2]
  have e3 : (p i : Rat) * (ra n v i * (U : Rat) - ra n u i * (U : Rat)) = (p i : Rat) * (ra n v i - ra n u i) * (U : Rat) := by grind
  rw [e3]
  exact Rat.mul_div_cancel (by grind)
section
variable {P : Program} {w : World} {K : Fr} {mg : Str → Option Value} {base : Heap} {f : Addr} {fd : FuncData}
theorem ok_value (T : Tx K mg) (A : At K mg "value_of_potentials" s_value_of_potentials ["potentials", "first", "second"] f fd) (G1 : Got P w K mg base CX0 3 "common_units" ["first", "second"] (spCommon K)) (G2 : Got P w K mg base CX0 1 "in_units" ["weights", "units"] (spInU K))
    (G3 : Got P w K mg base CX0 2 "lowest_terms" ["numerator", "denominator"] spLow) : Got P w K mg base CX0 4 "value_of_potentials" ["potentials", "first", "second"] (spValue K) := by
  obtain ⟨f_common_units, fd1, m_common_units, k_common_units, b_common_units, F_common_units⟩ := G1
  obtain ⟨f_in_units, fd2, m_in_units, k_in_units, b_in_units, F_in_units⟩ := G2
  obtain ⟨f_lowest_terms, fd3, m_lowest_terms, k_lowest_terms, b_lowest_terms, F_lowest_terms⟩ := G3
  refine A.got (A.fn.ok sc_value_of_potentials (fun vs H Q E h => ?_) (fun cdv A outer s H vs Q E hr h => ⟨_, by exact
    (pss_cons (ps_set (i := 3) sc_value_of_potentials.nd rfl (Or.inl rfl) (pe_call F_common_units (hr.mono (by decide)) rfl m_common_units k_common_units b_common_units .nil pass0 (by exact (pa_cons (pv 1) (pa_cons (pv 2) pa_nil)))))
      (pss_cons (ps_set (i := 4) sc_value_of_potentials.nd rfl (Or.inl rfl) (pe_call F_in_units (hr.mono (by decide)) rfl m_in_units k_in_units b_in_units .nil pass0 (by exact (pa_cons (pv 1) (pa_cons (pv 3) pa_nil)))))
      (pss_cons (ps_set (i := 5) sc_value_of_potentials.nd rfl (Or.inl rfl) (pe_call F_in_units (hr.mono (by decide)) rfl m_in_units k_in_units b_in_units .nil pass0 (by exact (pa_cons (pv 2) (pa_cons (pv 3) pa_nil)))))
      (pss_cons (ps_set (i := 6) sc_value_of_potentials.nd rfl (Or.inl rfl) pe_int)
      (pss_cons (ps_for PassesOwn.never rfl (piEnum (K := K) rfl (by rfl) T.enumerate (pa_cons (pv 0) pa_nil)) (pgTup (K := K) (n := 2) rfl rfl (pgs_cons (pg_name (i := 7) sc_value_of_potentials.nd rfl (Or.inl rfl)) (pgs_cons (pg_name (i := 8) sc_value_of_potentials.nd rfl (Or.inl rfl)) pgs_nil)) rfl) (pss_one (ps_aug (i := 6) sc_value_of_potentials.nd rfl (Or.inl rfl) (pe_op op_mulW (pv 8) (pe_op op_sub (pe_ix (ixL (K := K) rfl) (pv 5) (pv 7) (fun _ _ => rfl)) (pe_ix (ixL (K := K) rfl) (pv 4) (pv 7) (fun _ _ => rfl)))) ip_add)))
      (pss_one (ps_ret (pe_call F_lowest_terms (hr.mono (by decide)) rfl m_lowest_terms k_lowest_terms b_lowest_terms .nil pass0 (by exact (pa_cons (pv 6) (pa_cons (pv 3) pa_nil)))))))))))
    , ?_⟩))
  · obtain ⟨c, a, b, n, p, u, v, rfl, _⟩ := h
    rfl
  · obtain ⟨c, a, b, n, p, u, v, rfl, hc, ha, hb, hn, wu, wv, bp, k⟩ := h
    refine ⟨_, rfl, _, rfl, a, b, n, u, v, rfl, ha, hb, wu, wv, fun U hU d1 d2 bU => ?_⟩
    refine ⟨_, rfl, _, rfl, a, n, u, U, rfl, ha, hn, wu, hU, bU, fun A1 H1 s1 n1 l1 => ?_⟩
    refine ⟨_, rfl, _, rfl, b, n, v, U, rfl, s1.seq hb, hn, wv, hU, bU, fun B1 H2 s2 n2 l2 => ?_⟩
    have s02 := s1.trans s2
    have bd : ∀ {x : Nat → Int}, Wt n x → sumI n x ∣ U → ∀ i, i < n → Bd 400 (x i * (U / sumI n x)) := fun {x} wx dx i hi => by
      have h1 : ∀ j, j < n → 0 ≤ x j * (U / sumI n x) := fun j hj => Int.mul_nonneg (wx.nn j hj) (Int.ediv_nonneg (by omega) (by have := wx.pos; omega))
      have h2 := sumI_ge h1 i hi
      rw [wt_units dx] at h2
      exact bU.le (h1 i hi) h2
    refine ⟨_, rfl, c, _, rfl, s02.seq hc, for_it (walk_enum (xs := vec n p)) (fun i σ H' => ∃ v7 v8 : Option V, σ = [some (.ref c), some (.ref a), some (.ref b), some (.int U), some (.ref A1), some (.ref B1), some (.int (sumI i fun i => p i * (v i * (U / sumI n v) - u i * (U / sumI n u)))), v7, v8] ∧ Same H2 H')
      ⟨none, none, rfl, Same.refl _⟩ (fun i σ H' _ q => ?_) (fun i x σ H3 H4 hi q y => ?_) (fun σ H' q => ?_)⟩
    · obtain ⟨_, _, _, s⟩ := q
      exact (s02.trans s).seq hc
    · obtain ⟨v7, v8, rfl, s3⟩ := q
      obtain ⟨T', x', y', rfl, hT, rfl, e1, e2⟩ := y
      cases e1
      obtain ⟨hi', rfl⟩ := tab_of e2
      have s4 := s3.trans (same_new (o := .tup [V.int (i : Nat), V.int (p i)]) hT)
      have b1 := bd wv d2 i hi'
      have b2 := bd wu d1 i hi'
      have b3 : Bd 401 (v i * (U / sumI n v) - u i * (U / sumI n u)) := by
        rw [Int.sub_eq_add_neg]; exact b1.add b2.neg
      refine ⟨T', _, rfl, SqT.of upd_same, rfl, _, _, rfl, _, _, rfl, rfl, ?_⟩
      refine ⟨_, rfl, _, rfl, _, rfl, _, rfl, B1, _, _, _, rfl, rfl, SqL.of (s4 _ _ l2), tab_at hi', _, rfl, _, rfl, A1, _, _, _, rfl, rfl, SqL.of (s4 _ _ (s2 _ _ l1)), tab_at hi', _, _, rfl, rfl, _, _, rfl, rfl, (bp i hi').cm b3, _, _, rfl, rfl, ?_⟩
      exact ⟨_, _, by rw [sumI_succ]; rfl, s4⟩
    · obtain ⟨v7, v8, rfl, s3⟩ := q
      rw [vec_len]
      refine ⟨_, rfl, _, rfl, _, U, rfl, hU, bU.mono (by decide), fun p4 H4 s4 n4 l4 => k p4 H4 ((s02.trans s3).trans s4) ((s02.trans s3).free n4) ?_⟩
      rw [l4, value_cast wu wv ⟨hU, d1, d2, bU⟩]
end
end EH

/-! The program's refusals: errors of classes of its own, each made with its code by way of the class above them. -/
namespace RX
open PySem PySem.W PySem.Calls PyProof.Rows PySem.HandSPX
abbrev exT : List Value := [.type "Exception", .type "BaseException", .type "object"]
/-- the text of Refusal.__init__ -/
def rA (p1 p2 : Pos) : Arguments := { posonlyargs := [], args := [{ arg := "self", annotation := none, pos := p1 }, { arg := "code", annotation := none, pos := p2 }], vararg := none, kwonlyargs := [], kw_defaults := [], kwarg := none, defaults := [] }
def rB (q1 q2 q3 q4 : Pos) : List Stmt := [.Assign [.Attribute (.Name "self" q1) "code" q2] (.Name "code" q3) q4]
def rS : Scope := { kind := .function, names := [(PySem.Str.ofString "self", .local), (PySem.Str.ofString "code", .local)], isGenerator := false, isCoroutine := false, more := [] }
/-- the text of the __init__ of a class below it -/
def sA (p1 : Pos) : Arguments := { posonlyargs := [], args := [{ arg := "self", annotation := none, pos := p1 }], vararg := none, kwonlyargs := [], kw_defaults := [], kwarg := none, defaults := [] }
def sB (n : Int) (q1 q2 q3 q4 q5 q6 q7 : Pos) : List Stmt := [.Expr (.Call (.Attribute (.Name "Refusal" q1) "__init__" q2) [.Name "self" q3, .UnaryOp .USub (.Constant (.int n) 0 q4) q5] [] q6) q7]
def sS : Scope := { kind := .function, names := [(PySem.Str.ofString "self", .local), (PySem.Str.ofString "Refusal", .globalImplicit)], isGenerator := false, isCoroutine := false, more := [] }
/-- what the written part says of Refusal -/
structure RTxt (K : Frag) (mg : Str → Option Value) (CR fR : Addr) : Prop where
  gR : mg "Refusal" = some (.ref CR)
  kR : keepIn K (.ref fR) = true
  ga : specialIn K (.ref CR) "__getattribute__" = some (some (.builtin "type.__getattribute__"))
  rd : ∃ mc, readsIn K CR mc = true ∧ findCls K (.ref CR) mc "__init__" = some (.val (.ref fR))
  fn : ∃ (oc : Value) (od : Option Addr) (doc pm : Value) (an : Option Addr) (cdv ct : Value) (osl : Array (Option Value)) (p1 p2 q1 q2 q3 q4 : Pos),
    K.lookup fR = some ⟨oc, od, .func (fnOf "__init__" "Refusal.__init__" (rA p1 p2) (rB q1 q2 q3 q4) rS .none .none doc pm an cdv ct), osl⟩ ∧ codeIn K cdv "Refusal.__init__" = true
/-- what an except clause asks of a refusal's class -/
structure RefC (K : Frag) (CR C : Addr) : Prop where
  ga : findIn K (.ref C) "__getattribute__" = some (some (.builtin "BaseException.__getattribute__"))
  gg : findIn K (.ref C) "__getattr__" = some none
  noN : findIn K (.ref C) "code" = some none
  exC : subIn K (.ref C) (.type "BaseException") = some true
  hdC : hasDictIn K C = true
  te : exmOne K (.ref C) (.ref CR) = some true
/-- what the written part says of a refusal: its class at C, its __init__ at fI, its code -n -/
structure STxt (K : Frag) (mg : Str → Option Value) (x qual : Str) (CR C fI : Addr) (n : Int) : Prop where
  ref : RefC K CR C
  gC : mg x = some (.ref C)
  cls : ∃ nm q N bs sn sub ab col dd k0 k1 k2 k3 k5, K.lookup C = some (excClassObj nm q C N bs (.ref CR :: exT) true sn sub ab col dd k0 k1 k2 k3 k5 "Exception.__new__")
  sa : findIn K (.ref C) "__setattr__" = some (some (.builtin "object.__setattr__"))
  iC : findIn K (.ref C) "__init__" = some (some (.ref fI))
  tC : typeIn K (.ref fI) = some (.type "function")
  kC : keepIn K (.ref C) = true
  tyC : typeIn K (.ref C) = some (.type "type")
  fn : ∃ (oc : Value) (od : Option Addr) (doc pm : Value) (an : Option Addr) (cdv ct : Value) (osl : Array (Option Value)) (p1 q1 q2 q3 q4 q5 q6 q7 : Pos),
    K.lookup fI = some ⟨oc, od, .func (fnOf "__init__" qual (sA p1) (sB n q1 q2 q3 q4 q5 q6 q7) sS .none .none doc pm an cdv ct), osl⟩ ∧ codeIn K cdv qual = true ∧ (q2.endLine == q6.line) = true
/-- a local is read -/
theorem lcl {M : Model} {s : Shared} {nm : Str} {sc : Scope} {L a : Addr} {cd : Value} {m : Str → Option Value} {x : Str} {pos : Pos} {v : Value} {Q : Value → Shared → Prop} {A : Around} {E : Value → Shared → Prop}
    (hn : s.heap.Ns L m) (hv : m x = some v) (h : Q v s) (hk : sc.kind = .function := by rfl) (hl : (envOfC nm sc L a cd).kindOf x = some .local := by rfl) (hd : (x == ("__debug__" : Str)) = false := by decide) :
    wpAny M A (eval (.Name x pos) (envOfC nm sc L a cd)) Q E s := wpAny_Name (wpAny_loadName_local hk hl hn hv h) hd
/-- what __init__ leaves of a new error at x -/
structure EndI (h h' : Heap) (x C dx t1 : Addr) (v : Value) : Prop where
  keep : ∀ b o, b ≠ x → h.get? b = some o → h'.get? b = some o
  obj : h'.get? x = some { cls := .ref C, dict := some dx, data := .fields #[.ref t1, .none, .none, .none, .bool false, .none] }
  dbig : h.objs.size ≤ dx
  dne : dx ≠ x
  ns : h'.Ns1 dx (fun y => if y = "code" then some v else none)
/-- a refusal that is made -/
structure MadeI (h h' : Heap) (e C d : Addr) (v : Value) : Prop where
  keep : ∀ b o, h.get? b = some o → h'.get? b = some o
  new : h.objs.size ≤ e
  obj : ∃ oe vs, h'.get? e = some oe ∧ oe.cls = .ref C ∧ oe.dict = some d ∧ oe.data = .fields vs ∧ vs[1]? = some .none
  dbig : h.objs.size ≤ d
  dne : d ≠ e
  ns : h'.Ns1 d (fun y => if y = "code" then some v else none)
theorem has_obj {C CR : Addr} {X : String} (hX : exT.contains (.type X) = true) : (Value.ref C :: Value.ref CR :: exT).contains (.type X) = true := by
  rw [List.contains_cons, List.contains_cons, hX]; simp
theorem same_types {CR : Addr} (X : String) : (Value.ref CR :: exT).contains (.type X) = exT.contains (.type X) := by
  rw [List.contains_cons]; rfl
section
variable {prog : Program} {w : World} {A : Around} {E : Value → Shared → Prop} {R : Result → Shared → Prop} {s : Shared} {K : Frag} {mg : Str → Option Value} {C CR fI fR : Addr} {x0 qual : Str} {n : Int}
/-- object.__setattr__ on a new error of such a class: its first field -/
theorem osa_ref {hp : Heap} {g : Array GenState} {d : Drawn} {t : Nat} {os : OsState} {nm : Str} {tk : Tok} {v : Value} {x : Addr} {fv : Array Value} {cd : ClassData}
    (X : K.In hp) (hx : hp.get? x = some { cls := .ref C, data := .fields fv }) (hcd : clsIn K C = some cd) (hm : cd.mro = .ref C :: .ref CR :: exT) (hh : cd.hasDict = true) (ha : findIn K (.ref C) nm = some none)
    (hq : ∀ h' tk' dx, (∀ b o, b ≠ x → hp.get? b = some o → h'.get? b = some o) → hp.objs.size ≤ dx → dx ≠ x → h'.get? x = some { cls := .ref C, dict := some dx, data := .fields fv } →
      h'.Ns1 dx (fun y => if y = nm then some v else none) → R (.ok (.ret .none)) ⟨h', g, d, tk', os⟩) :
    codeAny (model prog w) A (.call (.builtin "object.__setattr__") ⟨[.ref x, .str nm tk, v], []⟩) R ⟨hp, g, d, t, os⟩ := by
  have J : InstAt hp x { cls := .ref C, data := .fields fv } C none := ⟨hx, rfl, rfl, trivial⟩
  have apart : x ≠ hp.objs.size := Nat.ne_of_lt (Heap.lt_size hx)
  have inObj : mroIn K C (.type "object") = some true := by
    unfold mroIn
    rw [hcd, Option.bind_some, hm, if_neg (by intro z; cases z), has_obj (by decide +kernel)]
  have store := PySem.F.store_object
  have isO : Looks (model prog w) hp (isInstance (.ref x) (.type "object")) true := J.type.andThen (looks_mroIn X inObj)
  refine codeAny_call_builtin store.slot.plain store.entry
    (@check_slot (model prog w) _ _ ⟨hp, g, d, t, os⟩ "object.__setattr__" "object" "__setattr__" (.ref x) [.str nm tk, v] [] _ store.kind store.split isO (store.args (.ref x) (.str nm tk) v) ?_)
  have mro : Looks (model prog w) hp (mroOf (.ref C)) cd.mro := (looks_clsIn X hcd).andThen .now
  have cls : Looks (model prog w) hp (classData C) cd := looks_clsIn X hcd
  have free : refuseLoop (.ref x) "__setattr__" cd.mro = pure () := by
    rw [hm, refuseLoop_ref, refuseLoop_ref]
    exact PySem.F.store_Exception.passes _
  rw [osa_eq, refuse_eq]
  refine wpAny_bind (wpAny_bind (J.type.at (wpAny_bind (mro.at ?_))))
  rw [free]
  refine wpAny_pure (wpAny_bind (J.type.at (wpAny_bind ((looks_findIn X ha).at (wpAny_bind ((show Looks (model prog w) hp (Builtin.ObjectAttr.storeTaker? none) none from .now).at ?_))))))
  show wpAny _ _ (Builtin.ObjectAttr.storeInOwnDict (.ref x) (.ref C) (.str nm tk) nm v false) _ _ _
  obtain ⟨c1, c2, c3, c4, c5, c6, c7, c8, c9, c10, c11⟩ := cd
  dsimp only at hh
  subst hh
  unfold Builtin.ObjectAttr.storeInOwnDict Builtin.ObjectAttr.ownDictForStores
  repeat (first | with_reducible refine store_in_new ?_ ?_ | with_reducible refine wpAny_loadPart_at hx ?_ | with_reducible refine cls.at ?_ | wp_step)
  · exact ⟨_, #[], _, (Heap.get?_update_ne _ _ _ _ (Ne.symm apart)).trans (Heap.get?_push_at rfl rfl), rfl, fun e he => absurd he (by simp), fun _ => rfl⟩
  · intro h' tk' hn' but
    have hx1 : (hp.push { cls := .type "dict", data := .dict #[] }).get? x = some { cls := .ref C, data := .fields fv } := Heap.get?_push_of_some _ hx
    exact hq h' tk' hp.objs.size (fun b o hb ho => (but.2 b (Nat.ne_of_lt (Heap.lt_size ho))).trans ((Heap.get?_update_ne _ _ _ _ hb).trans (Heap.get?_push_of_some _ ho))) (Nat.le_refl _) (Ne.symm apart)
      ((but.2 x apart).trans (Heap.get?_update_self _ hx1 rfl)) hn'
theorem STxt.cd (S : STxt K mg x0 qual CR C fI n) : ∃ cd, clsIn K C = some cd ∧ cd.mro = .ref C :: .ref CR :: exT ∧ cd.hasDict = true := by
  obtain ⟨nm, q, N, bs, sn, sub, ab, col, dd, k0, k1, k2, k3, k5, hC⟩ := S.cls
  refine ⟨{ name := nm, bases := bs, mro := .ref C :: .ref CR :: exT, ns := N, qualname := q, hasDict := true, slotNames := sn, subclasses := sub, abstract := ab, collection := col, hasDel := false }, ?_, rfl, rfl⟩
  unfold clsIn
  rw [hC] <;> rfl
/-- Refusal.__init__(x, v) -/
theorem ref_init (T : RTxt K mg CR fR) (S : STxt K mg x0 qual CR C fI n) {x t0 : Addr} {v : Value} (X : K.In s.heap) (hlim : s.heap.NoLimit) (hx : s.heap.get? x = some (excO C t0)) (hroom : A.depth < recursionLimit)
    (hq : ∀ h' tk dx, EndI s.heap h' x C dx t0 v → R (.ok (.ret .none)) { s with heap := h', toks := tk }) : codeAny (model prog w) A (.call (.ref fR) ⟨[.ref x, v], []⟩) R s := by
  obtain ⟨oc, od, doc, pm, an, cdv, ct, osl, p1, p2, q1, q2, q3, q4, ho, hcd⟩ := T.fn
  obtain ⟨cd, hcl, hm, hh⟩ := S.cd
  refine Att.call_fn (binds := [("self", .ref x), ("code", v)]) X hlim ho hcd hroom (BindsTo.of_eq (by first | rfl | with_unfolding_all rfl)) (by first | rfl | decide | with_unfolding_all rfl) (fun s1 IC => ?_) rfl rfl rfl
  obtain ⟨h1, tk1, rfl⟩ := IC.toInCall.same
  have k : ∀ b o, s.heap.get? b = some o → h1.get? b = some o := IC.toInCall.keep
  have ns := IC.toInCall.ns
  have X1 : K.In h1 := X.keeps k
  have hx1 := k _ _ hx
  show wpAny _ _ (execs _ _) _ _ _
  refine wpAny_execs_cons (plainObj_wpAny_Assign_Attribute ?_)
  refine lcl (v := v) ns (by first | rfl | with_unfolding_all rfl | kernel_rfl) (lcl (v := .ref x) ns (by first | rfl | with_unfolding_all rfl | kernel_rfl) ?_)
  refine set_plain X1 (ox := excO C t0) (od := none) ⟨hx1, rfl, rfl, trivial⟩ S.sa ?_
  refine osa_ref X1 hx1 hcl hm hh S.ref.noN (fun h3 tk3 dx k3 dn dne hx3 hn3 => ?_)
  show wpAny _ _ (execs _ _) _ _ _
  have z : s.heap.objs.size < h1.objs.size := ns.lt
  exact wpAny_execs_nil (hq h3 tk3 dx ⟨fun b o hb e => k3 b o hb (k b o e), hx3, Nat.le_of_lt (Nat.lt_of_lt_of_le z dn), dne, hn3⟩)
/-- C.__init__(x): by way of Refusal's -/
theorem sub_init (T : RTxt K mg CR fR) (S : STxt K mg x0 qual CR C fI n) {x t0 : Addr} (X : K.In s.heap) (hlim : s.heap.NoLimit) (hg : s.heap.Ns mainGlobals mg) (hx : s.heap.get? x = some (excO C t0)) (hroom : A.depth + 1 < recursionLimit)
    (hq : ∀ h' tk dx t, EndI s.heap h' x C dx t0 (.int (-n) t) → R (.ok (.ret .none)) { s with heap := h', toks := tk }) : codeAny (model prog w) A (.call (.ref fI) ⟨[.ref x], []⟩) R s := by
  obtain ⟨oc, od, doc, pm, an, cdv, ct, osl, p1, q1, q2, q3, q4, q5, q6, q7, ho, hcd, line⟩ := S.fn
  obtain ⟨mc, rd, fc⟩ := T.rd
  refine Att.call_fn (binds := [("self", .ref x)]) X hlim ho hcd (by omega) (BindsTo.of_eq (by first | rfl | with_unfolding_all rfl)) (by first | rfl | decide | with_unfolding_all rfl) (fun s1 IC => ?_) rfl rfl rfl
  obtain ⟨h1, tk1, rfl⟩ := IC.toInCall.same
  have k : ∀ b o, s.heap.get? b = some o → h1.get? b = some o := IC.toInCall.keep
  have ns := IC.toInCall.ns
  have X1 : K.In h1 := X.keeps k
  have hg1 : h1.Ns mainGlobals mg := hg.keeps k
  have hx1 := k _ _ hx
  have z : s.heap.objs.size < h1.objs.size := ns.lt
  have hlim1 : h1.NoLimit := hlim.keeps k
  show wpAny _ _ (execs _ _) _ _ _
  have he : ∀ env : Env, eval (.Call (.Attribute (.Name "Refusal" q1) "__init__" q2) [.Name "self" q3, .UnaryOp .USub (.Constant (.int n) 0 q4) q5] [] q6) env = (do
      let ov ← eval (.Name "Refusal" q1) env
      standAt q2.atName
      let (f, first) ← holding [ov] (getMethod ov "__init__" (do return (← importBound (.Name "Refusal" q1) env).getD true))
      callWith q6 f first (backTo q6 (starEach [.Name "self" q3, .UnaryOp .USub (.Constant (.int n) 0 q4) q5] env)) (backToKw q6 (keywordEach [] env))) := fun env => by
    have e1 : ∀ o : Expr, methodCallPos true o env q2 q6 = pure q6 := fun o => by
      unfold methodCallPos
      rw [line]
      rfl
    show (do
      let ov ← eval (.Name "Refusal" q1) env
      standAt q2.atName
      let (f, first) ← holding [ov] (getMethod ov "__init__" (do return (← importBound (.Name "Refusal" q1) env).getD true))
      let callPos ← methodCallPos true (.Name "Refusal" q1) env q2 q6
      callWith callPos f first (backTo q6 (starEach [.Name "self" q3, .UnaryOp .USub (.Constant (.int n) 0 q4) q5] env)) (backToKw q6 (keywordEach [] env))) = _
    rw [e1]
    rfl
  refine wpAny_execs_cons (wpAny_Expr_any (methodCall_KW ?_ (he _)) (by rfl) (by rfl))
  refine Name_function_global (by rfl) (by rfl) (loadGlobal_global hg1 T.gR ?_)
  refine method_cls X1 T.ga (cls_value X1 rd fc (by rfl) ?_)
  refine callWith_K (h₀ := s.heap) X T.kR (spliced_cons ?_) (by rfl) (by rfl)
  refine lcl (v := .ref x) ns (by first | rfl | with_unfolding_all rfl | kernel_rfl) ?_
  refine spliced_cons ?_
  refine UnaryOp_ (wpAny_Constant_int ?_)
  refine neg_int ?_
  refine spliced_nil ⟨X1, ?_⟩
  refine wpAny_call (ref_init T S X1 hlim1 hx1 ?_ fun h3 tk3 dx J => ?_)
  · show A.depth + 1 < recursionLimit
    exact hroom
  · show wpAny _ _ (execs _ _) _ _ _
    exact wpAny_execs_nil (hq h3 tk3 dx _ ⟨fun b o hb e => J.keep b o hb (k b o e), J.obj, Nat.le_trans (Nat.le_of_lt z) J.dbig, J.dne, J.ns⟩)
/-- C() -/
theorem sub_made (T : RTxt K mg CR fR) (S : STxt K mg x0 qual CR C fI n) (X : K.In s.heap) (hlim : s.heap.NoLimit) (hg : s.heap.Ns mainGlobals mg) (hroom : A.depth + 2 < recursionLimit)
    (hq : ∀ h' tk e d t, MadeI s.heap h' e C d (.int (-n) t) → R (.ok (.ret (.ref e))) { s with heap := h', toks := tk }) : codeAny (model prog w) A (.call (.ref C) ⟨[], []⟩) R s := by
  obtain ⟨nm, q, N, bs, sn, sub, ab, col, dd, k0, k1, k2, k3, k5, hC⟩ := S.cls
  obtain ⟨hp, g, dr, tk, os⟩ := s
  have k : ∀ b o, hp.get? b = some o → ((hp.push (kdv_tup [])).push (excO C hp.objs.size)).get? b = some o := fun b o e => Heap.get?_push_of_some _ (Heap.get?_push_of_some _ e)
  have hget : ((hp.push (kdv_tup [])).push (excO C hp.objs.size)).get? (hp.objs.size + 1) = some (excO C hp.objs.size) := by heap_get
  refine call_own PySem.F.excBase_Exception (fun X => same_types X) (X _ _ hC) (looks_findIn X S.iC) (fun self => bind_fn X self S.tC) (by show 0 ≤ sizeLine; decide) ?_
  refine sub_init (s := ⟨(hp.push (kdv_tup [])).push (excO C hp.objs.size), g, dr, tk, os⟩) T S (X.keeps k) (hlim.keeps k) (hg.keeps k) hget ?_ fun h' tk' dx t J => ?_
  · show A.depth + 1 + 1 < recursionLimit
    omega
  · have old : ∀ b o, hp.get? b = some o → h'.get? b = some o := fun b o e => J.keep b o (Nat.ne_of_lt (Nat.lt_succ_of_lt (Heap.lt_size e))) (k b o e)
    have z : hp.objs.size + 1 + 1 ≤ dx := by
      have q := J.dbig
      first
        | exact q
        | (rw [Heap.size_push, Heap.size_push] at q; exact q)
    exact ⟨rfl, hq h' tk' (hp.objs.size + 1) dx t ⟨old, Nat.le_succ _, ⟨_, _, J.obj, rfl, rfl, rfl, rfl⟩, Nat.le_trans (Nat.le_trans (Nat.le_succ _) (Nat.le_succ _)) z, J.dne, J.ns⟩⟩
end
end RX
namespace EH
open PySem PySem.Spec PyProof.Rows L2
theorem relO_code {v : V} {v' : Value} (r : RelV v v') (f : Str) : RelO (List.lookup f [(("code" : Str), v)]) (if f = "code" then some v' else none) := by
  by_cases hw : f = "code"
  · subst hw
    have q : List.lookup ("code" : Str) [(("code" : Str), v)] = some v := by simp [List.lookup]
    rw [if_pos rfl, q]
    exact r
  · have qw : (f == ("code" : Str)) = false := by simpa using hw
    have q2 : List.lookup f [(("code" : Str), v)] = none := by simp [List.lookup, qw]
    rw [if_neg hw, q2]
    trivial
/-- the own dict of a refusal -/
abbrev codeO (n : Int) : HO := .xd [(("code" : Str), .int n)]
section
variable {X : Cx} {CR fR C fI : Addr} {x qual : Str} {n : Int}
/-- C() of a refusal, to be raised -/
def tMkRef (C : Addr) (n : Int) : L2.St → Hp → XK → Prop := fun _ H Q => ∀ d, H d = none → Q (.ref C) (some d) (upd H d (codeO (-n)))
theorem pmk_ref {p pos : Pos} {k : Nat} (T : RX.RTxt X.K X.mg CR fR) (S : RX.STxt X.K X.mg x qual CR C fI n) (hr : Room k X.A) (hg : Gl X x := by rfl) (hd : (x == ("__debug__" : Str)) = false := by decide) :
    PMk X (.Call (.Name x p) [] [] pos) (tMkRef C n) := by
  intro pins s σ H Q I h
  refine wpAny_Call_Name_kw (ld_glob I hg S.gC ?_ hd)
  refine PySem.W.callWith_K0 I.kIn S.kC ?_
  show wpAny _ _ (call (.ref C) []) _ _ _
  have hlim := I.nolimit
  have hglob : s.heap.Ns mainGlobals X.mg := I.mod.glob.keeps I.bk
  obtain ⟨hp, g, dr, tk, os⟩ := s
  refine wpAny_call (RX.sub_made T S I.kIn hlim hglob (by have := hr.dp; omega) fun h' tk' e d t M => ?_)
  show MkP X pins σ Q (.ref e) ⟨h', g, dr, tk', os⟩
  obtain ⟨oe, fv, hoe, hc, hdd, hdat, h1⟩ := M.obj
  have hns := M.ns
  obtain ⟨G', g1, g2⟩ := restrict h' fun b => decide (b ≠ e)
  have gk : ∀ b, b ≠ e → G'.get? b = h'.get? b := fun b hb => g1 b (decide_eq_true hb)
  have ge : G'.get? e = none := g2 e (by simp)
  have old : ∀ b o, hp.get? b = some o → G'.get? b = some o := fun b o q => (gk b (Nat.ne_of_lt (Nat.lt_of_lt_of_le (Heap.lt_size q) M.new))).trans (M.keep b o q)
  have ob : ObjOk X.prog X.w (upd H d (codeO (-n))) G' d (codeO (-n)) := ⟨_, hns.at (fun o q => (gk d M.dne).trans q), fun f => relO_code (v := .int (-n)) (v' := .int (-n) t) ⟨t, rfl⟩ f⟩
  have J : Inv X pins σ (upd H d (codeO (-n))) ⟨G', g, dr, tk', os⟩ := I.laid (t' := tk') old M.dbig ob
  refine ⟨e, oe, fv, ⟨G', g, dr, tk', os⟩, _, .ref C, some d, rfl, J, fun b o q => ?_, ge, hoe, ⟨hc, hdd⟩, hdat, h1, ?_, rfl, I.bare, raises_own S.ref.exC S.tyC, h d (I.hok.fresh M.dbig)⟩
  · by_cases hb : b = e
    · have q' : G'.get? b = some o := q
      rw [hb, ge] at q'; cases q'
    · exact (gk b hb).symm.trans q
  · rw [upd_ne (Ne.symm M.dne)]
    exact I.hok.fresh M.new
/-- refusal.code, in the except clause: the error at a, of class cls, its dict d -/
def tCode (CR : Addr) (K : Fr) (a : Addr) (cls : Value) (d : Option Addr) (te : TE) : TE := fun σ H Q => te σ H fun x H1 => x = .ref a ∧ ∃ (C dd : Addr) (v : V), cls = .ref C ∧ RX.RefC K CR C ∧ d = some dd ∧ H1 dd = some (.xd [(("code" : Str), v)]) ∧ Q v H1
theorem pe_code {a : Addr} {oe : Obj} {cls : Value} {d : Option Addr} {pn : List (Addr × Obj)} {e : Expr} {te : TE} {pos : Pos} (hz : Zc cls d oe) (hf : ∃ vs, oe.data = .fields vs) (he : PE (X.suite a ((a, oe) :: pn)) e te)
    (hb : attributeBase e "code" X.env (eval e X.env) = eval e X.env := by rfl) : PE (X.suite a ((a, oe) :: pn)) (.Attribute e "code" pos) (tCode CR X.K a cls d te) := by
  refine ⟨fun pins s σ H Q I h => ?_⟩
  refine attr_of hb (thn (he.run pins s σ H _ I h) fun u s1 hh => ?_)
  obtain ⟨x, H1, I1, rx, ex, C, dd, v, ec, T, ed, ea, q⟩ := hh
  subst ex
  obtain rfl : u = Value.ref a := rx
  subst ec
  subst ed
  obtain ⟨ha, _⟩ := I1.pin (a, oe) (List.mem_append_left _ List.mem_cons_self)
  obtain ⟨vs, hd⟩ := hf
  have hx : ObjOk X.prog X.w H1 s1.heap dd (.xd [(("code" : Str), v)]) := I1.hok dd _ ea
  obtain ⟨mA, hns, hr⟩ := hx
  obtain ⟨od, ho, hl⟩ := lookIn_ns hns
  have l : List.lookup ("code" : Str) [(("code" : Str), v)] = some v := by simp [List.lookup]
  obtain ⟨u, hu, ru⟩ := RelO.some_of (v := v) (o := mA "code") (by rw [← l]; exact hr "code")
  have J : PySem.W.InstAt s1.heap a oe C (some od) := ⟨ha, hz.1, by unfold PySem.W.notCls; rw [hd] <;> rfl, by rw [hz.2]; exact ho⟩
  exact HandSPX.exc_get I1.kIn J T.ga T.gg T.exC (PySem.W.findObj_own T.hdC T.noN rfl (by rw [hl, hu])) (handed_of ru) ⟨v, H1, I1.tok _, ru, q⟩
end
/-- a call is refused: its code -/
def Fail (K : Fr) (CR : Addr) (H : Hp) (n : Int) (E : XK) : Prop := ∀ (C d : Addr) (H' : Hp), RX.RefC K CR C → H d = none → Same H H' → H' d = some (codeO n) → E (.ref C) (some d) H'
theorem Fail.raise {K : Fr} {CR C : Addr} {H : Hp} {n : Int} {E : XK} (h : Fail K CR H (-n) E) (r : RX.RefC K CR C) : ∀ d, H d = none → E (.ref C) (some d) (upd H d (codeO (-n))) := fun d hd => h C d _ r hd (same_new hd) upd_same
theorem Fail.back {K : Fr} {CR : Addr} {H0 H : Hp} {n : Int} {E : XK} (s : Same H0 H) (h : Fail K CR H0 n E) : Fail K CR H n E := fun C d H' r hd s' e => h C d H' r (s.free hd) (s.trans s') e
end EH

namespace EH
open PySem PySem.Spec PyProof.Rows L2
/-! ### answers in fractions -/
theorem intL_app {a b : List Int} : intL a ++ intL b = intL (a ++ b) := by unfold intL; rw [List.map_append]
theorem two_len (r : Rat) : (OT.two r).length = 2 := rfl
def fracs (n : Nat) (am : Nat → Int) (U : Int) : List Int := (List.range n).flatMap fun i => OT.two ((am i : Rat) / (U : Rat))
theorem fracs_succ {n : Nat} {am : Nat → Int} {U : Int} : fracs (n + 1) am U = fracs n am U ++ OT.two ((am n : Rat) / (U : Rat)) := by
  unfold fracs; rw [List.range_succ, List.flatMap_append]; simp
theorem fracs_len {am : Nat → Int} {U : Int} : ∀ {n : Nat}, (fracs n am U).length = 2 * n
  | 0 => rfl
  | n + 1 => by rw [fracs_succ, List.length_append, fracs_len, two_len]; omega
def spFracs (K : Fr) : Sp := fun vs H Q _ => ∃ (a : Addr) (n : Nat) (am : Nat → Int) (U : Int), vs = [.ref a, .int U] ∧ SqL K H a (vec n am) ∧ n ≤ 1000 ∧ 0 < U ∧ Bd 9000 U ∧ NewL H (intL (fracs n am U)) Q
abbrev s_as_fractions : Stmt := top 73
theorem sc_as_fractions : FnScope ["amounts", "units", "fractions", "amount"] ["amounts", "units"] (defScope s_as_fractions) := ⟨rfl, rfl, rfl, by decide +kernel, rfl, by decide +kernel, by decide +kernel⟩
section
variable {P : Program} {w : World} {K : Fr} {mg : Str → Option Value} {base : Heap} {f : Addr} {fd : FuncData}
theorem ok_fracs (T : Tx K mg) (A : At K mg "as_fractions" s_as_fractions ["amounts", "units"] f fd) (G1 : Got P w K mg base CX0 2 "lowest_terms" ["numerator", "denominator"] spLow) : Got P w K mg base CX0 3 "as_fractions" ["amounts", "units"] (spFracs K) := by
  obtain ⟨f_lowest_terms, fd1, m_lowest_terms, k_lowest_terms, b_lowest_terms, F_lowest_terms⟩ := G1
  refine A.got (A.fn.ok sc_as_fractions (fun vs H Q E h => ?_) (fun cdv A outer s H vs Q E hr h => ⟨_, by exact
    (pss_cons (ps_set (i := 2) sc_as_fractions.nd rfl (Or.inl rfl) (pe_lst pa_nil))
      (pss_cons (ps_for PassesOwn.never rfl (piL (K := K) rfl (pv 0)) (pg_name (i := 3) sc_as_fractions.nd rfl (Or.inl rfl)) (pss_one (ps_expr (pe_bm PySem.F.plainAttrs_list PySem.F.slot_list_extend PySem.F.type_list_extend mt_extend (pv 2) (pa_cons (pe_call F_lowest_terms (hr.mono (by decide)) rfl m_lowest_terms k_lowest_terms b_lowest_terms .nil pass0 (by exact (pa_cons (pv 3) (pa_cons (pv 1) pa_nil)))) pa_nil)))))
      (pss_one (ps_ret (pv 2)))))
    , ?_⟩))
  · obtain ⟨a, n, am, U, rfl, _⟩ := h
    rfl
  · obtain ⟨a, n, am, U, rfl, ha, hn, hU, bU, k⟩ := h
    refine ⟨by show 0 ≤ sizeLine; decide, fun F hF => ?_⟩
    refine ⟨_, rfl, a, rfl, ⟨_, (same_new hF).seq ha⟩, for_it (walk_list (xs := vec n am)) (fun i σ H' => ∃ v3 : Option V, σ = [some (.ref a), some (.int U), some (.ref F), v3] ∧ Same H H' ∧ H' F = some (.lst (intL (fracs i am U)))) ⟨none, rfl, same_new hF, upd_same⟩ (fun i σ H' _ p => ?_) (fun i x σ H1 H2 hi p y => ?_) (fun σ H' p => ?_)⟩
    · obtain ⟨_, _, s, _⟩ := p
      exact s.seq ha
    · obtain ⟨v3, rfl, s, hl⟩ := p
      obtain ⟨rfl, e⟩ := y
      obtain ⟨hi', rfl⟩ := tab_of e
      refine ⟨_, rfl, .inl ⟨rfl, _, SqL.of hl⟩, _, rfl, _, rfl, am i, U, rfl, hU, bU, fun p H3 s3 np hp => ?_⟩
      refine ⟨F, p, _, _, rfl, rfl, s3 _ _ hl, hp, ?_, ?_⟩
      · rw [ints_len, ints_len, fracs_len, two_len]; exact size_ok (by omega)
      · refine ⟨_, rfl, same_mut (s.trans s3) hF, ?_⟩
        rw [upd_same, fracs_succ, ← intL_app]
    · obtain ⟨v3, rfl, s, hl⟩ := p
      rw [vec_len] at hl
      exact ⟨_, rfl, k F H' s hF hl⟩
end
/-- a plan told -/
def planL (n : Nat) (P : Nat → Nat → Int) (U : Int) : List Int := (List.range n).flatMap fun i => fracs n (P i) U
theorem planL_succ {n m : Nat} {P : Nat → Nat → Int} {U : Int} : (List.range (m + 1)).flatMap (fun i => fracs n (P i) U) = (List.range m).flatMap (fun i => fracs n (P i) U) ++ fracs n (P m) U := by
  rw [List.range_succ, List.flatMap_append]; simp
theorem planL_len {n : Nat} {P : Nat → Nat → Int} {U : Int} : ∀ {m : Nat}, ((List.range m).flatMap (fun i => fracs n (P i) U)).length = m * (2 * n)
  | 0 => by simp
  | m + 1 => by rw [planL_succ, List.length_append, planL_len, fracs_len, Nat.add_mul]; omega
def spPlanAns (K : Fr) : Sp := fun vs H Q _ => ∃ (a b : Addr) (r r' : Nat → Addr) (n : Nat) (P d : Nat → Nat → Int) (U : Int), vs = [.ref a, .ref b] ∧ Mat H a r n n (mI P) ∧ Mat H b r' n n (mI d) ∧ n ≤ 10 ∧ (sumI n fun i => sumI n (P i)) = U ∧ 0 < U ∧ Bd 9000 U ∧
  (∀ i j, i < n → j < n → Bd 4000 (P i j) ∧ Bd 4000 (d i j)) ∧ NewL H (intL (((n : Int) * n) :: (planL n P U ++ OT.two ((costI n n P d : Rat) / (U : Rat))))) Q
abbrev s_plan_answer : Stmt := top 72
theorem sc_plan_answer : FnScope ["plan", "distances", "units", "answer", "row"] ["plan", "distances"] (defScope s_plan_answer) := ⟨rfl, rfl, rfl, by decide +kernel, rfl, by decide +kernel, by decide +kernel⟩
section
variable {P : Program} {w : World} {K : Fr} {mg : Str → Option Value} {base : Heap} {f : Addr} {fd : FuncData} {CR : Addr}
theorem ok_planans (T : Tx K mg) (A : At K mg "plan_answer" s_plan_answer ["plan", "distances"] f fd) (G1 : Got P w K mg base CX0 2 "lowest_terms" ["numerator", "denominator"] spLow) (G2 : Got P w K mg base CX0 1 "plan_units" ["plan"] spUnits)
    (G3 : Got P w K mg base CX0 3 "as_fractions" ["amounts", "units"] (spFracs K)) (G4 : Got P w K mg base CX0 1 "plan_cost" ["plan", "distances"] spCost) : Got P w K mg base CX0 4 "plan_answer" ["plan", "distances"] (spPlanAns K) := by
  obtain ⟨f_lowest_terms, fd1, m_lowest_terms, k_lowest_terms, b_lowest_terms, F_lowest_terms⟩ := G1
  obtain ⟨f_plan_units, fd2, m_plan_units, k_plan_units, b_plan_units, F_plan_units⟩ := G2
  obtain ⟨f_as_fractions, fd3, m_as_fractions, k_as_fractions, b_as_fractions, F_as_fractions⟩ := G3
  obtain ⟨f_plan_cost, fd4, m_plan_cost, k_plan_cost, b_plan_cost, F_plan_cost⟩ := G4
  refine A.got (A.fn.ok sc_plan_answer (fun vs H Q E h => ?_) (fun cdv A outer s H vs Q E hr h => ⟨_, by exact
    (pss_cons (ps_set (i := 2) sc_plan_answer.nd rfl (Or.inl rfl) (pe_call F_plan_units (hr.mono (by decide)) rfl m_plan_units k_plan_units b_plan_units .nil pass0 (by exact (pa_cons (pv 0) pa_nil))))
      (pss_cons (ps_set (i := 3) sc_plan_answer.nd rfl (Or.inl rfl) (pe_lst (pa_cons (pe_op op_mulW (pe_callB (id := "len") (clen (K := K) rfl) (by rfl) T.len (by decide +kernel) (pa_cons (pv 0) pa_nil)) (pe_callB (id := "len") (clen (K := K) rfl) (by rfl) T.len (by decide +kernel) (pa_cons (pv 0) pa_nil))) pa_nil)))
      (pss_cons (ps_for PassesOwn.never rfl (piL (K := K) rfl (pv 0)) (pg_name (i := 4) sc_plan_answer.nd rfl (Or.inl rfl)) (pss_one (ps_expr (pe_bm PySem.F.plainAttrs_list PySem.F.slot_list_extend PySem.F.type_list_extend mt_extend (pv 3) (pa_cons (pe_call F_as_fractions (hr.mono (by decide)) rfl m_as_fractions k_as_fractions b_as_fractions .nil pass0 (by exact (pa_cons (pv 4) (pa_cons (pv 2) pa_nil)))) pa_nil)))))
      (pss_one (ps_ret (pe_op op_cat (pv 3) (pe_call F_lowest_terms (hr.mono (by decide)) rfl m_lowest_terms k_lowest_terms b_lowest_terms .nil pass0 (by exact (pa_cons (pe_call F_plan_cost (hr.mono (by decide)) rfl m_plan_cost k_plan_cost b_plan_cost .nil pass0 (by exact (pa_cons (pv 0) (pa_cons (pv 1) pa_nil)))) (pa_cons (pv 2) pa_nil))))))))))
    , ?_⟩))
  · obtain ⟨a, b, r, r', n, P, d, U, rfl, _⟩ := h
    rfl
  · obtain ⟨a, b, r, r', n, P, d, U, rfl, M, N, hn, eU, hU, bU, bd, k⟩ := h
    refine ⟨_, rfl, a, r, n, n, P, rfl, M, by omega, fun H1 s1 => ?_⟩
    rw [eU]
    refine ⟨_, rfl, a, _, rfl, .inl (SqL.of (s1 _ _ M.at_)), _, rfl, a, _, rfl, .inl (SqL.of (s1 _ _ M.at_)), ?_⟩
    rw [tab_len]
    refine ⟨_, _, rfl, rfl, Bd.cm (a := 10) (b := 10) (bd_nat (by omega)) (bd_nat (by omega)), by show 1 ≤ sizeLine; decide, fun F hF => ?_⟩
    have s2 := s1.trans (same_new (o := .lst [V.int ((n : Int) * n)]) hF)
    have nF : H F = none := s1.free hF
    refine ⟨_, rfl, a, rfl, ⟨_, SqL.of (s2 _ _ M.at_)⟩, for_it (walk_list (xs := tab n fun i => .ref (r i))) (fun i σ H' => ∃ v4 : Option V, σ = [some (.ref a), some (.ref b), some (.int U), some (.ref F), v4] ∧ Same H H' ∧ H' F = some (.lst (intL (((n : Int) * n) :: (List.range i).flatMap fun i => fracs n (P i) U))))
      ⟨none, rfl, s2, upd_same⟩ (fun i σ H' _ p => ?_) (fun i x σ H3 H4 hi p y => ?_) (fun σ H' p => ?_)⟩
    · obtain ⟨_, _, s, _⟩ := p
      exact SqL.of (s _ _ M.at_)
    · obtain ⟨v4, rfl, s, hl⟩ := p
      obtain ⟨rfl, e⟩ := y
      obtain ⟨hi', rfl⟩ := tab_of e
      refine ⟨_, rfl, .inl ⟨rfl, _, SqL.of hl⟩, _, rfl, _, rfl, r i, n, P i, U, rfl, SqL.of (s _ _ (M.row i hi')), by omega, hU, bU, fun p H5 s5 np hp => ?_⟩
      refine ⟨F, p, _, _, rfl, rfl, s5 _ _ hl, hp, ?_, ?_⟩
      · rw [ints_len, ints_len, fracs_len, List.length_cons, planL_len]
        have : i * (2 * n) ≤ 10 * 20 := Nat.mul_le_mul (by omega) (by omega)
        exact size_ok (by omega)
      · refine ⟨_, rfl, same_mut (s.trans s5) nF, ?_⟩
        rw [upd_same, planL_succ, intL_app]; rfl
    · obtain ⟨v4, rfl, s, hl⟩ := p
      rw [tab_len] at hl
      refine ⟨_, rfl, _, rfl, _, rfl, a, b, r, r', n, n, P, d, rfl, M.same s, N.same s, bd, fun H6 s6 => ?_⟩
      refine ⟨_, rfl, _, U, rfl, hU, bU, fun p H7 s7 np hp => ?_⟩
      refine ⟨F, p, _, _, rfl, rfl, s7 _ _ (s6 _ _ hl), hp, ?_, ?_⟩
      · rw [ints_len, ints_len, two_len, List.length_cons, planL_len]
        have : n * (2 * n) ≤ 10 * 20 := Nat.mul_le_mul (by omega) (by omega)
        exact size_ok (by omega)
      · intro z hz
        refine k z _ (((s.trans s6).trans s7).trans (same_new hz)) ((((s.trans s6).trans s7)).free hz) ?_
        rw [upd_same, intL_app]; rfl
end
end EH

/-! The instance against the specification's state. -/
namespace OT
/-- steps from a place to itself that are 0 long may be dropped -/
theorem Way.noLoops {src : Nat → Prop} {E E' : Arcs} (h : ∀ u v w, E u v w → (u = v ∧ w = 0) ∨ E' u v w) {l v x} (a : Way src E l v x) : ∃ l', Way src E' l' v x := by
  induction a with
  | nil s => exact ⟨_, .nil s⟩
  | @snoc l u v x w a b ih =>
    obtain ⟨l', a'⟩ := ih
    rcases h _ _ _ b with ⟨rfl, rfl⟩ | q
    · rw [Int.add_zero]; exact ⟨l', a'⟩
    · exact ⟨_, .snoc a' q⟩
theorem Way.most {src : Nat → Prop} {E : Arcs} {m : Int} (h : ∀ u v w, E u v w → w ≤ m) {l v x} (a : Way src E l v x) : x + m ≤ m * (l.length : Int) := by
  induction a with
  | nil s => simp
  | @snoc l u v x w a b ih =>
    have := h _ _ _ b
    rw [List.length_cons, Int.natCast_succ, Int.mul_add, Int.mul_one]
    omega
end OT
namespace EH
open OT (OM fwA SArc Dist Way WayArc toI dI OkG Conn Met GoodS sp mt)
/-- lengths and weights tell the specification's ground -/
structure Dat (g : Sr82.Ground) (L : Nat → Nat → Int) (w : Nat → Nat → Int) : Prop where
  n1 : 1 ≤ g.n
  n6 : g.n ≤ 6
  len : g.s.length = 4
  okg : OkG g.n g.g
  ways : ∀ i j, i < g.n → j < g.n → L i j = (Sr82.way g.g i j : Int)
  le9 : ∀ i j, i < g.n → j < g.n → Sr82.way g.g i j ≤ 9
  diag : ∀ i, i < g.n → Sr82.way g.g i i = 0
  good : ∀ k, k < 4 → GoodS g.n (g.s.getD k [])
  wt : ∀ k, k < 4 → Wt g.n (w k)
  rel : ∀ k, k < 4 → ∀ i, i < g.n → sp (g.s.getD k []) i = ra g.n (w k) i
section
variable {g : Sr82.Ground} {L : Nat → Nat → Int} {w : Nat → Nat → Int}
theorem Dat.far (D : Dat g L w) {i j : Nat} (hi : i < g.n) (hj : j < g.n) : fwA (stepsOf L) g.n i j = toI (Sr82.far g.n g.g i j) := by
  have d1 := OT.fw_dist (steps_ok (n := g.n) (L := L)) hi hj
  have d2 := OT.far_dist (n := g.n) (g := g.g) (i := i) (j := j) hi
  have e1 : ∀ u v z, WayArc g.n g.g u v z → SArc g.n (stepsOf L) u v z := by
    rintro u v z ⟨hu, hv, hz, rfl⟩
    have q : u ≠ v := fun q => by subst q; exact hz (D.diag u hu)
    refine ⟨hu, hv, ?_⟩
    unfold stepsOf
    rw [if_neg q, D.ways u v hu hv, if_pos (by omega)]
  have e2 : ∀ u v z, SArc g.n (stepsOf L) u v z → (u = v ∧ z = 0) ∨ WayArc g.n g.g u v z := by
    rintro u v z ⟨hu, hv, e⟩
    unfold stepsOf at e
    by_cases q : u = v
    · rw [if_pos q] at e; exact .inl ⟨q, (Option.some.inj e).symm⟩
    · rw [if_neg q] at e
      by_cases c : 0 < L u v
      · rw [if_pos c] at e
        have e := Option.some.inj e
        rw [D.ways u v hu hv] at c e
        exact .inr ⟨hu, hv, by omega, e.symm⟩
      · rw [if_neg c] at e; cases e
  refine Dist.unique (E := WayArc g.n g.g) ⟨fun l x w => d1.least l x (w.mono (fun _ h => h) e1), fun x e => ?_⟩ d2
  obtain ⟨l, w⟩ := d1.way x e
  exact w.noLoops e2
theorem Dat.conn (D : Dat g L w) : isConn g.n (fwA (stepsOf L) g.n) = Sr82.hangs g.n g.g := by
  unfold isConn Sr82.hangs
  rw [Bool.eq_iff_iff, List.all_eq_true, List.all_eq_true]
  refine forall_congr' fun j => forall_congr' fun hj => ?_
  rw [D.far D.n1 (List.mem_range.mp hj)]
  cases Sr82.far g.n g.g 0 j <;> exact Iff.rfl
/-- the distances, where all hang together -/
def dis (g : Sr82.Ground) : Nat → Nat → Int := dI (Sr82.dist g.n g.g)
theorem Dat.hangs (D : Dat g L w) (h : Sr82.hangs g.n g.g = true) : Conn g.n g.g := (OT.hangs_iff D.n1 D.okg).mp h
theorem Dat.dist (D : Dat g L w) (h : Sr82.hangs g.n g.g = true) {i j : Nat} (hi : i < g.n) (hj : j < g.n) : fwA (stepsOf L) g.n i j = some (dis g i j) := by
  have d2 := OT.far_dist (n := g.n) (g := g.g) (i := i) (j := j) hi
  rw [D.far hi hj]
  exact Dist.unique d2 (OT.dist_is (D.hangs h) hi hj)
theorem Dat.met (D : Dat g L w) (h : Sr82.hangs g.n g.g = true) : Met g.n (dis g) := OT.met_dist (D.hangs h)
theorem dis_nn (i j : Nat) : 0 ≤ dis g i j := by unfold dis dI; omega
theorem Dat.dis_le (D : Dat g L w) (h : Sr82.hangs g.n g.g = true) {i j : Nat} (hi : i < g.n) (hj : j < g.n) : dis g i j ≤ 54 := by
  have ds := OT.dist_is (D.hangs h) hi hj
  obtain ⟨l, a⟩ := ds.way _ rfl
  obtain ⟨l', x', a', hx, nd, _⟩ := a.simple (f := fun _ => 0) (fun u v w q => by have := q.nn; omega)
  obtain ⟨y, ey, hy⟩ := ds.least l' x' a'
  cases ey
  have le := OT.nodup_len nd (a'.within (N := g.n) (by rintro s rfl; exact hi) fun u v w q => q.2.1)
  have mo := a'.most (m := 9) (by
    rintro u v z ⟨hu, hv, _, rfl⟩
    have := D.le9 u v hu hv
    omega)
  have n6 := D.n6
  show dI (Sr82.dist g.n g.g) i j ≤ 54
  omega
theorem Dat.dis_bd (D : Dat g L w) (h : Sr82.hangs g.n g.g = true) {i j : Nat} (hi : i < g.n) (hj : j < g.n) : Bd 100 (dis g i j) := by
  have := D.dis_le h hi hj
  have := dis_nn (g := g) i j
  exact Bd.le (y := 54) (bd_lit) this (by omega)
end
end EH

namespace EH
open PySem PySem.Spec PyProof.Rows L2
/-! ### an instance on the heap -/
structure IAd where
  x : Addr
  dx : Addr
  al : Addr
  rl : Nat → Addr
  ar : Addr
  sl : Nat → Addr
def insF (n : Nat) (al ar : Addr) : List (Str × V) := [("points", .int (n : Nat)), ("lengths", .ref al), ("slots", .ref ar)]
theorem insF_p {n : Nat} {al ar : Addr} : (insF n al ar).lookup ("points" : Str) = some (.int (n : Nat)) := rfl
theorem insF_l {n : Nat} {al ar : Addr} : (insF n al ar).lookup ("lengths" : Str) = some (.ref al) := rfl
theorem insF_s {n : Nat} {al ar : Addr} : (insF n al ar).lookup ("slots" : Str) = some (.ref ar) := rfl
structure Here (C : Addr) (H : Hp) (a : IAd) (n : Nat) (L w : Nat → Nat → Int) : Prop where
  ins : H a.x = some (.ins C a.dx (insF n a.al a.ar))
  len : Mat H a.al a.rl n n (mI L)
  slo : Mat H a.ar a.sl 4 n (mI w)
  aa : a.al ≠ a.ar
  ra : ∀ i, i < n → a.rl i ≠ a.ar
  rs : ∀ i k, i < n → k < 4 → a.sl k ≠ a.rl i
  as : ∀ k, k < 4 → a.sl k ≠ a.al
theorem Here.same {C : Addr} {H H' : Hp} {a : IAd} {n : Nat} {L w : Nat → Nat → Int} (s : Same H H') (h : Here C H a n L w) : Here C H' a n L w :=
  ⟨s _ _ h.ins, h.len.same s, h.slo.same s, h.aa, h.ra, h.rs, h.as⟩
/-- what is not the instance's stays -/
def Kept (H H' : Hp) (a : IAd) (n : Nat) : Prop := ∀ b o, H b = some o → b ≠ a.ar → (∀ i, i < n → b ≠ a.rl i) → H' b = some o
theorem Kept.of {H H' : Hp} {a : IAd} {n : Nat} (s : Same H H') : Kept H H' a n := fun b o h _ _ => s b o h
/-- the names of the refusals -/
structure Rf (K : Fr) (mg : Str → Option Value) (CR fR : Addr) : Prop where
  rt : RX.RTxt K mg CR fR
  noI : ∃ C fI, RX.STxt K mg "NoInstance" "NoInstance.__init__" CR C fI 11
  mis : ∃ C fI, RX.STxt K mg "Missing" "Missing.__init__" CR C fI 2
  mal : ∃ C fI, RX.STxt K mg "Malformed" "Malformed.__init__" CR C fI 22
  noP : ∃ C fI, RX.STxt K mg "NoPath" "NoPath.__init__" CR C fI 33
  lar : ∃ C fI, RX.STxt K mg "TooLarge" "TooLarge.__init__" CR C fI 75
/-! ### points and slots asked for -/
def spPts (K : Fr) (C CR : Addr) : Sp := fun vs H Q E => ∃ (a : IAd) (n : Nat) (L w : Nat → Nat → Int) (q : Addr) (zs : List Int), vs = [.ref a.x, .ref q] ∧ Here C H a n L w ∧ SqL K H q (intL zs) ∧
  ((∀ z, z ∈ zs → 0 ≤ z ∧ z < n) → Q .non H) ∧ ((∃ z, z ∈ zs ∧ ¬ (0 ≤ z ∧ z < n)) → Fail K CR H (-2) E)
def spSlt (K : Fr) (CR : Addr) : Sp := fun vs H Q E => ∃ (q : Addr) (zs : List Int), vs = [.ref q] ∧ SqL K H q (intL zs) ∧
  ((∀ z, z ∈ zs → 0 ≤ z ∧ z < 4) → Q .non H) ∧ ((∃ z, z ∈ zs ∧ ¬ (0 ≤ z ∧ z < 4)) → Fail K CR H (-2) E)
theorem mem_of_get {zs : List Int} {i : Nat} {z : Int} (h : zs[i]? = some z) : z ∈ zs := List.mem_of_getElem? h
theorem all_step {zs : List Int} {p : Int → Prop} {i : Nat} {z : Int} (h : zs[i]? = some z) (hz : p z) (q : ∀ j y, j < i → zs[j]? = some y → p y) : ∀ j y, j < i + 1 → zs[j]? = some y → p y := fun j y hj e => by
  by_cases c : j = i
  · subst c; rw [h] at e; rw [← Option.some.inj e]; exact hz
  · exact q j y (by omega) e
theorem all_done {zs : List Int} {p : Int → Prop} (q : ∀ j y, j < (intL zs).length → zs[j]? = some y → p y) : ∀ z, z ∈ zs → p z := fun z hz => by
  obtain ⟨j, hj, e⟩ := List.mem_iff_getElem.mp hz
  exact q j z (by rw [ints_len]; exact hj) (by rw [List.getElem?_eq_getElem hj, e])
abbrev s_require_points : Stmt := top 67
theorem sc_require_points : FnScope ["instance", "points", "point"] ["instance", "points"] (defScope s_require_points) := ⟨rfl, rfl, rfl, by decide +kernel, rfl, by decide +kernel, by decide +kernel⟩
abbrev s_require_slots : Stmt := top 68
theorem sc_require_slots : FnScope ["slots", "slot"] ["slots"] (defScope s_require_slots) := ⟨rfl, rfl, rfl, by decide +kernel, rfl, by decide +kernel, by decide +kernel⟩
section
variable {P : Program} {w : World} {K : Fr} {mg : Str → Option Value} {base : Heap} {f : Addr} {fd : FuncData} {C CR fR : Addr}
theorem ok_pts (T : Tx K mg) (IT : InsT K C) (R : Rf K mg CR fR) (A : At K mg "require_points" s_require_points ["instance", "points"] f fd) : Got P w K mg base (L2.CX P w) 3 "require_points" ["instance", "points"] (spPts K C CR) := by
  have RT := R.rt
  obtain ⟨C_Missing, f_Missing, S_Missing⟩ := R.mis
  refine A.got (A.fn.okX sc_require_points (fun vs H Q E h => ?_) (fun cdv A outer s H vs Q E hr h => ⟨_, by exact
    (pss_one (ps_for (passes_of rfl) rfl (piL (K := K) rfl (pv 1)) (pg_name (i := 2) sc_require_points.nd rfl (Or.inl rfl)) (pss_one (ps_if (pt_not (pt_chain op_le op_lt pe_int (pv 2) (peFld (K := K) rfl (pv 0) rfl))) (pss_one (ps_raise rfl (takes_of rfl rfl rfl rfl) (pmk_ref RT S_Missing hr))) pss_nil))))
    , ?_⟩))
  · obtain ⟨a, n, L, w, q, zs, rfl, _⟩ := h
    rfl
  · obtain ⟨a, n, L, w, q, zs, rfl, I, hq, kQ, kE⟩ := h
    refine ⟨_, rfl, q, rfl, ⟨_, hq⟩, for_it (walk_list (xs := intL zs)) (fun i σ H' => ∃ v2 : Option V, σ = [some (.ref a.x), some (.ref q), v2] ∧ H' = H ∧ ∀ j y, j < i → zs[j]? = some y → 0 ≤ y ∧ y < n) ⟨none, rfl, rfl, fun j y hj => absurd hj (Nat.not_lt_zero j)⟩ (fun i σ H' _ p => ?_) (fun i x σ H1 H2 hi p y => ?_) (fun σ H' p => ?_)⟩
    · obtain ⟨_, _, rfl, _⟩ := p
      exact hq
    · obtain ⟨v2, rfl, rfl, al⟩ := p
      obtain ⟨rfl, e⟩ := y
      obtain ⟨z, ez, rfl⟩ := ints_get e
      refine ⟨_, rfl, _, _, rfl, rfl, _, rfl, ?_⟩
      by_cases c1 : 0 ≤ z
      · rw [decide_eq_true c1]
        refine iteT ⟨_, rfl, a.x, C, a.dx, _, _, rfl, I.ins, IT.cl, IT.nP, insF_p, _, _, rfl, rfl, _, rfl, ?_⟩
        by_cases c2 : z < n
        · rw [decide_eq_true c2]
          exact iteF ⟨_, rfl, rfl, all_step ez ⟨c1, c2⟩ al⟩
        · rw [decide_eq_false c2]
          exact iteT ((kE ⟨z, mem_of_get ez, fun h => c2 h.2⟩).raise S_Missing.ref)
      · rw [decide_eq_false c1]
        refine iteF ?_
        exact ⟨_, rfl, iteT ((kE ⟨z, mem_of_get ez, fun h => c1 h.1⟩).raise S_Missing.ref)⟩
    · obtain ⟨v2, rfl, rfl, al⟩ := p
      exact kQ (all_done al)
theorem ok_slt (T : Tx K mg) (TC : Cn K mg) (R : Rf K mg CR fR) (A : At K mg "require_slots" s_require_slots ["slots"] f fd) : Got P w K mg base (L2.CX P w) 3 "require_slots" ["slots"] (spSlt K CR) := by
  have RT := R.rt
  obtain ⟨C_Missing, f_Missing, S_Missing⟩ := R.mis
  refine A.got (A.fn.okX sc_require_slots (fun vs H Q E h => ?_) (fun cdv A outer s H vs Q E hr h => ⟨_, by exact
    (pss_one (ps_for (passes_of rfl) rfl (piL (K := K) rfl (pv 0)) (pg_name (i := 1) sc_require_slots.nd rfl (Or.inl rfl)) (pss_one (ps_if (pt_not (pt_chain op_le op_lt pe_int (pv 1) (pe_globI (by rfl) TC.SLOTS))) (pss_one (ps_raise rfl (takes_of rfl rfl rfl rfl) (pmk_ref RT S_Missing hr))) pss_nil))))
    , ?_⟩))
  · obtain ⟨q, zs, rfl, _⟩ := h
    rfl
  · obtain ⟨q, zs, rfl, hq, kQ, kE⟩ := h
    refine ⟨_, rfl, q, rfl, ⟨_, hq⟩, for_it (walk_list (xs := intL zs)) (fun i σ H' => ∃ v2 : Option V, σ = [some (.ref q), v2] ∧ H' = H ∧ ∀ j y, j < i → zs[j]? = some y → 0 ≤ y ∧ y < 4) ⟨none, rfl, rfl, fun j y hj => absurd hj (Nat.not_lt_zero j)⟩ (fun i σ H' _ p => ?_) (fun i x σ H1 H2 hi p y => ?_) (fun σ H' p => ?_)⟩
    · obtain ⟨_, _, rfl, _⟩ := p
      exact hq
    · obtain ⟨v2, rfl, rfl, al⟩ := p
      obtain ⟨rfl, e⟩ := y
      obtain ⟨z, ez, rfl⟩ := ints_get e
      refine ⟨_, rfl, _, _, rfl, rfl, _, rfl, ?_⟩
      by_cases c1 : 0 ≤ z
      · rw [decide_eq_true c1]
        refine iteT ⟨_, _, rfl, rfl, _, rfl, ?_⟩
        by_cases c2 : z < 4
        · rw [decide_eq_true c2]
          exact iteF ⟨_, rfl, rfl, all_step ez ⟨c1, c2⟩ al⟩
        · rw [decide_eq_false c2]
          exact iteT ((kE ⟨z, mem_of_get ez, fun h => c2 h.2⟩).raise S_Missing.ref)
      · rw [decide_eq_false c1]
        refine iteF ?_
        exact ⟨_, rfl, iteT ((kE ⟨z, mem_of_get ez, fun h => c1 h.1⟩).raise S_Missing.ref)⟩
    · obtain ⟨v2, rfl, rfl, al⟩ := p
      exact kQ (all_done al)
end
end EH

namespace EH
open PySem PySem.Spec PyProof.Rows L2
def spEach (K : Fr) (C CR : Addr) : Sp := fun vs H Q E => ∃ (a : IAd) (n : Nat) (L w : Nat → Nat → Int) (q : Addr) (zs : List Int) (lo hi : Int), vs = [.ref a.x, .ref q, .int lo, .int hi] ∧ Here C H a n L w ∧ 0 < n ∧ SqL K H q (intL zs) ∧
  (zs.length = n → (∀ z, z ∈ zs → lo ≤ z ∧ z ≤ hi) → Q .non H) ∧ (¬ (zs.length = n ∧ ∀ z, z ∈ zs → lo ≤ z ∧ z ≤ hi) → Fail K CR H (-22) E)
def spWin (K : Fr) (C CR : Addr) : Sp := fun vs H Q E => ∃ (a : IAd) (n : Nat) (L w : Nat → Nat → Int) (q : Addr) (zs : List Int), vs = [.ref a.x, .ref q] ∧ Here C H a n L w ∧ SqL K H q (intL zs) ∧ zs.length ≤ 1000 ∧
  ((∀ z, z ∈ zs → 0 ≤ z ∧ z < 4) → NewL H (tab zs.length fun i => .ref (a.sl (zs.getD i 0).toNat)) Q) ∧ ((∃ z, z ∈ zs ∧ ¬ (0 ≤ z ∧ z < 4)) → Fail K CR H (-2) E)
def spCon (K : Fr) (C CR : Addr) : Sp := fun vs H Q E => ∃ (a : IAd) (g : Sr82.Ground) (L w : Nat → Nat → Int), vs = [.ref a.x] ∧ Here C H a g.n L w ∧ Dat g L w ∧
  (Sr82.hangs g.n g.g = true → NewM H g.n g.n (mI (dis g)) Q) ∧ (Sr82.hangs g.n g.g = false → Fail K CR H (-33) E)
abbrev s_require_each : Stmt := top 70
theorem sc_require_each : FnScope ["instance", "numbers", "lowest", "highest"] ["instance", "numbers", "lowest", "highest"] (defScope s_require_each) := ⟨rfl, rfl, rfl, by decide +kernel, rfl, by decide +kernel, by decide +kernel⟩
abbrev s_weights_in : Stmt := top 69
theorem sc_weights_in : FnScope ["instance", "slots", "slot"] ["instance", "slots"] (defScope s_weights_in) := ⟨rfl, rfl, rfl, by decide +kernel, rfl, by decide +kernel, by decide +kernel⟩
abbrev s_connected_distances : Stmt := top 71
theorem sc_connected_distances : FnScope ["instance", "distances"] ["instance"] (defScope s_connected_distances) := ⟨rfl, rfl, rfl, by decide +kernel, rfl, by decide +kernel, by decide +kernel⟩
section
variable {P : Program} {w : World} {K : Fr} {mg : Str → Option Value} {base : Heap} {f : Addr} {fd : FuncData} {C CR fR : Addr}
theorem ok_each (T : Tx K mg) (IT : InsT K C) (R : Rf K mg CR fR) (A : At K mg "require_each" s_require_each ["instance", "numbers", "lowest", "highest"] f fd) : Got P w K mg base (L2.CX P w) 3 "require_each" ["instance", "numbers", "lowest", "highest"] (spEach K C CR) := by
  have RT := R.rt
  obtain ⟨C_Malformed, f_Malformed, S_Malformed⟩ := R.mal
  refine A.got (A.fn.okX sc_require_each (fun vs H Q E h => ?_) (fun cdv A outer s H vs Q E hr h => ⟨_, by exact
    (pss_one (ps_if (PW.pt (pw_or (pt_cmpR op_ne (pe_callB (id := "len") (clen (K := K) rfl) (by rfl) T.len (by decide +kernel) (pa_cons (pv 1) pa_nil)) (peFld (K := K) rfl (pv 0) rfl) (nomark _)) (pw_or (pt_cmpR op_lt (pe_callB (id := "min") (cmin (K := K) rfl rfl) (by rfl) T.min (by decide +kernel) (pa_cons (pv 1) pa_nil)) (pv 2) (nomark _)) (pw_or1 (pt_cmpR op_gt (pe_callB (id := "max") (cmax (K := K) rfl rfl) (by rfl) T.max (by decide +kernel) (pa_cons (pv 1) pa_nil)) (pv 3) (nomark _)))))) (pss_one (ps_raise rfl (takes_of rfl rfl rfl rfl) (pmk_ref RT S_Malformed hr))) pss_nil))
    , ?_⟩))
  · obtain ⟨a, n, L, w, q, zs, lo, hi, rfl, _⟩ := h
    rfl
  · obtain ⟨a, n, L, w, q, zs, lo, hi, rfl, I, hn, hq, kQ, kE⟩ := h
    refine ⟨_, rfl, q, _, rfl, .inl hq, _, rfl, a.x, C, a.dx, _, _, rfl, I.ins, IT.cl, IT.nP, insF_p, rfl, _, rfl, ?_⟩
    rw [ints_len]
    by_cases c1 : zs.length = n
    · refine iteNS (congrArg (fun k : Nat => V.int (k : Int)) c1) ?_
      refine ⟨_, rfl, q, zs, rfl, hq, by omega, fun m h1 h2 => ?_⟩
      refine ⟨_, rfl, _, _, rfl, rfl, _, rfl, ?_⟩
      by_cases c2 : m < lo
      · rw [decide_eq_true c2]
        refine iteT (iteT ((kE fun z => ?_).raise S_Malformed.ref))
        have := (z.2 m h1).1
        omega
      · rw [decide_eq_false c2]
        refine iteF ⟨_, rfl, q, zs, rfl, hq, by omega, fun M h3 h4 => ?_⟩
        refine ⟨_, rfl, _, _, rfl, rfl, _, rfl, ?_⟩
        by_cases c3 : hi < M
        · rw [decide_eq_true c3]
          refine iteT ((kE fun z => ?_).raise S_Malformed.ref)
          have := (z.2 M h3).2
          omega
        · rw [decide_eq_false c3]
          refine iteF (kQ c1 fun z hz => ?_)
          have := h2 z hz
          have := h4 z hz
          omega
    · rw [decide_eq_false (show ¬ V.int ((zs.length : Nat) : Int) = V.int ((n : Nat) : Int) from fun z => by injection z with z; omega)]
      exact iteT (iteT ((kE fun z => c1 z.1).raise S_Malformed.ref))
theorem ok_win (T : Tx K mg) (IT : InsT K C) (R : Rf K mg CR fR) (A : At K mg "weights_in" s_weights_in ["instance", "slots"] f fd) (G1 : Got P w K mg base (L2.CX P w) 3 "require_slots" ["slots"] (spSlt K CR)) : Got P w K mg base (L2.CX P w) 4 "weights_in" ["instance", "slots"] (spWin K C CR) := by
  obtain ⟨f_require_slots, fd1, m_require_slots, k_require_slots, b_require_slots, F_require_slots⟩ := G1
  refine A.got (A.fn.okX sc_weights_in (fun vs H Q E h => ?_) (fun cdv A outer s H vs Q E hr h => ⟨_, by exact
    (pss_cons (ps_expr (pe_call F_require_slots (hr.mono (by decide)) rfl m_require_slots k_require_slots b_require_slots .nil (passes_call (takes_of rfl rfl rfl rfl) (fun _ _ _ _ h => h)) (by exact (pa_cons (pv 1) pa_nil))))
      (pss_one (ps_ret (pe_lc (own := [("slot", 2)]) rfl sc_weights_in.nd  (piL (K := K) rfl (pv 1)) (blkOk_by (N := ["instance", "slots", "slot"]) (sc := defScope s_weights_in) (own := [("slot", 2)]) (by decide +kernel)) (fun _ _ _ _ _ => (pg_name (i := 2) sc_weights_in.nd rfl (Or.inl rfl))) (fun _ _ _ _ _ => pts_nil) (fun _ _ _ _ _ => (pe_ix (ixL (K := K) rfl) (peFld (K := K) rfl (pv 0) rfl) (pv 2) (fun _ _ => rfl)))))))
    , ?_⟩))
  · obtain ⟨a, n, L, w, q, zs, rfl, _⟩ := h
    rfl
  · obtain ⟨a, n, L, w, q, zs, rfl, I, hq, hl, kQ, kE⟩ := h
    refine ⟨_, rfl, q, zs, rfl, hq, fun ok => ?_, kE⟩
    refine ⟨_, rfl, q, rfl, ⟨_, hq⟩, fun D hD => comp_vals (walk_list (xs := intL zs)) (fun i => .ref (a.sl (zs.getD i 0).toNat)) hD (by rw [ints_len]; omega) (fun H' s => s.seq hq) (fun i x H1 H' hi s1 y F hF => ?_) (fun H' s1 hl => ?_) gm_name⟩
    · obtain ⟨rfl, e⟩ := y
      obtain ⟨z, ez, rfl⟩ := ints_get e
      obtain ⟨z0, z4⟩ := ok z (mem_of_get ez)
      have ej : zs.getD i 0 = z := by rw [List.getD_eq_getElem?_getD, ez]; rfl
      obtain ⟨j, rfl⟩ : ∃ j : Nat, z = (j : Int) := ⟨z.toNat, by omega⟩
      have key := hF _ (Same.refl _)
      rw [ej] at key
      exact ⟨rfl, _, rfl, a.x, C, a.dx, _, _, rfl, s1 _ _ I.ins, IT.cl, IT.nS, insF_s, _, rfl, a.ar, _, _, _, rfl, rfl, SqL.of (s1 _ _ I.slo.at_), tab_at (by omega), key⟩
    · rw [ints_len] at hl
      exact kQ ok D H' s1 hD hl
theorem ok_con (T : Tx K mg) (IT : InsT K C) (R : Rf K mg CR fR) (A : At K mg "connected_distances" s_connected_distances ["instance"] f fd) (G1 : Got P w K mg base CX0 3 "all_distances" ["lengths"] spDist)
    (G2 : Got P w K mg base CX0 1 "all_connected" ["distances"] spConn) : Got P w K mg base (L2.CX P w) 4 "connected_distances" ["instance"] (spCon K C CR) := by
  have RT := R.rt
  obtain ⟨C_NoPath, f_NoPath, S_NoPath⟩ := R.noP
  obtain ⟨f_all_distances, fd1, m_all_distances, k_all_distances, b_all_distances, F_all_distances⟩ := G1
  obtain ⟨f_all_connected, fd2, m_all_connected, k_all_connected, b_all_connected, F_all_connected⟩ := G2
  refine A.got (A.fn.okX sc_connected_distances (fun vs H Q E h => ?_) (fun cdv A outer s H vs Q E hr h => ⟨_, by exact
    (pss_cons (ps_set (i := 1) sc_connected_distances.nd rfl (Or.inl rfl) (pe_call F_all_distances (hr.mono (by decide)) rfl m_all_distances k_all_distances b_all_distances .nil pass0 (by exact (pa_cons (peFld (K := K) rfl (pv 0) rfl) pa_nil))))
      (pss_cons (ps_if (pt_not (pt_val (pe_call F_all_connected (hr.mono (by decide)) rfl m_all_connected k_all_connected b_all_connected .nil pass0 (by exact (pa_cons (pv 1) pa_nil))))) (pss_one (ps_raise rfl (takes_of rfl rfl rfl rfl) (pmk_ref RT S_NoPath hr))) pss_nil)
      (pss_one (ps_ret (pv 1)))))
    , ?_⟩))
  · obtain ⟨a, g, L, w, rfl, _⟩ := h
    rfl
  · obtain ⟨a, g, L, w, rfl, I, D, kQ, kE⟩ := h
    have n6 := D.n6
    refine ⟨_, rfl, a.x, C, a.dx, _, _, rfl, I.ins, IT.cl, IT.nL, insF_l, a.al, a.rl, g.n, L, rfl, I.len, by omega, fun b r H1 s1 N => ?_⟩
    refine ⟨_, rfl, b, r, g.n, _, rfl, N.mat, D.n1, ?_⟩
    rw [D.conn]
    refine ⟨_, rfl, ?_⟩
    cases c : Sr82.hangs g.n g.g with
    | false => exact iteT (((kE c).back s1).raise S_NoPath.ref)
    | true =>
      refine iteF ⟨_, rfl, kQ c b r H1 s1 ⟨N.mat.congr fun i j hi hj => ?_, N.new, N.rows⟩⟩
      show oV _ = V.int _
      rw [D.dist c hi hj]; rfl
end
end EH

namespace EH
open PySem PySem.Spec PyProof.Rows L2
/-- where a new instance lies -/
structure NewI (H : Hp) (a : IAd) (n : Nat) : Prop where
  x : H a.x = none
  al : H a.al = none
  ar : H a.ar = none
  rl : ∀ i, i < n → H (a.rl i) = none
  sl : ∀ k, k < 4 → H (a.sl k) = none
def one0 : Nat → Nat → Int := fun _ i => if i = 0 then 1 else 0
def spInit (C : Addr) : Sp := fun vs H Q _ => ∃ (p dx : Addr) (n : Nat), vs = [.ref p, .int (n : Nat)] ∧ H p = some (.ins C dx []) ∧ 1 ≤ n ∧ n ≤ 6 ∧
  ∀ (a : IAd) (H' : Hp), a.x = p → (∀ b o, H b = some o → b ≠ p → H' b = some o) → (H a.al = none ∧ H a.ar = none ∧ (∀ i, i < n → H (a.rl i) = none) ∧ ∀ k, k < 4 → H (a.sl k) = none) → Here C H' a n (fun _ _ => 0) one0 → Q .non H'
def spCreate (K : Fr) (C CR : Addr) : Sp := fun vs H Q E => ∃ (q : Addr) (p : Int), vs = [.ref q] ∧ SqL K H q (intL [p]) ∧
  (∀ n : Nat, p = n → 1 ≤ n → n ≤ 6 → ∀ a H', Same H H' → NewI H a n → Here C H' a n (fun _ _ => 0) one0 → Q (.ref a.x) H') ∧ (¬ (1 ≤ p ∧ p ≤ 6) → Fail K CR H (-22) E)
abbrev s_Instance___init__ : Stmt := inClass (top 52) 0
theorem sc_Instance___init__ : FnScope ["self", "points", "row", "slot"] ["self", "points"] (defScope s_Instance___init__) := ⟨rfl, rfl, rfl, by decide +kernel, rfl, by decide +kernel, by decide +kernel⟩
abbrev s_create : Stmt := top 53
theorem sc_create : FnScope ["arguments", "points"] ["arguments"] (defScope s_create) := ⟨rfl, rfl, rfl, by decide +kernel, rfl, by decide +kernel, by decide +kernel⟩
section
variable {P : Program} {w : World} {K : Fr} {mg : Str → Option Value} {base : Heap} {f : Addr} {fd : FuncData} {C CR fR : Addr}
theorem ok_init (T : Tx K mg) (TC : Cn K mg) (IT : InsT K C) (A : Fun K "__init__" "Instance.__init__" s_Instance___init__ f fd) : FnOk P w K mg base CX0 1 f fd ["self", "points"] (spInit C) := by
  refine A.ok sc_Instance___init__ (fun vs H Q E h => ?_) (fun cdv A outer s H vs Q E hr h => ⟨_, by exact
    (pss_cons (ps_fld (pv 0) (pv 1) rfl)
      (pss_cons (ps_fld (pv 0) (pe_lc (own := [("row", 2)]) rfl sc_Instance___init__.nd  (pi_range1 (by rfl) T.range (pa_cons (pv 1) pa_nil)) (blkOk_by (N := ["self", "points", "row", "slot"]) (sc := defScope s_Instance___init__) (own := [("row", 2)]) (by decide +kernel)) (fun _ _ _ _ _ => (pg_name (i := 2) sc_Instance___init__.nd rfl (Or.inl rfl))) (fun _ _ _ _ _ => pts_nil) (fun _ _ _ _ _ => (pe_op op_rep (pe_lst (pa_cons pe_int pa_nil)) (pv 1)))) rfl)
      (pss_one (ps_fld (pv 0) (pe_lc (own := [("slot", 3)]) rfl sc_Instance___init__.nd  (pi_range1 (by rfl) T.range (pa_cons (pe_globI (by rfl) TC.SLOTS) pa_nil)) (blkOk_by (N := ["self", "points", "row", "slot"]) (sc := defScope s_Instance___init__) (own := [("slot", 3)]) (by decide +kernel)) (fun _ _ _ _ _ => (pg_name (i := 3) sc_Instance___init__.nd rfl (Or.inl rfl))) (fun _ _ _ _ _ => pts_nil) (fun _ _ _ _ _ => (pe_op op_cat (pe_lst (pa_cons pe_int pa_nil)) (pe_op op_rep (pe_lst (pa_cons pe_int pa_nil)) (pe_op op_sub (pv 1) pe_int))))) rfl))))
    , ?_⟩)
  · obtain ⟨p, dx, n, rfl, _⟩ := h
    rfl
  · obtain ⟨p, dx, n, rfl, hp, n1, n6, k⟩ := h
    have rep : ∀ (m : Nat) (x : V), (List.replicate (m : Int).toNat [x]).flatten = tab m fun _ => x := fun m x => rep_tab
    have zr : ∀ m : Nat, m ≤ 10 → 1 * (m : Int).toNat ≤ sizeLine := fun m h => size_ok (by show 1 * m ≤ 100000; omega)
    refine ⟨_, rfl, _, rfl, p, C, dx, [], rfl, hp, IT.cl, IT.nP, by show 0 < 1000; decide, ?_⟩
    refine ⟨_, rfl, n, rfl, by omega, by omega, fun D hD => comp_rows (walk_rng (n := n)) n (fun i j => V.int 0) hD (by omega) (fun _ _ => trivial) (fun i x H2 H' hi s2 y F hF => ?_) (fun rl H2 s2 N => ?_) gm_name⟩
    · obtain ⟨rfl, rfl⟩ := y
      refine ⟨rfl, by show 1 ≤ sizeLine; decide, fun p hp => ⟨_, rfl, p, n, _, rfl, rfl, upd_same, by omega, by omega, zr n (by omega), fun q hq => hF q _ ((same_new hp).trans (same_new hq)) ((same_new hp).free hq) ?_⟩⟩
      rw [upd_same, rep n]
    have h2 := s2 _ _ upd_same
    refine ⟨_, rfl, p, C, dx, _, rfl, h2, IT.cl, IT.nL, by show 1 < 1000; decide, ?_⟩
    have Dp : ∀ b, upd H p (.ins C dx (putF "points" (.int (n : Nat)) [])) b = none → b ≠ p := fun b hb z => by rw [z, upd_same] at hb; cases hb
    have Hn : ∀ b, upd H p (.ins C dx (putF "points" (.int (n : Nat)) [])) b = none → H b = none := fun b hb => by rw [upd_ne (Dp b hb)] at hb; exact hb
    have nD := Dp D N.new
    have nr : ∀ i, i < n → rl i ≠ p := fun i hi => Dp _ (N.rows i hi)
    refine ⟨4, rfl, by decide, by decide, fun D2 hD2 => comp_rows (walk_rng (n := 4)) n (mI one0) hD2 (by omega) (fun _ _ => trivial) (fun i x H3 H' hi s3 y F hF => ?_) (fun sl H3 s3 N3 => ?_) gm_name⟩
    · obtain ⟨rfl, rfl⟩ := y
      obtain ⟨m, rfl⟩ : ∃ m, n = m + 1 := ⟨n - 1, by omega⟩
      have em : (((m + 1 : Nat) : Int) - 1).toNat = m := by omega
      refine ⟨rfl, by show 1 ≤ sizeLine; decide, fun p0 hp0 => ⟨by show 1 ≤ sizeLine; decide, fun p1 hp1 => ⟨_, rfl, _, _, rfl, rfl, p1, ((m + 1 : Nat) : Int) - 1, _, rfl, rfl, upd_same, by omega, by omega, ?_, fun p2 hp2 =>
        ⟨p0, p2, _, _, rfl, rfl, ((same_new hp1).trans (same_new hp2)) _ _ upd_same, upd_same, ?_, fun q hq => hF q _ (((same_new hp0).trans (same_new hp1)).trans ((same_new hp2).trans (same_new hq))) ?_ ?_⟩⟩⟩⟩
      · rw [em]; exact size_ok (by show 1 * m ≤ 100000; omega)
      · rw [em, rep_tab, tab_len]; exact size_ok (by show 1 + m ≤ 100000; omega)
      · exact ((same_new hp0).trans (same_new hp1)).free ((same_new hp2).free hq)
      · rw [upd_same, em, rep_tab]
        refine congrArg (fun l => some (HO.lst l)) (List.ext_getElem? fun j => ?_)
        cases j with
        | zero => rw [tab_get (by omega)]; rfl
        | succ j =>
          show (tab m fun _ => V.int 0)[j]? = _
          by_cases c : j < m
          · rw [tab_get c, tab_get (by omega)]; rfl
          · rw [List.getElem?_eq_none (by rw [tab_len]; omega), List.getElem?_eq_none (by rw [tab_len]; omega)]
    · have h3 := s3 _ _ upd_same
      refine ⟨_, rfl, p, C, dx, _, rfl, h3, IT.cl, IT.nS, by show 2 < 1000; decide, ?_⟩
      have Mp : ∀ b, upd H2 p (.ins C dx (putF "lengths" (.ref D) (putF "points" (.int (n : Nat)) []))) b = none → b ≠ p ∧ H2 b = none := fun b hb => by
        have q : b ≠ p := fun z => by rw [z, upd_same] at hb; cases hb
        exact ⟨q, by rw [upd_ne q] at hb; exact hb⟩
      have pD := Mp D2 N3.new
      have pS : ∀ k, k < 4 → _ := fun k hk => Mp _ (N3.rows k hk)
      have old : ∀ b o, H b = some o → b ≠ p → upd H3 p (.ins C dx (putF "slots" (.ref D2) (putF "lengths" (.ref D) (putF "points" (.int (n : Nat)) [])))) b = some o := fun b o hb q => by
        rw [upd_ne q]
        refine s3 _ _ ?_
        rw [upd_ne q]
        refine s2 _ _ ?_
        rw [upd_ne q]; exact hb
      have up : ∀ b o, H2 b = some o → b ≠ p → upd H3 p (.ins C dx (putF "slots" (.ref D2) (putF "lengths" (.ref D) (putF "points" (.int (n : Nat)) [])))) b = some o := fun b o hb q => by
        rw [upd_ne q]
        refine s3 _ _ ?_
        rw [upd_ne q]; exact hb
      have ne : ∀ b o, H2 b = some o → ∀ c, H2 c = none → b ≠ c := fun b o hb c hc z => by rw [z, hc] at hb; cases hb
      refine k ⟨p, dx, D, rl, D2, sl⟩ _ rfl old ⟨Hn D N.new, Hn D2 (s2.free pD.2), fun i hi => Hn _ (N.rows i hi), fun k hk => Hn _ (s2.free (pS k hk).2)⟩ ?_
      refine ⟨upd_same, ⟨up _ _ N.mat.at_ nD, N.mat.inj, N.mat.out, fun i hi => up _ _ (N.mat.row i hi) (nr i hi)⟩, ⟨?_, N3.mat.inj, N3.mat.out, fun k hk => ?_⟩, ne _ _ N.mat.at_ _ pD.2, fun i hi => ne _ _ (N.mat.row i hi) _ pD.2, fun i k hi hk z => ne _ _ (N.mat.row i hi) _ (pS k hk).2 z.symm, fun k hk z => ne _ _ N.mat.at_ _ (pS k hk).2 z.symm⟩
      · show upd H3 p _ D2 = _
        rw [upd_ne pD.1]; exact N3.mat.at_
      · show upd H3 p _ (sl k) = _
        rw [upd_ne (pS k hk).1]; exact N3.mat.row k hk
theorem ok_create (T : Tx K mg) (TC : Cn K mg) (R : Rf K mg CR fR) (A : At K mg "create" s_create ["arguments"] f fd) {fI : Addr} {fdI : FuncData} (M_Instance : Mk K C fI) (F_Instance : FnOk P w K mg base CX0 1 fI fdI ["self", "points"] (spInit C)) (b_Instance : Binds K fdI ["self", "points"] [])
    (m_Instance : mg "Instance" = some (.ref C)) : Got P w K mg base (L2.CX P w) 3 "create" ["arguments"] (spCreate K C CR) := by
  have RT := R.rt
  obtain ⟨C_Malformed, f_Malformed, S_Malformed⟩ := R.mal
  refine A.got (A.fn.okX sc_create (fun vs H Q E h => ?_) (fun cdv A outer s H vs Q E hr h => ⟨_, by exact
    (pss_cons (ps_set (i := 1) sc_create.nd rfl (Or.inl rfl) (pe_ix (ixL (K := K) rfl) (pv 0) pe_int (fun _ _ => rfl)))
      (pss_cons (ps_if (pt_not (pt_chain op_le op_le pe_int (pv 1) (pe_globI (by rfl) TC.MOST_POINTS))) (pss_one (ps_raise rfl (takes_of rfl rfl rfl rfl) (pmk_ref RT S_Malformed hr))) pss_nil)
      (pss_one (ps_ret (pe_make M_Instance F_Instance (hr.mono (by decide)) rfl m_Instance b_Instance .nil pass0 (by exact (pa_cons (pv 1) pa_nil)))))))
    , ?_⟩))
  · obtain ⟨q, p, rfl, _⟩ := h
    rfl
  · obtain ⟨q, p, rfl, hq, kQ, kE⟩ := h
    refine ⟨_, rfl, q, _, 0, _, rfl, rfl, hq, rfl, ?_⟩
    refine ⟨_, rfl, _, _, rfl, rfl, _, rfl, ?_⟩
    by_cases c1 : 1 ≤ p
    · rw [decide_eq_true c1]
      refine iteT ⟨_, _, rfl, rfl, _, rfl, ?_⟩
      by_cases c2 : p ≤ 6
      · rw [decide_eq_true c2]
        obtain ⟨n, rfl⟩ : ∃ n : Nat, p = (n : Int) := ⟨p.toNat, by omega⟩
        refine iteF ⟨_, rfl, fun x dx nx nd ne => ⟨x, dx, n, rfl, upd_same, by omega, by omega, fun a H' ex old fr I => ⟨rfl, ?_⟩⟩⟩
        subst ex
        have up : ∀ b o, H b = some o → upd (upd H dx (.own a.x)) a.x (.ins C dx []) b = some o := fun b o hb => by
          rw [upd_ne (fun z => by rw [z, nx] at hb; cases hb), upd_ne (fun z => by rw [z, nd] at hb; cases hb)]; exact hb
        have fre : ∀ b, upd (upd H dx (.own a.x)) a.x (.ins C dx []) b = none → H b = none := fun b hb => by
          cases c : H b with
          | none => rfl
          | some o => rw [up b o c] at hb; cases hb
        exact kQ n rfl (by omega) (by omega) a H' (fun b o hb => old b o (up b o hb) (fun z => by rw [z, nx] at hb; cases hb)) ⟨nx, fre _ fr.1, fre _ fr.2.1, fun i hi => fre _ (fr.2.2.1 i hi), fun k hk => fre _ (fr.2.2.2 k hk)⟩ I
      · rw [decide_eq_false c2]
        exact iteT ((kE fun h => c2 h.2).raise S_Malformed.ref)
    · rw [decide_eq_false c1]
      refine iteF ?_
      exact ⟨_, rfl, iteT ((kE fun h => c1 h.1).raise S_Malformed.ref)⟩
end
end EH

/-! What the specification answers, by the program's numbers. -/
namespace OT
open EH
theorem Plan.congrAB {n : Nat} {A B A' B' : Nat → Rat} {p : Mat} (h : Plan n A B p) (ha : ∀ k, k < n → A k = A' k) (hb : ∀ k, k < n → B k = B' k) : Plan n A' B' p :=
  ⟨h.nn, fun i hi => (h.row i hi).trans (ha i hi), fun j hj => (h.col j hj).trans (hb j hj)⟩
theorem value_congr {n : Nat} {f : Nat → Int} {A B A' B' : Nat → Rat} (ha : ∀ k, k < n → A k = A' k) (hb : ∀ k, k < n → B k = B' k) : value n f A B = value n f A' B' :=
  S_congr fun i hi => by rw [ha i hi, hb i hi]
theorem value_congrF {n : Nat} {f f' : Nat → Int} {A B : Nat → Rat} (h : ∀ k, k < n → f k = f' k) : value n f A B = value n f' A B :=
  S_congr fun i hi => by rw [h i hi]
theorem Optimal.congrAB {n : Nat} {d : Nat → Nat → Int} {A B A' B' : Nat → Rat} {p : Mat} (h : Optimal n d A B p) (ha : ∀ k, k < n → A k = A' k) (hb : ∀ k, k < n → B k = B' k) : Optimal n d A' B' p :=
  ⟨h.plan.congrAB ha hb, fun q hq => h.least q (hq.congrAB (fun k hk => (ha k hk).symm) fun k hk => (hb k hk).symm)⟩
theorem Lex.congrAB {n : Nat} {d : Nat → Nat → Int} {A B A' B' : Nat → Rat} {p : Mat} (h : Lex n (Optimal n d A B) p) (ha : ∀ k, k < n → A k = A' k) (hb : ∀ k, k < n → B k = B' k) : Lex n (Optimal n d A' B') p :=
  ⟨h.mem.congrAB ha hb, fun q hq => h.most q (hq.congrAB (fun k hk => (ha k hk).symm) fun k hk => (hb k hk).symm)⟩
theorem Prices.congrAB {n : Nat} {d : Nat → Nat → Int} {A B A' B' : Nat → Rat} {f : Nat → Int} (h : Prices n d A B f) (ha : ∀ k, k < n → A k = A' k) (hb : ∀ k, k < n → B k = B' k) : Prices n d A' B' f := by
  have e : ∀ g : Nat → Int, value n g A B = value n g A' B' := fun g => value_congr ha hb
  exact ⟨h.zero, h.feas, fun g hg => by rw [← e, ← e]; exact h.most g hg, fun g hg z q => h.great g hg z (by rw [e, e]; exact q)⟩
theorem cost_units {n : Nat} {d P : IM} {U : Int} (h : 0 < U) : cost n d (part P U) = ((costI n n P d : Int) : Rat) / (U : Rat) := by
  have e : costF n P d = costI n n P d := rfl
  have q := cost_part (n := n) (d := d) (P := P) h
  have u := u_pos h
  rw [e] at q
  rw [← q]
  exact (Rat.mul_div_cancel (by grind)).symm
theorem cheap_optimal {n : Nat} {P d : IM} {u v : Nat → Int} {U : Int} (hn : 0 < n) (M : Met n d) (wu : Wt n u) (wv : Wt n v) (hU : Unit_ n u v U) (ch : CheapI n P (inU n u U) (inU n v U) d) : Optimal n d (ra n u) (ra n v) (part P U) := by
  obtain ⟨pf, hpf⟩ := cheap_pot ch hU.pos
  obtain ⟨g, gF, gT⟩ := pot_prices hn M hpf
  exact optimal_of (part_plan ch.nn (cheap_sums wu wv hU ch)) gF gT
theorem optimal_cost {n : Nat} {d : Nat → Nat → Int} {A B : Nat → Rat} {p q : Mat} (hp : Optimal n d A B p) (hq : Optimal n d A B q) : cost n d p = cost n d q :=
  Rat.le_antisymm (hp.least q hq.plan) (hq.least p hp.plan)
end OT
namespace EH
open OT (IM CheapI allF LexI part Sums Prices Feas Met two fr_two sp mt dI Optimal Lex)
theorem flat_congr {α : Type} {n : Nat} {f g : Nat → List α} (h : ∀ i, i < n → f i = g i) : (List.range n).flatMap f = (List.range n).flatMap g := by
  rw [List.flatMap_def, List.flatMap_def, List.map_congr_left fun i hi => h i (List.mem_range.mp hi)]
section
variable {g : Sr82.Ground} {L : Nat → Nat → Int} {w : Nat → Nat → Int}
abbrev atK (g : Sr82.Ground) (k : Nat) : Sr80.Spread := g.s.getD k []
theorem Dat.told (D : Dat g L w) {k : Nat} (hk : k < 4) : Sr66.tells (atK g k) = ⟨(g.n : Int), fracs g.n (w k) (sumI g.n (w k))⟩ := by
  have G := D.good k hk
  unfold Sr66.tells
  rw [G.len, OT.told_spread G.len G.ok]
  congr 1
  exact flat_congr fun i hi => congrArg two (D.rel k hk i hi)
theorem Dat.least (D : Dat g L w) (c : Sr82.hangs g.n g.g = true) {k l : Nat} (hk : k < 4) (hl : l < 4) {U : Int} {P : IM} (hU : Unit_ g.n (w k) (w l) U) (ch : CheapI g.n P (inU g.n (w k) U) (inU g.n (w l) U) (dis g)) :
    Sr66.fr (Sr82.least g.n (Sr82.dist g.n g.g) (atK g k) (atK g l)) = two (((costI g.n g.n P (dis g) : Int) : Rat) / (U : Rat)) := by
  unfold Sr82.least
  rw [OT.cost_eq, fr_two, ← OT.cost_units hU.pos]
  refine congrArg two (OT.optimal_cost ((OT.least_ok D.n1 (D.met c) (D.good k hk) (D.good l hl)).congrAB (D.rel k hk) (D.rel l hl)) (OT.cheap_optimal D.n1 (D.met c) (D.wt k hk) (D.wt l hl) hU ch))
/-- a plan as it is told -/
theorem tell_plan {n : Nat} {d : List (List Nat)} {p : Sr80.Plan} {P : IM} {U : Int} (hU : 0 < U) (s : OT.Sq n p) (o : OT.OkP p) (h : ∀ i j, i < n → j < n → mt p i j = part P U i j) :
    Sr82.tellPlan n d p = ⟨(n : Int) * n, planL n P U ++ two (((costI n n P (dI d) : Int) : Rat) / (U : Rat))⟩ := by
  unfold Sr82.tellPlan
  rw [OT.told_plan s o, OT.cost_eq, fr_two, OT.cost_congr h, OT.cost_units hU]
  have e : ((n * n : Nat) : Int) = (n : Int) * n := Int.natCast_mul n n
  rw [e]
  congr 2
  exact flat_congr fun i hi => flat_congr fun j hj => congrArg two (h i j hi hj)
theorem Dat.best_at (D : Dat g L w) (c : Sr82.hangs g.n g.g = true) {k l : Nat} (hk : k < 4) (hl : l < 4) {U : Int} {P0 P : IM} (hU : Unit_ g.n (w k) (w l) U) (ch : CheapI g.n P0 (inU g.n (w k) U) (inU g.n (w l) U) (dis g)) (lx : LexI g.n (dis g) P0 g.n 0 P) :
    OT.Sq g.n (Sr82.best g.n (Sr82.dist g.n g.g) (atK g k) (atK g l)) ∧ OT.OkP (Sr82.best g.n (Sr82.dist g.n g.g) (atK g k) (atK g l)) ∧ ∀ i j, i < g.n → j < g.n → mt (Sr82.best g.n (Sr82.dist g.n g.g) (atK g k) (atK g l)) i j = part P U i j := by
  obtain ⟨b1, b2, b3⟩ := OT.best_ok D.n1 (D.met c) (D.good k hk) (D.good l hl)
  exact ⟨b1, b2, OT.lex_unique (b3.congrAB (D.rel k hk) (D.rel l hl)) (OT.lex_done lx (cheap_sums (D.wt k hk) (D.wt l hl) hU ch))⟩
theorem Dat.best (D : Dat g L w) (c : Sr82.hangs g.n g.g = true) {k l : Nat} (hk : k < 4) (hl : l < 4) {U : Int} {P0 P : IM} (hU : Unit_ g.n (w k) (w l) U) (ch : CheapI g.n P0 (inU g.n (w k) U) (inU g.n (w l) U) (dis g)) (lx : LexI g.n (dis g) P0 g.n 0 P) :
    Sr82.tellPlan g.n (Sr82.dist g.n g.g) (Sr82.best g.n (Sr82.dist g.n g.g) (atK g k) (atK g l)) = ⟨(g.n : Int) * g.n, planL g.n P U ++ two (((costI g.n g.n P (dis g) : Int) : Rat) / (U : Rat))⟩ := by
  obtain ⟨s, o, e⟩ := D.best_at c hk hl hU ch lx
  exact tell_plan hU.pos s o e
theorem Dat.gain (D : Dat g L w) {k l : Nat} (hk : k < 4) (hl : l < 4) (f : List Int) : Sr66.fr (Sr82.gain g.n f (atK g k) (atK g l)) = two (OT.value g.n (fun i => f.getD i 0) (ra g.n (w k)) (ra g.n (w l))) := by
  rw [OT.gain_eq (D.good k hk).ok (D.good l hl).ok, fr_two]
  exact congrArg two (OT.value_congr (D.rel k hk) (D.rel l hl))
theorem Dat.prices (D : Dat g L w) (c : Sr82.hangs g.n g.g = true) {k l : Nat} (hk : k < 4) (hl : l < 4) : ∃ f : Nat → Int, Prices g.n (dis g) (ra g.n (w k)) (ra g.n (w l)) f ∧ Sr82.prices g.n (Sr82.dist g.n g.g) (atK g k) (atK g l) = (List.range g.n).map f := by
  obtain ⟨f, e, p, _⟩ := OT.prices_ok D.n1 (D.met c) (D.good k hk) (D.good l hl)
  exact ⟨f, p.congrAB (D.rel k hk) (D.rel l hl), e⟩
theorem getD_map_range {n i : Nat} {f : Nat → Int} (h : i < n) : ((List.range n).map f).getD i 0 = f i := by
  rw [List.getD_eq_getElem?_getD, List.getElem?_map, List.getElem?_range h]; rfl
theorem Dat.bound (D : Dat g L w) {k : Nat} (hk : k < 4) {i : Nat} (hi : i < g.n) : Bd 200 (w k i) := (D.wt k hk).item hi
end
/-! ### a plan that is handed in -/
theorem ra_mul {n : Nat} {u : Nat → Int} (wu : Wt n u) {x : Rat} (i : Nat) : x = ra n u i ↔ x * (sumI n u : Rat) = (u i : Rat) := by
  have h := OT.u_pos wu.pos
  unfold ra
  constructor
  · rintro rfl; exact OT.div_mul h
  · intro e; rw [← e]; exact (Rat.mul_div_cancel (by grind)).symm
theorem cross {a b c d : Int} (hb : 0 < b) : (a : Rat) / (b : Rat) * (c : Rat) = (d : Rat) ↔ a * c = d * b := by
  have h := OT.u_pos hb
  constructor
  · intro e
    have : (a : Rat) * (c : Rat) = (d : Rat) * (b : Rat) := by
      rw [← e]
      have := OT.div_mul (x := (a : Rat)) h
      grind
    exact_mod_cast this
  · intro e
    have e2 : (a : Rat) * (c : Rat) = (d : Rat) * (b : Rat) := by exact_mod_cast e
    have := OT.div_mul (x := (a : Rat)) h
    have q : (a : Rat) / (b : Rat) * (c : Rat) * (b : Rat) = (d : Rat) * (b : Rat) := by rw [← e2]; grind
    have r : ((a : Rat) / (b : Rat) * (c : Rat) - (d : Rat)) * (b : Rat) = 0 := by grind
    rcases Rat.mul_eq_zero.mp r with z | z
    · grind
    · grind
theorem nn_part {a b : Int} (hb : 0 < b) : (0 : Rat) ≤ (a : Rat) / (b : Rat) ↔ 0 ≤ a := by
  have h := OT.u_pos hb
  constructor
  · intro e
    have := Rat.mul_nonneg e (Rat.le_of_lt h)
    rw [OT.div_mul h] at this
    exact_mod_cast this
  · intro e
    rw [Rat.div_def]
    exact Rat.mul_nonneg (by exact_mod_cast e) (Rat.le_of_lt (Rat.inv_pos.mpr h))
theorem plan_iff {n : Nat} {P : IM} {U : Int} {u v : Nat → Int} (hU : 0 < U) (wu : Wt n u) (wv : Wt n v) : OT.Plan n (ra n u) (ra n v) (part P U) ↔ PlanI n P U u v := by
  have row : ∀ i, OT.S n (fun j => part P U i j) = ((sumI n (P i) : Int) : Rat) / (U : Rat) := fun i => by rw [sumI_cast]; exact OT.S_div
  have col : ∀ j, OT.S n (fun i => part P U i j) = ((sumI n (fun i => P i j) : Int) : Rat) / (U : Rat) := fun j => by rw [sumI_cast]; exact OT.S_div
  constructor
  · intro h
    refine ⟨fun i j hi hj => (nn_part hU).mp (h.nn i j hi hj), fun i hi => ?_, fun j hj => ?_⟩
    · have := (ra_mul wu i).mp (h.row i hi)
      rw [row] at this
      exact (cross hU).mp this
    · have := (ra_mul wv j).mp (h.col j hj)
      rw [col] at this
      exact (cross hU).mp this
  · intro h
    refine ⟨fun i j hi hj => (nn_part hU).mpr (h.nn i j hi hj), fun i hi => (ra_mul wu i).mpr ?_, fun j hj => (ra_mul wv j).mpr ?_⟩
    · rw [row]; exact (cross hU).mpr (h.row i hi)
    · rw [col]; exact (cross hU).mpr (h.col j hj)
section
variable {g : Sr82.Ground} {L : Nat → Nat → Int} {w : Nat → Nat → Int}
def ent (n : Nat) (p : List Int) : IM := fun i j => p.getD (i * n + j) 0
theorem Dat.test (D : Dat g L w) {k l : Nat} (hk : k < 4) (hl : l < 4) {e : Int} {p : List Int} (he : 1 ≤ e) :
    (Sr80.isPlan g.n (atK g k) (atK g l) (Sr80.readPlan g.n e p) = true ↔ PlanI g.n (ent g.n p) e (w k) (w l)) ∧
    Sr66.fr (Sr82.cost g.n (Sr82.dist g.n g.g) (Sr80.readPlan g.n e p)) = two (((costI g.n g.n (ent g.n p) (dis g) : Int) : Rat) / (e : Rat)) := by
  obtain ⟨s, o, v⟩ := OT.read_ok g.n e p
  have ee : ((e.toNat : Nat) : Rat) = (e : Rat) := by
    rw [← Rat.intCast_natCast, Int.toNat_of_nonneg (by omega)]
  have v' : ∀ i j, i < g.n → j < g.n → mt (Sr80.readPlan g.n e p) i j = part (ent g.n p) e i j := fun i j hi hj => by rw [v i j hi hj, ee]; rfl
  constructor
  · rw [OT.isPlan_iff (D.good k hk).ok (D.good l hl).ok s o, ← plan_iff (by omega) (D.wt k hk) (D.wt l hl)]
    constructor
    · intro h
      have h := h.congrAB (D.rel k hk) (D.rel l hl)
      exact ⟨fun i j hi hj => by rw [← v' i j hi hj]; exact h.nn i j hi hj, fun i hi => by rw [← h.row i hi]; exact OT.S_congr fun j hj => (v' i j hi hj).symm, fun j hj => by rw [← h.col j hj]; exact OT.S_congr fun i hi => (v' i j hi hj).symm⟩
    · intro h
      refine OT.Plan.congrAB ?_ (fun k' h' => (D.rel k hk k' h').symm) (fun k' h' => (D.rel l hl k' h').symm)
      exact ⟨fun i j hi hj => by rw [v' i j hi hj]; exact h.nn i j hi hj, fun i hi => by rw [← h.row i hi]; exact OT.S_congr fun j hj => v' i j hi hj, fun j hj => by rw [← h.col j hj]; exact OT.S_congr fun i hi => v' i j hi hj⟩
  · rw [OT.cost_eq, fr_two, OT.cost_congr v', OT.cost_units (by omega)]; rfl
end
end EH

/-! Plans put one behind another. -/
namespace EH
open OT (IM CheapI allF LexI part Sums Prices Feas Met two fr_two sp mt dI Optimal Lex S)
/-- p behind q through weights b -/
def beh (n : Nat) (p q : OT.Mat) (b : Nat → Rat) (i k : Nat) : Rat := S n fun j => if b j = 0 then 0 else p i j * q j k / b j
theorem beh_sum {n : Nat} {p q : OT.Mat} {A b B : Nat → Rat} (hp : OT.Plan n A b p) (hq : OT.Plan n b B q) : (S n fun i => S n fun k => beh n p q b i k) = S n b := by
  have e1 : ∀ i, (S n fun k => beh n p q b i k) = S n fun j => if b j = 0 then 0 else p i j := fun i => by
    unfold beh
    rw [OT.S_comm]
    refine OT.S_congr fun j hj => ?_
    by_cases c : b j = 0
    · simp only [c, if_true]; exact OT.S_zero
    · simp only [c, if_false]
      have : (S n fun k => p i j * q j k / b j) = (p i j / b j) * S n (fun k => q j k) := by
        rw [← OT.S_mul]; exact OT.S_congr fun k _ => by rw [Rat.div_def, Rat.div_def]; grind
      rw [this, hq.row j hj, Rat.div_def, Rat.mul_assoc, Rat.inv_mul_cancel _ c, Rat.mul_one]
  rw [OT.S_congr fun i _ => e1 i, OT.S_comm]
  refine OT.S_congr fun j hj => ?_
  by_cases c : b j = 0
  · simp only [c, if_true]; exact OT.S_zero
  · simp only [c, if_false]; exact hp.col j hj
/-- what the whole stands for: K of the program's units make up 1 -/
theorem comp_beh {n : Nat} {p q : IM} {u : Nat → Int} {L U V : Int} (wu : Wt n u) (W : Whole n u L) (hU : 0 < U) (hV : 0 < V) (i k : Nat) :
    ((compI n p q (partOf u L) i k : Int) : Rat) * (sumI n u : Rat) = beh n (part p U) (part q V) (ra n u) i k * ((U : Rat) * V * L) := by
  have hu := OT.u_pos wu.pos
  have h1 := OT.u_pos hU
  have h2 := OT.u_pos hV
  unfold compI beh
  rw [sumI_cast, Rat.mul_comm, ← OT.S_mul, Rat.mul_comm, ← OT.S_mul]
  refine OT.S_congr fun j hj => ?_
  have nn := wu.nn j hj
  unfold partOf ra part
  by_cases c : 0 < u j
  · rw [if_pos c]
    have cj : ((u j : Int) : Rat) ≠ 0 := by have := OT.u_pos c; grind
    have cr : ((u j : Int) : Rat) / (sumI n u : Rat) ≠ 0 := by
      rw [Rat.div_def]
      exact Rat.ne_of_gt (OT.pos_of c (Rat.inv_pos.mpr hu))
    rw [if_neg cr]
    obtain ⟨m, e⟩ := W.dvd j hj c
    have em : L / u j = m := by rw [e]; exact Int.mul_ediv_cancel_left _ (by omega)
    rw [em, Rat.intCast_mul, Rat.intCast_mul, e, Rat.intCast_mul]
    have hu0 : (sumI n u : Rat) ≠ 0 := by grind
    have hU0 : (U : Rat) ≠ 0 := by grind
    have hV0 : (V : Rat) ≠ 0 := by grind
    have a1 : (p i j : Rat) / (U : Rat) * (U : Rat) = (p i j : Rat) := OT.div_mul h1
    have a2 : (q j k : Rat) / (V : Rat) * (V : Rat) = (q j k : Rat) := OT.div_mul h2
    have a3 : ∀ x : Rat, x / ((u j : Rat) / (sumI n u : Rat)) * (u j : Rat) = x * (sumI n u : Rat) := fun x => by
      rw [Rat.div_def, Rat.div_def, Rat.inv_mul_rev, Rat.inv_inv]
      have := Rat.mul_inv_cancel _ cj
      grind
    generalize (p i j : Rat) / (U : Rat) = x at a1 ⊢
    generalize (q j k : Rat) / (V : Rat) = y at a2 ⊢
    have a4 := a3 (x * y)
    generalize x * y / ((u j : Rat) / (sumI n u : Rat)) = z at a4 ⊢
    rw [← a1, ← a2]
    grind
  · have z : u j = 0 := by omega
    rw [if_neg c, z]
    have : ((0 : Int) : Rat) / (sumI n u : Rat) = 0 := by rw [Rat.div_def]; show (0 : Rat) * _ = 0; rw [Rat.zero_mul]
    rw [if_pos this, Int.mul_zero, Int.zero_mul]
    show _ * (0 : Rat) = _ * 0
    rw [Rat.mul_zero, Rat.mul_zero]
theorem sum_pairs_cast {n : Nat} {p : IM} : ((sumI n (fun i => sumI n (p i)) : Int) : Rat) = S n fun i => S n fun k => ((p i k : Int) : Rat) := by
  rw [sumI_cast]; exact OT.S_congr fun i _ => by rw [sumI_cast]
theorem S_ones {n : Nat} {u : Nat → Int} (wu : Wt n u) : S n (ra n u) = 1 := by
  have h := OT.u_pos wu.pos
  unfold ra
  rw [OT.S_div, ← sumI_cast, Rat.div_def]
  exact Rat.mul_inv_cancel _ (by grind)
theorem comp_ok {n : Nat} {p q : IM} {u : Nat → Int} {L U V : Int} {A B : Nat → Rat} (wu : Wt n u) (W : Whole n u L) (hU : 0 < U) (hV : 0 < V)
    (hp : OT.Plan n A (ra n u) (part p U)) (hq : OT.Plan n (ra n u) B (part q V)) :
    (sumI n fun i => sumI n (compI n p q (partOf u L) i)) * sumI n u = U * V * L ∧ 0 < (sumI n fun i => sumI n (compI n p q (partOf u L) i)) ∧
    ∀ i k, i < n → k < n → part (compI n p q (partOf u L)) (sumI n fun i => sumI n (compI n p q (partOf u L) i)) i k = beh n (part p U) (part q V) (ra n u) i k := by
  have hu := OT.u_pos wu.pos
  have key := comp_beh (p := p) (q := q) wu W hU hV
  have tot : (((sumI n fun i => sumI n (compI n p q (partOf u L) i)) : Int) : Rat) * (sumI n u : Rat) = (U : Rat) * V * L := by
    rw [sum_pairs_cast, Rat.mul_comm, ← OT.S_mul]
    have e : (S n fun i => (sumI n u : Rat) * S n fun k => ((compI n p q (partOf u L) i k : Int) : Rat)) = S n fun i => ((U : Rat) * V * L) * S n fun k => beh n (part p U) (part q V) (ra n u) i k :=
      OT.S_congr fun i _ => by
        rw [← OT.S_mul, ← OT.S_mul]
        exact OT.S_congr fun k _ => by have := key i k; grind
    rw [e, OT.S_mul, beh_sum hp hq, S_ones wu, Rat.mul_one]
  have ti : (sumI n fun i => sumI n (compI n p q (partOf u L) i)) * sumI n u = U * V * L := by exact_mod_cast tot
  have pos : 0 < (sumI n fun i => sumI n (compI n p q (partOf u L) i)) := by
    have h1 : 0 < U * V * L := Int.mul_pos (Int.mul_pos hU hV) W.pos
    rw [← ti] at h1
    exact Int.pos_of_mul_pos_left h1 wu.pos
  refine ⟨ti, pos, fun i k hi hk => ?_⟩
  have hs := OT.u_pos pos
  have k1 := key i k
  show ((compI n p q (partOf u L) i k : Int) : Rat) / (((sumI n fun i => sumI n (compI n p q (partOf u L) i)) : Int) : Rat) = _
  generalize (((sumI n fun i => sumI n (compI n p q (partOf u L) i)) : Int) : Rat) = T at *
  generalize beh n (part p U) (part q V) (ra n u) i k = b at *
  generalize ((compI n p q (partOf u L) i k : Int) : Rat) = c at *
  have : c * (sumI n u : Rat) = b * T * (sumI n u : Rat) := by rw [k1, ← tot]; grind
  have h0 : (c - b * T) * (sumI n u : Rat) = 0 := by grind
  rcases Rat.mul_eq_zero.mp h0 with z | z
  · have e : c = b * T := by grind
    rw [e]; exact Rat.mul_div_cancel (by grind)
  · grind
section
variable {g : Sr82.Ground} {L : Nat → Nat → Int} {w : Nat → Nat → Int}
theorem Dat.behind (D : Dat g L w) (c : Sr82.hangs g.n g.g = true) {k l m : Nat} (hk : k < 4) (hl : l < 4) (hm : m < 4) {U V W : Int} {P0 P Q0 Q : IM} (hU : Unit_ g.n (w k) (w l) U) (ch : CheapI g.n P0 (inU g.n (w k) U) (inU g.n (w l) U) (dis g)) (lx : LexI g.n (dis g) P0 g.n 0 P)
    (hV : Unit_ g.n (w l) (w m) V) (ch2 : CheapI g.n Q0 (inU g.n (w l) V) (inU g.n (w m) V) (dis g)) (lx2 : LexI g.n (dis g) Q0 g.n 0 Q) (hW : Whole g.n (w l) W) :
    (∃ X : Int, (sumI g.n fun i => sumI g.n (compI g.n P Q (partOf (w l) W) i)) = X ∧ 0 < X ∧ Bd 3000 X ∧ (∀ i k, i < g.n → k < g.n → 0 ≤ compI g.n P Q (partOf (w l) W) i k ∧ compI g.n P Q (partOf (w l) W) i k ≤ X) ∧
    Sr82.tellPlan g.n (Sr82.dist g.n g.g) (Sr80.behind g.n (atK g l) (Sr82.best g.n (Sr82.dist g.n g.g) (atK g k) (atK g l)) (Sr82.best g.n (Sr82.dist g.n g.g) (atK g l) (atK g m))) =
      ⟨(g.n : Int) * g.n, planL g.n (compI g.n P Q (partOf (w l) W)) X ++ two (((costI g.n g.n (compI g.n P Q (partOf (w l) W)) (dis g) : Int) : Rat) / (X : Rat))⟩) := by
  obtain ⟨s1, o1, e1⟩ := D.best_at c hk hl hU ch lx
  obtain ⟨s2, o2, e2⟩ := D.best_at c hl hm hV ch2 lx2
  have L1 := OT.lex_done lx (cheap_sums (D.wt k hk) (D.wt l hl) hU ch)
  have L2 := OT.lex_done lx2 (cheap_sums (D.wt l hl) (D.wt m hm) hV ch2)
  obtain ⟨t, pos, hb⟩ := comp_ok (D.wt l hl) hW hU.pos hV.pos L1.mem.plan L2.mem.plan
  have nn : ∀ i k, i < g.n → k < g.n → 0 ≤ compI g.n P Q (partOf (w l) W) i k := fun i k hi hk => sumI_nn fun j hj => by
    refine Int.mul_nonneg (Int.mul_nonneg (lx.nn i j hi hj) ?_) (lx2.nn j k hj hk)
    unfold partOf
    split
    · exact Int.ediv_nonneg (by have := hW.pos; omega) (by omega)
    · exact Int.le_refl _
  refine ⟨_, rfl, pos, ?_, fun i k hi hk => ⟨nn i k hi hk, ?_⟩, ?_⟩
  · have h1 := (D.wt l hl).pos
    have h2 : (sumI g.n fun i => sumI g.n (compI g.n P Q (partOf (w l) W) i)) ≤ U * V * W := by
      rw [← t]
      have q := Int.mul_le_mul_of_nonneg_left (show (1 : Int) ≤ sumI g.n (w l) by omega) (Int.le_of_lt pos)
      rw [Int.mul_one] at q; exact q
    have n6 := D.n6
    refine Bd.le ((Bd.mul (Bd.mul hU.bd hV.bd) hW.bd).mono ?_) (by omega) h2
    omega
  · exact Int.le_trans (sumI_ge (w := compI g.n P Q (partOf (w l) W) i) (fun k' hk' => nn i k' hi hk') k hk) (sumI_ge (w := fun i => sumI g.n (compI g.n P Q (partOf (w l) W) i)) (fun i' hi' => sumI_nn fun k' hk' => nn i' k' hi' hk') i hi)
  · obtain ⟨b1, b2, b3⟩ := OT.behind_ok (p := Sr82.best g.n (Sr82.dist g.n g.g) (atK g k) (atK g l)) (q := Sr82.best g.n (Sr82.dist g.n g.g) (atK g l) (atK g m)) (D.good l hl).ok (D.good l hl).nn
    refine tell_plan pos b1 b2 fun i k' hi hk' => ?_
    rw [b3 i k' hi hk', hb i k' hi hk']
    refine OT.S_congr fun j hj => ?_
    rw [D.rel l hl j hj, e1 i j hi hj, e2 j k' hj hk']
end
end EH

/-! The state behind the calls that change it. -/
namespace EH
open OT (IM two fr_two sp mt S GoodS)
section
variable {g : Sr82.Ground} {L : Nat → Nat → Int} {w : Nat → Nat → Int}
theorem Dat.put (D : Dat g L w) {m : Nat} (hm : m < 4) {b : Sr80.Spread} {v : Nat → Int} (gb : GoodS g.n b) (wv : Wt g.n v) (rel : ∀ i, i < g.n → sp b i = ra g.n v i) : Dat (Sr82.put g (m : Int) b) L (fun k => if k = m then v else w k) := by
  have e : ∀ k, k < 4 → (Sr82.put g (m : Int) b).s.getD k [] = if k = m then b else g.s.getD k [] := fun k hk => by
    show (g.s.set m b).getD k [] = _
    by_cases c : k = m
    · subst c; rw [if_pos rfl, OT.getD_set_self (by rw [D.len]; exact hk)]
    · rw [if_neg c, OT.getD_set_ne (fun z => c z.symm)]
  refine ⟨D.n1, D.n6, ?_, D.okg, D.ways, D.le9, D.diag, fun k hk => ?_, fun k hk => ?_, fun k hk i hi => ?_⟩
  · show (g.s.set m b).length = 4
    rw [List.length_set]; exact D.len
  · rw [e k hk]
    by_cases c : k = m
    · rw [if_pos c]; exact gb
    · rw [if_neg c]; exact D.good k hk
  · show Wt g.n (if k = m then v else w k)
    by_cases c : k = m
    · rw [if_pos c]; exact wv
    · rw [if_neg c]; exact D.wt k hk
  · rw [e k hk]
    show _ = ra g.n (if k = m then v else w k) i
    by_cases c : k = m
    · rw [if_pos c, if_pos c]; exact rel i hi
    · rw [if_neg c, if_neg c]; exact D.rel k hk i hi
theorem mapTo_sum {n : Nat} {u : Nat → Int} {t : Nat → Nat} (ht : ∀ i, i < n → t i < n) : sumI n (mapTo n u t) = sumI n u := by
  show (sumI n fun j => sumI n fun i => if t i = j then u i else 0) = _
  rw [sumI_comm]
  exact sumI_congr fun i hi => sumI_one (w := fun _ => u i) (ht i hi)
theorem Dat.image (D : Dat g L w) {k m : Nat} (hk : k < 4) (hm : m < 4) {f : List Nat} (hf : ∀ i, i < g.n → f.getD i 0 < g.n) :
    Dat (Sr82.put g (m : Int) (Sr80.image g.n (atK g k) f)) L (fun k' => if k' = m then mapTo g.n (w k) (fun i => f.getD i 0) else w k') := by
  obtain ⟨gb, e⟩ := OT.good_image (D.good k hk) hf
  have wk := D.wt k hk
  have ms := mapTo_sum (u := w k) hf
  refine D.put hm gb ⟨fun j hj => sumI_nn fun i hi => ?_, ?_, ?_⟩ fun j hj => ?_
  · split
    · exact wk.nn i hi
    · exact Int.le_refl _
  · rw [ms]; exact wk.pos
  · rw [ms]; exact wk.bd
  · rw [e j hj]
    unfold ra
    rw [ms]
    show _ = ((sumI g.n fun i => if f.getD i 0 = j then w k i else 0 : Int) : Rat) / _
    rw [sumI_cast, ← OT.S_div]
    refine OT.S_congr fun i hi => ?_
    by_cases c : f.getD i 0 = j
    · rw [if_pos c, if_pos c]; exact D.rel k hk i hi
    · rw [if_neg c, if_neg c, Rat.div_def]; show (0 : Rat) = 0 * _; rw [Rat.zero_mul]
/-! ### the mean -/
def prodI (f : Nat → Nat) : Nat → Nat
  | 0 => 1
  | n + 1 => prodI f n * f n
theorem dvd_prodI {f : Nat → Nat} : ∀ {n i : Nat}, i < n → f i ∣ prodI f n
  | n + 1, i, h => by
    by_cases c : i = n
    · subst c; exact Nat.dvd_mul_left _ _
    · exact Nat.dvd_trans (dvd_prodI (by omega)) (Nat.dvd_mul_right _ _)
theorem prodI_le {f : Nat → Nat} {b : Nat} : ∀ {n : Nat}, (∀ i, i < n → f i ≤ b) → prodI f n ≤ b ^ n
  | 0, _ => Nat.le_refl _
  | n + 1, h => by rw [Nat.pow_succ]; exact Nat.mul_le_mul (prodI_le fun i hi => h i (by omega)) (h n (by omega))
theorem dvd_gcd_mul {N s : Int} : ∀ {n : Nat} {m : Nat → Int}, (∀ i, i < n → s ∣ N * m i) → s ∣ N * (gcdI n m : Nat)
  | 0, _, _ => ⟨0, by show N * 0 = s * 0; rw [Int.mul_zero, Int.mul_zero]⟩
  | n + 1, m, h => by
    have h1 := h n (Nat.lt_succ_self n)
    have h2 := dvd_gcd_mul (m := m) fun i hi => h i (Nat.lt_succ_of_lt hi)
    have h3 := Int.dvd_coe_gcd h1 h2
    rw [Int.gcd_mul_left, Int.natCast_mul] at h3
    show s ∣ N * ((Int.gcd (m n) (gcdI n m : Nat) : Nat) : Int)
    rcases Int.natAbs_eq N with e | e
    · rw [e]; exact h3
    · rw [e, Int.neg_mul]; exact Int.dvd_neg.mpr h3
theorem prodI_pos {f : Nat → Nat} : ∀ {n : Nat}, (∀ i, i < n → 0 < f i) → 0 < prodI f n
  | 0, _ => Nat.one_pos
  | n + 1, h => Nat.mul_pos (prodI_pos fun i hi => h i (by omega)) (h n (by omega))
/-- weights without a common divisor: they are no more than their fractions' denominators allow -/
theorem red_bound {n : Nat} {m : Nat → Int} (hp : 0 < sumI n m) (one : ∀ k : Int, (∀ i, i < n → k ∣ m i) → k ∣ 1) (hd : ∀ i, i < n → (ra n m i).den ≤ 100000) : sumI n m ≤ (100000 : Int) ^ n := by
  have hs := OT.u_pos hp
  have key : ∀ i, i < n → sumI n m ∣ (prodI (fun i => (ra n m i).den) n : Nat) * m i := fun i hi => by
    obtain ⟨c, e⟩ := dvd_prodI (f := fun i => (ra n m i).den) hi
    have e1 : (m i : Rat) = ra n m i * (sumI n m : Rat) := by unfold ra; exact (OT.div_mul hs).symm
    have e2 : ra n m i * ((ra n m i).den : Rat) = ((ra n m i).num : Rat) := by
      have h0 : (0 : Rat) < (((ra n m i).den : Int) : Rat) := OT.u_pos (by have := (ra n m i).den_nz; omega)
      have e0 : ra n m i = ((ra n m i).num : Rat) / (((ra n m i).den : Int) : Rat) := by
        conv => lhs; rw [← Rat.mkRat_self (ra n m i), Rat.mkRat_eq_div]
        rw [Rat.intCast_natCast]
      conv => lhs; arg 1; rw [e0]
      rw [← Rat.intCast_natCast]
      exact OT.div_mul h0
    have e3 : (((ra n m i).den : Int) * m i : Int) = (ra n m i).num * sumI n m := by
      have : (((ra n m i).den : Rat) * (m i : Rat)) = ((ra n m i).num : Rat) * (sumI n m : Rat) := by rw [← e2, e1]; grind
      exact_mod_cast this
    refine ⟨(c : Int) * (ra n m i).num, ?_⟩
    rw [e, Int.natCast_mul]
    show ((ra n m i).den : Int) * (c : Int) * m i = _
    have : ((ra n m i).den : Int) * (c : Int) * m i = (c : Int) * (((ra n m i).den : Int) * m i) := by
      rw [Int.mul_comm ((ra n m i).den : Int), Int.mul_assoc]
    rw [this, e3, ← Int.mul_assoc, Int.mul_comm]
  have g1 : gcdI n m = 1 := by
    obtain ⟨c, e⟩ := one (gcdI n m : Nat) fun i hi => gcdI_dvd hi
    have : (gcdI n m : Int) ∣ 1 := ⟨c, e⟩
    have := Int.le_of_dvd (by omega) this
    have z : gcdI n m ≠ 0 := fun z => by rw [z] at e; show False; rw [show ((0 : Nat) : Int) = 0 from rfl, Int.zero_mul] at e; omega
    omega
  have h := dvd_gcd_mul key
  rw [g1] at h
  have h : sumI n m ∣ ((prodI (fun i => (ra n m i).den) n : Nat) : Int) := by rw [show ((1 : Nat) : Int) = 1 from rfl, Int.mul_one] at h; exact h
  have pp := prodI_pos (f := fun i => (ra n m i).den) (n := n) fun i _ => Nat.pos_of_ne_zero (ra n m i).den_nz
  have le := prodI_le (n := n) hd
  have l2 := Int.le_of_dvd (by omega) h
  have : ((100000 : Nat) ^ n : Nat) = ((100000 : Int) ^ n : Int) := by rw [Int.natCast_pow]; rfl
  omega
theorem Dat.mid (D : Dat g L w) {k l : Nat} (hk : k < 4) (hl : l < 4) {m : Nat → Int} {gg U : Int} (hU : 0 < U) (d1 : sumI g.n (w k) ∣ U) (d2 : sumI g.n (w l) ∣ U)
    (hr : Red g.n (fun i => w k i * (U / sumI g.n (w k)) + w l i * (U / sumI g.n (w l))) m gg) :
    0 < sumI g.n m ∧ GoodS g.n (Sr80.mixed g.n (atK g k) (atK g l) (Sr58.frac 1 2)) ∧ ∀ i, i < g.n → sp (Sr80.mixed g.n (atK g k) (atK g l) (Sr58.frac 1 2)) i = ra g.n m i := by
  obtain ⟨gb, e⟩ := OT.good_mixed (D.good k hk) (D.good l hl)
  have tot : sumI g.n m * gg = U + U := by
    rw [← sumI_mul, sumI_congr hr.eq, sumI_add, wt_units d1, wt_units d2]
  have sp0 : 0 < sumI g.n m := by
    have h : 0 < sumI g.n m * gg := by rw [tot]; omega
    exact Int.pos_of_mul_pos_left h hr.pos
  refine ⟨sp0, gb, fun i hi => ?_⟩
  rw [e i hi, D.rel k hk i hi, D.rel l hl i hi]
  have u1 := OT.u_pos hU
  have g1 := OT.u_pos hr.pos
  have c1 := inU_cast (D.wt k hk) d1 i
  have c2 := inU_cast (D.wt l hl) d2 i
  have q := hr.eq i hi
  have q2 : ((m i : Int) : Rat) * (gg : Rat) = (ra g.n (w k) i + ra g.n (w l) i) * (U : Rat) := by
    rw [← Rat.intCast_mul, q, Rat.intCast_add]
    rw [show ((w k i * (U / sumI g.n (w k)) : Int) : Rat) = _ from c1, show ((w l i * (U / sumI g.n (w l)) : Int) : Rat) = _ from c2]
    grind
  have q3 : ((sumI g.n m : Int) : Rat) * (gg : Rat) = 2 * (U : Rat) := by
    rw [← Rat.intCast_mul, tot, Rat.intCast_add]; grind
  have s0 := OT.u_pos sp0
  generalize ra g.n (w k) i + ra g.n (w l) i = x at *
  show x / 2 = ((m i : Int) : Rat) / ((sumI g.n m : Int) : Rat)
  generalize ((sumI g.n m : Int) : Rat) = s at *
  generalize ((m i : Int) : Rat) = y at *
  generalize (gg : Rat) = z at *
  generalize (U : Rat) = t at *
  have h1 : (x / 2 * s - y) * z = 0 := by grind
  have h2 : y = x / 2 * s := by
    rcases Rat.mul_eq_zero.mp h1 with h | h <;> grind
  rw [h2]
  exact (Rat.mul_div_cancel (by grind)).symm
theorem Dat.mid_all (D : Dat g L w) {b : Sr80.Spread} {m : Nat → Int} (gb : GoodS g.n b) (e : ∀ i, i < g.n → sp b i = ra g.n m i) :
    (b.all fun x => decide (x.d ≤ 100000)) = true ↔ ∀ i, i < g.n → (ra g.n m i).den ≤ 100000 := by
  rw [List.all_eq_true]
  constructor
  · intro h i hi
    have hm : OT.fr (sp b i) ∈ (List.range g.n).map fun i => OT.fr (sp b i) := List.mem_map.mpr ⟨i, List.mem_range.mpr hi, rfl⟩
    rw [← OT.spread_form gb.len gb.ok] at hm
    have := h (OT.fr (sp b i)) hm
    have := of_decide_eq_true this
    rw [e i hi] at this; exact this
  · intro h x hx
    rw [OT.spread_form gb.len gb.ok] at hx
    obtain ⟨i, hi, rfl⟩ := List.mem_map.mp hx
    have hi := List.mem_range.mp hi
    refine decide_eq_true ?_
    show (sp b i).den ≤ 100000
    rw [e i hi]; exact h i hi
theorem Dat.mid_put (D : Dat g L w) {t : Nat} (ht : t < 4) {b : Sr80.Spread} {m : Nat → Int} (gb : GoodS g.n b) (e : ∀ i, i < g.n → sp b i = ra g.n m i) (nn : ∀ i, i < g.n → 0 ≤ m i) (pos : 0 < sumI g.n m)
    (one : ∀ k : Int, (∀ i, i < g.n → k ∣ m i) → k ∣ 1) (hd : ∀ i, i < g.n → (ra g.n m i).den ≤ 100000) : Dat (Sr82.put g (t : Int) b) L (fun k => if k = t then m else w k) := by
  refine D.put ht gb ⟨nn, pos, ?_⟩ e
  have n6 := D.n6
  have h := red_bound pos one hd
  have h2 : (100000 : Int) ^ g.n ≤ 100000 ^ 6 := by
    have := Int.ofNat_le.mpr (Nat.pow_le_pow_right (n := 100000) (by decide) n6)
    rw [Int.natCast_pow, Int.natCast_pow] at this
    exact this
  exact Bd.le (bd_lit (x := 100000 ^ 6) (e := 200)) (by omega) (by omega)
/-! ### weights that are handed in -/
theorem sum_nat : ∀ (l : List Int), (∀ z, z ∈ l → 0 ≤ z) → (((l.map fun x => x.toNat).foldl (· + ·) 0 : Nat) : Int) = l.sum
  | [], _ => rfl
  | x :: l, h => by
    rw [List.map_cons, List.foldl_cons, OT.foldl_add_eq, List.sum_cons, ← sum_nat l fun z hz => h z (List.mem_cons_of_mem _ hz)]
    have := h x List.mem_cons_self
    omega
theorem sum_vec {l : List Int} : sumI l.length (fun i => l.getD i 0) = l.sum := by
  unfold sumI
  rw [← OT.list_range l 0]
theorem Dat.spread (D : Dat g L w) {k : Nat} (hk : k < 4) {l : List Int} (hl : l.length = g.n) (h : ∀ z, z ∈ l → 0 ≤ z ∧ z ≤ 20) (hs : 0 < l.sum) :
    Dat (Sr82.put g (k : Int) (Sr80.spreadOf (l.map fun x => x.toNat))) L (fun k' => if k' = k then (fun i => l.getD i 0) else w k') := by
  have sn := sum_nat l fun z hz => (h z hz).1
  have nn : ∀ i, i < g.n → 0 ≤ l.getD i 0 ∧ l.getD i 0 ≤ 20 := fun i hi => by
    have hi' : i < l.length := by rw [hl]; exact hi
    rw [List.getD_eq_getElem?_getD, List.getElem?_eq_getElem hi']
    exact h _ (List.getElem_mem hi')
  have se : sumI g.n (fun i => l.getD i 0) = l.sum := by rw [← hl]; exact sum_vec
  obtain ⟨gb, e⟩ := OT.good_spreadOf (n := g.n) (w := l.map fun x => x.toNat) (by rw [List.length_map]; exact hl) (by omega)
  refine D.put hk gb ⟨fun i hi => (nn i hi).1, by rw [se]; exact hs, ?_⟩ fun i hi => ?_
  · have le : sumI g.n (fun i => l.getD i 0) ≤ sumI g.n fun _ => 20 := sumI_le fun i hi => (nn i hi).2
    have e20 : ∀ n : Nat, (sumI n fun _ => 20) = (n : Int) * 20 := fun n => by
      induction n with
      | zero => rfl
      | succ n ih => rw [sumI_succ, ih]; omega
    rw [e20] at le
    have n6 := D.n6
    exact Bd.le (bd_lit (x := 120) (e := 200)) (by rw [se]; omega) (by omega)
  · rw [e i hi]
    unfold ra
    rw [se, ← sn]
    have hi' : i < l.length := by rw [hl]; exact hi
    have n1 := (nn i hi).1
    have a1 : (((l.map fun x => x.toNat).getD i 0 : Nat) : Rat) = ((l.getD i 0 : Int) : Rat) := by
      have : (((l.map fun x => x.toNat).getD i 0 : Nat) : Int) = l.getD i 0 := by
        rw [List.getD_eq_getElem?_getD, List.getElem?_map, List.getElem?_eq_getElem hi']
        rw [List.getD_eq_getElem?_getD, List.getElem?_eq_getElem hi'] at n1 ⊢
        exact Int.toNat_of_nonneg n1
      rw [← this, Rat.intCast_natCast]
    rw [a1, Rat.intCast_natCast]
/-! ### ways that are laid -/
theorem Dat.way (D : Dat g L w) {i j x : Nat} (hi : i < g.n) (hj : j < g.n) (hij : i ≠ j) (hx : x ≤ 9) :
    Dat { g with g := Sr82.setWay g.g i j x } (fun a b => if (a = i ∧ b = j) ∨ (a = j ∧ b = i) then (x : Int) else L a b) w := by
  refine ⟨D.n1, D.n6, D.len, OT.okG_set D.okg hi hj, fun a b ha hb => ?_, fun a b ha hb => ?_, fun a ha => ?_, D.good, D.wt, D.rel⟩
  · show _ = ((Sr82.way (Sr82.setWay g.g i j x) a b : Nat) : Int)
    rw [OT.way_set D.okg hi hj]
    split
    · rfl
    · exact D.ways a b ha hb
  · show Sr82.way (Sr82.setWay g.g i j x) a b ≤ 9
    rw [OT.way_set D.okg hi hj]
    split
    · exact hx
    · exact D.le9 a b ha hb
  · show Sr82.way (Sr82.setWay g.g i j x) a a = 0
    rw [OT.way_set D.okg hi hj, if_neg (by omega)]
    exact D.diag a ha
end
/-- a new ground -/
def newG (n : Nat) : Sr82.Ground := ⟨n, Sr82.noWays n, List.replicate Sr80.SLOTS (Sr80.sure n)⟩
theorem sum_one0 {n : Nat} (hn : 1 ≤ n) : ∀ k, sumI n (one0 k) = 1 := fun k => by
  obtain ⟨m, rfl⟩ : ∃ m, n = m + 1 := ⟨n - 1, by omega⟩
  have : sumI (m + 1) (one0 k) = sumI (m + 1) fun i => if 0 = i then 1 else 0 := sumI_congr fun i _ => by unfold one0; by_cases c : i = 0 <;> simp [c, eq_comm]
  rw [this]
  exact sumI_one (w := fun _ => 1) (by omega)
theorem dat_new {n : Nat} (h1 : 1 ≤ n) (h6 : n ≤ 6) : Dat (newG n) (fun _ _ => 0) one0 := by
  obtain ⟨gs, es⟩ := OT.good_sure (n := n) (by omega)
  have e : ∀ k, k < 4 → (newG n).s.getD k [] = Sr80.sure n := fun k hk => by
    show (List.replicate 4 (Sr80.sure n)).getD k [] = _
    rw [List.getD_eq_getElem?_getD, List.getElem?_replicate, if_pos hk]; rfl
  refine ⟨h1, h6, rfl, OT.okG_none n, fun i j _ _ => ?_, fun i j _ _ => ?_, fun i _ => OT.way_noWays n i i, fun k hk => by rw [e k hk]; exact gs, fun k hk => ⟨fun i _ => ?_, ?_, ?_⟩, fun k hk i hi => ?_⟩
  · show (0 : Int) = ((Sr82.way (Sr82.noWays n) i j : Nat) : Int)
    rw [OT.way_noWays]; rfl
  · show Sr82.way (Sr82.noWays n) i j ≤ 9
    rw [OT.way_noWays]; omega
  · unfold one0; split <;> decide
  · show 0 < sumI n (one0 k)
    rw [sum_one0 h1]; decide
  · show Bd 200 (sumI n (one0 k))
    rw [sum_one0 h1]; exact bd_lit
  · rw [e k hk, es i hi]
    unfold ra
    rw [show sumI (newG n).n (one0 k) = 1 from sum_one0 h1 k]
    unfold one0
    show _ = ((if i = 0 then 1 else 0 : Int) : Rat) / ((1 : Int) : Rat)
    have e1 : ∀ x : Int, (x : Rat) / ((1 : Int) : Rat) = (x : Rat) := fun x => by rw [Rat.intCast_one, Rat.div_def]; grind
    rw [e1]
    split <;> rfl
end EH

namespace EH
open PySem PySem.Spec PyProof.Rows L2
open OT (IM CheapI allF LexI part Sums Prices Feas Met two)
/-! ### calls on an instance -/
/-- how a call's arguments lie -/
def ArgsOf (K : Fr) (H : Hp) (q : Addr) : Sr82.Call → Prop
  | .begin_ n => SqL K H q (intL [n])
  | .way i j x => SqL K H q (intL [i, j, x])
  | .spread k l => ∃ r, SqL K H q [.int k, .ref r] ∧ SqL K H r (intL l)
  | .told k => SqL K H q (intL [k])
  | .far i j => SqL K H q (intL [i, j])
  | .least k l => SqL K H q (intL [k, l])
  | .plan k l => SqL K H q (intL [k, l])
  | .prices k l => SqL K H q (intL [k, l])
  | .test k l e p => ∃ r, SqL K H q [.int k, .int l, .int e, .ref r] ∧ SqL K H r (intL p) ∧ Bd 40 e ∧ ∀ z, z ∈ p → Bd 40 z
  | .fair k l f => ∃ r, SqL K H q [.int k, .int l, .ref r] ∧ SqL K H r (intL f)
  | .behind k l m => SqL K H q (intL [k, l, m])
  | .image k m f => ∃ r, SqL K H q [.int k, .int m, .ref r] ∧ SqL K H r (intL f)
  | .middle k l m => SqL K H q (intL [k, l, m])
  | .hangs => SqL K H q []
/-- what it may end with -/
structure Outs (K : Fr) (C CR : Addr) (H : Hp) (a : IAd) (g : Sr82.Ground) (c : Sr82.Call) (Q : VK) (E : XK) : Prop where
  no : ∀ z, Sr82.step (some g) c = (some g, Sr82.say z) → Fail K CR H z E
  yes : ∀ ans, Sr82.step (some g) c = (some g, ans) → NewL H (intL (ans.num :: ans.nums)) Q
  put : ∀ (g' : Sr82.Ground) (ans : Sr82.Ans) (L' w' : Nat → Nat → Int) (sl' : Nat → Addr) (H' : Hp) (p : Addr), Sr82.step (some g) c = (some g', ans) → Kept H H' a g.n → (∀ k, k < 4 → sl' k = a.sl k ∨ H (sl' k) = none) →
    Here C H' { a with sl := sl' } g'.n L' w' → Dat g' L' w' → g'.n = g.n → H p = none → H' p = some (.lst (intL (ans.num :: ans.nums))) → Q (.ref p) H'
def spOp (K : Fr) (C CR : Addr) (S : Sr82.Call → Prop) : Sp := fun vs H Q E => ∃ (a : IAd) (g : Sr82.Ground) (L w : Nat → Nat → Int) (q : Addr) (c : Sr82.Call), vs = [.ref a.x, .ref q] ∧ S c ∧ Here C H a g.n L w ∧ Dat g L w ∧ ArgsOf K H q c ∧ Outs K C CR H a g c Q E
theorem spOp.len {K : Fr} {C CR : Addr} {S : Sr82.Call → Prop} {vs : List V} {H : Hp} {Q : VK} {E : XK} (h : spOp K C CR S vs H Q E) : vs.length = 2 := by
  obtain ⟨a, g, L, w, q, c, rfl, _⟩ := h
  rfl
theorem isK_iff {k : Int} : Sr82.isK k = true ↔ 0 ≤ k ∧ k < 4 := by
  show (decide (0 ≤ k) && decide (k < ((4 : Nat) : Int))) = true ↔ _
  rw [Bool.and_eq_true, decide_eq_true_iff, decide_eq_true_iff]; exact Iff.rfl
theorem isK_no {k : Int} : Sr82.isK k = false ↔ ¬ (0 ≤ k ∧ k < 4) := by rw [← isK_iff]; cases Sr82.isK k <;> simp
theorem isP_iff {g : Sr82.Ground} {k : Int} : Sr82.isP g k = true ↔ 0 ≤ k ∧ k < g.n := by
  show (decide (0 ≤ k) && decide (k < (g.n : Int))) = true ↔ _
  rw [Bool.and_eq_true, decide_eq_true_iff, decide_eq_true_iff]
theorem isP_no {g : Sr82.Ground} {k : Int} : Sr82.isP g k = false ↔ ¬ (0 ≤ k ∧ k < g.n) := by rw [← isP_iff]; cases Sr82.isP g k <;> simp
theorem nat_of {k : Int} (h : 0 ≤ k ∧ k < 4) : ∃ n : Nat, k = (n : Int) ∧ n < 4 := ⟨k.toNat, by omega, by omega⟩
theorem mem1 {z k : Int} (h : z ∈ [k]) : z = k := List.mem_singleton.mp h
theorem mem2 {z k l : Int} (h : z ∈ [k, l]) : z = k ∨ z = l := by simpa using h
theorem mem3 {z k l m : Int} (h : z ∈ [k, l, m]) : z = k ∨ z = l ∨ z = m := by simpa using h
abbrev s_distribution : Stmt := top 56
theorem sc_distribution : FnScope ["instance", "arguments", "weights"] ["instance", "arguments"] (defScope s_distribution) := ⟨rfl, rfl, rfl, by decide +kernel, rfl, by decide +kernel, by decide +kernel⟩
abbrev s_distance : Stmt := top 57
theorem sc_distance : FnScope ["instance", "arguments", "found"] ["instance", "arguments"] (defScope s_distance) := ⟨rfl, rfl, rfl, by decide +kernel, rfl, by decide +kernel, by decide +kernel⟩
abbrev s_min_cost : Stmt := top 58
theorem sc_min_cost : FnScope ["instance", "arguments", "weights", "distances", "plan"] ["instance", "arguments"] (defScope s_min_cost) := ⟨rfl, rfl, rfl, by decide +kernel, rfl, by decide +kernel, by decide +kernel⟩
abbrev s_is_connected : Stmt := top 66
theorem sc_is_connected : FnScope ["instance", "arguments"] ["instance", "arguments"] (defScope s_is_connected) := ⟨rfl, rfl, rfl, by decide +kernel, rfl, by decide +kernel, by decide +kernel⟩
section
variable {P : Program} {w : World} {K : Fr} {mg : Str → Option Value} {base : Heap} {f : Addr} {fd : FuncData} {C CR fR : Addr}
theorem ok_distribution (T : Tx K mg) (IT : InsT K C) (A : At K mg "distribution" s_distribution ["instance", "arguments"] f fd) (G1 : Got P w K mg base (L2.CX P w) 4 "weights_in" ["instance", "slots"] (spWin K C CR))
    (G2 : Got P w K mg base CX0 3 "as_fractions" ["amounts", "units"] (spFracs K)) : Got P w K mg base (L2.CX P w) 5 "distribution" ["instance", "arguments"] (spOp K C CR fun c => ∃ k, c = .told k) := by
  obtain ⟨f_weights_in, fd1, m_weights_in, k_weights_in, b_weights_in, F_weights_in⟩ := G1
  obtain ⟨f_as_fractions, fd2, m_as_fractions, k_as_fractions, b_as_fractions, F_as_fractions⟩ := G2
  refine A.got (A.fn.okX sc_distribution (fun vs H Q E h => h.len) (fun cdv A outer s H vs Q E hr h => ⟨_, by exact
    (pss_cons (ps_set (i := 2) sc_distribution.nd rfl (Or.inl rfl) (pe_ix (ixL (K := K) rfl) (pe_call F_weights_in (hr.mono (by decide)) rfl m_weights_in k_weights_in b_weights_in .nil (passes_call (takes_of rfl rfl rfl rfl) (fun _ _ _ _ h => h)) (by exact (pa_cons (pv 0) (pa_cons (pv 1) pa_nil)))) pe_int (fun _ _ => rfl)))
      (pss_one (ps_ret (pe_op op_cat (pe_lst (pa_cons (peFld (K := K) rfl (pv 0) rfl) pa_nil)) (pe_call F_as_fractions (hr.mono (by decide)) rfl m_as_fractions k_as_fractions b_as_fractions .nil pass0 (by exact (pa_cons (pv 2) (pa_cons (pe_callB (id := "sum") (csum (K := K) rfl rfl) (by rfl) T.sum (by decide +kernel) (pa_cons (pv 2) pa_nil)) pa_nil))))))))
    , ?_⟩))
  obtain ⟨a, g, L, w, q, c, rfl, ⟨k, rfl⟩, I, D, hq, O⟩ := h
  have st : Sr82.step (some g) (.told k) = (some g, if Sr82.isK k = false then Sr82.say (-2) else Sr82.tells (Sr82.at_ g k)) := rfl
  refine ⟨_, rfl, _, rfl, a, g.n, L, w, q, [k], rfl, I, hq, by show 1 ≤ 1000; decide, fun ok => ?_, fun bad => O.no _ ?_⟩
  · obtain ⟨k, rfl, hk⟩ := nat_of (ok k List.mem_cons_self)
    rw [if_neg (by rw [isK_no]; omega)] at st
    intro W H1 s1 nW lW
    have wk := D.wt k hk
    have n6 := D.n6
    have hS := SqL.of (K := K) (s1 _ _ (I.slo.row k hk))
    refine ⟨W, _, 0, _, rfl, rfl, SqL.of lW, rfl, ?_⟩
    refine ⟨_, rfl, a.x, C, a.dx, _, _, rfl, s1 _ _ I.ins, IT.cl, IT.nP, insF_p, by show 1 ≤ sizeLine; decide, fun p hp => ?_⟩
    have hS2 := (same_new (o := .lst [.int (g.n : Nat)]) hp).seq hS
    refine ⟨_, rfl, _, rfl, a.sl k, _, rfl, sq_vec hS2, a.sl k, g.n, w k, _, rfl, hS2, by omega, wk.pos, wk.bd.mono (by decide), fun p2 H2 s2 n2 l2 => ?_⟩
    refine ⟨p, p2, _, _, rfl, rfl, s2 _ _ upd_same, l2, ?_, fun p3 hp3 => ?_⟩
    · rw [ints_len, fracs_len]; exact size_ok (by show 1 + 2 * g.n ≤ 100000; omega)
    · refine O.yes _ st p3 _ (((s1.trans (same_new hp)).trans s2).trans (same_new hp3)) (((s1.trans (same_new hp)).trans s2).free hp3) ?_
      rw [upd_same, show Sr82.tells (Sr82.at_ g (k : Int)) = Sr66.tells (atK g k) from rfl, D.told hk]; rfl
  · obtain ⟨z, hz, bad⟩ := bad
    rw [mem1 hz] at bad
    rw [st, if_pos (isK_no.mpr bad)]
theorem ok_distance (T : Tx K mg) (IT : InsT K C) (R : Rf K mg CR fR) (A : At K mg "distance" s_distance ["instance", "arguments"] f fd) (G1 : Got P w K mg base (L2.CX P w) 3 "require_points" ["instance", "points"] (spPts K C CR))
    (G2 : Got P w K mg base CX0 3 "all_distances" ["lengths"] spDist) : Got P w K mg base (L2.CX P w) 5 "distance" ["instance", "arguments"] (spOp K C CR fun c => ∃ i j, c = .far i j) := by
  have RT := R.rt
  obtain ⟨C_NoPath, f_NoPath, S_NoPath⟩ := R.noP
  obtain ⟨f_require_points, fd1, m_require_points, k_require_points, b_require_points, F_require_points⟩ := G1
  obtain ⟨f_all_distances, fd2, m_all_distances, k_all_distances, b_all_distances, F_all_distances⟩ := G2
  refine A.got (A.fn.okX sc_distance (fun vs H Q E h => h.len) (fun cdv A outer s H vs Q E hr h => ⟨_, by exact
    (pss_cons (ps_expr (pe_call F_require_points (hr.mono (by decide)) rfl m_require_points k_require_points b_require_points .nil (passes_call (takes_of rfl rfl rfl rfl) (fun _ _ _ _ h => h)) (by exact (pa_cons (pv 0) (pa_cons (pv 1) pa_nil)))))
      (pss_cons (ps_set (i := 2) sc_distance.nd rfl (Or.inl rfl) (pe_ix (ixL (K := K) rfl) (pe_ix (ixL (K := K) rfl) (pe_call F_all_distances (hr.mono (by decide)) rfl m_all_distances k_all_distances b_all_distances .nil pass0 (by exact (pa_cons (peFld (K := K) rfl (pv 0) rfl) pa_nil))) (pe_ix (ixL (K := K) rfl) (pv 1) pe_int (fun _ _ => rfl)) (fun _ _ => rfl)) (pe_ix (ixL (K := K) rfl) (pv 1) pe_int (fun _ _ => rfl)) (fun _ _ => rfl)))
      (pss_cons (ps_if (pt_cmpR op_isN (pv 2) pe_non (nomark _)) (pss_one (ps_raise rfl (takes_of rfl rfl rfl rfl) (pmk_ref RT S_NoPath hr))) pss_nil)
      (pss_one (ps_ret (pe_lst (pa_cons (pv 2) pa_nil)))))))
    , ?_⟩))
  obtain ⟨a, g, L, w, q, c, rfl, ⟨i, j, rfl⟩, I, D, hq, O⟩ := h
  have st : Sr82.step (some g) (.far i j) = (some g, if Sr82.isP g i = false ∨ Sr82.isP g j = false then Sr82.say (-2) else match Sr82.far g.n g.g i.toNat j.toNat with
      | none => Sr82.say (-33)
      | some x => Sr82.say (x : Nat)) := rfl
  refine ⟨_, rfl, _, rfl, a, g.n, L, w, q, [i, j], rfl, I, hq, fun ok => ?_, fun bad => O.no _ ?_⟩
  · have oi := ok i (by simp)
    have oj := ok j (by simp)
    rw [if_neg (by rw [isP_no, isP_no]; omega)] at st
    obtain ⟨i, rfl⟩ : ∃ n : Nat, i = (n : Int) := ⟨i.toNat, by omega⟩
    obtain ⟨j, rfl⟩ : ∃ n : Nat, j = (n : Int) := ⟨j.toNat, by omega⟩
    have n6 := D.n6
    refine ⟨_, rfl, a.x, C, a.dx, _, _, rfl, I.ins, IT.cl, IT.nL, insF_l, a.al, a.rl, g.n, L, rfl, I.len, by omega, fun b r H1 s1 N => ?_⟩
    have hi : i < g.n := by omega
    have hj : j < g.n := by omega
    refine ⟨_, rfl, q, _, 0, _, rfl, rfl, s1.seq hq, rfl, b, _, _, _, rfl, rfl, SqL.of N.mat.at_, tab_at hi, _, rfl, q, _, 1, _, rfl, rfl, s1.seq hq, rfl, r i, _, _, _, rfl, rfl, SqL.of (N.mat.row i hi), tab_at hj, ?_⟩
    have fe : oM (OT.fwA (stepsOf L) g.n) i j = oV (OT.toI (Sr82.far g.n g.g i j)) := congrArg oV (D.far hi hj)
    have st : Sr82.step (some g) (.far i j) = (some g, match Sr82.far g.n g.g i j with
      | none => Sr82.say (-33)
      | some x => Sr82.say (x : Nat)) := st
    rw [fe]
    cases c : Sr82.far g.n g.g i j with
    | none =>
      rw [c] at st
      refine ⟨_, rfl, rfl, _, rfl, iteT (((O.no _ st).back s1).raise S_NoPath.ref)⟩
    | some x =>
      rw [c] at st
      refine ⟨_, rfl, rfl, _, rfl, iteF ⟨_, rfl, by show 1 ≤ sizeLine; decide, fun p hp => ?_⟩⟩
      exact O.yes _ st p _ (s1.trans (same_new hp)) (s1.free hp) upd_same
  · obtain ⟨z, hz, bad⟩ := bad
    rw [st, if_pos]
    rcases mem2 hz with rfl | rfl
    · exact .inl (isP_no.mpr bad)
    · exact .inr (isP_no.mpr bad)
end
end EH

namespace EH
open PySem PySem.Spec PyProof.Rows L2
open OT (IM CheapI allF LexI part Sums Prices Feas Met two)
theorem cheap_units {n : Nat} {P d : IM} {u v : Nat → Int} {U : Int} (hU : Unit_ n u v U) (ch : CheapI n P (inU n u U) (inU n v U) d) : (sumI n fun i => sumI n (P i)) = U := by
  rw [sumI_congr ch.row]; exact wt_units hU.d1
theorem lex_units {n : Nat} {P P0 d : IM} {u v : Nat → Int} {U : Int} (hU : Unit_ n u v U) (ch : CheapI n P0 (inU n u U) (inU n v U) d) (lx : LexI n d P0 n 0 P) : (sumI n fun i => sumI n (P i)) = U := by
  rw [sumI_congr lx.row, sumI_congr ch.row]; exact wt_units hU.d1
theorem plan_bd {n e : Nat} {P : IM} {U : Int} (nn : ∀ i j, i < n → j < n → 0 ≤ P i j) (hs : (sumI n fun i => sumI n (P i)) = U) (b : Bd e U) {i j : Nat} (hi : i < n) (hj : j < n) : Bd e (P i j) := by
  refine b.le (nn i j hi hj) ?_
  rw [← hs]
  exact Int.le_trans (sumI_ge (w := P i) (fun k hk => nn i k hi hk) j hj) (sumI_ge (w := fun i => sumI n (P i)) (fun i' hi' => sumI_nn fun k hk => nn i' k hi' hk) i hi)
/-- the distances and two slots, as the plans ask for them -/
theorem Here.asks {K : Fr} {C : Addr} {H H' : Hp} {a : IAd} {g : Sr82.Ground} {L w : Nat → Nat → Int} {b : Addr} {r : Nat → Addr} (s : Same H H') (I : Here C H a g.n L w) (D : Dat g L w) (M : Mat H' b r g.n g.n (mI (dis g))) {k l : Nat} (hk : k < 4) (hl : l < 4) :
    Asks K H' (a.sl k) (a.sl l) b r g.n (w k) (w l) (dis g) :=
  ⟨SqL.of (s _ _ (I.slo.row k hk)), SqL.of (s _ _ (I.slo.row l hl)), M, D.n6, D.wt k hk, D.wt l hl, fun i j _ _ => dis_nn i j⟩
abbrev s_optimal_plan : Stmt := top 59
theorem sc_optimal_plan : FnScope ["instance", "arguments", "weights", "distances"] ["instance", "arguments"] (defScope s_optimal_plan) := ⟨rfl, rfl, rfl, by decide +kernel, rfl, by decide +kernel, by decide +kernel⟩
abbrev s_optimal_potentials : Stmt := top 60
theorem sc_optimal_potentials : FnScope ["instance", "arguments", "weights", "distances", "potentials", "value"] ["instance", "arguments"] (defScope s_optimal_potentials) := ⟨rfl, rfl, rfl, by decide +kernel, rfl, by decide +kernel, by decide +kernel⟩
section
variable {P : Program} {w : World} {K : Fr} {mg : Str → Option Value} {base : Heap} {f : Addr} {fd : FuncData} {C CR fR : Addr}
theorem ok_isconnected (T : Tx K mg) (IT : InsT K C) (A : At K mg "is_connected" s_is_connected ["instance", "arguments"] f fd) (G1 : Got P w K mg base CX0 3 "all_distances" ["lengths"] spDist) (G2 : Got P w K mg base CX0 1 "all_connected" ["distances"] spConn) :
    Got P w K mg base (L2.CX P w) 5 "is_connected" ["instance", "arguments"] (spOp K C CR fun c => c = .hangs) := by
  obtain ⟨f_all_distances, fd1, m_all_distances, k_all_distances, b_all_distances, F_all_distances⟩ := G1
  obtain ⟨f_all_connected, fd2, m_all_connected, k_all_connected, b_all_connected, F_all_connected⟩ := G2
  refine A.got (A.fn.okX sc_is_connected (fun vs H Q E h => h.len) (fun cdv A outer s H vs Q E hr h => ⟨_, by exact
    (pss_one (ps_ret (pe_lst (pa_cons (pe_ifExp (pt_val (pe_call F_all_connected (hr.mono (by decide)) rfl m_all_connected k_all_connected b_all_connected .nil pass0 (by exact (pa_cons (pe_call F_all_distances (hr.mono (by decide)) rfl m_all_distances k_all_distances b_all_distances .nil pass0 (by exact (pa_cons (peFld (K := K) rfl (pv 0) rfl) pa_nil))) pa_nil)))) pe_int pe_int) pa_nil))))
    , ?_⟩))
  obtain ⟨a, g, L, w, q, c, rfl, rfl, I, D, hq, O⟩ := h
  have st : Sr82.step (some g) .hangs = (some g, Sr82.say (Sr82.bit (Sr82.hangs g.n g.g))) := rfl
  have n6 := D.n6
  refine ⟨_, rfl, a.x, C, a.dx, _, _, rfl, I.ins, IT.cl, IT.nL, insF_l, a.al, a.rl, g.n, L, rfl, I.len, by omega, fun b r H1 s1 N => ?_⟩
  refine ⟨b, r, g.n, _, rfl, N.mat, D.n1, ?_⟩
  rw [D.conn]
  refine ⟨_, rfl, ?_⟩
  cases c : Sr82.hangs g.n g.g with
  | false =>
    rw [c] at st
    exact iteF ⟨by show 1 ≤ sizeLine; decide, fun p hp => O.yes _ st p _ (s1.trans (same_new hp)) (s1.free hp) upd_same⟩
  | true =>
    rw [c] at st
    exact iteT ⟨by show 1 ≤ sizeLine; decide, fun p hp => O.yes _ st p _ (s1.trans (same_new hp)) (s1.free hp) upd_same⟩
theorem ok_mincost (T : Tx K mg) (IT : InsT K C) (A : At K mg "min_cost" s_min_cost ["instance", "arguments"] f fd) (G1 : Got P w K mg base (L2.CX P w) 4 "weights_in" ["instance", "slots"] (spWin K C CR))
    (G2 : Got P w K mg base (L2.CX P w) 4 "connected_distances" ["instance"] (spCon K C CR)) (G3 : Got P w K mg base CX0 4 "some_cheapest_plan" ["first", "second", "distances"] (spSome K))
    (G4 : Got P w K mg base CX0 2 "lowest_terms" ["numerator", "denominator"] spLow) (G5 : Got P w K mg base CX0 1 "plan_cost" ["plan", "distances"] spCost) (G6 : Got P w K mg base CX0 1 "plan_units" ["plan"] spUnits) :
    Got P w K mg base (L2.CX P w) 6 "min_cost" ["instance", "arguments"] (spOp K C CR fun c => ∃ k l, c = .least k l) := by
  obtain ⟨f_weights_in, fd1, m_weights_in, k_weights_in, b_weights_in, F_weights_in⟩ := G1
  obtain ⟨f_connected_distances, fd2, m_connected_distances, k_connected_distances, b_connected_distances, F_connected_distances⟩ := G2
  obtain ⟨f_some_cheapest_plan, fd3, m_some_cheapest_plan, k_some_cheapest_plan, b_some_cheapest_plan, F_some_cheapest_plan⟩ := G3
  obtain ⟨f_lowest_terms, fd4, m_lowest_terms, k_lowest_terms, b_lowest_terms, F_lowest_terms⟩ := G4
  obtain ⟨f_plan_cost, fd5, m_plan_cost, k_plan_cost, b_plan_cost, F_plan_cost⟩ := G5
  obtain ⟨f_plan_units, fd6, m_plan_units, k_plan_units, b_plan_units, F_plan_units⟩ := G6
  refine A.got (A.fn.okX sc_min_cost (fun vs H Q E h => h.len) (fun cdv A outer s H vs Q E hr h => ⟨_, by exact
    (pss_cons (ps_set (i := 2) sc_min_cost.nd rfl (Or.inl rfl) (pe_call F_weights_in (hr.mono (by decide)) rfl m_weights_in k_weights_in b_weights_in .nil (passes_call (takes_of rfl rfl rfl rfl) (fun _ _ _ _ h => h)) (by exact (pa_cons (pv 0) (pa_cons (pv 1) pa_nil)))))
      (pss_cons (ps_set (i := 3) sc_min_cost.nd rfl (Or.inl rfl) (pe_call F_connected_distances (hr.mono (by decide)) rfl m_connected_distances k_connected_distances b_connected_distances .nil (passes_call (takes_of rfl rfl rfl rfl) (fun _ _ _ _ h => h)) (by exact (pa_cons (pv 0) pa_nil))))
      (pss_cons (ps_set (i := 4) sc_min_cost.nd rfl (Or.inl rfl) (pe_call F_some_cheapest_plan (hr.mono (by decide)) rfl m_some_cheapest_plan k_some_cheapest_plan b_some_cheapest_plan .nil pass0 (by exact (pa_cons (pe_ix (ixL (K := K) rfl) (pv 2) pe_int (fun _ _ => rfl)) (pa_cons (pe_ix (ixL (K := K) rfl) (pv 2) pe_int (fun _ _ => rfl)) (pa_cons (pv 3) pa_nil))))))
      (pss_one (ps_ret (pe_op op_cat (pe_lst (pa_cons pe_int pa_nil)) (pe_call F_lowest_terms (hr.mono (by decide)) rfl m_lowest_terms k_lowest_terms b_lowest_terms .nil pass0 (by exact (pa_cons (pe_call F_plan_cost (hr.mono (by decide)) rfl m_plan_cost k_plan_cost b_plan_cost .nil pass0 (by exact (pa_cons (pv 4) (pa_cons (pv 3) pa_nil)))) (pa_cons (pe_call F_plan_units (hr.mono (by decide)) rfl m_plan_units k_plan_units b_plan_units .nil pass0 (by exact (pa_cons (pv 4) pa_nil))) pa_nil))))))))))
    , ?_⟩))
  obtain ⟨a, g, L, w, q, c, rfl, ⟨k, l, rfl⟩, I, D, hq, O⟩ := h
  have st : Sr82.step (some g) (.least k l) = (some g, if Sr82.isK k = false ∨ Sr82.isK l = false then Sr82.say (-2) else if Sr82.hangs g.n g.g = false then Sr82.say (-33) else Sr82.tell (Sr82.least g.n (Sr82.dist g.n g.g) (Sr82.at_ g k) (Sr82.at_ g l))) := rfl
  refine ⟨_, rfl, _, rfl, a, g.n, L, w, q, [k, l], rfl, I, hq, by show 2 ≤ 1000; decide, fun ok => ?_, fun bad => O.no _ ?_⟩
  · obtain ⟨k, rfl, hk⟩ := nat_of (ok k (by simp))
    obtain ⟨l, rfl, hl⟩ := nat_of (ok l (by simp))
    rw [if_neg (by rw [isK_no, isK_no]; omega)] at st
    intro W H1 s1 nW lW
    refine ⟨_, rfl, a, g, L, w, rfl, I.same s1, D, fun c b r H2 s2 N => ?_, fun c => (O.no _ (by rw [st, if_pos c])).back s1⟩
    rw [if_neg (by rw [c]; exact Bool.noConfusion)] at st
    have s12 := s1.trans s2
    have lW2 := s2 _ _ lW
    refine ⟨_, rfl, W, _, 0, _, rfl, rfl, SqL.of lW2, rfl, _, rfl, W, _, 1, _, rfl, rfl, SqL.of lW2, rfl, _, rfl, a.sl k, a.sl l, b, r, g.n, w k, w l, dis g, rfl, I.asks s12 D N.mat hk hl, fun U P hU ch p rp H3 s3 NP => ?_⟩
    have us := cheap_units hU ch
    have bU := hU.bd
    refine ⟨by show 1 ≤ sizeLine; decide, fun z hz => ?_⟩
    have sz := same_new (o := .lst [.int 0]) hz
    have n6 := D.n6
    refine ⟨_, rfl, _, rfl, p, b, rp, r, g.n, g.n, P, dis g, rfl, NP.mat.same sz, (N.mat.same s3).same sz, fun i j hi hj => ⟨(plan_bd ch.nn us bU hi hj).mono (by decide), (D.dis_bd c hi hj).mono (by decide)⟩, fun H4 s4 => ?_⟩
    refine ⟨_, rfl, p, rp, g.n, g.n, P, rfl, (NP.mat.same sz).same s4, by omega, fun H5 s5 => ?_⟩
    rw [us]
    refine ⟨_, U, rfl, hU.pos, hU.bd.mono (by decide), fun y H6 s6 ny ly => ?_⟩
    refine ⟨z, y, _, _, rfl, rfl, ((s4.trans s5).trans s6) _ _ upd_same, ly, by show 1 + 2 ≤ sizeLine; decide, fun x hx => ?_⟩
    have sx := ((s12.trans s3).trans sz).trans ((s4.trans s5).trans s6)
    refine O.yes _ st x _ (sx.trans (same_new hx)) (sx.free hx) ?_
    rw [upd_same]
    show some (HO.lst (intL (0 :: two _))) = some (HO.lst (intL (0 :: Sr66.fr (Sr82.least g.n (Sr82.dist g.n g.g) (atK g k) (atK g l)))))
    rw [D.least c hk hl hU ch]
  · obtain ⟨z, hz, bad⟩ := bad
    rw [st, if_pos]
    rcases mem2 hz with rfl | rfl
    · exact .inl (isK_no.mpr bad)
    · exact .inr (isK_no.mpr bad)
theorem ok_optplan (T : Tx K mg) (IT : InsT K C) (A : At K mg "optimal_plan" s_optimal_plan ["instance", "arguments"] f fd) (G1 : Got P w K mg base (L2.CX P w) 4 "weights_in" ["instance", "slots"] (spWin K C CR))
    (G2 : Got P w K mg base (L2.CX P w) 4 "connected_distances" ["instance"] (spCon K C CR)) (G3 : Got P w K mg base CX0 5 "greatest_cheapest_plan" ["first", "second", "distances"] (spGreatest K))
    (G4 : Got P w K mg base CX0 4 "plan_answer" ["plan", "distances"] (spPlanAns K)) :
    Got P w K mg base (L2.CX P w) 6 "optimal_plan" ["instance", "arguments"] (spOp K C CR fun c => ∃ k l, c = .plan k l) := by
  obtain ⟨f_weights_in, fd1, m_weights_in, k_weights_in, b_weights_in, F_weights_in⟩ := G1
  obtain ⟨f_connected_distances, fd2, m_connected_distances, k_connected_distances, b_connected_distances, F_connected_distances⟩ := G2
  obtain ⟨f_greatest_cheapest_plan, fd3, m_greatest_cheapest_plan, k_greatest_cheapest_plan, b_greatest_cheapest_plan, F_greatest_cheapest_plan⟩ := G3
  obtain ⟨f_plan_answer, fd4, m_plan_answer, k_plan_answer, b_plan_answer, F_plan_answer⟩ := G4
  refine A.got (A.fn.okX sc_optimal_plan (fun vs H Q E h => h.len) (fun cdv A outer s H vs Q E hr h => ⟨_, by exact
    (pss_cons (ps_set (i := 2) sc_optimal_plan.nd rfl (Or.inl rfl) (pe_call F_weights_in (hr.mono (by decide)) rfl m_weights_in k_weights_in b_weights_in .nil (passes_call (takes_of rfl rfl rfl rfl) (fun _ _ _ _ h => h)) (by exact (pa_cons (pv 0) (pa_cons (pv 1) pa_nil)))))
      (pss_cons (ps_set (i := 3) sc_optimal_plan.nd rfl (Or.inl rfl) (pe_call F_connected_distances (hr.mono (by decide)) rfl m_connected_distances k_connected_distances b_connected_distances .nil (passes_call (takes_of rfl rfl rfl rfl) (fun _ _ _ _ h => h)) (by exact (pa_cons (pv 0) pa_nil))))
      (pss_one (ps_ret (pe_call F_plan_answer (hr.mono (by decide)) rfl m_plan_answer k_plan_answer b_plan_answer .nil pass0 (by exact (pa_cons (pe_call F_greatest_cheapest_plan (hr.mono (by decide)) rfl m_greatest_cheapest_plan k_greatest_cheapest_plan b_greatest_cheapest_plan .nil pass0 (by exact (pa_cons (pe_ix (ixL (K := K) rfl) (pv 2) pe_int (fun _ _ => rfl)) (pa_cons (pe_ix (ixL (K := K) rfl) (pv 2) pe_int (fun _ _ => rfl)) (pa_cons (pv 3) pa_nil))))) (pa_cons (pv 3) pa_nil))))))))
    , ?_⟩))
  obtain ⟨a, g, L, w, q, c, rfl, ⟨k, l, rfl⟩, I, D, hq, O⟩ := h
  have st : Sr82.step (some g) (.plan k l) = (some g, if Sr82.isK k = false ∨ Sr82.isK l = false then Sr82.say (-2) else if Sr82.hangs g.n g.g = false then Sr82.say (-33) else Sr82.tellPlan g.n (Sr82.dist g.n g.g) (Sr82.best g.n (Sr82.dist g.n g.g) (Sr82.at_ g k) (Sr82.at_ g l))) := rfl
  refine ⟨_, rfl, _, rfl, a, g.n, L, w, q, [k, l], rfl, I, hq, by show 2 ≤ 1000; decide, fun ok => ?_, fun bad => O.no _ ?_⟩
  · obtain ⟨k, rfl, hk⟩ := nat_of (ok k (by simp))
    obtain ⟨l, rfl, hl⟩ := nat_of (ok l (by simp))
    rw [if_neg (by rw [isK_no, isK_no]; omega)] at st
    intro W H1 s1 nW lW
    refine ⟨_, rfl, a, g, L, w, rfl, I.same s1, D, fun c b r H2 s2 N => ?_, fun c => (O.no _ (by rw [st, if_pos c])).back s1⟩
    rw [if_neg (by rw [c]; exact Bool.noConfusion)] at st
    have s12 := s1.trans s2
    have lW2 := s2 _ _ lW
    refine ⟨_, rfl, W, _, 0, _, rfl, rfl, SqL.of lW2, rfl, _, rfl, W, _, 1, _, rfl, rfl, SqL.of lW2, rfl, _, rfl, a.sl k, a.sl l, b, r, g.n, w k, w l, dis g, rfl, I.asks s12 D N.mat hk hl, fun U P0 P hU ch lx p rp H3 s3 NP => ?_⟩
    have us := lex_units hU ch lx
    have bU := hU.bd
    have n6 := D.n6
    refine ⟨_, rfl, p, b, rp, r, g.n, P, dis g, U, rfl, NP.mat, N.mat.same s3, by omega, us, hU.pos, hU.bd.mono (by decide), fun i j hi hj => ⟨(plan_bd lx.nn us bU hi hj).mono (by decide), (D.dis_bd c hi hj).mono (by decide)⟩, fun x H4 s4 nx lx4 => ?_⟩
    refine O.yes _ st x _ ((s12.trans s3).trans s4) ((s12.trans s3).free nx) ?_
    rw [lx4, show Sr82.tellPlan g.n (Sr82.dist g.n g.g) (Sr82.best g.n (Sr82.dist g.n g.g) (Sr82.at_ g (k : Int)) (Sr82.at_ g (l : Int))) = _ from D.best c hk hl hU ch lx]
  · obtain ⟨z, hz, bad⟩ := bad
    rw [st, if_pos]
    rcases mem2 hz with rfl | rfl
    · exact .inl (isK_no.mpr bad)
    · exact .inr (isK_no.mpr bad)
theorem ok_optpot (T : Tx K mg) (IT : InsT K C) (A : At K mg "optimal_potentials" s_optimal_potentials ["instance", "arguments"] f fd) (G1 : Got P w K mg base (L2.CX P w) 4 "weights_in" ["instance", "slots"] (spWin K C CR))
    (G2 : Got P w K mg base (L2.CX P w) 4 "connected_distances" ["instance"] (spCon K C CR)) (G3 : Got P w K mg base CX0 5 "greatest_best_potentials" ["first", "second", "distances"] (spBestPot K))
    (G4 : Got P w K mg base CX0 4 "value_of_potentials" ["potentials", "first", "second"] (spValue K)) :
    Got P w K mg base (L2.CX P w) 6 "optimal_potentials" ["instance", "arguments"] (spOp K C CR fun c => ∃ k l, c = .prices k l) := by
  obtain ⟨f_weights_in, fd1, m_weights_in, k_weights_in, b_weights_in, F_weights_in⟩ := G1
  obtain ⟨f_connected_distances, fd2, m_connected_distances, k_connected_distances, b_connected_distances, F_connected_distances⟩ := G2
  obtain ⟨f_greatest_best_potentials, fd3, m_greatest_best_potentials, k_greatest_best_potentials, b_greatest_best_potentials, F_greatest_best_potentials⟩ := G3
  obtain ⟨f_value_of_potentials, fd4, m_value_of_potentials, k_value_of_potentials, b_value_of_potentials, F_value_of_potentials⟩ := G4
  refine A.got (A.fn.okX sc_optimal_potentials (fun vs H Q E h => h.len) (fun cdv A outer s H vs Q E hr h => ⟨_, by exact
    (pss_cons (ps_set (i := 2) sc_optimal_potentials.nd rfl (Or.inl rfl) (pe_call F_weights_in (hr.mono (by decide)) rfl m_weights_in k_weights_in b_weights_in .nil (passes_call (takes_of rfl rfl rfl rfl) (fun _ _ _ _ h => h)) (by exact (pa_cons (pv 0) (pa_cons (pv 1) pa_nil)))))
      (pss_cons (ps_set (i := 3) sc_optimal_potentials.nd rfl (Or.inl rfl) (pe_call F_connected_distances (hr.mono (by decide)) rfl m_connected_distances k_connected_distances b_connected_distances .nil (passes_call (takes_of rfl rfl rfl rfl) (fun _ _ _ _ h => h)) (by exact (pa_cons (pv 0) pa_nil))))
      (pss_cons (ps_set (i := 4) sc_optimal_potentials.nd rfl (Or.inl rfl) (pe_call F_greatest_best_potentials (hr.mono (by decide)) rfl m_greatest_best_potentials k_greatest_best_potentials b_greatest_best_potentials .nil pass0 (by exact (pa_cons (pe_ix (ixL (K := K) rfl) (pv 2) pe_int (fun _ _ => rfl)) (pa_cons (pe_ix (ixL (K := K) rfl) (pv 2) pe_int (fun _ _ => rfl)) (pa_cons (pv 3) pa_nil))))))
      (pss_cons (ps_set (i := 5) sc_optimal_potentials.nd rfl (Or.inl rfl) (pe_call F_value_of_potentials (hr.mono (by decide)) rfl m_value_of_potentials k_value_of_potentials b_value_of_potentials .nil pass0 (by exact (pa_cons (pv 4) (pa_cons (pe_ix (ixL (K := K) rfl) (pv 2) pe_int (fun _ _ => rfl)) (pa_cons (pe_ix (ixL (K := K) rfl) (pv 2) pe_int (fun _ _ => rfl)) pa_nil))))))
      (pss_one (ps_ret (pe_op op_cat (pe_op op_cat (pe_lst (pa_cons (peFld (K := K) rfl (pv 0) rfl) pa_nil)) (pv 4)) (pv 5))))))))
    , ?_⟩))
  obtain ⟨a, g, L, w, q, c, rfl, ⟨k, l, rfl⟩, I, D, hq, O⟩ := h
  have st : Sr82.step (some g) (.prices k l) = (some g, if Sr82.isK k = false ∨ Sr82.isK l = false then Sr82.say (-2) else if Sr82.hangs g.n g.g = false then Sr82.say (-33) else
      ⟨(g.n : Int), (Sr82.prices g.n (Sr82.dist g.n g.g) (Sr82.at_ g k) (Sr82.at_ g l)) ++ Sr66.fr (Sr82.gain g.n (Sr82.prices g.n (Sr82.dist g.n g.g) (Sr82.at_ g k) (Sr82.at_ g l)) (Sr82.at_ g k) (Sr82.at_ g l))⟩) := rfl
  refine ⟨_, rfl, _, rfl, a, g.n, L, w, q, [k, l], rfl, I, hq, by show 2 ≤ 1000; decide, fun ok => ?_, fun bad => O.no _ ?_⟩
  · obtain ⟨k, rfl, hk⟩ := nat_of (ok k (by simp))
    obtain ⟨l, rfl, hl⟩ := nat_of (ok l (by simp))
    rw [if_neg (by rw [isK_no, isK_no]; omega)] at st
    intro W H1 s1 nW lW
    refine ⟨_, rfl, a, g, L, w, rfl, I.same s1, D, fun c b r H2 s2 N => ?_, fun c => (O.no _ (by rw [st, if_pos c])).back s1⟩
    rw [if_neg (by rw [c]; exact Bool.noConfusion)] at st
    have s12 := s1.trans s2
    have lW2 := s2 _ _ lW
    obtain ⟨pf, hpf, epf⟩ := D.prices c hk hl
    refine ⟨_, rfl, W, _, 0, _, rfl, rfl, SqL.of lW2, rfl, _, rfl, W, _, 1, _, rfl, rfl, SqL.of lW2, rfl, _, rfl, a.sl k, a.sl l, b, r, g.n, w k, w l, dis g, rfl, I.asks s12 D N.mat hk hl, D.n1, D.met c, fun f hf p H3 s3 np lp => ?_⟩
    have s13 := s12.trans s3
    have n6 := D.n6
    have fb : ∀ i, i < g.n → Bd 100 (f i) := fun i hi => by
      have h1 := hf.feas 0 i (by omega) hi
      have h2 := hf.feas i 0 hi (by omega)
      have h3 := D.dis_le c (i := 0) (j := i) (by omega) hi
      have h4 := D.dis_le c (i := i) (j := 0) hi (by omega)
      rw [hf.zero] at h1 h2
      exact Nat.lt_of_le_of_lt (show (f i).natAbs ≤ 54 by omega) (by decide)
    have lW3 := s3 _ _ lW2
    have hp := SqL.of (K := K) lp
    refine ⟨_, rfl, _, rfl, W, _, 0, _, rfl, rfl, SqL.of lW3, rfl, _, rfl, W, _, 1, _, rfl, rfl, SqL.of lW3, rfl, p, a.sl k, a.sl l, g.n, f, w k, w l, rfl, hp, SqL.of (s13 _ _ (I.slo.row k hk)), SqL.of (s13 _ _ (I.slo.row l hl)), by omega, D.wt k hk, D.wt l hl, fb, fun v H4 s4 nv lv => ?_⟩
    have s14 := s13.trans s4
    refine ⟨_, rfl, a.x, C, a.dx, _, _, rfl, s14 _ _ I.ins, IT.cl, IT.nP, insF_p, by show 1 ≤ sizeLine; decide, fun x hx => ?_⟩
    refine ⟨_, rfl, x, p, _, _, rfl, rfl, upd_same, (same_new hx) _ _ (s4 _ _ lp), ?_, fun y hy => ?_⟩
    · rw [vec_len]; exact size_ok (by show 1 + g.n ≤ 100000; omega)
    have sxy := (same_new (o := .lst [V.int (g.n : Nat)]) hx).trans (same_new (o := .lst ([V.int (g.n : Nat)] ++ vec g.n f)) hy)
    refine ⟨_, rfl, y, v, _, _, rfl, rfl, upd_same, sxy _ _ lv, ?_, fun z hz => ?_⟩
    · rw [List.length_append, vec_len, ints_len, two_len]; exact size_ok (by show 1 + g.n + 2 ≤ 100000; omega)
    have sx := s14.trans sxy
    refine O.yes _ st z _ (sx.trans (same_new hz)) (sx.free hz) ?_
    rw [upd_same]
    have e1 : Sr82.prices g.n (Sr82.dist g.n g.g) (Sr82.at_ g (k : Int)) (Sr82.at_ g (l : Int)) = (List.range g.n).map f := by
      rw [show Sr82.prices g.n (Sr82.dist g.n g.g) (Sr82.at_ g (k : Int)) (Sr82.at_ g (l : Int)) = _ from epf]
      exact List.map_congr_left fun i hi => OT.prices_unique hpf hf i (List.mem_range.mp hi)
    have e2 : Sr66.fr (Sr82.gain g.n ((List.range g.n).map f) (Sr82.at_ g (k : Int)) (Sr82.at_ g (l : Int))) = two (OT.value g.n f (ra g.n (w k)) (ra g.n (w l))) := by
      rw [show Sr66.fr (Sr82.gain g.n ((List.range g.n).map f) (Sr82.at_ g (k : Int)) (Sr82.at_ g (l : Int))) = _ from D.gain hk hl _]
      exact congrArg two (OT.value_congrF fun i hi => getD_map_range hi)
    rw [e1, e2, vec_ints]
    show some (HO.lst (([V.int (g.n : Nat)] ++ intL ((List.range g.n).map f)) ++ intL (two _))) = some (HO.lst (intL ((g.n : Int) :: (((List.range g.n).map f) ++ two _))))
    unfold intL
    rw [List.map_cons, List.map_append]; rfl
  · obtain ⟨z, hz, bad⟩ := bad
    rw [st, if_pos]
    rcases mem2 hz with rfl | rfl
    · exact .inl (isK_no.mpr bad)
    · exact .inr (isK_no.mpr bad)
end
end EH

namespace EH
open PySem PySem.Spec PyProof.Rows L2
open OT (IM CheapI allF LexI part Sums Prices Feas Met two)
theorem cut_two {x y : V} {r : List V} : cutV (x :: y :: r) none (some 2) = [x, y] := by
  unfold cutV
  rw [HT.sIx_none, show (some 2 : Option Int) = some ((2 : Nat) : Int) from rfl, HT.sIx_nat, Nat.min_eq_left (by show 2 ≤ r.length + 1 + 1; omega)]
  rfl
theorem cut_row {n i : Nat} {p : List Int} (hp : p.length = n * n) (hi : i < n) : cutV (intL p) (some ((n : Int) * (i : Int))) (some ((n : Int) * (i : Int) + (n : Int))) = tab n (mI (ent n p) i) := by
  have e1 : (n : Int) * (i : Int) = ((n * i : Nat) : Int) := (Int.natCast_mul n i).symm
  have e2 : (n : Int) * (i : Int) + (n : Int) = ((n * i + n : Nat) : Int) := by rw [e1]; omega
  have le : n * i + n ≤ n * n := by rw [← Nat.mul_succ]; exact Nat.mul_le_mul_left n hi
  unfold cutV
  rw [e2, e1, HT.sIx_nat, HT.sIx_nat, ints_len, hp, Nat.min_eq_left le, Nat.min_eq_left (show n * i ≤ n * n by omega), show n * i + n - n * i = n by omega]
  refine List.ext_getElem? fun j => ?_
  rw [List.getElem?_take]
  by_cases c : j < n
  · rw [if_pos c, tab_get c, List.getElem?_drop]
    unfold intL
    have q : n * i + j < p.length := by omega
    rw [List.getElem?_map, List.getElem?_eq_getElem q]
    show some (V.int p[n * i + j]) = some (V.int (p.getD (i * n + j) 0))
    rw [Nat.mul_comm i n, List.getD_eq_getElem?_getD, List.getElem?_eq_getElem q]; rfl
  · rw [if_neg c, List.getElem?_eq_none (by rw [tab_len]; omega)]
theorem sum_bd {b : Nat} {f : Nat → Int} : ∀ {n : Nat}, (∀ i, i < n → Bd b (f i)) → Bd (b + n) (sumI n f)
  | 0, _ => by show (0 : Int).natAbs < _; exact Nat.pow_pos (by decide)
  | n + 1, h => by
    rw [sumI_succ]
    show Bd ((b + n) + 1) _
    exact Bd.add (sum_bd fun i hi => h i (by omega)) ((h n (by omega)).mono (by omega))
theorem ent_bd {n b : Nat} {p : List Int} (h : ∀ z, z ∈ p → Bd b z) (i j : Nat) : Bd b (ent n p i j) := by
  unfold ent
  rw [List.getD_eq_getElem?_getD]
  cases c : p[i * n + j]? with
  | none => show (0 : Int).natAbs < _; exact Nat.pow_pos (by decide)
  | some z => exact h z (List.mem_of_getElem? c)
abbrev s_compose_plans : Stmt := top 63
theorem sc_compose_plans : FnScope ["instance", "arguments", "weights", "distances", "there", "onward"] ["instance", "arguments"] (defScope s_compose_plans) := ⟨rfl, rfl, rfl, by decide +kernel, rfl, by decide +kernel, by decide +kernel⟩
abbrev s_check_plan : Stmt := top 61
theorem sc_check_plan : FnScope ["instance", "arguments", "denominator", "entries", "points", "weights", "distances", "plan", "row"] ["instance", "arguments"] (defScope s_check_plan) := ⟨rfl, rfl, rfl, by decide +kernel, rfl, by decide +kernel, by decide +kernel⟩
abbrev s_check_potentials : Stmt := top 62
theorem sc_check_potentials : FnScope ["instance", "arguments", "potentials", "weights", "feasible"] ["instance", "arguments"] (defScope s_check_potentials) := ⟨rfl, rfl, rfl, by decide +kernel, rfl, by decide +kernel, by decide +kernel⟩
section
variable {P : Program} {w : World} {K : Fr} {mg : Str → Option Value} {base : Heap} {f : Addr} {fd : FuncData} {C CR fR : Addr}
theorem ok_compose (T : Tx K mg) (IT : InsT K C) (A : At K mg "compose_plans" s_compose_plans ["instance", "arguments"] f fd) (G1 : Got P w K mg base (L2.CX P w) 4 "weights_in" ["instance", "slots"] (spWin K C CR))
    (G2 : Got P w K mg base (L2.CX P w) 4 "connected_distances" ["instance"] (spCon K C CR)) (G3 : Got P w K mg base CX0 5 "greatest_cheapest_plan" ["first", "second", "distances"] (spGreatest K))
    (G4 : Got P w K mg base CX0 4 "plan_answer" ["plan", "distances"] (spPlanAns K)) (G5 : Got P w K mg base CX0 4 "composed_plan" ["first_plan", "second_plan", "weights"] (spComposed K)) :
    Got P w K mg base (L2.CX P w) 6 "compose_plans" ["instance", "arguments"] (spOp K C CR fun c => ∃ k l m, c = .behind k l m) := by
  obtain ⟨f_weights_in, fd1, m_weights_in, k_weights_in, b_weights_in, F_weights_in⟩ := G1
  obtain ⟨f_connected_distances, fd2, m_connected_distances, k_connected_distances, b_connected_distances, F_connected_distances⟩ := G2
  obtain ⟨f_greatest_cheapest_plan, fd3, m_greatest_cheapest_plan, k_greatest_cheapest_plan, b_greatest_cheapest_plan, F_greatest_cheapest_plan⟩ := G3
  obtain ⟨f_plan_answer, fd4, m_plan_answer, k_plan_answer, b_plan_answer, F_plan_answer⟩ := G4
  obtain ⟨f_composed_plan, fd5, m_composed_plan, k_composed_plan, b_composed_plan, F_composed_plan⟩ := G5
  refine A.got (A.fn.okX sc_compose_plans (fun vs H Q E h => h.len) (fun cdv A outer s H vs Q E hr h => ⟨_, by exact
    (pss_cons (ps_set (i := 2) sc_compose_plans.nd rfl (Or.inl rfl) (pe_call F_weights_in (hr.mono (by decide)) rfl m_weights_in k_weights_in b_weights_in .nil (passes_call (takes_of rfl rfl rfl rfl) (fun _ _ _ _ h => h)) (by exact (pa_cons (pv 0) (pa_cons (pv 1) pa_nil)))))
      (pss_cons (ps_set (i := 3) sc_compose_plans.nd rfl (Or.inl rfl) (pe_call F_connected_distances (hr.mono (by decide)) rfl m_connected_distances k_connected_distances b_connected_distances .nil (passes_call (takes_of rfl rfl rfl rfl) (fun _ _ _ _ h => h)) (by exact (pa_cons (pv 0) pa_nil))))
      (pss_cons (ps_set (i := 4) sc_compose_plans.nd rfl (Or.inl rfl) (pe_call F_greatest_cheapest_plan (hr.mono (by decide)) rfl m_greatest_cheapest_plan k_greatest_cheapest_plan b_greatest_cheapest_plan .nil pass0 (by exact (pa_cons (pe_ix (ixL (K := K) rfl) (pv 2) pe_int (fun _ _ => rfl)) (pa_cons (pe_ix (ixL (K := K) rfl) (pv 2) pe_int (fun _ _ => rfl)) (pa_cons (pv 3) pa_nil))))))
      (pss_cons (ps_set (i := 5) sc_compose_plans.nd rfl (Or.inl rfl) (pe_call F_greatest_cheapest_plan (hr.mono (by decide)) rfl m_greatest_cheapest_plan k_greatest_cheapest_plan b_greatest_cheapest_plan .nil pass0 (by exact (pa_cons (pe_ix (ixL (K := K) rfl) (pv 2) pe_int (fun _ _ => rfl)) (pa_cons (pe_ix (ixL (K := K) rfl) (pv 2) pe_int (fun _ _ => rfl)) (pa_cons (pv 3) pa_nil))))))
      (pss_one (ps_ret (pe_call F_plan_answer (hr.mono (by decide)) rfl m_plan_answer k_plan_answer b_plan_answer .nil pass0 (by exact (pa_cons (pe_call F_composed_plan (hr.mono (by decide)) rfl m_composed_plan k_composed_plan b_composed_plan .nil pass0 (by exact (pa_cons (pv 4) (pa_cons (pv 5) (pa_cons (pe_ix (ixL (K := K) rfl) (pv 2) pe_int (fun _ _ => rfl)) pa_nil))))) (pa_cons (pv 3) pa_nil))))))))))
    , ?_⟩))
  obtain ⟨a, g, L, w, q, c, rfl, ⟨k, l, m, rfl⟩, I, D, hq, O⟩ := h
  have st : Sr82.step (some g) (.behind k l m) = (some g, if Sr82.isK k = false ∨ Sr82.isK l = false ∨ Sr82.isK m = false then Sr82.say (-2) else if Sr82.hangs g.n g.g = false then Sr82.say (-33) else
      Sr82.tellPlan g.n (Sr82.dist g.n g.g) (Sr80.behind g.n (Sr82.at_ g l) (Sr82.best g.n (Sr82.dist g.n g.g) (Sr82.at_ g k) (Sr82.at_ g l)) (Sr82.best g.n (Sr82.dist g.n g.g) (Sr82.at_ g l) (Sr82.at_ g m)))) := rfl
  refine ⟨_, rfl, _, rfl, a, g.n, L, w, q, [k, l, m], rfl, I, hq, by show 3 ≤ 1000; decide, fun ok => ?_, fun bad => O.no _ ?_⟩
  · obtain ⟨k, rfl, hk⟩ := nat_of (ok k (by simp))
    obtain ⟨l, rfl, hl⟩ := nat_of (ok l (by simp))
    obtain ⟨m, rfl, hm⟩ := nat_of (ok m (by simp))
    rw [if_neg (by rw [isK_no, isK_no, isK_no]; omega)] at st
    intro W H1 s1 nW lW
    refine ⟨_, rfl, a, g, L, w, rfl, I.same s1, D, fun c b r H2 s2 N => ?_, fun c => (O.no _ (by rw [st, if_pos c])).back s1⟩
    rw [if_neg (by rw [c]; exact Bool.noConfusion)] at st
    have s12 := s1.trans s2
    have lW2 := s2 _ _ lW
    refine ⟨_, rfl, W, _, 0, _, rfl, rfl, SqL.of lW2, rfl, _, rfl, W, _, 1, _, rfl, rfl, SqL.of lW2, rfl, _, rfl, a.sl k, a.sl l, b, r, g.n, w k, w l, dis g, rfl, I.asks s12 D N.mat hk hl, fun U P0 P hU ch lx p rp H3 s3 NP => ?_⟩
    have s13 := s12.trans s3
    have lW3 := s3 _ _ lW2
    refine ⟨_, rfl, W, _, 1, _, rfl, rfl, SqL.of lW3, rfl, _, rfl, W, _, 2, _, rfl, rfl, SqL.of lW3, rfl, _, rfl, a.sl l, a.sl m, b, r, g.n, w l, w m, dis g, rfl, I.asks s13 D (N.mat.same s3) hl hm, fun V Q0 R hV ch2 lx2 p2 rp2 H4 s4 NR => ?_⟩
    have s14 := s13.trans s4
    have lW4 := s4 _ _ lW3
    have n6 := D.n6
    refine ⟨_, rfl, _, rfl, _, rfl, W, _, 1, _, rfl, rfl, SqL.of lW4, rfl, p, p2, a.sl l, rp, rp2, g.n, P, R, w l, rfl, NP.mat.same s4, NR.mat, SqL.of (s14 _ _ (I.slo.row l hl)), n6, D.wt l hl, fun i j hi hj => ⟨(plan_bd lx.nn (lex_units hU ch lx) hU.bd hi hj).mono (by decide), (plan_bd lx2.nn (lex_units hV ch2 lx2) hV.bd hi hj).mono (by decide)⟩, fun Z hZ p3 rp3 H5 s5 N5 => ?_⟩
    obtain ⟨X, sX, X0, bX, nX, tX⟩ := D.behind c hk hl hm hU ch lx hV ch2 lx2 hZ
    have s25 := s2.trans ((s3.trans s4).trans s5)
    refine ⟨_, rfl, p3, b, rp3, r, g.n, _, dis g, X, rfl, N5.mat, ((N.mat.same s3).same s4).same s5, by omega, sX, X0, bX.mono (by decide), fun i j hi hj => ⟨(bX.le (nX i j hi hj).1 (nX i j hi hj).2).mono (by decide), (D.dis_bd c hi hj).mono (by decide)⟩, fun x H6 s6 nx lx6 => ?_⟩
    have sx := s14.trans s5
    refine O.yes _ st x _ (sx.trans s6) (sx.free nx) ?_
    rw [lx6]
    refine congrArg (fun z => some (HO.lst (intL z))) ?_
    have e : Sr82.tellPlan g.n (Sr82.dist g.n g.g) (Sr80.behind g.n (Sr82.at_ g (l : Int)) (Sr82.best g.n (Sr82.dist g.n g.g) (Sr82.at_ g (k : Int)) (Sr82.at_ g (l : Int))) (Sr82.best g.n (Sr82.dist g.n g.g) (Sr82.at_ g (l : Int)) (Sr82.at_ g (m : Int)))) = _ := tX
    rw [e]
  · obtain ⟨z, hz, bad⟩ := bad
    rw [st, if_pos]
    rcases mem3 hz with rfl | rfl | rfl
    · exact .inl (isK_no.mpr bad)
    · exact .inr (.inl (isK_no.mpr bad))
    · exact .inr (.inr (isK_no.mpr bad))
theorem ok_checkplan (T : Tx K mg) (IT : InsT K C) (R : Rf K mg CR fR) (A : At K mg "check_plan" s_check_plan ["instance", "arguments"] f fd) (G1 : Got P w K mg base (L2.CX P w) 4 "weights_in" ["instance", "slots"] (spWin K C CR))
    (G2 : Got P w K mg base (L2.CX P w) 4 "connected_distances" ["instance"] (spCon K C CR)) (G3 : Got P w K mg base CX0 2 "is_plan" ["plan", "units", "first", "second"] (spIsPlan K))
    (G4 : Got P w K mg base CX0 2 "lowest_terms" ["numerator", "denominator"] spLow) (G5 : Got P w K mg base CX0 1 "plan_cost" ["plan", "distances"] spCost) :
    Got P w K mg base (L2.CX P w) 6 "check_plan" ["instance", "arguments"] (spOp K C CR fun c => ∃ k l e p, c = .test k l e p) := by
  have RT := R.rt
  obtain ⟨C_Malformed, f_Malformed, S_Malformed⟩ := R.mal
  obtain ⟨f_weights_in, fd1, m_weights_in, k_weights_in, b_weights_in, F_weights_in⟩ := G1
  obtain ⟨f_connected_distances, fd2, m_connected_distances, k_connected_distances, b_connected_distances, F_connected_distances⟩ := G2
  obtain ⟨f_is_plan, fd3, m_is_plan, k_is_plan, b_is_plan, F_is_plan⟩ := G3
  obtain ⟨f_lowest_terms, fd4, m_lowest_terms, k_lowest_terms, b_lowest_terms, F_lowest_terms⟩ := G4
  obtain ⟨f_plan_cost, fd5, m_plan_cost, k_plan_cost, b_plan_cost, F_plan_cost⟩ := G5
  refine A.got (A.fn.okX sc_check_plan (fun vs H Q E h => h.len) (fun cdv A outer s H vs Q E hr h => ⟨_, by exact
    (pss_cons (ps_set (i := 2) sc_check_plan.nd rfl (Or.inl rfl) (pe_ix (ixL (K := K) rfl) (pv 1) pe_int (fun _ _ => rfl)))
      (pss_cons (ps_set (i := 3) sc_check_plan.nd rfl (Or.inr rfl) (pe_ix (ixL (K := K) rfl) (pv 1) pe_int (fun _ _ => rfl)))
      (pss_cons (ps_set (i := 4) sc_check_plan.nd rfl (Or.inr rfl) (peFld (K := K) rfl (pv 0) rfl))
      (pss_cons (ps_set (i := 5) sc_check_plan.nd rfl (Or.inl rfl) (pe_call F_weights_in (hr.mono (by decide)) rfl m_weights_in k_weights_in b_weights_in .nil (passes_call (takes_of rfl rfl rfl rfl) (fun _ _ _ _ h => h)) (by exact (pa_cons (pv 0) (pa_cons (pe_slice (slL (K := K) rfl) (pv 1) po_none (po_some pe_int)) pa_nil)))))
      (pss_cons (ps_if (PW.pt (pw_or (pt_cmpR op_lt (pv 2) pe_int (nomark _)) (pw_or1 (pt_cmpR op_ne (pe_callB (id := "len") (clen (K := K) rfl) (by rfl) T.len (by decide +kernel) (pa_cons (pv 3) pa_nil)) (pe_op op_mulW (pv 4) (pv 4)) (nomark _))))) (pss_one (ps_raise rfl (takes_of rfl rfl rfl rfl) (pmk_ref RT S_Malformed hr))) pss_nil)
      (pss_cons (ps_set (i := 6) sc_check_plan.nd rfl (Or.inl rfl) (pe_call F_connected_distances (hr.mono (by decide)) rfl m_connected_distances k_connected_distances b_connected_distances .nil (passes_call (takes_of rfl rfl rfl rfl) (fun _ _ _ _ h => h)) (by exact (pa_cons (pv 0) pa_nil))))
      (pss_cons (ps_setLc (i := 7) (own := [("row", 8)]) rfl sc_check_plan.nd rfl rfl (sw_true rfl rfl rfl (by decide +kernel))  (pi_range1 (by rfl) T.range (pa_cons (pv 4) pa_nil)) (blkOk_by (N := ["instance", "arguments", "denominator", "entries", "points", "weights", "distances", "plan", "row"]) (sc := defScope s_check_plan) (own := [("row", 8)]) (by decide +kernel)) (fun _ _ _ _ _ => (pg_name (i := 8) sc_check_plan.nd rfl (Or.inl rfl))) (fun _ _ _ _ _ => pts_nil) (fun _ _ _ _ _ => (pe_slice (slL (K := K) rfl) (pv 3) (po_some (pe_op op_mulW (pv 4) (pv 8))) (po_some (pe_op op_add (pe_op op_mulW (pv 4) (pv 8)) (pv 4))))))
      (pss_cons (ps_if (pt_not (pt_val (pe_call F_is_plan (hr.mono (by decide)) rfl m_is_plan k_is_plan b_is_plan .nil pass0 (by exact (pa_cons (pv 7) (pa_cons (pv 2) (pa_cons (pe_ix (ixL (K := K) rfl) (pv 5) pe_int (fun _ _ => rfl)) (pa_cons (pe_ix (ixL (K := K) rfl) (pv 5) pe_int (fun _ _ => rfl)) pa_nil)))))))) (pss_one (ps_ret (pe_lst (pa_cons pe_int pa_nil)))) pss_nil)
      (pss_one (ps_ret (pe_op op_cat (pe_lst (pa_cons pe_int pa_nil)) (pe_call F_lowest_terms (hr.mono (by decide)) rfl m_lowest_terms k_lowest_terms b_lowest_terms .nil pass0 (by exact (pa_cons (pe_call F_plan_cost (hr.mono (by decide)) rfl m_plan_cost k_plan_cost b_plan_cost .nil pass0 (by exact (pa_cons (pv 7) (pa_cons (pv 6) pa_nil)))) (pa_cons (pv 2) pa_nil)))))))))))))))
    , ?_⟩))
  obtain ⟨a, g, L, w, q, c, rfl, ⟨k, l, e, p, rfl⟩, I, D, hq, O⟩ := h
  obtain ⟨r, hq, hp, be, bp⟩ := hq
  have st : Sr82.step (some g) (.test k l e p) = (some g, if Sr82.isK k = false ∨ Sr82.isK l = false then Sr82.say (-2) else if e < 1 ∨ p.length ≠ g.n * g.n then Sr82.say (-22) else if Sr82.hangs g.n g.g = false then Sr82.say (-33) else
      if Sr80.isPlan g.n (Sr82.at_ g k) (Sr82.at_ g l) (Sr80.readPlan g.n e p) = false then Sr82.say 0 else ⟨1, Sr66.fr (Sr82.cost g.n (Sr82.dist g.n g.g) (Sr80.readPlan g.n e p))⟩) := rfl
  have n6 := D.n6
  have n1 := D.n1
  refine ⟨_, rfl, q, _, 2, _, rfl, rfl, hq, rfl, _, rfl, q, _, 3, _, rfl, rfl, hq, rfl, _, rfl, a.x, C, a.dx, _, _, rfl, I.ins, IT.cl, IT.nP, insF_p, ?_⟩
  refine ⟨_, rfl, _, rfl, _, rfl, q, _, rfl, hq, fun u hu => ?_⟩
  rw [cut_two]
  have su := same_new (o := .lst [V.int k, V.int l]) hu
  refine ⟨a, g.n, L, w, u, [k, l], rfl, I.same su, SqL.of upd_same, by show 2 ≤ 1000; decide, fun ok => ?_, fun bad => (O.no _ ?_).back su⟩
  · obtain ⟨k, rfl, hk⟩ := nat_of (ok k (by simp))
    obtain ⟨l, rfl, hl⟩ := nat_of (ok l (by simp))
    rw [if_neg (by rw [isK_no, isK_no]; omega)] at st
    intro W H1 s1 nW lW
    have s01 := su.trans s1
    refine ⟨_, rfl, _, _, rfl, rfl, _, rfl, ?_⟩
    by_cases c1 : e < 1
    · rw [decide_eq_true c1]
      exact iteT (iteT (((O.no _ (by rw [st, if_pos (.inl c1)])).back s01).raise S_Malformed.ref))
    · rw [decide_eq_false c1]
      refine iteF ⟨_, rfl, r, _, rfl, .inl (s01.seq hp), _, rfl, _, rfl, _, _, rfl, rfl, Bd.cm (a := 10) (b := 10) ?_ ?_, rfl, _, rfl, ?_⟩
      · exact Nat.lt_of_le_of_lt (show ((g.n : Nat) : Int).natAbs ≤ 6 by omega) (by decide)
      · exact Nat.lt_of_le_of_lt (show ((g.n : Nat) : Int).natAbs ≤ 6 by omega) (by decide)
      rw [ints_len]
      by_cases c2 : p.length = g.n * g.n
      · refine iteNS ?_ ?_
        · rw [c2, Int.natCast_mul]
        rw [if_neg (by rintro (z | z); exact c1 z; exact z c2)] at st
        refine ⟨_, rfl, a, g, L, w, rfl, I.same s01, D, fun c b rr H2 s2 N => ?_, fun c => (O.no _ (by rw [st, if_pos c])).back s01⟩
        rw [if_neg (by rw [c]; exact Bool.noConfusion)] at st
        have s12 := s01.trans s2
        have lW2 := s2 _ _ lW
        refine ⟨_, rfl, g.n, rfl, by omega, by omega, fun Z hZ => comp_rows (walk_rng (n := g.n)) g.n (mI (ent g.n p)) hZ (by omega) (fun _ _ => trivial) (fun i x H3 H' hi s3 y F hF => ?_) (fun rz H3 s3 NZ => ?_) gm_name⟩
        · obtain ⟨rfl, rfl⟩ := y
          have bn : ∀ j : Nat, j ≤ 6 → Bd 10 (j : Int) := fun j hj => Nat.lt_of_le_of_lt (show ((j : Nat) : Int).natAbs ≤ 6 by omega) (by decide)
          refine ⟨rfl, _, rfl, _, rfl, _, rfl, _, _, rfl, rfl, (bn g.n n6).cm (bn i (by omega)), _, rfl, _, rfl, _, rfl, _, _, rfl, rfl, (bn g.n n6).cm (bn i (by omega)), _, rfl, _, _, rfl, rfl, _, rfl, r, _, rfl, (s12.trans s3).seq hp, fun z hz => ?_⟩
          rw [cut_row c2 hi]
          exact hF z _ (same_new hz) hz upd_same
        · have s13 := s12.trans s3
          have lW3 := s3 _ _ lW2
          have et := D.test hk hl (e := e) (p := p) (by omega)
          refine ⟨_, rfl, _, rfl, _, rfl, W, _, 0, _, rfl, rfl, SqL.of lW3, rfl, _, rfl, W, _, 1, _, rfl, rfl, SqL.of lW3, rfl, Z, a.sl k, a.sl l, rz, g.n, ent g.n p, e, w k, w l, rfl, NZ.mat, SqL.of (s13 _ _ (I.slo.row k hk)), SqL.of (s13 _ _ (I.slo.row l hl)), n1, by omega, D.wt k hk, D.wt l hl,
            fun i _ => (sum_bd fun j _ => ent_bd bp i j).mono (by omega), fun j _ => (sum_bd fun i _ => ent_bd bp i j).mono (by omega), be.mono (by decide), fun x ex H4 s4 => ⟨x, rfl, ?_⟩⟩
          have s14 := s13.trans s4
          cases x with
          | false =>
            have no : Sr80.isPlan g.n (atK g k) (atK g l) (Sr80.readPlan g.n e p) = false := by
              cases y : Sr80.isPlan g.n (atK g k) (atK g l) (Sr80.readPlan g.n e p) with
              | false => rfl
              | true => exact absurd (ex.mpr (et.1.mp y)) Bool.false_ne_true
            rw [if_pos (show Sr80.isPlan g.n (Sr82.at_ g (k : Int)) (Sr82.at_ g (l : Int)) (Sr80.readPlan g.n e p) = false from no)] at st
            exact iteT ⟨by show 1 ≤ sizeLine; decide, fun x hx => O.yes _ st x _ (s14.trans (same_new hx)) (s14.free hx) upd_same⟩
          | true =>
            have yes : Sr80.isPlan g.n (atK g k) (atK g l) (Sr80.readPlan g.n e p) = true := et.1.mpr (ex.mp rfl)
            rw [if_neg (show ¬ Sr80.isPlan g.n (Sr82.at_ g (k : Int)) (Sr82.at_ g (l : Int)) (Sr80.readPlan g.n e p) = false from by rw [show Sr80.isPlan g.n (Sr82.at_ g (k : Int)) (Sr82.at_ g (l : Int)) (Sr80.readPlan g.n e p) = true from yes]; exact Bool.noConfusion)] at st
            refine iteF ⟨by show 1 ≤ sizeLine; decide, fun z hz => ?_⟩
            have sz := same_new (o := .lst [.int 1]) hz
            refine ⟨_, rfl, _, rfl, Z, b, rz, rr, g.n, g.n, ent g.n p, dis g, rfl, (NZ.mat.same s4).same sz, ((N.mat.same s3).same s4).same sz, fun i j hi hj => ⟨(ent_bd bp i j).mono (by decide), (D.dis_bd c hi hj).mono (by decide)⟩, fun H5 s5 => ?_⟩
            refine ⟨_, rfl, _, e, rfl, by omega, be.mono (by decide), fun y H6 s6 ny ly => ?_⟩
            refine ⟨z, y, _, _, rfl, rfl, (s5.trans s6) _ _ upd_same, ly, by show 1 + 2 ≤ sizeLine; decide, fun x hx => ?_⟩
            have sx := (s14.trans sz).trans (s5.trans s6)
            refine O.yes _ st x _ (sx.trans (same_new hx)) (sx.free hx) ?_
            rw [upd_same, et.2]; rfl
      · rw [decide_eq_false (show ¬ V.int ((p.length : Nat) : Int) = V.int ((g.n : Int) * (g.n : Int)) from fun z => c2 (by injection z with z; rw [← Int.natCast_mul] at z; omega))]
        exact iteT (((O.no _ (by rw [st, if_pos (.inr c2)])).back s01).raise S_Malformed.ref)
  · obtain ⟨z, hz, bad⟩ := bad
    rw [st, if_pos]
    rcases mem2 hz with rfl | rfl
    · exact .inl (isK_no.mpr bad)
    · exact .inr (isK_no.mpr bad)
end
end EH

namespace EH
open PySem PySem.Spec PyProof.Rows L2
open OT (IM CheapI allF LexI part Sums Prices Feas Met two)
theorem cut_two' {x y z : V} : cutV [x, y, z] none (some 2) = [x, y] := cut_two
theorem bad_pot {n : Nat} {f : List Int} : (f.length ≠ n ∨ f.any (fun x => decide (x < -999) || decide (999 < x)) = true) ↔ ¬ (f.length = n ∧ ∀ z, z ∈ f → -999 ≤ z ∧ z ≤ 999) := by
  rw [List.any_eq_true]
  constructor
  · rintro (h | ⟨x, hx, h⟩) ⟨q1, q2⟩
    · exact h q1
    · have := q2 x hx
      rw [Bool.or_eq_true, decide_eq_true_iff, decide_eq_true_iff] at h
      omega
  · intro h
    by_cases c : f.length = n
    · right
      refine Classical.byContradiction fun q => h ⟨c, fun z hz => ?_⟩
      have : ¬ (decide (z < -999) || decide (999 < z)) = true := fun y => q ⟨z, hz, y⟩
      rw [Bool.or_eq_true, decide_eq_true_iff, decide_eq_true_iff] at this
      omega
    · exact .inl c
section
variable {P : Program} {w : World} {K : Fr} {mg : Str → Option Value} {base : Heap} {f : Addr} {fd : FuncData} {C CR fR : Addr}
theorem ok_checkpot (T : Tx K mg) (TC : Cn K mg) (IT : InsT K C) (A : At K mg "check_potentials" s_check_potentials ["instance", "arguments"] f fd) (G1 : Got P w K mg base (L2.CX P w) 4 "weights_in" ["instance", "slots"] (spWin K C CR))
    (G2 : Got P w K mg base (L2.CX P w) 4 "connected_distances" ["instance"] (spCon K C CR)) (G3 : Got P w K mg base (L2.CX P w) 3 "require_each" ["instance", "numbers", "lowest", "highest"] (spEach K C CR))
    (G4 : Got P w K mg base CX0 1 "are_feasible" ["potentials", "distances"] (spFeas K)) (G5 : Got P w K mg base CX0 4 "value_of_potentials" ["potentials", "first", "second"] (spValue K)) :
    Got P w K mg base (L2.CX P w) 6 "check_potentials" ["instance", "arguments"] (spOp K C CR fun c => ∃ k l p, c = .fair k l p) := by
  obtain ⟨f_weights_in, fd1, m_weights_in, k_weights_in, b_weights_in, F_weights_in⟩ := G1
  obtain ⟨f_connected_distances, fd2, m_connected_distances, k_connected_distances, b_connected_distances, F_connected_distances⟩ := G2
  obtain ⟨f_require_each, fd3, m_require_each, k_require_each, b_require_each, F_require_each⟩ := G3
  obtain ⟨f_are_feasible, fd4, m_are_feasible, k_are_feasible, b_are_feasible, F_are_feasible⟩ := G4
  obtain ⟨f_value_of_potentials, fd5, m_value_of_potentials, k_value_of_potentials, b_value_of_potentials, F_value_of_potentials⟩ := G5
  refine A.got (A.fn.okX sc_check_potentials (fun vs H Q E h => h.len) (fun cdv A outer s H vs Q E hr h => ⟨_, by exact
    (pss_cons (ps_set (i := 2) sc_check_potentials.nd rfl (Or.inl rfl) (pe_ix (ixL (K := K) rfl) (pv 1) pe_int (fun _ _ => rfl)))
      (pss_cons (ps_set (i := 3) sc_check_potentials.nd rfl (Or.inl rfl) (pe_call F_weights_in (hr.mono (by decide)) rfl m_weights_in k_weights_in b_weights_in .nil (passes_call (takes_of rfl rfl rfl rfl) (fun _ _ _ _ h => h)) (by exact (pa_cons (pv 0) (pa_cons (pe_slice (slL (K := K) rfl) (pv 1) po_none (po_some pe_int)) pa_nil)))))
      (pss_cons (ps_expr (pe_call F_require_each (hr.mono (by decide)) rfl m_require_each k_require_each b_require_each .nil (passes_call (takes_of rfl rfl rfl rfl) (fun _ _ _ _ h => h)) (by exact (pa_cons (pv 0) (pa_cons (pv 2) (pa_cons (pe_un un_neg (pe_globI (by rfl) TC.GREATEST_POTENTIAL)) (pa_cons (pe_globI (by rfl) TC.GREATEST_POTENTIAL) pa_nil)))))))
      (pss_cons (ps_set (i := 4) sc_check_potentials.nd rfl (Or.inl rfl) (pe_call F_are_feasible (hr.mono (by decide)) rfl m_are_feasible k_are_feasible b_are_feasible .nil pass0 (by exact (pa_cons (pv 2) (pa_cons (pe_call F_connected_distances (hr.mono (by decide)) rfl m_connected_distances k_connected_distances b_connected_distances .nil (passes_call (takes_of rfl rfl rfl rfl) (fun _ _ _ _ h => h)) (by exact (pa_cons (pv 0) pa_nil))) pa_nil)))))
      (pss_one (ps_ret (pe_op op_cat (pe_lst (pa_cons (pe_ifExp (pt_val (pv 4)) pe_int pe_int) pa_nil)) (pe_call F_value_of_potentials (hr.mono (by decide)) rfl m_value_of_potentials k_value_of_potentials b_value_of_potentials .nil pass0 (by exact (pa_cons (pv 2) (pa_cons (pe_ix (ixL (K := K) rfl) (pv 3) pe_int (fun _ _ => rfl)) (pa_cons (pe_ix (ixL (K := K) rfl) (pv 3) pe_int (fun _ _ => rfl)) pa_nil))))))))))))
    , ?_⟩))
  obtain ⟨a, g, L, w, q, c, rfl, ⟨k, l, p, rfl⟩, I, D, hq, O⟩ := h
  obtain ⟨r, hq, hp⟩ := hq
  have st : Sr82.step (some g) (.fair k l p) = (some g, if Sr82.isK k = false ∨ Sr82.isK l = false then Sr82.say (-2) else if p.length ≠ g.n ∨ p.any (fun x => decide (x < -999) || decide (999 < x)) then Sr82.say (-22) else if Sr82.hangs g.n g.g = false then Sr82.say (-33) else
      ⟨Sr82.bit (Sr82.fair g.n (Sr82.dist g.n g.g) p), Sr66.fr (Sr82.gain g.n p (Sr82.at_ g k) (Sr82.at_ g l))⟩) := rfl
  have n6 := D.n6
  have n1 := D.n1
  refine ⟨_, rfl, q, _, 2, _, rfl, rfl, hq, rfl, ?_⟩
  refine ⟨_, rfl, _, rfl, _, rfl, q, _, rfl, hq, fun u hu => ?_⟩
  rw [cut_two]
  have su := same_new (o := .lst [V.int k, V.int l]) hu
  refine ⟨a, g.n, L, w, u, [k, l], rfl, I.same su, SqL.of upd_same, by show 2 ≤ 1000; decide, fun ok => ?_, fun bad => (O.no _ ?_).back su⟩
  · obtain ⟨k, rfl, hk⟩ := nat_of (ok k (by simp))
    obtain ⟨l, rfl, hl⟩ := nat_of (ok l (by simp))
    rw [if_neg (by rw [isK_no, isK_no]; omega)] at st
    intro W H1 s1 nW lW
    have s01 := su.trans s1
    refine ⟨_, rfl, _, rfl, _, rfl, a, g.n, L, w, r, p, -999, 999, rfl, I.same s01, by omega, s01.seq hp, fun c1 c2 => ?_, fun bad => (O.no _ (by rw [st, if_pos (bad_pot.mpr bad)])).back s01⟩
    rw [if_neg (fun z => bad_pot.mp z ⟨c1, c2⟩)] at st
    refine ⟨_, rfl, _, rfl, a, g, L, w, rfl, I.same s01, D, fun c b rr H2 s2 N => ?_, fun c => (O.no _ (by rw [st, if_pos c])).back s01⟩
    rw [if_neg (by rw [c]; exact Bool.noConfusion)] at st
    have s12 := s01.trans s2
    have lW2 := s2 _ _ lW
    have ep : intL p = vec g.n fun i => p.getD i 0 := by rw [← c1]; exact ints_tab p
    have hp2 := s12.seq hp
    rw [ep] at hp2
    refine ⟨r, b, rr, g.n, fun i => p.getD i 0, dis g, rfl, hp2, N.mat, fun x ex H3 s3 => ?_⟩
    have s13 := s12.trans s3
    have lW3 := s3 _ _ lW2
    have fx : Sr82.fair g.n (Sr82.dist g.n g.g) p = x := by
      rw [Bool.eq_iff_iff, OT.fair_iff]; exact ex.symm
    have fb : ∀ i, i < g.n → Bd 100 (p.getD i 0) := fun i hi => by
      have hi' : i < p.length := by omega
      rw [List.getD_eq_getElem?_getD, List.getElem?_eq_getElem hi']
      have := c2 _ (List.getElem_mem hi')
      exact Nat.lt_of_le_of_lt (show (p[i]).natAbs ≤ 999 by omega) (by decide)
    have go : ∀ y : Int, y = Sr82.bit x → ∀ u, H3 u = none → ∀ v H4, Same (upd H3 u (.lst [.int y])) H4 → (upd H3 u (.lst [.int y])) v = none → H4 v = some (.lst (intL (two (OT.value g.n (fun i => p.getD i 0) (ra g.n (w k)) (ra g.n (w l)))))) →
        rCat (.ref u) (.ref v) H4 Q := fun y ey u hu v H4 s4 nv lv => by
      refine ⟨u, v, _, _, rfl, rfl, s4 _ _ upd_same, lv, by show 1 + 2 ≤ sizeLine; decide, fun z hz => ?_⟩
      have sx := (s13.trans (same_new hu)).trans s4
      refine O.yes _ st z _ (sx.trans (same_new hz)) (sx.free hz) ?_
      rw [upd_same, fx, ey]
      refine congrArg (fun l => some (HO.lst l)) ?_
      show [V.int (Sr82.bit x)] ++ intL (two _) = intL (Sr82.bit x :: _)
      rw [show Sr66.fr (Sr82.gain g.n p (Sr82.at_ g (k : Int)) (Sr82.at_ g (l : Int))) = _ from D.gain hk hl p]; rfl
    have hp3 := s3.seq hp2
    have lWu : ∀ (y : Int) (u : Addr), H3 u = none → upd H3 u (.lst [.int y]) W = _ := fun y u hu => same_new hu _ _ lW3
    have hs : ∀ (y : Int) (u : Addr) (j : Nat), H3 u = none → j < 4 → SqL K (upd H3 u (.lst [.int y])) (a.sl j) (vec g.n (w j)) := fun y u j hu hj => SqL.of (same_new hu _ _ (s13 _ _ (I.slo.row j hj)))
    refine ⟨_, rfl, x, rfl, ?_⟩
    cases x with
    | true =>
      refine iteT ⟨by show 1 ≤ sizeLine; decide, fun u hu => ?_⟩
      exact ⟨_, rfl, _, rfl, W, _, 0, _, rfl, rfl, SqL.of (lWu 1 u hu), rfl, _, rfl, W, _, 1, _, rfl, rfl, SqL.of (lWu 1 u hu), rfl, r, a.sl k, a.sl l, g.n, _, w k, w l, rfl, (same_new hu).seq hp3, hs 1 u k hu hk, hs 1 u l hu hl, by omega, D.wt k hk, D.wt l hl, fb, go 1 rfl u hu⟩
    | false =>
      refine iteF ⟨by show 1 ≤ sizeLine; decide, fun u hu => ?_⟩
      exact ⟨_, rfl, _, rfl, W, _, 0, _, rfl, rfl, SqL.of (lWu 0 u hu), rfl, _, rfl, W, _, 1, _, rfl, rfl, SqL.of (lWu 0 u hu), rfl, r, a.sl k, a.sl l, g.n, _, w k, w l, rfl, (same_new hu).seq hp3, hs 0 u k hu hk, hs 0 u l hu hl, by omega, D.wt k hk, D.wt l hl, fb, go 0 rfl u hu⟩
  · obtain ⟨z, hz, bad⟩ := bad
    rw [st, if_pos]
    rcases mem2 hz with rfl | rfl
    · exact .inl (isK_no.mpr bad)
    · exact .inr (isK_no.mpr bad)
end
end EH

namespace EH
open PySem PySem.Spec PyProof.Rows L2
open OT (IM CheapI allF LexI part Sums Prices Feas Met two)
theorem ne_of_content {H : Hp} {b c : Addr} {o u : HO} (h : H b = some o) (q : H c = some u) (n : o ≠ u) : b ≠ c := fun z => by
  rw [z, q] at h; exact n (Option.some.inj h).symm
theorem Here.setL {C : Addr} {H : Hp} {a : IAd} {n : Nat} {L w : Nat → Nat → Int} (I : Here C H a n L w) {i j : Nat} (hi : i < n) (x : Int) :
    Here C (upd H (a.rl i) (.lst ((tab n (mI L i)).set j (.int x)))) a n (fun a b => if a = i ∧ b = j then x else L a b) w := by
  refine ⟨?_, (I.len.set hi _).congr fun a b _ _ => ?_, ⟨?_, I.slo.inj, I.slo.out, fun k hk => ?_⟩, I.aa, I.ra, I.rs, I.as⟩
  · rw [upd_ne (ne_of_content I.ins (I.len.row i hi) (fun z => by cases z))]; exact I.ins
  · show (if a = i ∧ b = j then V.int x else V.int (L a b)) = V.int (if a = i ∧ b = j then x else L a b)
    split <;> rfl
  · rw [upd_ne (fun z => I.ra i hi z.symm)]; exact I.slo.at_
  · rw [upd_ne (I.rs i k hi hk)]; exact I.slo.row k hk
theorem Here.congrL {C : Addr} {H : Hp} {a : IAd} {n : Nat} {L L' w : Nat → Nat → Int} (I : Here C H a n L w) (h : ∀ i j, L i j = L' i j) : Here C H a n L' w := by
  rw [← show L = L' from funext fun i => funext fun j => h i j]; exact I
theorem Kept.row {H H' : Hp} {a : IAd} {n i : Nat} {o : HO} (k : Kept H H' a n) (hi : i < n) : Kept H (upd H' (a.rl i) o) a n := fun b u h q1 q2 => by
  rw [upd_ne (q2 i hi)]; exact k b u h q1 q2
theorem Kept.slots {H H' : Hp} {a : IAd} {n : Nat} {o : HO} (k : Kept H H' a n) : Kept H (upd H' a.ar o) a n := fun b u h q1 q2 => by
  rw [upd_ne q1]; exact k b u h q1 q2
theorem Kept.new {H H' : Hp} {a : IAd} {n : Nat} {p : Addr} {o : HO} (k : Kept H H' a n) (h : H' p = none) : Kept H (upd H' p o) a n := fun b u e q1 q2 => same_new h _ _ (k b u e q1 q2)
def slPut (a : IAd) (k : Nat) (p : Addr) : Nat → Addr := fun k' => if k' = k then p else a.sl k'
def wPut (w : Nat → Nat → Int) (k : Nat) (v : Nat → Int) : Nat → Nat → Int := fun k' => if k' = k then v else w k'
theorem Here.setS {C : Addr} {H H1 : Hp} {a : IAd} {n : Nat} {L w : Nat → Nat → Int} (I : Here C H a n L w) (s : Same H H1) {p : Addr} {v : Nat → Int} (np : H p = none) (lp : H1 p = some (.lst (vec n v))) {k : Nat} (hk : k < 4) :
    Here C (upd H1 a.ar (.lst ((tab 4 fun k => .ref (a.sl k)).set k (.ref p)))) { a with sl := slPut a k p } n L (wPut w k v) := by
  have ne : ∀ b o, H b = some o → p ≠ b := fun b o h z => by rw [← z, np] at h; cases h
  have I1 := I.same s
  refine ⟨?_, ⟨?_, I.len.inj, I.len.out, fun i hi => ?_⟩, ⟨?_, fun x y hx hy e => ?_, fun x hx => ?_, fun x hx => ?_⟩, I.aa, I.ra, fun i x hi hx => ?_, fun x hx => ?_⟩
  · show upd H1 a.ar _ a.x = _
    rw [upd_ne (ne_of_content I1.ins I1.slo.at_ (fun z => by cases z))]; exact I1.ins
  · show upd H1 a.ar _ a.al = _
    rw [upd_ne I.aa]; exact I1.len.at_
  · show upd H1 a.ar _ (a.rl i) = _
    rw [upd_ne (I.ra i hi)]; exact I1.len.row i hi
  · show upd H1 a.ar _ a.ar = _
    rw [upd_same, tab_set]
    refine congrArg (fun l => some (HO.lst l)) (tab_congr fun x _ => ?_)
    show _ = V.ref (slPut a k p x)
    unfold slPut
    split <;> rfl
  · change slPut a k p x = slPut a k p y at e
    unfold slPut at e
    by_cases c1 : x = k <;> by_cases c2 : y = k
    · rw [c1, c2]
    · rw [if_pos c1, if_neg c2] at e; exact absurd e (ne _ _ (I.slo.row y hy))
    · rw [if_neg c1, if_pos c2] at e; exact absurd e.symm (ne _ _ (I.slo.row x hx))
    · rw [if_neg c1, if_neg c2] at e; exact I.slo.inj x y hx hy e
  · show slPut a k p x ≠ a.ar
    unfold slPut
    split
    · exact ne _ _ I.slo.at_
    · exact I.slo.out x hx
  · show upd H1 a.ar _ (slPut a k p x) = some (.lst (tab n fun i => .int (wPut w k v x i)))
    unfold slPut wPut
    by_cases c : x = k
    · rw [if_pos c, if_pos c, upd_ne (ne _ _ I.slo.at_)]; exact lp
    · rw [if_neg c, if_neg c, upd_ne (I.slo.out x hx)]; exact I1.slo.row x hx
  · show slPut a k p x ≠ a.rl i
    unfold slPut
    split
    · exact ne _ _ (I.len.row i hi)
    · exact I.rs i x hi hx
  · show slPut a k p x ≠ a.al
    unfold slPut
    split
    · exact ne _ _ I.len.at_
    · exact I.as x hx
theorem slPut_new {H : Hp} {a : IAd} {k : Nat} {p : Addr} (np : H p = none) : ∀ x, x < 4 → slPut a k p x = a.sl x ∨ H (slPut a k p x) = none := fun x _ => by
  unfold slPut
  split
  · exact .inr np
  · exact .inl rfl
theorem step_way {g : Sr82.Ground} {i j x : Int} : Sr82.step (some g) (.way i j x) = if Sr82.isP g i = false ∨ Sr82.isP g j = false then (some g, Sr82.say (-2)) else if i = j ∨ x < 0 ∨ 9 < x then (some g, Sr82.say (-22)) else
    (some { g with g := Sr82.setWay g.g i.toNat j.toNat x.toNat }, Sr82.say (Sr82.way g.g i.toNat j.toNat : Nat)) := by
  show (match (if Sr82.isP g i = false ∨ Sr82.isP g j = false then (none, Sr82.say (-2)) else if i = j ∨ x < 0 ∨ (Sr82.LONG : Int) < x then (none, Sr82.say (-22)) else (some { g with g := Sr82.setWay g.g i.toNat j.toNat x.toNat }, Sr82.say (Sr82.way g.g i.toNat j.toNat : Nat)) : Option Sr82.Ground × Sr82.Ans) with
      | (some r, a) => (some r, a)
      | (none, a) => (some g, a)) = _
  by_cases c : Sr82.isP g i = false ∨ Sr82.isP g j = false
  · rw [if_pos c, if_pos c]
  · rw [if_neg c, if_neg c]
    by_cases c2 : i = j ∨ x < 0 ∨ 9 < x
    · rw [if_pos c2, if_pos (show i = j ∨ x < 0 ∨ (Sr82.LONG : Int) < x from c2)]
    · rw [if_neg c2, if_neg (show ¬ (i = j ∨ x < 0 ∨ (Sr82.LONG : Int) < x) from c2)]
abbrev s_set_edge : Stmt := top 54
theorem sc_set_edge : FnScope ["instance", "arguments", "i", "j", "length", "old_length"] ["instance", "arguments"] (defScope s_set_edge) := ⟨rfl, rfl, rfl, by decide +kernel, rfl, by decide +kernel, by decide +kernel⟩
section
variable {P : Program} {w : World} {K : Fr} {mg : Str → Option Value} {base : Heap} {f : Addr} {fd : FuncData} {C CR fR : Addr}
theorem ok_setedge (T : Tx K mg) (TC : Cn K mg) (IT : InsT K C) (R : Rf K mg CR fR) (A : At K mg "set_edge" s_set_edge ["instance", "arguments"] f fd) (G1 : Got P w K mg base (L2.CX P w) 3 "require_points" ["instance", "points"] (spPts K C CR)) :
    Got P w K mg base (L2.CX P w) 5 "set_edge" ["instance", "arguments"] (spOp K C CR fun c => ∃ i j x, c = .way i j x) := by
  have RT := R.rt
  obtain ⟨C_Malformed, f_Malformed, S_Malformed⟩ := R.mal
  obtain ⟨f_require_points, fd1, m_require_points, k_require_points, b_require_points, F_require_points⟩ := G1
  refine A.got (A.fn.okX sc_set_edge (fun vs H Q E h => h.len) (fun cdv A outer s H vs Q E hr h => ⟨_, by exact
    (pss_cons (ps_set (i := 2) sc_set_edge.nd rfl (Or.inl rfl) (pe_ix (ixL (K := K) rfl) (pv 1) pe_int (fun _ _ => rfl)))
      (pss_cons (ps_set (i := 3) sc_set_edge.nd rfl (Or.inl rfl) (pe_ix (ixL (K := K) rfl) (pv 1) pe_int (fun _ _ => rfl)))
      (pss_cons (ps_set (i := 4) sc_set_edge.nd rfl (Or.inl rfl) (pe_ix (ixL (K := K) rfl) (pv 1) pe_int (fun _ _ => rfl)))
      (pss_cons (ps_expr (pe_call F_require_points (hr.mono (by decide)) rfl m_require_points k_require_points b_require_points .nil (passes_call (takes_of rfl rfl rfl rfl) (fun _ _ _ _ h => h)) (by exact (pa_cons (pv 0) (pa_cons (pe_lst (pa_cons (pv 2) (pa_cons (pv 3) pa_nil))) pa_nil)))))
      (pss_cons (ps_if (PW.pt (pw_or (pt_cmpR op_eq (pv 2) (pv 3) (nomark _)) (pw_or1 (pt_not (pt_chain op_le op_le pe_int (pv 4) (pe_globI (by rfl) TC.LONGEST_EDGE)))))) (pss_one (ps_raise rfl (takes_of rfl rfl rfl rfl) (pmk_ref RT S_Malformed hr))) pss_nil)
      (pss_cons (ps_set (i := 5) sc_set_edge.nd rfl (Or.inl rfl) (pe_ix (ixL (K := K) rfl) (pe_ix (ixL (K := K) rfl) (peFld (K := K) rfl (pv 0) rfl) (pv 2) (fun _ _ => rfl)) (pv 3) (fun _ _ => rfl)))
      (pss_cons (ps_asg (pv 4) (pg_sub (pe_ix (ixL (K := K) rfl) (peFld (K := K) rfl (pv 0) rfl) (pv 2) (fun _ _ => rfl)) (pv 3) set_list))
      (pss_cons (ps_asg (pv 4) (pg_sub (pe_ix (ixL (K := K) rfl) (peFld (K := K) rfl (pv 0) rfl) (pv 3) (fun _ _ => rfl)) (pv 2) set_list))
      (pss_one (ps_ret (pe_lst (pa_cons (pv 5) pa_nil))))))))))))
    , ?_⟩))
  obtain ⟨a, g, L, w, q, c, rfl, ⟨i, j, x, rfl⟩, I, D, hq, O⟩ := h
  have st := step_way (g := g) (i := i) (j := j) (x := x)
  refine ⟨_, rfl, q, _, 0, _, rfl, rfl, hq, rfl, _, rfl, q, _, 1, _, rfl, rfl, hq, rfl, _, rfl, q, _, 2, _, rfl, rfl, hq, rfl, ?_⟩
  refine ⟨_, rfl, _, rfl, _, rfl, by show 2 ≤ sizeLine; decide, fun u hu => ?_⟩
  have su := same_new (o := .lst [V.int i, V.int j]) hu
  refine ⟨a, g.n, L, w, u, [i, j], rfl, I.same su, SqL.of upd_same, fun ok => ?_, fun bad => (O.no _ ?_).back su⟩
  · have oi := ok i (by simp)
    have oj := ok j (by simp)
    rw [if_neg (by rw [isP_no, isP_no]; omega)] at st
    obtain ⟨i, rfl⟩ : ∃ n : Nat, i = (n : Int) := ⟨i.toNat, by omega⟩
    obtain ⟨j, rfl⟩ : ∃ n : Nat, j = (n : Int) := ⟨j.toNat, by omega⟩
    have hi : i < g.n := by omega
    have hj : j < g.n := by omega
    have bad : ((i : Int) = (j : Int) ∨ x < 0 ∨ 9 < x) → Fail K CR (upd H u (.lst [V.int (i : Int), V.int (j : Int)])) (-22) E := fun h => (O.no _ (by rw [st, if_pos h])).back su
    have sI := I.same su
    have sq := su.seq hq
    refine ⟨_, rfl, _, rfl, rfl, _, rfl, ?_⟩
    by_cases c1 : (i : Int) = (j : Int)
    · rw [decide_eq_true (congrArg V.int c1)]
      exact iteT (iteT ((bad (.inl c1)).raise S_Malformed.ref))
    rw [decide_eq_false (show ¬ V.int (i : Int) = V.int (j : Int) from fun z => c1 (by injection z))]
    refine iteF ⟨_, rfl, _, _, rfl, rfl, _, rfl, ?_⟩
    by_cases c2 : 0 ≤ x
    case neg =>
      rw [decide_eq_false c2]
      exact iteF ⟨_, rfl, iteT ((bad (.inr (.inl (by omega)))).raise S_Malformed.ref)⟩
    rw [decide_eq_true c2]
    refine iteT ⟨_, _, rfl, rfl, _, rfl, ?_⟩
    by_cases c3 : x ≤ 9
    case neg =>
      rw [decide_eq_false c3]
      exact iteT ((bad (.inr (.inr (by omega)))).raise S_Malformed.ref)
    rw [decide_eq_true c3]
    rw [if_neg (by omega)] at st
    obtain ⟨y, rfl⟩ : ∃ n : Nat, x = (n : Int) := ⟨x.toNat, by omega⟩
    refine iteF ⟨_, rfl, a.x, C, a.dx, _, _, rfl, sI.ins, IT.cl, IT.nL, insF_l, _, rfl, a.al, _, i, _, rfl, rfl, SqL.of sI.len.at_, tab_at hi, _, rfl, a.rl i, _, j, _, rfl, rfl, SqL.of (sI.len.row i hi), tab_at hj, ?_⟩
    have J1 := sI.setL (j := j) hi (y : Int)
    refine ⟨_, rfl, _, rfl, a.x, C, a.dx, _, _, rfl, sI.ins, IT.cl, IT.nL, insF_l, _, rfl, a.al, _, i, _, rfl, rfl, SqL.of sI.len.at_, tab_at hi, _, rfl, a.rl i, _, _, j, rfl, rfl, sI.len.row i hi, ixn (by rw [tab_len]; exact hj), ?_⟩
    have J2 := J1.setL (j := i) hj (y : Int)
    refine ⟨_, rfl, _, rfl, a.x, C, a.dx, _, _, rfl, J1.ins, IT.cl, IT.nL, insF_l, _, rfl, a.al, _, j, _, rfl, rfl, SqL.of J1.len.at_, tab_at hj, _, rfl, a.rl j, _, _, i, rfl, rfl, J1.len.row j hj, ixn (by rw [tab_len]; exact hi), ?_⟩
    refine ⟨_, rfl, by show 1 ≤ sizeLine; decide, fun z hz => ?_⟩
    have kp := (((Kept.of (a := a) (n := g.n) su).row (o := .lst ((tab g.n (mI L i)).set j (.int (y : Int)))) hi).row (o := .lst ((tab g.n (mI (fun a b => if a = i ∧ b = j then (y : Int) else L a b) j)).set i (.int (y : Int)))) hj)
    have Jz := (J2.same (same_new (o := .lst [V.int (L i j)]) hz)).congrL (L' := fun a b => if (a = i ∧ b = j) ∨ (a = j ∧ b = i) then (y : Int) else L a b) (fun a b => by
      by_cases q1 : a = j ∧ b = i
      · rw [if_pos q1, if_pos (.inr q1)]
      · rw [if_neg q1]
        by_cases q2 : a = i ∧ b = j
        · rw [if_pos q2, if_pos (.inl q2)]
        · rw [if_neg q2, if_neg (by rintro (h | h); exact q2 h; exact q1 h)])
    refine O.put _ _ _ w a.sl _ z st (kp.new hz) (fun k _ => .inl rfl) Jz (D.way hi hj (by omega) (by omega)) rfl ?_ ?_
    · cases e : H z with
      | none => rfl
      | some o =>
        exfalso
        have z1 : z ≠ a.ar := fun q => by rw [q] at hz; exact absurd hz (by rw [J2.slo.at_]; exact Option.some_ne_none _)
        have z2 : ∀ i', i' < g.n → z ≠ a.rl i' := fun i' hi' q => by rw [q] at hz; exact absurd hz (by rw [J2.len.row i' hi']; exact Option.some_ne_none _)
        have := kp z o e z1 z2
        rw [hz] at this; cases this
    · rw [upd_same]
      show some (HO.lst [V.int (L i j)]) = some (HO.lst [V.int ((Sr82.way g.g i j : Nat) : Int)])
      rw [D.ways i j hi hj]
  · obtain ⟨z, hz, bad⟩ := bad
    rw [st, if_pos]
    rcases mem2 hz with rfl | rfl
    · exact .inl (isP_no.mpr bad)
    · exact .inr (isP_no.mpr bad)
end
end EH

namespace EH
open PySem PySem.Spec PyProof.Rows L2
open OT (IM CheapI allF LexI part Sums Prices Feas Met two)
theorem Kept.free {H H' : Hp} {a : IAd} {n : Nat} {C : Addr} {L w : Nat → Nat → Int} (k : Kept H H' a n) (I : Here C H' a n L w) {z : Addr} (h : H' z = none) : H z = none := by
  cases e : H z with
  | none => rfl
  | some o =>
    exfalso
    have z1 : z ≠ a.ar := fun q => by rw [q] at h; exact absurd h (by rw [I.slo.at_]; exact Option.some_ne_none _)
    have z2 : ∀ i', i' < n → z ≠ a.rl i' := fun i' hi' q => by rw [q] at h; exact absurd h (by rw [I.len.row i' hi']; exact Option.some_ne_none _)
    have := k z o e z1 z2
    rw [h] at this; cases this
/-- a slot is set, [0] is answered -/
theorem Outs.putS {K : Fr} {C CR : Addr} {H H1 : Hp} {a : IAd} {g : Sr82.Ground} {L w : Nat → Nat → Int} {c : Sr82.Call} {Q : VK} {E : XK} (O : Outs K C CR H a g c Q E) (I : Here C H a g.n L w) (s : Same H H1) {p : Addr} {v : Nat → Int} (np : H p = none) (lp : H1 p = some (.lst (vec g.n v)))
    {k : Nat} (hk : k < 4) {b : Sr80.Spread} (st : Sr82.step (some g) c = (some (Sr82.put g (k : Int) b), Sr82.say 0)) (D : Dat (Sr82.put g (k : Int) b) L (wPut w k v)) :
    ∀ z, upd H1 a.ar (.lst ((tab 4 fun k => .ref (a.sl k)).set k (.ref p))) z = none → Q (.ref z) (upd (upd H1 a.ar (.lst ((tab 4 fun k => .ref (a.sl k)).set k (.ref p)))) z (.lst [.int 0])) := fun z hz => by
  have J := I.setS s np lp hk
  have kp := (Kept.of (a := a) (n := g.n) s).slots (o := .lst ((tab 4 fun k => .ref (a.sl k)).set k (.ref p)))
  refine O.put _ _ L (wPut w k v) (slPut a k p) _ z st (kp.new hz) (slPut_new np) (J.same (same_new hz)) D rfl ?_ upd_same
  have kp2 : Kept H (upd H1 a.ar (.lst ((tab 4 fun k => .ref (a.sl k)).set k (.ref p)))) { a with sl := slPut a k p } g.n := kp
  exact kp2.free J hz
theorem okW_iff {n : Nat} {l : List Int} : Sr80.okW n l = true ↔ (l.length = n ∧ ∀ z, z ∈ l → 0 ≤ z ∧ z ≤ 20) ∧ l.any (fun x => decide (0 < x)) = true := by
  unfold Sr80.okW
  rw [Bool.and_eq_true, Bool.and_eq_true, decide_eq_true_iff, List.all_eq_true]
  constructor
  · rintro ⟨h1, h2, h3⟩
    refine ⟨⟨h1, fun z hz => ?_⟩, h3⟩
    have := h2 z hz
    rw [Bool.and_eq_true, decide_eq_true_iff, decide_eq_true_iff] at this; exact this
  · rintro ⟨⟨h1, h2⟩, h3⟩
    exact ⟨h1, fun z hz => by rw [Bool.and_eq_true, decide_eq_true_iff, decide_eq_true_iff]; exact h2 z hz, h3⟩
theorem sum_any : ∀ {l : List Int}, (∀ z, z ∈ l → 0 ≤ z) → (0 ≤ l.sum ∧ (l.any (fun x => decide (0 < x)) = true ↔ 0 < l.sum))
  | [], _ => ⟨Int.le_refl _, by simp⟩
  | x :: l, h => by
    obtain ⟨h1, h2⟩ := sum_any (l := l) fun z hz => h z (List.mem_cons_of_mem _ hz)
    have h0 := h x List.mem_cons_self
    rw [List.sum_cons, List.any_cons, Bool.or_eq_true, decide_eq_true_iff, h2]
    exact ⟨by omega, by omega⟩
theorem step_spread {g : Sr82.Ground} {k : Int} {l : List Int} : Sr82.step (some g) (.spread k l) = if Sr82.isK k = false then (some g, Sr82.say (-2)) else if Sr80.okW g.n l = false then (some g, Sr82.say (-22)) else
    (some (Sr82.put g k (Sr80.spreadOf (l.map fun x => x.toNat))), Sr82.say 0) := by
  show (match (if Sr82.isK k = false then (none, Sr82.say (-2)) else if Sr80.okW g.n l = false then (none, Sr82.say (-22)) else (some (Sr82.put g k (Sr80.spreadOf (l.map fun x => x.toNat))), Sr82.say 0) : Option Sr82.Ground × Sr82.Ans) with
      | (some r, a) => (some r, a)
      | (none, a) => (some g, a)) = _
  by_cases c : Sr82.isK k = false
  · rw [if_pos c, if_pos c]
  · rw [if_neg c, if_neg c]
    by_cases c2 : Sr80.okW g.n l = false
    · rw [if_pos c2, if_pos c2]
    · rw [if_neg c2, if_neg c2]
theorem step_image {g : Sr82.Ground} {k m : Int} {f : List Int} : Sr82.step (some g) (.image k m f) = if Sr82.isK k = false ∨ Sr82.isK m = false then (some g, Sr82.say (-2)) else if f.length ≠ g.n ∨ f.any (fun x => decide (x < 0) || decide ((g.n : Int) ≤ x)) then (some g, Sr82.say (-22)) else
    (some (Sr82.put g m (Sr80.image g.n (Sr82.at_ g k) (f.map fun x => x.toNat))), Sr82.say 0) := by
  show (match (if Sr82.isK k = false ∨ Sr82.isK m = false then (none, Sr82.say (-2)) else if f.length ≠ g.n ∨ f.any (fun x => decide (x < 0) || decide ((g.n : Int) ≤ x)) then (none, Sr82.say (-22)) else (some (Sr82.put g m (Sr80.image g.n (Sr82.at_ g k) (f.map fun x => x.toNat))), Sr82.say 0) : Option Sr82.Ground × Sr82.Ans) with
      | (some r, a) => (some r, a)
      | (none, a) => (some g, a)) = _
  by_cases c : Sr82.isK k = false ∨ Sr82.isK m = false
  · rw [if_pos c, if_pos c]
  · rw [if_neg c, if_neg c]
    by_cases c2 : f.length ≠ g.n ∨ f.any (fun x => decide (x < 0) || decide ((g.n : Int) ≤ x))
    · rw [if_pos c2, if_pos c2]
    · rw [if_neg c2, if_neg c2]
theorem step_middle {g : Sr82.Ground} {k l m : Int} : Sr82.step (some g) (.middle k l m) = if Sr82.isK k = false ∨ Sr82.isK l = false ∨ Sr82.isK m = false then (some g, Sr82.say (-2)) else
    if (Sr80.mixed g.n (Sr82.at_ g k) (Sr82.at_ g l) (Sr58.frac 1 2)).all (fun x => decide (x.d ≤ 100000)) then (some (Sr82.put g m (Sr80.mixed g.n (Sr82.at_ g k) (Sr82.at_ g l) (Sr58.frac 1 2))), Sr82.say 0) else (some g, Sr82.say (-75)) := by
  show (match (if Sr82.isK k = false ∨ Sr82.isK l = false ∨ Sr82.isK m = false then (none, Sr82.say (-2)) else if (Sr80.mixed g.n (Sr82.at_ g k) (Sr82.at_ g l) (Sr58.frac 1 2)).all (fun x => decide (x.d ≤ 100000)) then (some (Sr82.put g m (Sr80.mixed g.n (Sr82.at_ g k) (Sr82.at_ g l) (Sr58.frac 1 2))), Sr82.say 0) else (none, Sr82.say (-75)) : Option Sr82.Ground × Sr82.Ans) with
      | (some r, a) => (some r, a)
      | (none, a) => (some g, a)) = _
  by_cases c : Sr82.isK k = false ∨ Sr82.isK l = false ∨ Sr82.isK m = false
  · rw [if_pos c, if_pos c]
  · rw [if_neg c, if_neg c]
    by_cases c2 : (Sr80.mixed g.n (Sr82.at_ g k) (Sr82.at_ g l) (Sr58.frac 1 2)).all (fun x => decide (x.d ≤ 100000)) = true
    · rw [if_pos c2, if_pos c2]
    · rw [if_neg c2, if_neg c2]
theorem bad_map {n : Nat} {f : List Int} : (f.length ≠ n ∨ f.any (fun x => decide (x < 0) || decide ((n : Int) ≤ x)) = true) ↔ ¬ (f.length = n ∧ ∀ z, z ∈ f → 0 ≤ z ∧ z ≤ (n : Int) - 1) := by
  rw [List.any_eq_true]
  constructor
  · rintro (h | ⟨x, hx, h⟩) ⟨q1, q2⟩
    · exact h q1
    · have := q2 x hx
      rw [Bool.or_eq_true, decide_eq_true_iff, decide_eq_true_iff] at h
      omega
  · intro h
    by_cases c : f.length = n
    · right
      refine Classical.byContradiction fun q => h ⟨c, fun z hz => ?_⟩
      have : ¬ (decide (z < 0) || decide ((n : Int) ≤ z)) = true := fun y => q ⟨z, hz, y⟩
      rw [Bool.or_eq_true, decide_eq_true_iff, decide_eq_true_iff] at this
      omega
    · exact .inl c
abbrev s_set_distribution : Stmt := top 55
theorem sc_set_distribution : FnScope ["instance", "arguments", "k", "weights"] ["instance", "arguments"] (defScope s_set_distribution) := ⟨rfl, rfl, rfl, by decide +kernel, rfl, by decide +kernel, by decide +kernel⟩
abbrev s_map_distribution : Stmt := top 64
theorem sc_map_distribution : FnScope ["instance", "arguments", "k", "m", "targets"] ["instance", "arguments"] (defScope s_map_distribution) := ⟨rfl, rfl, rfl, by decide +kernel, rfl, by decide +kernel, by decide +kernel⟩
abbrev s_average : Stmt := top 65
theorem sc_average : FnScope ["instance", "arguments", "weights", "mean", "weight"] ["instance", "arguments"] (defScope s_average) := ⟨rfl, rfl, rfl, by decide +kernel, rfl, by decide +kernel, by decide +kernel⟩
section
variable {P : Program} {w : World} {K : Fr} {mg : Str → Option Value} {base : Heap} {f : Addr} {fd : FuncData} {C CR fR : Addr}
theorem ok_setdist (T : Tx K mg) (TC : Cn K mg) (IT : InsT K C) (R : Rf K mg CR fR) (A : At K mg "set_distribution" s_set_distribution ["instance", "arguments"] f fd) (G1 : Got P w K mg base (L2.CX P w) 3 "require_slots" ["slots"] (spSlt K CR))
    (G2 : Got P w K mg base (L2.CX P w) 3 "require_each" ["instance", "numbers", "lowest", "highest"] (spEach K C CR)) :
    Got P w K mg base (L2.CX P w) 5 "set_distribution" ["instance", "arguments"] (spOp K C CR fun c => ∃ k l, c = .spread k l) := by
  have RT := R.rt
  obtain ⟨C_Malformed, f_Malformed, S_Malformed⟩ := R.mal
  obtain ⟨f_require_slots, fd1, m_require_slots, k_require_slots, b_require_slots, F_require_slots⟩ := G1
  obtain ⟨f_require_each, fd2, m_require_each, k_require_each, b_require_each, F_require_each⟩ := G2
  refine A.got (A.fn.okX sc_set_distribution (fun vs H Q E h => h.len) (fun cdv A outer s H vs Q E hr h => ⟨_, by exact
    (pss_cons (ps_set (i := 2) sc_set_distribution.nd rfl (Or.inl rfl) (pe_ix (ixL (K := K) rfl) (pv 1) pe_int (fun _ _ => rfl)))
      (pss_cons (ps_set (i := 3) sc_set_distribution.nd rfl (Or.inl rfl) (pe_ix (ixL (K := K) rfl) (pv 1) pe_int (fun _ _ => rfl)))
      (pss_cons (ps_expr (pe_call F_require_slots (hr.mono (by decide)) rfl m_require_slots k_require_slots b_require_slots .nil (passes_call (takes_of rfl rfl rfl rfl) (fun _ _ _ _ h => h)) (by exact (pa_cons (pe_lst (pa_cons (pv 2) pa_nil)) pa_nil))))
      (pss_cons (ps_expr (pe_call F_require_each (hr.mono (by decide)) rfl m_require_each k_require_each b_require_each .nil (passes_call (takes_of rfl rfl rfl rfl) (fun _ _ _ _ h => h)) (by exact (pa_cons (pv 0) (pa_cons (pv 3) (pa_cons pe_int (pa_cons (pe_globI (by rfl) TC.GREATEST_WEIGHT) pa_nil)))))))
      (pss_cons (ps_if (pt_cmpR op_eq (pe_callB (id := "sum") (csum (K := K) rfl rfl) (by rfl) T.sum (by decide +kernel) (pa_cons (pv 3) pa_nil)) pe_int (nomark _)) (pss_one (ps_raise rfl (takes_of rfl rfl rfl rfl) (pmk_ref RT S_Malformed hr))) pss_nil)
      (pss_cons (ps_asg (pe_callTy (T := "list") (clst (K := K) rfl) (by rfl) T.list (by decide +kernel) (pa_cons (pv 3) pa_nil)) (pg_sub (peFld (K := K) rfl (pv 0) rfl) (pv 2) set_list))
      (pss_one (ps_ret (pe_lst (pa_cons pe_int pa_nil))))))))))
    , ?_⟩))
  obtain ⟨a, g, L, w, q, c, rfl, ⟨k, l, rfl⟩, I, D, hq, O⟩ := h
  obtain ⟨r, hq, hl⟩ := hq
  have st := step_spread (g := g) (k := k) (l := l)
  have n1 := D.n1
  refine ⟨_, rfl, q, _, 0, _, rfl, rfl, hq, rfl, _, rfl, q, _, 1, _, rfl, rfl, hq, rfl, ?_⟩
  refine ⟨_, rfl, by show 1 ≤ sizeLine; decide, fun u hu => ?_⟩
  have su := same_new (o := .lst [V.int k]) hu
  refine ⟨u, [k], rfl, SqL.of upd_same, fun ok => ?_, fun bad => (O.no _ ?_).back su⟩
  · obtain ⟨k, rfl, hk⟩ := nat_of (ok k (by simp))
    rw [if_neg (by rw [isK_no]; omega)] at st
    have hl1 := su.seq hl
    refine ⟨_, rfl, _, rfl, a, g.n, L, w, r, l, 0, 20, rfl, I.same su, by omega, hl1, fun c1 c2 => ?_, fun bad => (O.no _ ?_).back su⟩
    · obtain ⟨s0, sa⟩ := sum_any fun z hz => (c2 z hz).1
      refine ⟨_, rfl, r, l, rfl, hl1, rfl, _, rfl, ?_⟩
      by_cases c3 : l.sum = 0
      · rw [decide_eq_true (congrArg V.int c3)]
        refine iteT (((O.no _ ?_).back su).raise S_Malformed.ref)
        rw [st, if_pos]
        cases y : Sr80.okW g.n l with
        | false => rfl
        | true => have := sa.mp (okW_iff.mp y).2; omega
      · rw [decide_eq_false (show ¬ V.int l.sum = V.int 0 from fun z => c3 (by injection z))]
        have c4 : 0 < l.sum := by omega
        rw [if_neg (by rw [okW_iff.mpr ⟨⟨c1, c2⟩, sa.mpr c4⟩]; exact Bool.noConfusion)] at st
        refine iteF ⟨_, rfl, r, _, rfl, .inl hl1, fun p hp => ?_⟩
        have sp := su.trans (same_new (o := .lst (intL l)) hp)
        have el : intL l = vec g.n fun i => l.getD i 0 := by rw [← c1]; exact ints_tab l
        have Ip := I.same sp
        refine ⟨_, rfl, a.x, C, a.dx, _, _, rfl, Ip.ins, IT.cl, IT.nS, insF_s, _, rfl, a.ar, _, _, k, rfl, rfl, Ip.slo.at_, ixn (by rw [tab_len]; exact hk), ?_⟩
        exact ⟨by show 1 ≤ sizeLine; decide, O.putS I sp (su.free hp) (by rw [upd_same, el]) hk st (D.spread hk c1 c2 c4)⟩
    · rw [st, if_pos]
      cases y : Sr80.okW g.n l with
      | false => rfl
      | true => exact absurd (okW_iff.mp y).1 bad
  · obtain ⟨z, hz, bad⟩ := bad
    rw [mem1 hz] at bad
    rw [st, if_pos (isK_no.mpr bad)]
theorem ok_mapdist (T : Tx K mg) (TC : Cn K mg) (IT : InsT K C) (A : At K mg "map_distribution" s_map_distribution ["instance", "arguments"] f fd) (G1 : Got P w K mg base (L2.CX P w) 3 "require_slots" ["slots"] (spSlt K CR))
    (G2 : Got P w K mg base (L2.CX P w) 3 "require_each" ["instance", "numbers", "lowest", "highest"] (spEach K C CR)) (G3 : Got P w K mg base CX0 1 "mapped_weights" ["weights", "targets"] (spMapped K)) :
    Got P w K mg base (L2.CX P w) 5 "map_distribution" ["instance", "arguments"] (spOp K C CR fun c => ∃ k m f, c = .image k m f) := by
  obtain ⟨f_require_slots, fd1, m_require_slots, k_require_slots, b_require_slots, F_require_slots⟩ := G1
  obtain ⟨f_require_each, fd2, m_require_each, k_require_each, b_require_each, F_require_each⟩ := G2
  obtain ⟨f_mapped_weights, fd3, m_mapped_weights, k_mapped_weights, b_mapped_weights, F_mapped_weights⟩ := G3
  refine A.got (A.fn.okX sc_map_distribution (fun vs H Q E h => h.len) (fun cdv A outer s H vs Q E hr h => ⟨_, by exact
    (pss_cons (ps_set (i := 2) sc_map_distribution.nd rfl (Or.inl rfl) (pe_ix (ixL (K := K) rfl) (pv 1) pe_int (fun _ _ => rfl)))
      (pss_cons (ps_set (i := 3) sc_map_distribution.nd rfl (Or.inl rfl) (pe_ix (ixL (K := K) rfl) (pv 1) pe_int (fun _ _ => rfl)))
      (pss_cons (ps_set (i := 4) sc_map_distribution.nd rfl (Or.inl rfl) (pe_ix (ixL (K := K) rfl) (pv 1) pe_int (fun _ _ => rfl)))
      (pss_cons (ps_expr (pe_call F_require_slots (hr.mono (by decide)) rfl m_require_slots k_require_slots b_require_slots .nil (passes_call (takes_of rfl rfl rfl rfl) (fun _ _ _ _ h => h)) (by exact (pa_cons (pe_lst (pa_cons (pv 2) (pa_cons (pv 3) pa_nil))) pa_nil))))
      (pss_cons (ps_expr (pe_call F_require_each (hr.mono (by decide)) rfl m_require_each k_require_each b_require_each .nil (passes_call (takes_of rfl rfl rfl rfl) (fun _ _ _ _ h => h)) (by exact (pa_cons (pv 0) (pa_cons (pv 4) (pa_cons pe_int (pa_cons (pe_op op_sub (peFld (K := K) rfl (pv 0) rfl) pe_int) pa_nil)))))))
      (pss_cons (ps_asg (pe_call F_mapped_weights (hr.mono (by decide)) rfl m_mapped_weights k_mapped_weights b_mapped_weights .nil pass0 (by exact (pa_cons (pe_ix (ixL (K := K) rfl) (peFld (K := K) rfl (pv 0) rfl) (pv 2) (fun _ _ => rfl)) (pa_cons (pv 4) pa_nil)))) (pg_sub (peFld (K := K) rfl (pv 0) rfl) (pv 3) set_list))
      (pss_one (ps_ret (pe_lst (pa_cons pe_int pa_nil))))))))))
    , ?_⟩))
  obtain ⟨a, g, L, w, q, c, rfl, ⟨k, m, l, rfl⟩, I, D, hq, O⟩ := h
  obtain ⟨r, hq, hl⟩ := hq
  have st := step_image (g := g) (k := k) (m := m) (f := l)
  have n1 := D.n1
  have n6 := D.n6
  refine ⟨_, rfl, q, _, 0, _, rfl, rfl, hq, rfl, _, rfl, q, _, 1, _, rfl, rfl, hq, rfl, _, rfl, q, _, 2, _, rfl, rfl, hq, rfl, ?_⟩
  refine ⟨_, rfl, _, rfl, by show 2 ≤ sizeLine; decide, fun u hu => ?_⟩
  have su := same_new (o := .lst [V.int k, V.int m]) hu
  refine ⟨u, [k, m], rfl, SqL.of upd_same, fun ok => ?_, fun bad => (O.no _ ?_).back su⟩
  · obtain ⟨k, rfl, hk⟩ := nat_of (ok k (by simp))
    obtain ⟨m, rfl, hm⟩ := nat_of (ok m (by simp))
    rw [if_neg (by rw [isK_no, isK_no]; omega)] at st
    have hl1 := su.seq hl
    have I1 := I.same su
    refine ⟨_, rfl, _, rfl, _, rfl, a.x, C, a.dx, _, _, rfl, I1.ins, IT.cl, IT.nP, insF_p, _, _, rfl, rfl, ?_⟩
    refine ⟨a, g.n, L, w, r, l, 0, (g.n : Int) - 1, rfl, I1, by omega, hl1, fun c1 c2 => ?_, fun bad => (O.no _ (by rw [st, if_pos (bad_map.mpr bad)])).back su⟩
    rw [if_neg (fun z => bad_map.mp z ⟨c1, c2⟩)] at st
    have gt : ∀ i, i < g.n → l.getD i 0 = (((l.map fun x => x.toNat).getD i 0 : Nat) : Int) ∧ (l.map fun x => x.toNat).getD i 0 < g.n := fun i hi => by
      have hi' : i < l.length := by omega
      have e1 : l.getD i 0 = l[i] := by rw [List.getD_eq_getElem?_getD, List.getElem?_eq_getElem hi']; rfl
      have e2 : (l.map fun x => x.toNat).getD i 0 = l[i].toNat := by rw [List.getD_eq_getElem?_getD, List.getElem?_map, List.getElem?_eq_getElem hi']; rfl
      have := c2 _ (List.getElem_mem hi')
      rw [e1, e2]
      omega
    have el : intL l = vec g.n fun i => (((l.map fun x => x.toNat).getD i 0 : Nat) : Int) := by
      rw [ints_tab l, c1]; exact vec_congr fun i hi => (gt i hi).1
    rw [el] at hl1
    refine ⟨_, rfl, a.x, C, a.dx, _, _, rfl, I1.ins, IT.cl, IT.nS, insF_s, _, rfl, a.ar, _, k, _, rfl, rfl, SqL.of I1.slo.at_, tab_at hk, _, rfl, a.sl k, r, g.n, w k, fun i => (l.map fun x => x.toNat).getD i 0, rfl, SqL.of (I1.slo.row k hk), hl1, by omega, fun i hi => (gt i hi).2, fun p H2 s2 np lp => ?_⟩
    have s02 := su.trans s2
    have I2 := I.same s02
    refine ⟨_, rfl, a.x, C, a.dx, _, _, rfl, I2.ins, IT.cl, IT.nS, insF_s, _, rfl, a.ar, _, _, m, rfl, rfl, I2.slo.at_, ixn (by rw [tab_len]; exact hm), ?_⟩
    exact ⟨by show 1 ≤ sizeLine; decide, O.putS I s02 (su.free np) lp hm st (D.image hk hm fun i hi => (gt i hi).2)⟩
  · obtain ⟨z, hz, bad⟩ := bad
    rw [st, if_pos]
    rcases mem2 hz with rfl | rfl
    · exact .inl (isK_no.mpr bad)
    · exact .inr (isK_no.mpr bad)
theorem ok_average (T : Tx K mg) (TC : Cn K mg) (IT : InsT K C) (R : Rf K mg CR fR) (A : At K mg "average" s_average ["instance", "arguments"] f fd) (G1 : Got P w K mg base (L2.CX P w) 4 "weights_in" ["instance", "slots"] (spWin K C CR))
    (G2 : Got P w K mg base CX0 4 "mean_weights" ["first", "second"] (spMean K)) (G3 : Got P w K mg base CX0 2 "lowest_terms" ["numerator", "denominator"] spLow) :
    Got P w K mg base (L2.CX P w) 5 "average" ["instance", "arguments"] (spOp K C CR fun c => ∃ k l m, c = .middle k l m) := by
  have RT := R.rt
  obtain ⟨C_TooLarge, f_TooLarge, S_TooLarge⟩ := R.lar
  obtain ⟨f_weights_in, fd1, m_weights_in, k_weights_in, b_weights_in, F_weights_in⟩ := G1
  obtain ⟨f_mean_weights, fd2, m_mean_weights, k_mean_weights, b_mean_weights, F_mean_weights⟩ := G2
  obtain ⟨f_lowest_terms, fd3, m_lowest_terms, k_lowest_terms, b_lowest_terms, F_lowest_terms⟩ := G3
  refine A.got (A.fn.okX sc_average (fun vs H Q E h => h.len) (fun cdv A outer s H vs Q E hr h => ⟨_, by exact
    (pss_cons (ps_set (i := 2) sc_average.nd rfl (Or.inl rfl) (pe_call F_weights_in (hr.mono (by decide)) rfl m_weights_in k_weights_in b_weights_in .nil (passes_call (takes_of rfl rfl rfl rfl) (fun _ _ _ _ h => h)) (by exact (pa_cons (pv 0) (pa_cons (pv 1) pa_nil)))))
      (pss_cons (ps_set (i := 3) sc_average.nd rfl (Or.inl rfl) (pe_call F_mean_weights (hr.mono (by decide)) rfl m_mean_weights k_mean_weights b_mean_weights .nil pass0 (by exact (pa_cons (pe_ix (ixL (K := K) rfl) (pv 2) pe_int (fun _ _ => rfl)) (pa_cons (pe_ix (ixL (K := K) rfl) (pv 2) pe_int (fun _ _ => rfl)) pa_nil)))))
      (pss_cons (ps_for (passes_of rfl) rfl (piL (K := K) rfl (pv 3)) (pg_name (i := 4) sc_average.nd rfl (Or.inl rfl)) (pss_one (ps_if (pt_cmpR op_gt (pe_ix (ixL (K := K) rfl) (pe_call F_lowest_terms (hr.mono (by decide)) rfl m_lowest_terms k_lowest_terms b_lowest_terms .nil pass0 (by exact (pa_cons (pv 4) (pa_cons (pe_callB (id := "sum") (csum (K := K) rfl rfl) (by rfl) T.sum (by decide +kernel) (pa_cons (pv 3) pa_nil)) pa_nil)))) pe_int (fun _ _ => rfl)) (pe_globI (by rfl) TC.GREATEST_DENOMINATOR) (nomark _)) (pss_one (ps_raise rfl (takes_of rfl rfl rfl rfl) (pmk_ref RT S_TooLarge hr))) pss_nil)))
      (pss_cons (ps_asg (pv 3) (pg_sub (peFld (K := K) rfl (pv 0) rfl) (pe_ix (ixL (K := K) rfl) (pv 1) pe_int (fun _ _ => rfl)) set_list))
      (pss_one (ps_ret (pe_lst (pa_cons pe_int pa_nil))))))))
    , ?_⟩))
  obtain ⟨a, g, L, w, q, c, rfl, ⟨k, l, t, rfl⟩, I, D, hq, O⟩ := h
  have st := step_middle (g := g) (k := k) (l := l) (m := t)
  have n1 := D.n1
  have n6 := D.n6
  refine ⟨_, rfl, _, rfl, a, g.n, L, w, q, [k, l, t], rfl, I, hq, by show 3 ≤ 1000; decide, fun ok => ?_, fun bad => O.no _ ?_⟩
  · obtain ⟨k, rfl, hk⟩ := nat_of (ok k (by simp))
    obtain ⟨l, rfl, hl⟩ := nat_of (ok l (by simp))
    obtain ⟨t, rfl, ht⟩ := nat_of (ok t (by simp))
    rw [if_neg (by rw [isK_no, isK_no, isK_no]; omega)] at st
    intro W H1 s1 nW lW
    refine ⟨_, rfl, W, _, 0, _, rfl, rfl, SqL.of lW, rfl, _, rfl, W, _, 1, _, rfl, rfl, SqL.of lW, rfl, a.sl k, a.sl l, g.n, w k, w l, rfl, SqL.of (s1 _ _ (I.slo.row k hk)), SqL.of (s1 _ _ (I.slo.row l hl)), by omega, D.wt k hk, D.wt l hl, fun m gg U hU d1 d2 bU hr p H2 s2 np lp => ?_⟩
    have s02 := s1.trans s2
    obtain ⟨m0, gb, em⟩ := D.mid hk hl hU d1 d2 hr
    have mb : Bd 9000 (sumI g.n m) := by
      have tot : sumI g.n m * gg = U + U := by rw [← sumI_mul, sumI_congr hr.eq, sumI_add, wt_units d1, wt_units d2]
      have gp := hr.pos
      have q := Int.mul_le_mul_of_nonneg_left (show (1 : Int) ≤ gg by omega) (Int.le_of_lt m0)
      rw [Int.mul_one, tot] at q
      exact ((bU.add bU).le (by omega) q).mono (by decide)
    refine ⟨_, rfl, p, rfl, ⟨_, SqL.of lp⟩, for_it (walk_list (xs := vec g.n m)) (fun i σ H' => ∃ v4 : Option V, σ = [some (.ref a.x), some (.ref q), some (.ref W), some (.ref p), v4] ∧ Same H2 H' ∧ ∀ j, j < i → (ra g.n m j).den ≤ 100000) ⟨none, rfl, Same.refl _, fun j hj => absurd hj (Nat.not_lt_zero j)⟩ (fun i σ H' _ y => ?_) (fun i x σ H3 H4 hi y z => ?_) (fun σ H' y => ?_)⟩
    · obtain ⟨_, _, s3, _⟩ := y
      exact s3.seq (SqL.of lp)
    · obtain ⟨v4, rfl, s3, al⟩ := y
      obtain ⟨rfl, e⟩ := z
      obtain ⟨hi', rfl⟩ := tab_of e
      have hp3 := s3.seq (SqL.of (K := K) lp)
      refine ⟨_, rfl, _, rfl, p, _, rfl, sq_vec hp3, m i, sumI g.n m, rfl, m0, mb, fun y H4 s4 ny ly => ?_⟩
      refine ⟨y, _, 1, _, rfl, rfl, SqL.of ly, rfl, _, _, rfl, rfl, _, rfl, ?_⟩
      by_cases c : (100000 : Int) < (((m i : Rat) / (sumI g.n m : Rat)).den : Int)
      · rw [decide_eq_true c]
        refine iteT (((O.no _ ?_).back (s02.trans (s3.trans s4))).raise S_TooLarge.ref)
        rw [st, if_neg]
        intro h
        have := (D.mid_all gb em).mp h i hi'
        have : (((m i : Rat) / (sumI g.n m : Rat)).den) ≤ 100000 := this
        omega
      · rw [decide_eq_false c]
        refine iteF ⟨_, rfl, s3.trans s4, fun j hj => ?_⟩
        by_cases cj : j = i
        · subst cj
          show ((m j : Rat) / (sumI g.n m : Rat)).den ≤ 100000
          omega
        · exact al j (by omega)
    · obtain ⟨v4, rfl, s3, al⟩ := y
      rw [vec_len] at al
      have s03 := s02.trans s3
      have I3 := I.same s03
      rw [if_pos (show ((Sr80.mixed g.n (Sr82.at_ g (k : Int)) (Sr82.at_ g (l : Int)) (Sr58.frac 1 2)).all fun x => decide (x.d ≤ 100000)) = true from (D.mid_all gb em).mpr al)] at st
      refine ⟨_, rfl, _, rfl, a.x, C, a.dx, _, _, rfl, I3.ins, IT.cl, IT.nS, insF_s, _, rfl, q, _, 2, _, rfl, rfl, s03.seq hq, rfl, a.ar, _, _, t, rfl, rfl, I3.slo.at_, ixn (by rw [tab_len]; exact ht), ?_⟩
      exact ⟨by show 1 ≤ sizeLine; decide, O.putS I s03 (s1.free np) (s3 _ _ lp) ht st (D.mid_put ht gb em hr.nn m0 hr.one al)⟩
  · obtain ⟨z, hz, bad⟩ := bad
    rw [st, if_pos]
    rcases mem3 hz with rfl | rfl | rfl
    · exact .inl (isK_no.mpr bad)
    · exact .inr (.inl (isK_no.mpr bad))
    · exact .inr (.inr (isK_no.mpr bad))
end
end EH

namespace EH
open PySem PySem.Spec PyProof.Rows L2
/-! ### the table of the calls -/
def opNum : Sr82.Call → Int
  | .begin_ _ => 0
  | .way _ _ _ => 1
  | .spread _ _ => 2
  | .told _ => 3
  | .far _ _ => 4
  | .least _ _ => 5
  | .plan _ _ => 6
  | .prices _ _ => 7
  | .test _ _ _ _ => 8
  | .fair _ _ _ => 9
  | .behind _ _ _ => 10
  | .image _ _ _ => 11
  | .middle _ _ _ => 12
  | .hangs => 13
def keysInt : List DictEntry → Prop
  | [] => True
  | e :: r => (∃ k t, e.key = .int k t ∧ e.hash = hashInt k) ∧ keysInt r
theorem keysInt.all : ∀ {l : List DictEntry}, keysInt l → ∀ e ∈ l, ∃ k t, e.key = .int k t ∧ e.hash = hashInt k
  | _ :: _, ⟨h, _⟩, _, .head _ => h
  | _ :: _, ⟨_, r⟩, _, .tail _ m => r.all _ m
/-- a dict of the top with ints for keys, defs for values -/
structure Tab (K : Fr) (a : Addr) (es : List DictEntry) : Prop where
  at_ : ∃ n, K.lookup a = some ⟨.type "dict", none, .dict es.toArray n, #[]⟩
  keys : keysInt es
theorem Tab.map {prog : Program} {w : World} {K : Fr} {h : Heap} {a : Addr} {es : List DictEntry} (T : Tab K a es) (X : K.In h) : h.MapOf (intKind prog w) a (fun k => findBy Value.isInt es.toArray k) := by
  obtain ⟨n, hl⟩ := T.at_
  refine ⟨_, _, n, X _ _ hl, ⟨rfl, rfl, rfl⟩, rfl, fun e he => ?_, fun _ => rfl⟩
  obtain ⟨k, t, e1, e2⟩ := T.keys.all e (Array.mem_toList_iff.mpr he)
  exact ⟨k, by rw [e1]; exact intKind_is prog w k t, e2⟩
def rTab (a : Addr) (es : List DictEntry) : R2 := fun x y H Q => ∃ (i : Int) (f : Addr), x = .ref a ∧ y = .int i ∧ findBy Value.isInt es.toArray i = some (.ref f) ∧ Q (.ref f) H
theorem ix_tab {X : Cx} {a : Addr} {es : List DictEntry} (T : Tab X.K a es) : IxR X (rTab a es) := by
  intro value slice pins s σ H x y v u Q I rx ry h hs
  obtain ⟨i, f, rfl, rfl, e, q⟩ := h
  obtain rfl : v = Value.ref a := rx
  obtain ⟨t, rfl⟩ := ry
  have hm := T.map (prog := X.prog) (w := X.w) I.kIn
  exact tail_any hm.typeIs slot_dict_getitem.lookup (wpAny_getItem_of (intKind_is X.prog X.w i t) hm e ⟨.ref f, H, I.tok _, rfl, q⟩) hs
/-- each call's def stands in the table -/
def DispOk (P : Program) (w : World) (K : Fr) (mg : Str → Option Value) (base : Heap) (C CR : Addr) (k : Nat) (es : List DictEntry) : Prop := ∀ c, opNum c ≠ 0 → ∃ (f : Addr) (fd : FuncData) (S : Sr82.Call → Prop), S c ∧ findBy Value.isInt es.toArray (opNum c) = some (.ref f) ∧
  PySem.W.keepIn K (.ref f) = true ∧ Binds K fd ["instance", "arguments"] [] ∧ FnOk P w K mg base (L2.CX P w) k f fd ["instance", "arguments"] (spOp K C CR S)
/-- TABLE[i](..) -/
def tDisp (K : Fr) (C CR aO : Addr) (E : XK) (to ti : TE) (t : TA) : TE := fun σ H Q => to σ H fun x H1 => ti σ H1 fun y H2 => ∃ c, x = .ref aO ∧ y = .int (opNum c) ∧ opNum c ≠ 0 ∧ t σ H2 fun vs H3 => ∀ S : Sr82.Call → Prop, S c → spOp K C CR S vs H3 Q E
theorem pe_disp {X : Cx} {C CR aO : Addr} {es : List DictEntry} {k : Nat} {E : XK} {o i e : Expr} {args : List Expr} {to ti : TE} {t : TA} {spos pos : Pos} (D : DispOk X.prog X.w X.K X.mg X.base C CR k es) (T : Tab X.K aO es) (hr : Room k X.A) (hx : Passes (L2.CX X.prog X.w) X E)
    (ho : PE X o to) (hi : PE X i ti) (ha : PA X (e :: args) t) (hs : PlainIx i)
    (he : starEach (e :: args) X.env = (false, eval e X.env) :: starEach args X.env := by rfl) (hpl : (backTo pos (starEach args X.env)).any (·.1) = false := by rfl)
    (ht : eval (.Call (.Subscript o i spos) (e :: args) [] pos) X.env = (do
      callWith pos (← eval (.Subscript o i spos) X.env) [] (backTo pos (starEach (e :: args) X.env)) (backToKw pos (keywordEach [] X.env))) := by rfl) :
    PE X (.Call (.Subscript o i spos) (e :: args) [] pos) (tDisp X.K C CR aO E to ti t) := by
  refine ⟨fun pins s σ H Q I h => ?_⟩
  rw [ht]
  refine wpAny_bind ?_
  refine Subscript_ (binT ho hi I h fun v u s2 x y H2 I2 rx ry q => ?_)
  obtain ⟨c, ex, ey, hc, q⟩ := q
  obtain ⟨f, fd, S, hS, hf, hk, hb, F⟩ := D c hc
  refine thn (ix_tab T o i pins s2 σ H2 x y v u (fun x' H' => x' = .ref f ∧ H' = H2) I2 rx ry ⟨opNum c, f, ex, ey, hf, rfl, rfl⟩ (hs _ _)) fun u' s3 h3 => ?_
  obtain ⟨x', H', I3, r', e1, e2⟩ := h3
  subst e1
  subst e2
  obtain rfl : u' = Value.ref f := r'
  refine PySem.W.callWith_K (h₀ := X.base) I3.ok.mod.kin hk (thn (ha.run pos pins s3 σ H' _ I3 q) fun us s4 ⟨vs, H4, I4, r4, q4⟩ => ⟨I4.kIn, ?_⟩) he hpl
  exact run_fn F hr hb .nil hx I4 r4 (by rw [List.append_nil]; exact q4 S hS)
def spPerf (K : Fr) (C CR : Addr) : Sp := fun vs H Q E => ∃ (q : Addr) (c : Sr82.Call), opNum c ≠ 0 ∧ ((vs = [.non, .int (opNum c), .ref q] ∧ Fail K CR H (-11) E) ∨
  ∃ (a : IAd) (g : Sr82.Ground) (L w : Nat → Nat → Int), vs = [.ref a.x, .int (opNum c), .ref q] ∧ Here C H a g.n L w ∧ Dat g L w ∧ ArgsOf K H q c ∧ Outs K C CR H a g c Q E)
abbrev s_perform : Stmt := top 75
theorem sc_perform : FnScope ["instance", "number", "arguments"] ["instance", "number", "arguments"] (defScope s_perform) := ⟨rfl, rfl, rfl, by decide +kernel, rfl, by decide +kernel, by decide +kernel⟩
section
variable {P : Program} {w : World} {K : Fr} {mg : Str → Option Value} {base : Heap} {f : Addr} {fd : FuncData} {C CR fR aO : Addr} {es : List DictEntry}
theorem ok_perform (T : Tx K mg) (R : Rf K mg CR fR) (A : At K mg "perform" s_perform ["instance", "number", "arguments"] f fd) (m_OPERATIONS : mg "OPERATIONS" = some (.ref aO)) (B : Tab K aO es) (D : DispOk P w K mg base C CR 6 es) :
    Got P w K mg base (L2.CX P w) 7 "perform" ["instance", "number", "arguments"] (spPerf K C CR) := by
  have RT := R.rt
  obtain ⟨C_NoInstance, f_NoInstance, S_NoInstance⟩ := R.noI
  refine A.got (A.fn.okX sc_perform (fun vs H Q E h => ?_) (fun cdv A outer s H vs Q E hr h => ⟨_, by exact
    (pss_cons (ps_if (pt_cmpR op_isN (pv 0) pe_non (nomark _)) (pss_one (ps_raise rfl (takes_of rfl rfl rfl rfl) (pmk_ref RT S_NoInstance hr))) pss_nil)
      (pss_one (ps_ret (pe_disp (k := 6) (es := es) (aO := aO) D B (hr.mono (by decide)) (passes_call (takes_of rfl rfl rfl rfl) (fun _ _ _ _ h => h)) (pe_glob (v := .ref aO) (by rfl) m_OPERATIONS rfl) (pv 1) (by exact (pa_cons (pv 0) (pa_cons (pv 2) pa_nil))) (fun _ _ => rfl)))))
    , ?_⟩))
  · obtain ⟨q, c, _, h⟩ := h
    rcases h with ⟨rfl, _⟩ | ⟨a, g, L, w, rfl, _⟩ <;> rfl
  · obtain ⟨q, c, hc, h⟩ := h
    rcases h with ⟨rfl, kE⟩ | ⟨a, g, L, w, rfl, I, D, hq, O⟩
    · exact ⟨_, rfl, rfl, _, rfl, iteT (kE.raise S_NoInstance.ref)⟩
    · refine ⟨_, rfl, rfl, _, rfl, iteF ⟨_, rfl, c, rfl, rfl, hc, _, rfl, _, rfl, fun S hS => ⟨a, g, L, w, q, c, rfl, hS, I, D, hq, O⟩⟩⟩
end
end EH

namespace EH
open PySem PySem.Spec PyProof.Rows L2
/-! ### how the calls stand in the one list -/
def tabW : List Int := [1, 3, 1, 1, 2, 2, 2, 2, 3, 2, 3, 2, 3, 0]
def tabR : List Int := [2, 8, 9, 11]
theorem shape_is {p : Int} {n k : Nat} (h : PySr82.shape p = some (n, k)) : 0 ≤ p ∧ p < 14 ∧ n ≤ 3 ∧ atI (intL tabW) p = some (.int (n : Int)) ∧ ((k = 1 ∧ inV (.int p) (intL tabR) = true) ∨ (k = 0 ∧ inV (.int p) (intL tabR) = false)) := by
  by_cases q0 : p = 0
  · subst q0; rw [show PySr82.shape 0 = some (1, 0) from rfl] at h; cases h; exact ⟨by decide, by decide, by decide, rfl, .inr ⟨rfl, by decide⟩⟩
  by_cases q1 : p = 1
  · subst q1; rw [show PySr82.shape 1 = some (3, 0) from rfl] at h; cases h; exact ⟨by decide, by decide, by decide, rfl, .inr ⟨rfl, by decide⟩⟩
  by_cases q2 : p = 2
  · subst q2; rw [show PySr82.shape 2 = some (1, 1) from rfl] at h; cases h; exact ⟨by decide, by decide, by decide, rfl, .inl ⟨rfl, by decide⟩⟩
  by_cases q3 : p = 3
  · subst q3; rw [show PySr82.shape 3 = some (1, 0) from rfl] at h; cases h; exact ⟨by decide, by decide, by decide, rfl, .inr ⟨rfl, by decide⟩⟩
  by_cases q4 : p = 4
  · subst q4; rw [show PySr82.shape 4 = some (2, 0) from rfl] at h; cases h; exact ⟨by decide, by decide, by decide, rfl, .inr ⟨rfl, by decide⟩⟩
  by_cases q5 : p = 5
  · subst q5; rw [show PySr82.shape 5 = some (2, 0) from rfl] at h; cases h; exact ⟨by decide, by decide, by decide, rfl, .inr ⟨rfl, by decide⟩⟩
  by_cases q6 : p = 6
  · subst q6; rw [show PySr82.shape 6 = some (2, 0) from rfl] at h; cases h; exact ⟨by decide, by decide, by decide, rfl, .inr ⟨rfl, by decide⟩⟩
  by_cases q7 : p = 7
  · subst q7; rw [show PySr82.shape 7 = some (2, 0) from rfl] at h; cases h; exact ⟨by decide, by decide, by decide, rfl, .inr ⟨rfl, by decide⟩⟩
  by_cases q8 : p = 8
  · subst q8; rw [show PySr82.shape 8 = some (3, 1) from rfl] at h; cases h; exact ⟨by decide, by decide, by decide, rfl, .inl ⟨rfl, by decide⟩⟩
  by_cases q9 : p = 9
  · subst q9; rw [show PySr82.shape 9 = some (2, 1) from rfl] at h; cases h; exact ⟨by decide, by decide, by decide, rfl, .inl ⟨rfl, by decide⟩⟩
  by_cases q10 : p = 10
  · subst q10; rw [show PySr82.shape 10 = some (3, 0) from rfl] at h; cases h; exact ⟨by decide, by decide, by decide, rfl, .inr ⟨rfl, by decide⟩⟩
  by_cases q11 : p = 11
  · subst q11; rw [show PySr82.shape 11 = some (2, 1) from rfl] at h; cases h; exact ⟨by decide, by decide, by decide, rfl, .inl ⟨rfl, by decide⟩⟩
  by_cases q12 : p = 12
  · subst q12; rw [show PySr82.shape 12 = some (3, 0) from rfl] at h; cases h; exact ⟨by decide, by decide, by decide, rfl, .inr ⟨rfl, by decide⟩⟩
  by_cases q13 : p = 13
  · subst q13; rw [show PySr82.shape 13 = some (0, 0) from rfl] at h; cases h; exact ⟨by decide, by decide, by decide, rfl, .inr ⟨rfl, by decide⟩⟩
  rw [show PySr82.shape p = none from by unfold PySr82.shape; rw [if_neg q0, if_neg q1, if_neg q2, if_neg q3, if_neg q4, if_neg q5, if_neg q6, if_neg q7, if_neg q8, if_neg q9, if_neg q10, if_neg q11, if_neg q12, if_neg q13]] at h
  cases h
theorem calls_step {f : Nat} {l : List Int} {raw : List (List (List Int))} (h : PyFlat.calls PySr82.shape f l = some raw) : (l = [] ∧ raw = []) ∨
    ∃ p r n k xs t cs f', l = p :: r ∧ PySr82.shape p = some (n, k) ∧ n ≤ r.length ∧ PyFlat.rows k (r.drop n) = some (xs, t) ∧ PyFlat.calls PySr82.shape f' t = some cs ∧ raw = ((p :: r.take n) :: xs) :: cs := by
  cases l with
  | nil => cases f <;> exact .inl ⟨rfl, (Option.some.inj h).symm⟩
  | cons p r =>
    cases f with
    | zero => cases h
    | succ f =>
      right
      have h : (match PyFlat.call PySr82.shape (p :: r) with
        | none => none
        | some (c, t) => match PyFlat.calls PySr82.shape f t with
          | none => none
          | some cs => some (c :: cs)) = some raw := h
      cases e1 : PyFlat.call PySr82.shape (p :: r) with
      | none => rw [e1] at h; cases h
      | some y =>
        obtain ⟨c, t⟩ := y
        rw [e1] at h
        cases e2 : PyFlat.calls PySr82.shape f t with
        | none => simp only [e2] at h; cases h
        | some cs =>
          simp only [e2] at h
          have e1 : (match PySr82.shape p with
            | none => none
            | some (n, k) => if r.length < n then none else match PyFlat.rows k (r.drop n) with
              | none => none
              | some (xs, t) => some ((p :: r.take n) :: xs, t)) = some (c, t) := e1
          cases e3 : PySr82.shape p with
          | none => rw [e3] at e1; cases e1
          | some y =>
            obtain ⟨n, k⟩ := y
            rw [e3] at e1
            by_cases q : r.length < n
            · simp only [q, if_true] at e1; cases e1
            · simp only [q, if_false] at e1
              cases e4 : PyFlat.rows k (r.drop n) with
              | none => rw [e4] at e1; cases e1
              | some y =>
                obtain ⟨xs, t'⟩ := y
                rw [e4] at e1
                cases e1
                exact ⟨p, r, n, k, xs, t, cs, f, rfl, e3, by omega, e4, e2, (Option.some.inj h).symm⟩
theorem rows0 {r : List Int} {xs t} (h : PyFlat.rows 0 r = some (xs, t)) : xs = [] ∧ t = r := by
  have e : (some ([], r) : Option (List (List Int) × List Int)) = some (xs, t) := h
  cases e; exact ⟨rfl, rfl⟩
theorem rows1 {r : List Int} {xs t} (h : PyFlat.rows 1 r = some (xs, t)) : ∃ (m : Nat) (r' : List Int), r = (m : Int) :: r' ∧ m ≤ r'.length ∧ xs = [r'.take m] ∧ t = r'.drop m := by
  have e : (match PyFlat.row r with
    | none => none
    | some (x, s) => some ([x], s)) = some (xs, t) := by
    cases c : PyFlat.row r with
    | none =>
      have : PyFlat.rows 1 r = none := by show (match PyFlat.row r with | none => none | some (x, s) => _) = none; rw [c]
      rw [this] at h; cases h
    | some y =>
      have : PyFlat.rows 1 r = some ([y.1], y.2) := by show (match PyFlat.row r with | none => none | some (x, s) => _) = _; rw [c]; rfl
      rw [this] at h; exact h
  cases r with
  | nil => cases e
  | cons m r' =>
    by_cases q : 0 ≤ m ∧ m.toNat ≤ r'.length
    · have er : PyFlat.row (m :: r') = some (r'.take m.toNat, r'.drop m.toNat) := if_pos q
      rw [er] at e
      cases e
      exact ⟨m.toNat, r', by rw [Int.toNat_of_nonneg q.1], q.2, rfl, rfl⟩
    · have er : PyFlat.row (m :: r') = none := if_neg q
      rw [er] at e; cases e
theorem cut_ints {l : List Int} {a n : Nat} (h : a + n ≤ l.length) : cutV (intL l) (some (a : Int)) (some (((a + n : Nat) : Int))) = intL ((l.drop a).take n) := by
  unfold cutV
  rw [HT.sIx_nat, HT.sIx_nat, ints_len, Nat.min_eq_left (show a ≤ l.length by omega), Nat.min_eq_left h, show a + n - a = n by omega]
  unfold intL
  rw [List.map_take, List.map_drop]
/-- a call as it lies: a tuple of its number and its arguments; none of it at S -/
def Lies (S : Addr → Prop) (H : Hp) (t : Addr) (c : List (List Int)) : Prop := ∃ (q : Addr) (num : Int) (nums : List Int), H t = some (.tup [.int num, .ref q]) ∧ S t ∧ S q ∧
  ((c = [num :: nums] ∧ H q = some (.lst (intL nums))) ∨ ∃ (r : Addr) (row : List Int), c = [num :: nums, row] ∧ H q = some (.lst (intL nums ++ [.ref r])) ∧ S r ∧ H r = some (.lst (intL row)))
theorem Lies.to {S : Addr → Prop} {H H' : Hp} {t : Addr} {c : List (List Int)} (h : Lies S H t c) (s : ∀ b o, S b → H b = some o → H' b = some o) : Lies S H' t c := by
  obtain ⟨q, num, nums, h1, n1, n2, h2⟩ := h
  refine ⟨q, num, nums, s _ _ n1 h1, n1, n2, ?_⟩
  rcases h2 with ⟨e, h2⟩ | ⟨r, row, e, h2, n3, h3⟩
  · exact .inl ⟨e, s _ _ n2 h2⟩
  · exact .inr ⟨r, row, e, s _ _ n2 h2, n3, s _ _ n3 h3⟩
def AllLie (S : Addr → Prop) (H : Hp) (ts : List Addr) (cs : List (List (List Int))) : Prop := ts.length = cs.length ∧ ∀ (i : Nat) (t : Addr) (c : List (List Int)), ts[i]? = some t → cs[i]? = some c → Lies S H t c
theorem AllLie.to {S : Addr → Prop} {H H' : Hp} {ts : List Addr} {cs : List (List (List Int))} (h : AllLie S H ts cs) (s : ∀ b o, S b → H b = some o → H' b = some o) : AllLie S H' ts cs := ⟨h.1, fun i t c a b => (h.2 i t c a b).to s⟩
theorem AllLie.push {S : Addr → Prop} {H : Hp} {ts : List Addr} {cs : List (List (List Int))} {t : Addr} {c : List (List Int)} (h : AllLie S H ts cs) (l : Lies S H t c) : AllLie S H (ts ++ [t]) (cs ++ [c]) := by
  refine ⟨by rw [List.length_append, List.length_append, h.1]; rfl, fun i t' c' a b => ?_⟩
  by_cases q : i < ts.length
  · rw [List.getElem?_append_left q] at a
    rw [List.getElem?_append_left (by rw [← h.1]; exact q)] at b
    exact h.2 i t' c' a b
  · rw [List.getElem?_append_right (by omega)] at a
    rw [List.getElem?_append_right (by rw [← h.1]; omega)] at b
    have e : i - ts.length = 0 := by
      cases y : i - ts.length with
      | zero => rfl
      | succ z => rw [y] at a; cases a
    rw [e] at a
    rw [← h.1, e] at b
    cases a; cases b; exact l
def refL (ts : List Addr) : List V := ts.map V.ref
def spSplit (K : Fr) : Sp := fun vs H Q _ => ∃ (a : Addr) (l : List Int) (raw : List (List (List Int))), vs = [.ref a] ∧ SqL K H a (intL l) ∧ PyFlat.calls PySr82.shape l.length l = some raw ∧ raw.length ≤ 60 ∧
  ∀ S ts H', Same H H' → H S = none → H' S = some (.lst (refL ts)) → AllLie (fun b => b ≠ S ∧ H b = none) H' ts raw → Q (.ref S) H'
abbrev s_split_calls : Stmt := top 79
theorem sc_split_calls : FnScope ["calls", "separate", "place", "number", "behind", "arguments", "row_end"] ["calls"] (defScope s_split_calls) := ⟨rfl, rfl, rfl, by decide +kernel, rfl, by decide +kernel, by decide +kernel⟩
section
variable {P : Program} {w : World} {K : Fr} {mg : Str → Option Value} {base : Heap} {f : Addr} {fd : FuncData}
theorem ok_split (T : Tx K mg) (TC : Cn K mg) (A : At K mg "split_calls" s_split_calls ["calls"] f fd) : Got P w K mg base CX0 1 "split_calls" ["calls"] (spSplit K) := by
  obtain ⟨a_WHOLE_NUMBERS, m_WHOLE_NUMBERS, t_WHOLE_NUMBERS⟩ := TC.WHOLE_NUMBERS
  obtain ⟨a_CALLS_WITH_ROW, m_CALLS_WITH_ROW, t_CALLS_WITH_ROW⟩ := TC.CALLS_WITH_ROW
  refine A.got (A.fn.ok sc_split_calls (fun vs H Q E h => ?_) (fun cdv A outer s H vs Q E hr h => ⟨_, by exact
    (pss_cons (ps_set (i := 1) sc_split_calls.nd rfl (Or.inl rfl) (pe_lst pa_nil))
      (pss_cons (ps_set (i := 2) sc_split_calls.nd rfl (Or.inl rfl) pe_int)
      (pss_cons (ps_while PassesOwn.never (pt_cmpR op_lt (pv 2) (pe_callB (id := "len") (clen (K := K) rfl) (by rfl) T.len (by decide +kernel) (pa_cons (pv 0) pa_nil)) (nomark _)) (pss_cons (ps_set (i := 3) sc_split_calls.nd rfl (Or.inl rfl) (pe_ix (ixL (K := K) rfl) (pv 0) (pv 2) (fun _ _ => rfl)))
      (pss_cons (ps_set (i := 4) sc_split_calls.nd rfl (Or.inl rfl) (pe_op op_add (pe_op op_add (pv 2) pe_int) (pe_ix (ixT (K := K) rfl) (pe_glob (v := .ref a_WHOLE_NUMBERS) (by rfl) m_WHOLE_NUMBERS rfl) (pv 3) (fun _ _ => rfl))))
      (pss_cons (ps_set (i := 5) sc_split_calls.nd rfl (Or.inl rfl) (pe_slice (slL (K := K) rfl) (pv 0) (po_some (pe_op op_add (pv 2) pe_int)) (po_some (pv 4))))
      (pss_cons (ps_if (pt_cmpR (opIn (K := K) rfl) (pv 3) (pe_glob (v := .ref a_CALLS_WITH_ROW) (by rfl) m_CALLS_WITH_ROW rfl) (by rfl)) (pss_cons (ps_set (i := 6) sc_split_calls.nd rfl (Or.inl rfl) (pe_op op_add (pe_op op_add (pv 4) pe_int) (pe_ix (ixL (K := K) rfl) (pv 0) (pv 4) (fun _ _ => rfl))))
      (pss_cons (ps_expr (pe_bm PySem.F.plainAttrs_list PySem.F.slot_list_append PySem.F.type_list_append mt_append (pv 5) (pa_cons (pe_slice (slL (K := K) rfl) (pv 0) (po_some (pe_op op_add (pv 4) pe_int)) (po_some (pv 6))) pa_nil)))
      (pss_one (ps_set (i := 4) sc_split_calls.nd rfl (Or.inl rfl) (pv 6))))) pss_nil)
      (pss_cons (ps_expr (pe_bm PySem.F.plainAttrs_list PySem.F.slot_list_append PySem.F.type_list_append mt_append (pv 1) (pa_cons (pe_tup (pa_cons (pv 3) (pa_cons (pv 5) pa_nil))) pa_nil)))
      (pss_one (ps_set (i := 2) sc_split_calls.nd rfl (Or.inl rfl) (pv 4)))))))))
      (pss_one (ps_ret (pv 1))))))
    , ?_⟩))
  · obtain ⟨a, l, raw, rfl, _⟩ := h
    rfl
  · obtain ⟨a, l, raw, rfl, hl, hc, h60, k⟩ := h
    refine ⟨by show 0 ≤ sizeLine; decide, fun S hS => ?_⟩
    refine while_by (fun σ H' => ∃ (pl f : Nat) (done cs : List (List (List Int))) (ts : List Addr) (v3 v4 v5 v6 : Option V), σ = [some (.ref a), some (.ref S), some (.int (pl : Nat)), v3, v4, v5, v6] ∧ Same H H' ∧ pl ≤ l.length ∧ PyFlat.calls PySr82.shape f (l.drop pl) = some cs ∧ raw = done ++ cs ∧
        H' S = some (.lst (refL ts)) ∧ AllLie (fun b => b ≠ S ∧ H b = none) H' ts done) (fun σ _ => match σ with | [_, _, some (.int z), _, _, _, _] => l.length - z.toNat | _ => 0)
      ⟨0, l.length, [], raw, [], none, none, none, none, rfl, same_new hS, Nat.zero_le _, by rw [List.drop_zero]; exact hc, rfl, upd_same, rfl, fun i t c a => by cases a⟩ ?_ (fun σ H Q Q' m h => ?_)
    · rintro σ H1 ⟨pl, f, done, cs, ts, v3, v4, v5, v6, rfl, s1, hpl, hcs, er, hSl, hal⟩
      have hl1 := s1.seq hl
      refine ⟨_, rfl, _, rfl, a, _, rfl, .inl hl1, _, _, rfl, rfl, _, rfl, ?_⟩
      rw [ints_len]
      rcases calls_step hcs with ⟨e1, e2⟩ | ⟨p, r, n, kk, xs, t, cs', f', e1, e2, e3, e4, e5, e6⟩
      · have hp : pl = l.length := by
          have := congrArg List.length e1
          rw [List.length_drop] at this
          have : l.length - pl = 0 := this
          omega
        rw [decide_eq_false (by omega)]
        refine iteF ⟨_, rfl, k S ts H1 s1 hS hSl ?_⟩
        rw [er, e2, List.append_nil]; exact hal
      · have hp : pl < l.length := by
          have := congrArg List.length e1
          rw [List.length_drop, List.length_cons] at this
          omega
        rw [decide_eq_true (by omega)]
        refine iteT ?_
        obtain ⟨p0, p14, n3, pa, pr⟩ := shape_is e2
        have er1 : l.drop (pl + 1) = r := by rw [← List.drop_drop, e1]; rfl
        have lr : pl + 1 + r.length = l.length := by
          have := congrArg List.length e1
          rw [List.length_drop, List.length_cons] at this
          omega
        have at0 : ∀ (j : Nat) (z : Int) (r' : List Int), l.drop j = z :: r' → atI (intL l) ((j : Nat) : Int) = some (.int z) := fun j z r' e => by
          refine atI_nat ?_
          unfold intL
          rw [List.getElem?_map]
          have : l[j]? = some z := by
            have := congrArg (fun l => l[0]?) e
            rw [List.getElem?_drop] at this; exact this
          rw [this]; rfl
        refine ⟨_, rfl, _, rfl, a, _, pl, _, rfl, rfl, hl1, at0 pl p r e1, ?_⟩
        refine ⟨_, rfl, _, _, rfl, rfl, _, rfl, a_WHOLE_NUMBERS, _, _, _, rfl, rfl, t_WHOLE_NUMBERS _, pa, _, _, rfl, rfl, ?_⟩
        have eb : (pl : Int) + 1 + (n : Int) = ((pl + 1 + n : Nat) : Int) := by omega
        refine ⟨_, rfl, _, rfl, _, _, rfl, rfl, _, rfl, _, rfl, _, rfl, a, _, rfl, hl1, fun q hq => ?_⟩
        have ec : cutV (intL l) (some ((pl : Int) + 1)) (some ((pl : Int) + 1 + (n : Int))) = intL (r.take n) := by
          rw [eb, show (pl : Int) + 1 = ((pl + 1 : Nat) : Int) by omega, cut_ints (by omega), er1]
        rw [ec]
        have s2 := s1.trans (same_new (o := .lst (intL (r.take n))) hq)
        have hl2 := s2.seq hl
        have qS : q ≠ S := fun z => by rw [z, hSl] at hq; cases hq
        have close : ∀ (H3 : Hp) (pl' : Nat) (c : List (List Int)) (T' : Addr) (v6' : Option V) (b : Int), b = (pl' : Int) → pl < pl' → pl' ≤ l.length → Same H1 (upd H3 S (.lst (refL ts))) → H3 S = some (.lst (refL ts)) → H3 T' = none → raw = (done ++ [c]) ++ cs' → PyFlat.calls PySr82.shape f' (l.drop pl') = some cs' →
            ((c = [p :: r.take n] ∧ H3 q = some (.lst (intL (r.take n)))) ∨ ∃ (rr : Addr) (row : List Int), c = [p :: r.take n, row] ∧ H3 q = some (.lst (intL (r.take n) ++ [.ref rr])) ∧ (rr ≠ S ∧ H rr = none) ∧ H3 rr = some (.lst (intL row))) →
            ∃ (pl : Nat) (f : Nat) (done cs : List (List (List Int))) (ts' : List Addr) (w3 w4 w5 w6 : Option V), [some (.ref a), some (.ref S), some (.int b), some (.int p), some (.int b), some (.ref q), v6'] = [some (.ref a), some (.ref S), some (.int (pl : Nat)), w3, w4, w5, w6] ∧
              Same H (upd (upd H3 T' (.tup [.int p, .ref q])) S (.lst (refL ts ++ [.ref T']))) ∧ pl ≤ l.length ∧ PyFlat.calls PySr82.shape f (l.drop pl) = some cs ∧ raw = done ++ cs ∧ upd (upd H3 T' (.tup [.int p, .ref q])) S (.lst (refL ts ++ [.ref T'])) S = some (.lst (refL ts')) ∧
              AllLie (fun b => b ≠ S ∧ H b = none) (upd (upd H3 T' (.tup [.int p, .ref q])) S (.lst (refL ts ++ [.ref T']))) ts' done := fun H3 pl' c T' v6' b eb lt le sm hS3 hT er' hcs' hc => by
          subst eb
          have s13 : Same H1 H3 := fun b o h => by
            by_cases z : b = S
            · subst z; rw [hSl] at h; rw [hS3]; exact h
            · have := sm b o h; rw [upd_ne z] at this; exact this
          have TS : T' ≠ S := fun z => by rw [z, hS3] at hT; cases hT
          have sT := same_new (o := .tup [.int p, .ref q]) hT
          refine ⟨pl', f', done ++ [c], cs', ts ++ [T'], _, _, _, _, rfl, same_mut ((s1.trans s13).trans sT) hS, le, hcs', er', ?_, (hal.to fun b o z h => ?_).push ⟨q, p, r.take n, ?_, ⟨TS, (s1.trans s13).free hT⟩, ⟨qS, s1.free hq⟩, ?_⟩⟩
          · rw [upd_same]; unfold refL; rw [List.map_append]; rfl
          · rw [upd_ne z.1]; exact sT _ _ (s13 _ _ h)
          · rw [upd_ne TS, upd_same]
          · rcases hc with ⟨e, h⟩ | ⟨rr, row, e, h, n3, h3⟩
            · exact .inl ⟨e, by rw [upd_ne qS]; exact sT _ _ h⟩
            · exact .inr ⟨rr, row, e, by rw [upd_ne qS]; exact sT _ _ h, n3, by rw [upd_ne n3.1]; exact sT _ _ h3⟩
        have tl : (refL ts).length < sizeLine := by
          have h1 := congrArg List.length er
          rw [List.length_append] at h1
          have h2 := hal.1
          unfold refL
          rw [List.length_map]
          exact small1000 (by omega)
        refine ⟨_, rfl, a_CALLS_WITH_ROW, _, rfl, .inr (t_CALLS_WITH_ROW _), rfl, rfl, _, rfl, ?_⟩
        rcases pr with ⟨rfl, pr⟩ | ⟨rfl, pr⟩
        · obtain ⟨m, r', e7, e8, rfl, rfl⟩ := rows1 e4
          have lr2 : n + 1 + r'.length = r.length := by
            have := congrArg List.length e7
            rw [List.length_drop, List.length_cons] at this
            omega
          have ed : l.drop (pl + 1 + n) = (m : Int) :: r' := by rw [← List.drop_drop, er1, e7]
          have ed1 : l.drop (pl + 1 + n + 1) = r' := by rw [← List.drop_drop, ed]; rfl
          have am : atI (intL l) ((pl : Int) + 1 + (n : Int)) = some (.int (m : Int)) := by rw [eb]; exact at0 _ _ _ ed
          rw [show inV (V.int p) (intL [2, 8, 9, 11]) = true from pr]
          refine iteT ⟨_, rfl, _, _, rfl, rfl, _, rfl, _, rfl, a, _, _, _, rfl, rfl, hl2, am, _, _, rfl, rfl, ?_⟩
          refine ⟨_, rfl, .inl ⟨rfl, _, SqL.of upd_same⟩, _, rfl, _, rfl, _, _, rfl, rfl, _, rfl, _, rfl, _, rfl, a, _, rfl, hl2, fun u hu => ?_⟩
          have ec2 : cutV (intL l) (some ((pl : Int) + 1 + (n : Int) + 1)) (some ((pl : Int) + 1 + (n : Int) + 1 + (m : Int))) = intL (r'.take m) := by
            rw [show (pl : Int) + 1 + (n : Int) + 1 = ((pl + 1 + n + 1 : Nat) : Int) by omega, show ((pl + 1 + n + 1 : Nat) : Int) + (m : Int) = ((pl + 1 + n + 1 + m : Nat) : Int) by omega, cut_ints (by omega), ed1]
          rw [ec2]
          have su := same_new (o := .lst (intL (r'.take m))) hu
          have uq : u ≠ q := fun z => by rw [z, upd_same] at hu; cases hu
          have uS : u ≠ S := fun z => by rw [z, upd_ne (fun y => qS y.symm), hSl] at hu; cases hu
          refine ⟨q, _, _, rfl, rfl, by rw [upd_ne (fun z => uq z.symm)]; exact upd_same, ?_, ?_⟩
          · rw [ints_len, List.length_take]
            exact small1000 (by omega)
          refine ⟨_, rfl, ?_⟩
          have hS3 : upd (upd (upd H1 q (.lst (intL (r.take n)))) u (.lst (intL (r'.take m)))) q (.lst (intL (r.take n) ++ [.ref u])) S = some (.lst (refL ts)) := by
            rw [upd_ne (fun y => qS y.symm), upd_ne (fun y => uS y.symm), upd_ne (fun y => qS y.symm)]; exact hSl
          refine ⟨_, rfl, .inl ⟨rfl, _, SqL.of hS3⟩, _, rfl, _, rfl, by show 2 ≤ sizeLine; decide, fun T' hT => ?_⟩
          have TS : T' ≠ S := fun z => by rw [z, hS3] at hT; cases hT
          refine ⟨S, _, _, rfl, rfl, by rw [upd_ne (fun z => TS z.symm)]; exact hS3, tl, _, rfl, ?_⟩
          refine ⟨close _ (pl + 1 + n + 1 + m) [p :: r.take n, r'.take m] T' _ _ (by omega) (by omega) (by omega) (fun b o h => ?_) hS3 hT (by rw [er, e6]; simp) (by rw [← List.drop_drop, ed1]; exact e5) (.inr ⟨u, r'.take m, rfl, upd_same, ⟨uS, s2.free hu⟩, ?_⟩), ?_⟩
          · by_cases z : b = S
            · subst z; rw [upd_same, ← hSl]; exact h
            · have bq : b ≠ q := fun y => by rw [y, hq] at h; cases h
              rw [upd_ne z, upd_ne bq]
              exact su _ _ (same_new hq _ _ h)
          · rw [upd_ne uq]; exact upd_same
          · show l.length - ((pl : Int) + 1 + (n : Int) + 1 + (m : Int)).toNat < l.length - (pl : Int).toNat
            omega
        · obtain ⟨rfl, rfl⟩ := rows0 e4
          rw [show inV (V.int p) (intL [2, 8, 9, 11]) = false from pr]
          refine iteF ?_
          have hS3 : upd H1 q (.lst (intL (r.take n))) S = some (.lst (refL ts)) := by rw [upd_ne (fun y => qS y.symm)]; exact hSl
          refine ⟨_, rfl, .inl ⟨rfl, _, SqL.of hS3⟩, _, rfl, _, rfl, by show 2 ≤ sizeLine; decide, fun T' hT => ?_⟩
          have TS : T' ≠ S := fun z => by rw [z, hS3] at hT; cases hT
          refine ⟨S, _, _, rfl, rfl, by rw [upd_ne (fun z => TS z.symm)]; exact hS3, tl, _, rfl, ?_⟩
          refine ⟨close _ (pl + 1 + n) [p :: r.take n] T' _ _ (by omega) (by omega) (by omega) (fun b o h => ?_) hS3 hT (by rw [er, e6]; simp) (by rw [← List.drop_drop, er1]; exact e5) (.inl ⟨rfl, upd_same⟩), ?_⟩
          · by_cases z : b = S
            · subst z; rw [upd_same, ← hSl]; exact h
            · rw [upd_ne z]; exact same_new hq _ _ h
          · show l.length - ((pl : Int) + 1 + (n : Int)).toNat < l.length - (pl : Int).toNat
            omega
    · obtain ⟨v, h1, v2, h2, p, ys, h3, h4, i, j, h5, h6, b, h7, h8⟩ := h
      exact ⟨v, h1, v2, h2, p, ys, h3, h4, i, j, h5, h6, b, h7, m _ _ h8⟩
end
end EH

namespace EH
open PySem PySem.Spec PyProof.Rows L2
/-! ### one call: the try -/
def a_tb (K : Fr) (C CR : Addr) (W : WX) : L2.TS := tIfS (tTest (tOp rEq (tVar 3) (tC (.int 0))))
  (tSeq (tAsg (tCallS (spCreate K C CR) (WE W) (tCons (tVar 4) tNil)) (gName 1)) (tAsg (tLst (tCons (tC (.int 0)) tNil)) (gName 5)))
  (tAsg (tCallS (spPerf K C CR) (WE W) (tCons (tVar 1) (tCons (tVar 3) (tCons (tVar 4) tNil)))) (gName 5))
def a_ts (K : Fr) (CR : Addr) (a : Addr) (cls : Value) (d : Option Addr) : L2.TS := tAsg (tLst (tCons (tCode CR K a cls d (tVar 6)) tNil)) (gName 5)
def a_try (K : Fr) (C CR : Addr) : L2.TS := fun D σ H => a_tb K C CR (wAs K (.ref CR) 6 (a_ts K CR) (fun _ _ _ _ => False) D) D σ H
/-- what stands behind the calls so far: HB: the heap ahead of the first; G: the list given -/
structure Keep (HB H : Hp) (G : Addr) : Prop where
  old : ∀ b o, b ≠ G → HB b = some o → H b = some o
  g0 : ∃ o, HB G = some o
  g1 : ∃ xs, H G = some (.lst xs)
theorem Keep.free {HB H : Hp} {G b : Addr} (k : Keep HB H G) (h : H b = none) : HB b = none := by
  cases e : HB b with
  | none => rfl
  | some o =>
    exfalso
    by_cases q : b = G
    · subst q; obtain ⟨xs, g⟩ := k.g1; rw [h] at g; cases g
    · rw [k.old b o q e] at h; cases h
theorem Keep.same {HB H H' : Hp} {G : Addr} (k : Keep HB H G) (s : Same H H') : Keep HB H' G := ⟨fun b o q h => s _ _ (k.old b o q h), k.g0, k.g1.elim fun xs h => ⟨xs, s _ _ h⟩⟩
theorem Keep.ne {HB H : Hp} {G b : Addr} (k : Keep HB H G) (h : HB b = none) : b ≠ G := fun z => by
  obtain ⟨o, g⟩ := k.g0
  rw [z, g] at h; cases h
/-- the state, as the name instance tells it -/
def StAt (C : Addr) (HB H : Hp) (v : V) : Sr82.State → Prop
  | none => v = .non
  | some g => ∃ (a : IAd) (L w : Nat → Nat → Int), v = .ref a.x ∧ Here C H a g.n L w ∧ Dat g L w ∧ NewI HB a g.n
theorem StAt.same {C : Addr} {HB H H' : Hp} {v : V} {st : Sr82.State} (s : Same H H') (h : StAt C HB H v st) : StAt C HB H' v st := by
  cases st with
  | none => exact h
  | some g =>
    obtain ⟨a, L, w, e, I, D, N⟩ := h
    exact ⟨a, L, w, e, I.same s, D, N⟩
theorem StAt.given {C : Addr} {HB H : Hp} {v : V} {st : Sr82.State} {G : Addr} {o : HO} (k : Keep HB H G) (h : StAt C HB H v st) : StAt C HB (upd H G o) v st := by
  cases st with
  | none => exact h
  | some g =>
    obtain ⟨a, L, w, e, I, D, N⟩ := h
    refine ⟨a, L, w, e, ⟨?_, ⟨?_, I.len.inj, I.len.out, fun i hi => ?_⟩, ⟨?_, I.slo.inj, I.slo.out, fun i hi => ?_⟩, I.aa, I.ra, I.rs, I.as⟩, D, N⟩
    · rw [upd_ne (k.ne N.x)]; exact I.ins
    · rw [upd_ne (k.ne N.al)]; exact I.len.at_
    · rw [upd_ne (k.ne (N.rl i hi))]; exact I.len.row i hi
    · rw [upd_ne (k.ne N.ar)]; exact I.slo.at_
    · rw [upd_ne (k.ne (N.sl i hi))]; exact I.slo.row i hi
/-- what is answered -/
def tellA (a : Sr82.Ans) : List Int := a.num :: a.nums
theorem try_ok {K : Fr} {C CR : Addr} {D : Ends} {HB H : Hp} {G a0 q : Addr} {v : V} {v5 v6 : Option V} {st : Sr82.State} {x : Sr82.Call} (k : Keep HB H G) (hs : StAt C HB H v st) (ha : ArgsOf K H q x)
    (hN : ∀ (v' : V) (p : Addr) (v6' : Option V) (H5 : Hp), StAt C HB H5 v' (Sr82.step st x).1 → Keep HB H5 G → H5 G = H G → p ≠ G → H5 p = some (.lst (intL (tellA (Sr82.step st x).2))) → D.nx [some (.ref a0), some v', some (.ref G), some (.int (opNum x)), some (.ref q), some (.ref p), v6'] H5) :
    a_try K C CR D [some (.ref a0), some v, some (.ref G), some (.int (opNum x)), some (.ref q), v5, v6] H := by
  have gG : ∃ xs, H G = some (.lst xs) := k.g1
  have fail : ∀ z, Sr82.step st x = (st, Sr82.say z) → Fail K CR H z (WE (wAs K (.ref CR) 6 (a_ts K CR) (fun _ _ _ _ => False) D) [some (.ref a0), some v, some (.ref G), some (.int (opNum x)), some (.ref q), v5, v6]) := by
    intro z e Cx d H' rc hd s hd'
    refine ⟨true, rc.te, fun _ a ha => ?_, fun q => Bool.noConfusion q⟩
    refine ⟨_, rfl, rfl, Cx, d, .int z, rfl, rc, rfl, hd', by show 1 ≤ sizeLine; decide, fun p hp => ?_⟩
    have sp := s.trans (same_new (o := .lst [.int z]) hp)
    obtain ⟨xs, hG⟩ := gG
    refine hN v p none _ ?_ (k.same sp) ?_ ?_ ?_
    · rw [e]; exact hs.same sp
    · rw [sp _ _ hG, hG]
    · intro y; rw [y, s _ _ hG] at hp; cases hp
    · rw [upd_same, e]; rfl
  obtain ⟨xs, hG⟩ := gG
  refine ⟨_, rfl, rfl, _, rfl, ?_⟩
  by_cases c : opNum x = 0
  · rw [decide_eq_true (congrArg V.int c)]
    cases x with
    | begin_ n =>
      refine iteT ⟨_, rfl, q, n, rfl, ha, fun m em m1 m6 a H2 s N I => ?_, fun bad => ?_⟩
      · refine ⟨by show 1 ≤ sizeLine; decide, fun p hp => ?_⟩
        have e : Sr82.step st (.begin_ n) = (some (newG m), Sr82.say 0) := by
          subst em
          show (if (m : Int) < 1 ∨ ((6 : Nat) : Int) < (m : Int) then _ else _) = _
          rw [if_neg (by omega)]; rfl
        have sp := s.trans (same_new (o := .lst [.int 0]) hp)
        refine hN (.ref a.x) p v6 _ ?_ (k.same sp) ?_ ?_ ?_
        · rw [e]
          exact ⟨a, _, _, rfl, I.same (same_new hp), dat_new m1 m6, ⟨k.free N.x, k.free N.al, k.free N.ar, fun i hi => k.free (N.rl i hi), fun j hj => k.free (N.sl j hj)⟩⟩
        · rw [sp _ _ hG, hG]
        · intro y; rw [y, s _ _ hG] at hp; cases hp
        · rw [upd_same, e]; rfl
      · refine fail (-22) ?_
        show (if n < 1 ∨ ((6 : Nat) : Int) < n then _ else _) = _
        rw [if_pos (by omega)]
    | _ => cases c
  · rw [decide_eq_false (show ¬ V.int (opNum x) = V.int 0 from fun z => c (by injection z))]
    refine iteF ⟨_, rfl, _, rfl, _, rfl, q, x, c, ?_⟩
    cases st with
    | none =>
      have ev : v = .non := hs
      subst ev
      refine .inl ⟨rfl, fail (-11) ?_⟩
      cases x <;> first | exact absurd rfl c | rfl
    | some g =>
      obtain ⟨a, L, w, rfl, I, Dt, N⟩ := hs
      refine .inr ⟨a, g, L, w, rfl, I, Dt, ha, ⟨fail, fun ans e p H5 s np lp => ?_, fun g' ans L' w' sl' H5 p e kp hsl I' D' en np lp => ?_⟩⟩
      · refine hN (.ref a.x) p v6 H5 ?_ (k.same s) (by rw [s _ _ hG, hG]) (fun y => by rw [y, hG] at np; cases np) (by rw [e]; exact lp)
        rw [e]
        exact ⟨a, L, w, rfl, I.same s, Dt, N⟩
      · have hG5 : H5 G = some (.lst xs) := kp _ _ hG (fun z => k.ne N.ar z.symm) (fun i hi z => k.ne (N.rl i hi) z.symm)
        refine hN (.ref a.x) p v6 H5 ?_ ⟨fun b o qb hb => kp _ _ (k.old b o qb hb) (fun z => by rw [z, N.ar] at hb; cases hb) (fun i hi z => by rw [z, N.rl i hi] at hb; cases hb), k.g0, ⟨xs, hG5⟩⟩ (by rw [hG5, hG]) (fun y => by rw [y, hG] at np; cases np) (by rw [e]; exact lp)
        rw [e]
        refine ⟨{ a with sl := sl' }, L', w', rfl, I', D', ⟨N.x, N.al, N.ar, fun i hi => N.rl i (by rw [← en]; exact hi), fun j hj => ?_⟩⟩
        rcases hsl j hj with z | z
        · show HB (sl' j) = none
          rw [z]; exact N.sl j hj
        · exact k.free z
end EH

namespace EH
open PySem PySem.Spec PyProof.Rows L2
/-! ### the calls one after another -/
theorem whole_id (c : List (List Int)) : PySr82.whole c = c := by
  unfold PySr82.whole
  split <;> rfl
theorem whole_map (cs : List (List (List Int))) : cs.map PySr82.whole = cs := by
  rw [show PySr82.whole = id from funext whole_id, List.map_id]
theorem whole_bd {z : Int} (h : Sr82Neutral.whole z = true) : Bd 40 z := by
  unfold Sr82Neutral.whole at h
  rw [Bool.and_eq_true, decide_eq_true_iff, decide_eq_true_iff] at h
  exact Nat.lt_of_le_of_lt (show z.natAbs ≤ 2147483648 by omega) (by decide)
theorem row_bd {l : List Int} (h : Sr82Neutral.row l = true) : ∀ z, z ∈ l → Bd 40 z := fun z hz => by
  unfold Sr82Neutral.row Sr82Neutral.wholes at h
  rw [Bool.and_eq_true, List.all_eq_true] at h
  exact whole_bd (h.1 z hz)
theorem lies_call {K : Fr} {S : Addr → Prop} {H : Hp} {t : Addr} {c : List (List Int)} (h : Sr82Neutral.asked1 c = true) (l : Lies S H t c) : ∃ (x : Sr82.Call) (q : Addr), Sr82Neutral.callOf c = some x ∧ H t = some (.tup [.int (opNum x), .ref q]) ∧ ArgsOf K H q x := by
  obtain ⟨q, num, nums, h1, _, _, h2⟩ := l
  unfold Sr82Neutral.asked1 at h
  split at h
  all_goals first
    | (cases h; done)
    | skip
  all_goals
    rcases h2 with ⟨e, h2⟩ | ⟨r, row, e, h2, _, h3⟩
    all_goals first
      | (cases e; done)
      | (cases e; exact ⟨_, q, rfl, h1, SqL.of h2⟩)
      | (cases e; exact ⟨_, q, rfl, h1, r, SqL.of h2, SqL.of h3⟩)
      | (cases e
         rw [Bool.and_eq_true] at h
         refine ⟨_, q, rfl, h1, r, SqL.of h2, SqL.of h3, ?_, row_bd h.2⟩
         have := h.1
         unfold Sr82Neutral.wholes at this
         rw [List.all_eq_true] at this
         exact whole_bd (this _ (by simp)))
def after (s : Sr82.State) (cs : List (List (List Int))) : Sr82.State := cs.foldl (fun s c => (Sr82Neutral.step s c).1) s
def outs (s : Sr82.State) (cs : List (List (List Int))) : List Int := PyFlat.told (PyFlat.played Sr82Neutral.step s cs)
theorem after_snoc {s : Sr82.State} {cs : List (List (List Int))} {c : List (List Int)} : after s (cs ++ [c]) = (Sr82Neutral.step (after s cs) c).1 := by
  unfold after; rw [List.foldl_append]; rfl
theorem outs_snoc {c : List (List Int)} : ∀ {cs : List (List (List Int))} {s : Sr82.State}, outs s (cs ++ [c]) = outs s cs ++ (((Sr82Neutral.step (after s cs) c).2.length : Int) :: (Sr82Neutral.step (after s cs) c).2)
  | [], s => by
    show ((Sr82Neutral.step s c).2.length : Int) :: (Sr82Neutral.step s c).2 ++ [] = [] ++ _
    rw [List.append_nil]; rfl
  | d :: cs, s => by
    show ((Sr82Neutral.step s d).2.length : Int) :: (Sr82Neutral.step s d).2 ++ outs (Sr82Neutral.step s d).1 (cs ++ [c]) = _
    rw [outs_snoc (cs := cs)]
    show _ = (((Sr82Neutral.step s d).2.length : Int) :: (Sr82Neutral.step s d).2 ++ outs (Sr82Neutral.step s d).1 cs) ++ _
    rw [List.append_assoc]; rfl
theorem outs_len {s : Sr82.State} : ∀ {cs : List (List (List Int))} {i : Nat}, (outs s (cs.take i)).length ≤ (outs s cs).length := by
  intro cs
  induction cs generalizing s with
  | nil => intro i; rw [List.take_nil]; exact Nat.le_refl _
  | cons c cs ih =>
    intro i
    cases i with
    | zero => rw [List.take_zero]; exact Nat.zero_le _
    | succ i =>
      show (((Sr82Neutral.step s c).2.length : Int) :: (Sr82Neutral.step s c).2 ++ outs (Sr82Neutral.step s c).1 (cs.take i)).length ≤ (((Sr82Neutral.step s c).2.length : Int) :: (Sr82Neutral.step s c).2 ++ outs (Sr82Neutral.step s c).1 cs).length
      rw [List.length_append, List.length_append]
      exact Nat.add_le_add_left ih _
def spAns (K : Fr) : Sp := fun vs H Q _ => ∃ (a : Addr) (l : List Int), vs = [.ref a] ∧ SqL K H a (intL l) ∧ PySr82.answers_asked l = true ∧ ∀ p H', H' p = some (.lst (intL (PySr82.answers l))) → Q (.ref p) H'
theorem asked_is {l : List Int} (h : PySr82.answers_asked l = true) : ∃ raw, PyFlat.calls PySr82.shape l.length l = some raw ∧ raw.length ≤ 60 ∧ (∀ c, c ∈ raw → Sr82Neutral.asked1 c = true) ∧ PySr82.answers l = outs Sr82.start raw ∧ (outs Sr82.start raw).length ≤ 10000000 := by
  unfold PySr82.answers_asked at h
  cases e : PyFlat.calls PySr82.shape l.length l with
  | none => rw [e] at h; cases h
  | some raw =>
    rw [e] at h
    have h : (!raw.isEmpty && PyFlat.atMost 60 raw && PyInside.calls PySr82.bound raw && Sr82Neutral.asked (raw.map PySr82.whole) && PyFlat.short 10000000 (PySr82.answers l)) = true := h
    rw [Bool.and_eq_true, Bool.and_eq_true, Bool.and_eq_true, Bool.and_eq_true] at h
    obtain ⟨⟨⟨⟨_, h1⟩, _⟩, h2⟩, h3⟩ := h
    have ea : PySr82.answers l = outs Sr82.start raw := by
      unfold PySr82.answers PySr82.calls
      rw [e]
      show PyFlat.told (PyFlat.played Sr82Neutral.step Sr82Neutral.start (raw.map PySr82.whole)) = _
      rw [whole_map]; rfl
    refine ⟨raw, rfl, of_decide_eq_true h1, fun c hc => ?_, ea, ?_⟩
    · rw [whole_map] at h2
      unfold Sr82Neutral.asked at h2
      rw [Bool.and_eq_true, Bool.and_eq_true, List.all_eq_true] at h2
      exact h2.2.2 c hc
    · rw [← ea]; exact of_decide_eq_true h3
abbrev s_answers : Stmt := top 82
theorem sc_answers : FnScope ["calls", "instance", "given", "number", "arguments", "answer", "refusal"] ["calls"] (defScope s_answers) := ⟨rfl, rfl, rfl, by decide +kernel, rfl, by decide +kernel, by decide +kernel⟩
section
variable {P : Program} {w : World} {K : Fr} {mg : Str → Option Value} {base : Heap} {f : Addr} {fd : FuncData} {C CR fR : Addr}
theorem ok_answers (T : Tx K mg) (TC : Cn K mg) (R : Rf K mg CR fR) (A : At K mg "answers" s_answers ["calls"] f fd) (G1 : Got P w K mg base CX0 1 "split_calls" ["calls"] (spSplit K)) (G2 : Got P w K mg base (L2.CX P w) 3 "create" ["arguments"] (spCreate K C CR))
    (G3 : Got P w K mg base (L2.CX P w) 7 "perform" ["instance", "number", "arguments"] (spPerf K C CR)) : FnOk P w K mg base CX0 8 f fd ["calls"] (spAns K) := by
  obtain ⟨f_split_calls, fd1, m_split_calls, k_split_calls, b_split_calls, F_split_calls⟩ := G1
  obtain ⟨f_create, fd2, m_create, k_create, b_create, F_create⟩ := G2
  obtain ⟨f_perform, fd3, m_perform, k_perform, b_perform, F_perform⟩ := G3
  refine A.fn.ok sc_answers (fun vs H Q E h => ?_) (fun cdv A outer s H vs Q E hr h => ⟨_, by exact
    (pss_cons (ps_set (i := 1) sc_answers.nd rfl (Or.inl rfl) pe_non)
      (pss_cons (ps_set (i := 2) sc_answers.nd rfl (Or.inl rfl) (pe_lst pa_nil))
      (pss_cons (ps_for PassesOwn.never rfl (piL (K := K) rfl (pe_call F_split_calls (hr.mono (by decide)) rfl m_split_calls k_split_calls b_split_calls .nil pass0 (by exact (pa_cons (pv 0) pa_nil))))
          (pgTup (K := K) (n := 2) rfl rfl (pgs_cons (pg_name (i := 3) sc_answers.nd rfl (Or.inl rfl)) (pgs_cons (pg_name (i := 4) sc_answers.nd rfl (Or.inl rfl)) pgs_nil)) rfl)
        (pss_cons (ps_try_as (i := 6) (tb := a_tb K C CR) (ts := a_ts K CR) (Wout := fun _ _ _ _ => False) rfl rfl sc_answers.nd rfl rfl ⟨rfl, by decide, Or.inl R.rt.gR⟩ takes0
            (fun W pn xe tk _ => pss_one (ps_if (pt_cmpR op_eq (pv 3) (pe_globI (by rfl) TC.CREATE) (nomark _))
              (pss_cons (ps_set (i := 1) sc_answers.nd rfl (Or.inl rfl) (by exact (pe_callS F_create (hr.mono (by decide)) rfl m_create k_create b_create (fun σ => passAt tk σ) (by exact (pa_cons (pv 4) pa_nil)))))
                (pss_one (ps_set (i := 5) sc_answers.nd rfl (Or.inl rfl) (pe_lst (pa_cons pe_int pa_nil)))))
              (pss_one (ps_set (i := 5) sc_answers.nd rfl (Or.inl rfl) (by exact (pe_callS F_perform (hr.mono (by decide)) rfl m_perform k_perform b_perform (fun σ => passAt tk σ) (by exact (pa_cons (pv 1) (pa_cons (pv 3) (pa_cons (pv 4) pa_nil)))))))))) 
            (fun a oe cls d pn hz hf => pss_one (ps_set (i := 5) sc_answers.nd rfl (Or.inl rfl) (pe_lst (pa_cons (pe_code hz hf (pv 6)) pa_nil)))))
        (pss_cons (ps_expr (pe_bm PySem.F.plainAttrs_list PySem.F.slot_list_append PySem.F.type_list_append mt_append (pv 2) (pa_cons (pe_callB (id := "len") (clen (K := K) rfl) (by rfl) T.len (by decide +kernel) (pa_cons (pv 5) pa_nil)) pa_nil)))
        (pss_one (ps_expr (pe_bm PySem.F.plainAttrs_list PySem.F.slot_list_extend PySem.F.type_list_extend mt_extend (pv 2) (pa_cons (pv 5) pa_nil)))))))
      (pss_one (ps_ret (pv 2))))))
    , ?_⟩)
  · obtain ⟨a, l, rfl, _⟩ := h
    rfl
  · obtain ⟨a, l, rfl, hl, hask, k⟩ := h
    obtain ⟨raw, hraw, h60, hasked, ea, hlen⟩ := asked_is hask
    refine ⟨by show 0 ≤ sizeLine; decide, fun G hG => ?_⟩
    have sG := same_new (o := .lst []) hG
    refine ⟨_, rfl, a, l, raw, rfl, sG.seq hl, hraw, h60, fun S ts HB sB nS lS al => ?_⟩
    have gB : HB G = some (.lst []) := sB _ _ upd_same
    have nG : ∀ b, upd H G (.lst []) b = none → b ≠ G := fun b hb z => by rw [z, upd_same] at hb; cases hb
    have GS : G ≠ S := fun z => by rw [← z, upd_same] at nS; cases nS
    have lt : ∀ {i : Nat} {v : V}, (refL ts)[i]? = some v → ∃ (t : Addr) (c : List (List Int)), v = .ref t ∧ ts[i]? = some t ∧ raw[i]? = some c := fun {i v} h => by
      unfold refL at h
      rw [List.getElem?_map] at h
      cases e : ts[i]? with
      | none => rw [e] at h; cases h
      | some t =>
        rw [e] at h
        have hi := (List.getElem?_eq_some_iff.mp e).1
        rw [al.1] at hi
        exact ⟨t, raw[i], (Option.some.inj h).symm, rfl, List.getElem?_eq_getElem hi⟩
    have tk : ∀ {i : Nat} {c : List (List Int)}, raw[i]? = some c → raw.take (i + 1) = raw.take i ++ [c] := fun {i c} h => by
      rw [List.take_succ, h]; rfl
    refine ⟨S, rfl, ⟨_, SqL.of lS⟩, for_it (walk_list (xs := refL ts)) (fun i σ H' => ∃ (v : V) (v3 v4 v5 v6 : Option V), σ = [some (.ref a), some v, some (.ref G), v3, v4, v5, v6] ∧ StAt C HB H' v (after Sr82.start (raw.take i)) ∧ Keep HB H' G ∧ H' G = some (.lst (intL (outs Sr82.start (raw.take i)))))
      ⟨.non, none, none, none, none, rfl, rfl, ⟨fun b o _ h => h, ⟨_, gB⟩, ⟨_, gB⟩⟩, gB⟩ (fun i σ H' _ p => ?_) (fun i x σ H1 H2 hi p y => ?_) (fun σ H' p => ?_)⟩
    · obtain ⟨_, _, _, _, _, _, _, kp, _⟩ := p
      exact SqL.of (kp.old _ _ (fun z => GS z.symm) lS)
    · obtain ⟨v, v3, v4, v5, v6, rfl, hst, kp, hg⟩ := p
      obtain ⟨rfl, e⟩ := y
      obtain ⟨t, c, rfl, et, ec⟩ := lt e
      have lie := (al.2 i t c et ec).to (H' := H2) fun b o nb h => kp.old b o (nG b nb.2) h
      obtain ⟨x, q, ex, ht, hx⟩ := lies_call (K := K) (hasked c (List.mem_of_getElem? ec)) lie
      have es : Sr82Neutral.step (after Sr82.start (raw.take i)) c = ((Sr82.step (after Sr82.start (raw.take i)) x).1, tellA (Sr82.step (after Sr82.start (raw.take i)) x).2) := by
        unfold Sr82Neutral.step
        rw [ex]; rfl
      refine ⟨t, _, rfl, SqT.of ht, rfl, _, _, rfl, _, _, rfl, rfl, ?_⟩
      refine try_ok (st := after Sr82.start (raw.take i)) (x := x) kp hst hx fun v' p v6' H5 hs5 k5 g5 np lp => ?_
      have hg5 : H5 G = some (.lst (intL (outs Sr82.start (raw.take i)))) := g5.trans hg
      have ol : (outs Sr82.start (raw.take (i + 1))).length ≤ 10000000 := Nat.le_trans outs_len hlen
      have eo : outs Sr82.start (raw.take (i + 1)) = outs Sr82.start (raw.take i) ++ (((tellA (Sr82.step (after Sr82.start (raw.take i)) x).2).length : Int) :: tellA (Sr82.step (after Sr82.start (raw.take i)) x).2) := by
        rw [tk ec, outs_snoc, es]
      rw [eo, List.length_append, List.length_cons] at ol
      have sz : ∀ {m : Nat}, m ≤ 10000000 → m ≤ sizeLine := fun {m} h => by rw [sizeLine_eq]; exact Nat.le_trans h (by decide)
      have p5 : SqL K H5 p (intL (tellA (Sr82.step (after Sr82.start (raw.take i)) x).2)) := SqL.of lp
      refine ⟨_, rfl, .inl ⟨rfl, _, SqL.of hg5⟩, _, rfl, p, _, rfl, .inl p5, G, _, _, rfl, rfl, hg5, ?_, ?_⟩
      · rw [ints_len]; exact Nat.lt_of_lt_of_le (by omega : _ < 10000001) (by rw [sizeLine_eq]; decide)
      have k6 : Keep HB (upd H5 G (.lst (intL (outs Sr82.start (raw.take i)) ++ [.int ((intL (tellA (Sr82.step (after Sr82.start (raw.take i)) x).2)).length : Int)]))) G := ⟨fun b o z h => by rw [upd_ne z]; exact k5.old b o z h, k5.g0, ⟨_, upd_same⟩⟩
      refine ⟨_, rfl, .inl ⟨rfl, _, SqL.of upd_same⟩, _, rfl, G, p, _, _, rfl, rfl, upd_same, by rw [upd_ne np]; exact lp, ?_, ?_⟩
      · rw [List.length_append, ints_len, ints_len]; exact sz (by show _ + 1 + _ ≤ _; omega)
      refine ⟨v', _, _, _, _, rfl, ?_, ⟨fun b o z h => by rw [upd_ne z]; exact k6.old b o z h, k6.g0, ⟨_, upd_same⟩⟩, ?_⟩
      · rw [tk ec, after_snoc, es]
        exact (hs5.given k5).given k6
      · rw [upd_same, eo, ← intL_app, ints_len]
        refine congrArg (fun l => some (HO.lst l)) ?_
        rw [List.append_assoc]; rfl
    · obtain ⟨v, v3, v4, v5, v6, rfl, hst, kp, hg⟩ := p
      refine ⟨_, rfl, k G H' ?_⟩
      rw [hg, ea]
      unfold refL
      rw [List.length_map, al.1, List.take_length]
end
end EH

namespace EH
open PySem PySem.Spec PyProof.Rows L2
/-! ### what the top has written -/
section
variable {K : Fr} {h : Heap} {mg : Str → Option Value} {f C CR fI fR : Addr} {oc kV dc pm cd ct : Value} {od an : Option Addr} {sl : Array (Option Value)}
theorem mk_greatest_divisor (X : K.In h) (G : h.Ns mainGlobals mg) (a : PySem.W.nsIn K mainGlobals "greatest_divisor" = some (some (.ref f))) (l : K.lookup f = some ⟨oc, od, .func (PySem.W.fnOf "greatest_divisor" "greatest_divisor" (defArgs s_greatest_divisor) (defBody s_greatest_divisor) (defScope s_greatest_divisor) .none kV dc pm an cd ct), sl⟩) (c : PySem.W.codeIn K cd "greatest_divisor" = true) (k : PySem.W.keepIn K (.ref f) = true) : ∃ (f : Addr) (fd : FuncData), At K mg "greatest_divisor" s_greatest_divisor ["first", "second"] f fd :=
  ⟨f, _, fun_mk (st := s_greatest_divisor) l c k, PySem.W.mg_of X G a, (fun_mk (st := s_greatest_divisor) l c k).binds (ps := ["first", "second"]) fun _ _ _ _ _ _ us hl => match us, hl with | [_, _], _ => rfl⟩
theorem mk_least_multiple (X : K.In h) (G : h.Ns mainGlobals mg) (a : PySem.W.nsIn K mainGlobals "least_multiple" = some (some (.ref f))) (l : K.lookup f = some ⟨oc, od, .func (PySem.W.fnOf "least_multiple" "least_multiple" (defArgs s_least_multiple) (defBody s_least_multiple) (defScope s_least_multiple) .none kV dc pm an cd ct), sl⟩) (c : PySem.W.codeIn K cd "least_multiple" = true) (k : PySem.W.keepIn K (.ref f) = true) : ∃ (f : Addr) (fd : FuncData), At K mg "least_multiple" s_least_multiple ["first", "second"] f fd :=
  ⟨f, _, fun_mk (st := s_least_multiple) l c k, PySem.W.mg_of X G a, (fun_mk (st := s_least_multiple) l c k).binds (ps := ["first", "second"]) fun _ _ _ _ _ _ us hl => match us, hl with | [_, _], _ => rfl⟩
theorem mk_lowest_terms (X : K.In h) (G : h.Ns mainGlobals mg) (a : PySem.W.nsIn K mainGlobals "lowest_terms" = some (some (.ref f))) (l : K.lookup f = some ⟨oc, od, .func (PySem.W.fnOf "lowest_terms" "lowest_terms" (defArgs s_lowest_terms) (defBody s_lowest_terms) (defScope s_lowest_terms) .none kV dc pm an cd ct), sl⟩) (c : PySem.W.codeIn K cd "lowest_terms" = true) (k : PySem.W.keepIn K (.ref f) = true) : ∃ (f : Addr) (fd : FuncData), At K mg "lowest_terms" s_lowest_terms ["numerator", "denominator"] f fd :=
  ⟨f, _, fun_mk (st := s_lowest_terms) l c k, PySem.W.mg_of X G a, (fun_mk (st := s_lowest_terms) l c k).binds (ps := ["numerator", "denominator"]) fun _ _ _ _ _ _ us hl => match us, hl with | [_, _], _ => rfl⟩
theorem mk_common_units (X : K.In h) (G : h.Ns mainGlobals mg) (a : PySem.W.nsIn K mainGlobals "common_units" = some (some (.ref f))) (l : K.lookup f = some ⟨oc, od, .func (PySem.W.fnOf "common_units" "common_units" (defArgs s_common_units) (defBody s_common_units) (defScope s_common_units) .none kV dc pm an cd ct), sl⟩) (c : PySem.W.codeIn K cd "common_units" = true) (k : PySem.W.keepIn K (.ref f) = true) : ∃ (f : Addr) (fd : FuncData), At K mg "common_units" s_common_units ["first", "second"] f fd :=
  ⟨f, _, fun_mk (st := s_common_units) l c k, PySem.W.mg_of X G a, (fun_mk (st := s_common_units) l c k).binds (ps := ["first", "second"]) fun _ _ _ _ _ _ us hl => match us, hl with | [_, _], _ => rfl⟩
theorem mk_in_units (X : K.In h) (G : h.Ns mainGlobals mg) (a : PySem.W.nsIn K mainGlobals "in_units" = some (some (.ref f))) (l : K.lookup f = some ⟨oc, od, .func (PySem.W.fnOf "in_units" "in_units" (defArgs s_in_units) (defBody s_in_units) (defScope s_in_units) .none kV dc pm an cd ct), sl⟩) (c : PySem.W.codeIn K cd "in_units" = true) (k : PySem.W.keepIn K (.ref f) = true) : ∃ (f : Addr) (fd : FuncData), At K mg "in_units" s_in_units ["weights", "units"] f fd :=
  ⟨f, _, fun_mk (st := s_in_units) l c k, PySem.W.mg_of X G a, (fun_mk (st := s_in_units) l c k).binds (ps := ["weights", "units"]) fun _ _ _ _ _ _ us hl => match us, hl with | [_, _], _ => rfl⟩
theorem mk_mapped_weights (X : K.In h) (G : h.Ns mainGlobals mg) (a : PySem.W.nsIn K mainGlobals "mapped_weights" = some (some (.ref f))) (l : K.lookup f = some ⟨oc, od, .func (PySem.W.fnOf "mapped_weights" "mapped_weights" (defArgs s_mapped_weights) (defBody s_mapped_weights) (defScope s_mapped_weights) .none kV dc pm an cd ct), sl⟩) (c : PySem.W.codeIn K cd "mapped_weights" = true) (k : PySem.W.keepIn K (.ref f) = true) : ∃ (f : Addr) (fd : FuncData), At K mg "mapped_weights" s_mapped_weights ["weights", "targets"] f fd :=
  ⟨f, _, fun_mk (st := s_mapped_weights) l c k, PySem.W.mg_of X G a, (fun_mk (st := s_mapped_weights) l c k).binds (ps := ["weights", "targets"]) fun _ _ _ _ _ _ us hl => match us, hl with | [_, _], _ => rfl⟩
theorem mk_mean_weights (X : K.In h) (G : h.Ns mainGlobals mg) (a : PySem.W.nsIn K mainGlobals "mean_weights" = some (some (.ref f))) (l : K.lookup f = some ⟨oc, od, .func (PySem.W.fnOf "mean_weights" "mean_weights" (defArgs s_mean_weights) (defBody s_mean_weights) (defScope s_mean_weights) .none kV dc pm an cd ct), sl⟩) (c : PySem.W.codeIn K cd "mean_weights" = true) (k : PySem.W.keepIn K (.ref f) = true) : ∃ (f : Addr) (fd : FuncData), At K mg "mean_weights" s_mean_weights ["first", "second"] f fd :=
  ⟨f, _, fun_mk (st := s_mean_weights) l c k, PySem.W.mg_of X G a, (fun_mk (st := s_mean_weights) l c k).binds (ps := ["first", "second"]) fun _ _ _ _ _ _ us hl => match us, hl with | [_, _], _ => rfl⟩
theorem mk_without_divisor (X : K.In h) (G : h.Ns mainGlobals mg) (a : PySem.W.nsIn K mainGlobals "without_divisor" = some (some (.ref f))) (l : K.lookup f = some ⟨oc, od, .func (PySem.W.fnOf "without_divisor" "without_divisor" (defArgs s_without_divisor) (defBody s_without_divisor) (defScope s_without_divisor) .none kV dc pm an cd ct), sl⟩) (c : PySem.W.codeIn K cd "without_divisor" = true) (k : PySem.W.keepIn K (.ref f) = true) : ∃ (f : Addr) (fd : FuncData), At K mg "without_divisor" s_without_divisor ["weights"] f fd :=
  ⟨f, _, fun_mk (st := s_without_divisor) l c k, PySem.W.mg_of X G a, (fun_mk (st := s_without_divisor) l c k).binds (ps := ["weights"]) fun _ _ _ _ _ _ us hl => match us, hl with | [_], _ => rfl⟩
theorem mk_all_distances (X : K.In h) (G : h.Ns mainGlobals mg) (a : PySem.W.nsIn K mainGlobals "all_distances" = some (some (.ref f))) (l : K.lookup f = some ⟨oc, od, .func (PySem.W.fnOf "all_distances" "all_distances" (defArgs s_all_distances) (defBody s_all_distances) (defScope s_all_distances) .none kV dc pm an cd ct), sl⟩) (c : PySem.W.codeIn K cd "all_distances" = true) (k : PySem.W.keepIn K (.ref f) = true) : ∃ (f : Addr) (fd : FuncData), At K mg "all_distances" s_all_distances ["lengths"] f fd :=
  ⟨f, _, fun_mk (st := s_all_distances) l c k, PySem.W.mg_of X G a, (fun_mk (st := s_all_distances) l c k).binds (ps := ["lengths"]) fun _ _ _ _ _ _ us hl => match us, hl with | [_], _ => rfl⟩
theorem mk_shortest_ways (X : K.In h) (G : h.Ns mainGlobals mg) (a : PySem.W.nsIn K mainGlobals "shortest_ways" = some (some (.ref f))) (l : K.lookup f = some ⟨oc, od, .func (PySem.W.fnOf "shortest_ways" "shortest_ways" (defArgs s_shortest_ways) (defBody s_shortest_ways) (defScope s_shortest_ways) .none kV dc pm an cd ct), sl⟩) (c : PySem.W.codeIn K cd "shortest_ways" = true) (k : PySem.W.keepIn K (.ref f) = true) : ∃ (f : Addr) (fd : FuncData), At K mg "shortest_ways" s_shortest_ways ["steps"] f fd :=
  ⟨f, _, fun_mk (st := s_shortest_ways) l c k, PySem.W.mg_of X G a, (fun_mk (st := s_shortest_ways) l c k).binds (ps := ["steps"]) fun _ _ _ _ _ _ us hl => match us, hl with | [_], _ => rfl⟩
theorem mk_joined (X : K.In h) (G : h.Ns mainGlobals mg) (a : PySem.W.nsIn K mainGlobals "joined" = some (some (.ref f))) (l : K.lookup f = some ⟨oc, od, .func (PySem.W.fnOf "joined" "joined" (defArgs s_joined) (defBody s_joined) (defScope s_joined) .none kV dc pm an cd ct), sl⟩) (c : PySem.W.codeIn K cd "joined" = true) (k : PySem.W.keepIn K (.ref f) = true) : ∃ (f : Addr) (fd : FuncData), At K mg "joined" s_joined ["first", "second"] f fd :=
  ⟨f, _, fun_mk (st := s_joined) l c k, PySem.W.mg_of X G a, (fun_mk (st := s_joined) l c k).binds (ps := ["first", "second"]) fun _ _ _ _ _ _ us hl => match us, hl with | [_, _], _ => rfl⟩
theorem mk_shorter (X : K.In h) (G : h.Ns mainGlobals mg) (a : PySem.W.nsIn K mainGlobals "shorter" = some (some (.ref f))) (l : K.lookup f = some ⟨oc, od, .func (PySem.W.fnOf "shorter" "shorter" (defArgs s_shorter) (defBody s_shorter) (defScope s_shorter) .none kV dc pm an cd ct), sl⟩) (c : PySem.W.codeIn K cd "shorter" = true) (k : PySem.W.keepIn K (.ref f) = true) : ∃ (f : Addr) (fd : FuncData), At K mg "shorter" s_shorter ["first", "second"] f fd :=
  ⟨f, _, fun_mk (st := s_shorter) l c k, PySem.W.mg_of X G a, (fun_mk (st := s_shorter) l c k).binds (ps := ["first", "second"]) fun _ _ _ _ _ _ us hl => match us, hl with | [_, _], _ => rfl⟩
theorem mk_all_connected (X : K.In h) (G : h.Ns mainGlobals mg) (a : PySem.W.nsIn K mainGlobals "all_connected" = some (some (.ref f))) (l : K.lookup f = some ⟨oc, od, .func (PySem.W.fnOf "all_connected" "all_connected" (defArgs s_all_connected) (defBody s_all_connected) (defScope s_all_connected) .none kV dc pm an cd ct), sl⟩) (c : PySem.W.codeIn K cd "all_connected" = true) (k : PySem.W.keepIn K (.ref f) = true) : ∃ (f : Addr) (fd : FuncData), At K mg "all_connected" s_all_connected ["distances"] f fd :=
  ⟨f, _, fun_mk (st := s_all_connected) l c k, PySem.W.mg_of X G a, (fun_mk (st := s_all_connected) l c k).binds (ps := ["distances"]) fun _ _ _ _ _ _ us hl => match us, hl with | [_], _ => rfl⟩
theorem mk_raise_entry (X : K.In h) (G : h.Ns mainGlobals mg) (a : PySem.W.nsIn K mainGlobals "raise_entry" = some (some (.ref f))) (l : K.lookup f = some ⟨oc, od, .func (PySem.W.fnOf "raise_entry" "raise_entry" (defArgs s_raise_entry) (defBody s_raise_entry) (defScope s_raise_entry) .none kV dc pm an cd ct), sl⟩) (c : PySem.W.codeIn K cd "raise_entry" = true) (k : PySem.W.keepIn K (.ref f) = true) : ∃ (f : Addr) (fd : FuncData), At K mg "raise_entry" s_raise_entry ["flow", "costs", "free", "row", "column"] f fd :=
  ⟨f, _, fun_mk (st := s_raise_entry) l c k, PySem.W.mg_of X G a, (fun_mk (st := s_raise_entry) l c k).binds (ps := ["flow", "costs", "free", "row", "column"]) fun _ _ _ _ _ _ us hl => match us, hl with | [_, _, _, _, _], _ => rfl⟩
theorem mk_open_steps (X : K.In h) (G : h.Ns mainGlobals mg) (a : PySem.W.nsIn K mainGlobals "open_steps" = some (some (.ref f))) (l : K.lookup f = some ⟨oc, od, .func (PySem.W.fnOf "open_steps" "open_steps" (defArgs s_open_steps) (defBody s_open_steps) (defScope s_open_steps) .none kV dc pm an cd ct), sl⟩) (c : PySem.W.codeIn K cd "open_steps" = true) (k : PySem.W.keepIn K (.ref f) = true) : ∃ (f : Addr) (fd : FuncData), At K mg "open_steps" s_open_steps ["flow", "costs", "free"] f fd :=
  ⟨f, _, fun_mk (st := s_open_steps) l c k, PySem.W.mg_of X G a, (fun_mk (st := s_open_steps) l c k).binds (ps := ["flow", "costs", "free"]) fun _ _ _ _ _ _ us hl => match us, hl with | [_, _, _], _ => rfl⟩
theorem mk_cheapest_way (X : K.In h) (G : h.Ns mainGlobals mg) (a : PySem.W.nsIn K mainGlobals "cheapest_way" = some (some (.ref f))) (l : K.lookup f = some ⟨oc, od, .func (PySem.W.fnOf "cheapest_way" "cheapest_way" (defArgs s_cheapest_way) (defBody s_cheapest_way) (defScope s_cheapest_way) .none kV dc pm an cd ct), sl⟩) (c : PySem.W.codeIn K cd "cheapest_way" = true) (k : PySem.W.keepIn K (.ref f) = true) : ∃ (f : Addr) (fd : FuncData), At K mg "cheapest_way" s_cheapest_way ["steps", "start", "goal"] f fd :=
  ⟨f, _, fun_mk (st := s_cheapest_way) l c k, PySem.W.mg_of X G a, (fun_mk (st := s_cheapest_way) l c k).binds (ps := ["steps", "start", "goal"]) fun _ _ _ _ _ _ us hl => match us, hl with | [_, _, _], _ => rfl⟩
theorem mk_traced_way (X : K.In h) (G : h.Ns mainGlobals mg) (a : PySem.W.nsIn K mainGlobals "traced_way" = some (some (.ref f))) (l : K.lookup f = some ⟨oc, od, .func (PySem.W.fnOf "traced_way" "traced_way" (defArgs s_traced_way) (defBody s_traced_way) (defScope s_traced_way) .none kV dc pm an cd ct), sl⟩) (c : PySem.W.codeIn K cd "traced_way" = true) (k : PySem.W.keepIn K (.ref f) = true) : ∃ (f : Addr) (fd : FuncData), At K mg "traced_way" s_traced_way ["previous", "start", "goal"] f fd :=
  ⟨f, _, fun_mk (st := s_traced_way) l c k, PySem.W.mg_of X G a, (fun_mk (st := s_traced_way) l c k).binds (ps := ["previous", "start", "goal"]) fun _ _ _ _ _ _ us hl => match us, hl with | [_, _, _], _ => rfl⟩
theorem mk_lowered_entries (X : K.In h) (G : h.Ns mainGlobals mg) (a : PySem.W.nsIn K mainGlobals "lowered_entries" = some (some (.ref f))) (l : K.lookup f = some ⟨oc, od, .func (PySem.W.fnOf "lowered_entries" "lowered_entries" (defArgs s_lowered_entries) (defBody s_lowered_entries) (defScope s_lowered_entries) .none kV dc pm an cd ct), sl⟩) (c : PySem.W.codeIn K cd "lowered_entries" = true) (k : PySem.W.keepIn K (.ref f) = true) : ∃ (f : Addr) (fd : FuncData), At K mg "lowered_entries" s_lowered_entries ["way", "size"] f fd :=
  ⟨f, _, fun_mk (st := s_lowered_entries) l c k, PySem.W.mg_of X G a, (fun_mk (st := s_lowered_entries) l c k).binds (ps := ["way", "size"]) fun _ _ _ _ _ _ us hl => match us, hl with | [_, _], _ => rfl⟩
theorem mk_raised_entries (X : K.In h) (G : h.Ns mainGlobals mg) (a : PySem.W.nsIn K mainGlobals "raised_entries" = some (some (.ref f))) (l : K.lookup f = some ⟨oc, od, .func (PySem.W.fnOf "raised_entries" "raised_entries" (defArgs s_raised_entries) (defBody s_raised_entries) (defScope s_raised_entries) .none kV dc pm an cd ct), sl⟩) (c : PySem.W.codeIn K cd "raised_entries" = true) (k : PySem.W.keepIn K (.ref f) = true) : ∃ (f : Addr) (fd : FuncData), At K mg "raised_entries" s_raised_entries ["way", "size"] f fd :=
  ⟨f, _, fun_mk (st := s_raised_entries) l c k, PySem.W.mg_of X G a, (fun_mk (st := s_raised_entries) l c k).binds (ps := ["way", "size"]) fun _ _ _ _ _ _ us hl => match us, hl with | [_, _], _ => rfl⟩
theorem mk_total_cost (X : K.In h) (G : h.Ns mainGlobals mg) (a : PySem.W.nsIn K mainGlobals "total_cost" = some (some (.ref f))) (l : K.lookup f = some ⟨oc, od, .func (PySem.W.fnOf "total_cost" "total_cost" (defArgs s_total_cost) (defBody s_total_cost) (defScope s_total_cost) .none kV dc pm an cd ct), sl⟩) (c : PySem.W.codeIn K cd "total_cost" = true) (k : PySem.W.keepIn K (.ref f) = true) : ∃ (f : Addr) (fd : FuncData), At K mg "total_cost" s_total_cost ["costs", "entries"] f fd :=
  ⟨f, _, fun_mk (st := s_total_cost) l c k, PySem.W.mg_of X G a, (fun_mk (st := s_total_cost) l c k).binds (ps := ["costs", "entries"]) fun _ _ _ _ _ _ us hl => match us, hl with | [_, _], _ => rfl⟩
theorem mk_some_cheapest_plan (X : K.In h) (G : h.Ns mainGlobals mg) (a : PySem.W.nsIn K mainGlobals "some_cheapest_plan" = some (some (.ref f))) (l : K.lookup f = some ⟨oc, od, .func (PySem.W.fnOf "some_cheapest_plan" "some_cheapest_plan" (defArgs s_some_cheapest_plan) (defBody s_some_cheapest_plan) (defScope s_some_cheapest_plan) .none kV dc pm an cd ct), sl⟩) (c : PySem.W.codeIn K cd "some_cheapest_plan" = true) (k : PySem.W.keepIn K (.ref f) = true) : ∃ (f : Addr) (fd : FuncData), At K mg "some_cheapest_plan" s_some_cheapest_plan ["first", "second", "distances"] f fd :=
  ⟨f, _, fun_mk (st := s_some_cheapest_plan) l c k, PySem.W.mg_of X G a, (fun_mk (st := s_some_cheapest_plan) l c k).binds (ps := ["first", "second", "distances"]) fun _ _ _ _ _ _ us hl => match us, hl with | [_, _, _], _ => rfl⟩
theorem mk_greatest_cheapest_plan (X : K.In h) (G : h.Ns mainGlobals mg) (a : PySem.W.nsIn K mainGlobals "greatest_cheapest_plan" = some (some (.ref f))) (l : K.lookup f = some ⟨oc, od, .func (PySem.W.fnOf "greatest_cheapest_plan" "greatest_cheapest_plan" (defArgs s_greatest_cheapest_plan) (defBody s_greatest_cheapest_plan) (defScope s_greatest_cheapest_plan) .none kV dc pm an cd ct), sl⟩) (c : PySem.W.codeIn K cd "greatest_cheapest_plan" = true) (k : PySem.W.keepIn K (.ref f) = true) : ∃ (f : Addr) (fd : FuncData), At K mg "greatest_cheapest_plan" s_greatest_cheapest_plan ["first", "second", "distances"] f fd :=
  ⟨f, _, fun_mk (st := s_greatest_cheapest_plan) l c k, PySem.W.mg_of X G a, (fun_mk (st := s_greatest_cheapest_plan) l c k).binds (ps := ["first", "second", "distances"]) fun _ _ _ _ _ _ us hl => match us, hl with | [_, _, _], _ => rfl⟩
theorem mk_all_free (X : K.In h) (G : h.Ns mainGlobals mg) (a : PySem.W.nsIn K mainGlobals "all_free" = some (some (.ref f))) (l : K.lookup f = some ⟨oc, od, .func (PySem.W.fnOf "all_free" "all_free" (defArgs s_all_free) (defBody s_all_free) (defScope s_all_free) .none kV dc pm an cd ct), sl⟩) (c : PySem.W.codeIn K cd "all_free" = true) (k : PySem.W.keepIn K (.ref f) = true) : ∃ (f : Addr) (fd : FuncData), At K mg "all_free" s_all_free ["size"] f fd :=
  ⟨f, _, fun_mk (st := s_all_free) l c k, PySem.W.mg_of X G a, (fun_mk (st := s_all_free) l c k).binds (ps := ["size"]) fun _ _ _ _ _ _ us hl => match us, hl with | [_], _ => rfl⟩
theorem mk_composed_plan (X : K.In h) (G : h.Ns mainGlobals mg) (a : PySem.W.nsIn K mainGlobals "composed_plan" = some (some (.ref f))) (l : K.lookup f = some ⟨oc, od, .func (PySem.W.fnOf "composed_plan" "composed_plan" (defArgs s_composed_plan) (defBody s_composed_plan) (defScope s_composed_plan) .none kV dc pm an cd ct), sl⟩) (c : PySem.W.codeIn K cd "composed_plan" = true) (k : PySem.W.keepIn K (.ref f) = true) : ∃ (f : Addr) (fd : FuncData), At K mg "composed_plan" s_composed_plan ["first_plan", "second_plan", "weights"] f fd :=
  ⟨f, _, fun_mk (st := s_composed_plan) l c k, PySem.W.mg_of X G a, (fun_mk (st := s_composed_plan) l c k).binds (ps := ["first_plan", "second_plan", "weights"]) fun _ _ _ _ _ _ us hl => match us, hl with | [_, _, _], _ => rfl⟩
theorem mk_inverse_parts (X : K.In h) (G : h.Ns mainGlobals mg) (a : PySem.W.nsIn K mainGlobals "inverse_parts" = some (some (.ref f))) (l : K.lookup f = some ⟨oc, od, .func (PySem.W.fnOf "inverse_parts" "inverse_parts" (defArgs s_inverse_parts) (defBody s_inverse_parts) (defScope s_inverse_parts) .none kV dc pm an cd ct), sl⟩) (c : PySem.W.codeIn K cd "inverse_parts" = true) (k : PySem.W.keepIn K (.ref f) = true) : ∃ (f : Addr) (fd : FuncData), At K mg "inverse_parts" s_inverse_parts ["weights"] f fd :=
  ⟨f, _, fun_mk (st := s_inverse_parts) l c k, PySem.W.mg_of X G a, (fun_mk (st := s_inverse_parts) l c k).binds (ps := ["weights"]) fun _ _ _ _ _ _ us hl => match us, hl with | [_], _ => rfl⟩
theorem mk_is_plan (X : K.In h) (G : h.Ns mainGlobals mg) (a : PySem.W.nsIn K mainGlobals "is_plan" = some (some (.ref f))) (l : K.lookup f = some ⟨oc, od, .func (PySem.W.fnOf "is_plan" "is_plan" (defArgs s_is_plan) (defBody s_is_plan) (defScope s_is_plan) .none kV dc pm an cd ct), sl⟩) (c : PySem.W.codeIn K cd "is_plan" = true) (k : PySem.W.keepIn K (.ref f) = true) : ∃ (f : Addr) (fd : FuncData), At K mg "is_plan" s_is_plan ["plan", "units", "first", "second"] f fd :=
  ⟨f, _, fun_mk (st := s_is_plan) l c k, PySem.W.mg_of X G a, (fun_mk (st := s_is_plan) l c k).binds (ps := ["plan", "units", "first", "second"]) fun _ _ _ _ _ _ us hl => match us, hl with | [_, _, _, _], _ => rfl⟩
theorem mk_are_shares (X : K.In h) (G : h.Ns mainGlobals mg) (a : PySem.W.nsIn K mainGlobals "are_shares" = some (some (.ref f))) (l : K.lookup f = some ⟨oc, od, .func (PySem.W.fnOf "are_shares" "are_shares" (defArgs s_are_shares) (defBody s_are_shares) (defScope s_are_shares) .none kV dc pm an cd ct), sl⟩) (c : PySem.W.codeIn K cd "are_shares" = true) (k : PySem.W.keepIn K (.ref f) = true) : ∃ (f : Addr) (fd : FuncData), At K mg "are_shares" s_are_shares ["amounts", "units", "weights"] f fd :=
  ⟨f, _, fun_mk (st := s_are_shares) l c k, PySem.W.mg_of X G a, (fun_mk (st := s_are_shares) l c k).binds (ps := ["amounts", "units", "weights"]) fun _ _ _ _ _ _ us hl => match us, hl with | [_, _, _], _ => rfl⟩
theorem mk_plan_units (X : K.In h) (G : h.Ns mainGlobals mg) (a : PySem.W.nsIn K mainGlobals "plan_units" = some (some (.ref f))) (l : K.lookup f = some ⟨oc, od, .func (PySem.W.fnOf "plan_units" "plan_units" (defArgs s_plan_units) (defBody s_plan_units) (defScope s_plan_units) .none kV dc pm an cd ct), sl⟩) (c : PySem.W.codeIn K cd "plan_units" = true) (k : PySem.W.keepIn K (.ref f) = true) : ∃ (f : Addr) (fd : FuncData), At K mg "plan_units" s_plan_units ["plan"] f fd :=
  ⟨f, _, fun_mk (st := s_plan_units) l c k, PySem.W.mg_of X G a, (fun_mk (st := s_plan_units) l c k).binds (ps := ["plan"]) fun _ _ _ _ _ _ us hl => match us, hl with | [_], _ => rfl⟩
theorem mk_plan_cost (X : K.In h) (G : h.Ns mainGlobals mg) (a : PySem.W.nsIn K mainGlobals "plan_cost" = some (some (.ref f))) (l : K.lookup f = some ⟨oc, od, .func (PySem.W.fnOf "plan_cost" "plan_cost" (defArgs s_plan_cost) (defBody s_plan_cost) (defScope s_plan_cost) .none kV dc pm an cd ct), sl⟩) (c : PySem.W.codeIn K cd "plan_cost" = true) (k : PySem.W.keepIn K (.ref f) = true) : ∃ (f : Addr) (fd : FuncData), At K mg "plan_cost" s_plan_cost ["plan", "distances"] f fd :=
  ⟨f, _, fun_mk (st := s_plan_cost) l c k, PySem.W.mg_of X G a, (fun_mk (st := s_plan_cost) l c k).binds (ps := ["plan", "distances"]) fun _ _ _ _ _ _ us hl => match us, hl with | [_, _], _ => rfl⟩
theorem mk_greatest_best_potentials (X : K.In h) (G : h.Ns mainGlobals mg) (a : PySem.W.nsIn K mainGlobals "greatest_best_potentials" = some (some (.ref f))) (l : K.lookup f = some ⟨oc, od, .func (PySem.W.fnOf "greatest_best_potentials" "greatest_best_potentials" (defArgs s_greatest_best_potentials) (defBody s_greatest_best_potentials) (defScope s_greatest_best_potentials) .none kV dc pm an cd ct), sl⟩) (c : PySem.W.codeIn K cd "greatest_best_potentials" = true) (k : PySem.W.keepIn K (.ref f) = true) : ∃ (f : Addr) (fd : FuncData), At K mg "greatest_best_potentials" s_greatest_best_potentials ["first", "second", "distances"] f fd :=
  ⟨f, _, fun_mk (st := s_greatest_best_potentials) l c k, PySem.W.mg_of X G a, (fun_mk (st := s_greatest_best_potentials) l c k).binds (ps := ["first", "second", "distances"]) fun _ _ _ _ _ _ us hl => match us, hl with | [_, _, _], _ => rfl⟩
theorem mk_are_feasible (X : K.In h) (G : h.Ns mainGlobals mg) (a : PySem.W.nsIn K mainGlobals "are_feasible" = some (some (.ref f))) (l : K.lookup f = some ⟨oc, od, .func (PySem.W.fnOf "are_feasible" "are_feasible" (defArgs s_are_feasible) (defBody s_are_feasible) (defScope s_are_feasible) .none kV dc pm an cd ct), sl⟩) (c : PySem.W.codeIn K cd "are_feasible" = true) (k : PySem.W.keepIn K (.ref f) = true) : ∃ (f : Addr) (fd : FuncData), At K mg "are_feasible" s_are_feasible ["potentials", "distances"] f fd :=
  ⟨f, _, fun_mk (st := s_are_feasible) l c k, PySem.W.mg_of X G a, (fun_mk (st := s_are_feasible) l c k).binds (ps := ["potentials", "distances"]) fun _ _ _ _ _ _ us hl => match us, hl with | [_, _], _ => rfl⟩
theorem mk_value_of_potentials (X : K.In h) (G : h.Ns mainGlobals mg) (a : PySem.W.nsIn K mainGlobals "value_of_potentials" = some (some (.ref f))) (l : K.lookup f = some ⟨oc, od, .func (PySem.W.fnOf "value_of_potentials" "value_of_potentials" (defArgs s_value_of_potentials) (defBody s_value_of_potentials) (defScope s_value_of_potentials) .none kV dc pm an cd ct), sl⟩) (c : PySem.W.codeIn K cd "value_of_potentials" = true) (k : PySem.W.keepIn K (.ref f) = true) : ∃ (f : Addr) (fd : FuncData), At K mg "value_of_potentials" s_value_of_potentials ["potentials", "first", "second"] f fd :=
  ⟨f, _, fun_mk (st := s_value_of_potentials) l c k, PySem.W.mg_of X G a, (fun_mk (st := s_value_of_potentials) l c k).binds (ps := ["potentials", "first", "second"]) fun _ _ _ _ _ _ us hl => match us, hl with | [_, _, _], _ => rfl⟩
theorem mk_create (X : K.In h) (G : h.Ns mainGlobals mg) (a : PySem.W.nsIn K mainGlobals "create" = some (some (.ref f))) (l : K.lookup f = some ⟨oc, od, .func (PySem.W.fnOf "create" "create" (defArgs s_create) (defBody s_create) (defScope s_create) .none kV dc pm an cd ct), sl⟩) (c : PySem.W.codeIn K cd "create" = true) (k : PySem.W.keepIn K (.ref f) = true) : ∃ (f : Addr) (fd : FuncData), At K mg "create" s_create ["arguments"] f fd :=
  ⟨f, _, fun_mk (st := s_create) l c k, PySem.W.mg_of X G a, (fun_mk (st := s_create) l c k).binds (ps := ["arguments"]) fun _ _ _ _ _ _ us hl => match us, hl with | [_], _ => rfl⟩
theorem mk_set_edge (X : K.In h) (G : h.Ns mainGlobals mg) (a : PySem.W.nsIn K mainGlobals "set_edge" = some (some (.ref f))) (l : K.lookup f = some ⟨oc, od, .func (PySem.W.fnOf "set_edge" "set_edge" (defArgs s_set_edge) (defBody s_set_edge) (defScope s_set_edge) .none kV dc pm an cd ct), sl⟩) (c : PySem.W.codeIn K cd "set_edge" = true) (k : PySem.W.keepIn K (.ref f) = true) : ∃ (f : Addr) (fd : FuncData), At K mg "set_edge" s_set_edge ["instance", "arguments"] f fd :=
  ⟨f, _, fun_mk (st := s_set_edge) l c k, PySem.W.mg_of X G a, (fun_mk (st := s_set_edge) l c k).binds (ps := ["instance", "arguments"]) fun _ _ _ _ _ _ us hl => match us, hl with | [_, _], _ => rfl⟩
theorem mk_set_distribution (X : K.In h) (G : h.Ns mainGlobals mg) (a : PySem.W.nsIn K mainGlobals "set_distribution" = some (some (.ref f))) (l : K.lookup f = some ⟨oc, od, .func (PySem.W.fnOf "set_distribution" "set_distribution" (defArgs s_set_distribution) (defBody s_set_distribution) (defScope s_set_distribution) .none kV dc pm an cd ct), sl⟩) (c : PySem.W.codeIn K cd "set_distribution" = true) (k : PySem.W.keepIn K (.ref f) = true) : ∃ (f : Addr) (fd : FuncData), At K mg "set_distribution" s_set_distribution ["instance", "arguments"] f fd :=
  ⟨f, _, fun_mk (st := s_set_distribution) l c k, PySem.W.mg_of X G a, (fun_mk (st := s_set_distribution) l c k).binds (ps := ["instance", "arguments"]) fun _ _ _ _ _ _ us hl => match us, hl with | [_, _], _ => rfl⟩
theorem mk_distribution (X : K.In h) (G : h.Ns mainGlobals mg) (a : PySem.W.nsIn K mainGlobals "distribution" = some (some (.ref f))) (l : K.lookup f = some ⟨oc, od, .func (PySem.W.fnOf "distribution" "distribution" (defArgs s_distribution) (defBody s_distribution) (defScope s_distribution) .none kV dc pm an cd ct), sl⟩) (c : PySem.W.codeIn K cd "distribution" = true) (k : PySem.W.keepIn K (.ref f) = true) : ∃ (f : Addr) (fd : FuncData), At K mg "distribution" s_distribution ["instance", "arguments"] f fd :=
  ⟨f, _, fun_mk (st := s_distribution) l c k, PySem.W.mg_of X G a, (fun_mk (st := s_distribution) l c k).binds (ps := ["instance", "arguments"]) fun _ _ _ _ _ _ us hl => match us, hl with | [_, _], _ => rfl⟩
theorem mk_distance (X : K.In h) (G : h.Ns mainGlobals mg) (a : PySem.W.nsIn K mainGlobals "distance" = some (some (.ref f))) (l : K.lookup f = some ⟨oc, od, .func (PySem.W.fnOf "distance" "distance" (defArgs s_distance) (defBody s_distance) (defScope s_distance) .none kV dc pm an cd ct), sl⟩) (c : PySem.W.codeIn K cd "distance" = true) (k : PySem.W.keepIn K (.ref f) = true) : ∃ (f : Addr) (fd : FuncData), At K mg "distance" s_distance ["instance", "arguments"] f fd :=
  ⟨f, _, fun_mk (st := s_distance) l c k, PySem.W.mg_of X G a, (fun_mk (st := s_distance) l c k).binds (ps := ["instance", "arguments"]) fun _ _ _ _ _ _ us hl => match us, hl with | [_, _], _ => rfl⟩
theorem mk_min_cost (X : K.In h) (G : h.Ns mainGlobals mg) (a : PySem.W.nsIn K mainGlobals "min_cost" = some (some (.ref f))) (l : K.lookup f = some ⟨oc, od, .func (PySem.W.fnOf "min_cost" "min_cost" (defArgs s_min_cost) (defBody s_min_cost) (defScope s_min_cost) .none kV dc pm an cd ct), sl⟩) (c : PySem.W.codeIn K cd "min_cost" = true) (k : PySem.W.keepIn K (.ref f) = true) : ∃ (f : Addr) (fd : FuncData), At K mg "min_cost" s_min_cost ["instance", "arguments"] f fd :=
  ⟨f, _, fun_mk (st := s_min_cost) l c k, PySem.W.mg_of X G a, (fun_mk (st := s_min_cost) l c k).binds (ps := ["instance", "arguments"]) fun _ _ _ _ _ _ us hl => match us, hl with | [_, _], _ => rfl⟩
theorem mk_optimal_plan (X : K.In h) (G : h.Ns mainGlobals mg) (a : PySem.W.nsIn K mainGlobals "optimal_plan" = some (some (.ref f))) (l : K.lookup f = some ⟨oc, od, .func (PySem.W.fnOf "optimal_plan" "optimal_plan" (defArgs s_optimal_plan) (defBody s_optimal_plan) (defScope s_optimal_plan) .none kV dc pm an cd ct), sl⟩) (c : PySem.W.codeIn K cd "optimal_plan" = true) (k : PySem.W.keepIn K (.ref f) = true) : ∃ (f : Addr) (fd : FuncData), At K mg "optimal_plan" s_optimal_plan ["instance", "arguments"] f fd :=
  ⟨f, _, fun_mk (st := s_optimal_plan) l c k, PySem.W.mg_of X G a, (fun_mk (st := s_optimal_plan) l c k).binds (ps := ["instance", "arguments"]) fun _ _ _ _ _ _ us hl => match us, hl with | [_, _], _ => rfl⟩
theorem mk_optimal_potentials (X : K.In h) (G : h.Ns mainGlobals mg) (a : PySem.W.nsIn K mainGlobals "optimal_potentials" = some (some (.ref f))) (l : K.lookup f = some ⟨oc, od, .func (PySem.W.fnOf "optimal_potentials" "optimal_potentials" (defArgs s_optimal_potentials) (defBody s_optimal_potentials) (defScope s_optimal_potentials) .none kV dc pm an cd ct), sl⟩) (c : PySem.W.codeIn K cd "optimal_potentials" = true) (k : PySem.W.keepIn K (.ref f) = true) : ∃ (f : Addr) (fd : FuncData), At K mg "optimal_potentials" s_optimal_potentials ["instance", "arguments"] f fd :=
  ⟨f, _, fun_mk (st := s_optimal_potentials) l c k, PySem.W.mg_of X G a, (fun_mk (st := s_optimal_potentials) l c k).binds (ps := ["instance", "arguments"]) fun _ _ _ _ _ _ us hl => match us, hl with | [_, _], _ => rfl⟩
theorem mk_check_plan (X : K.In h) (G : h.Ns mainGlobals mg) (a : PySem.W.nsIn K mainGlobals "check_plan" = some (some (.ref f))) (l : K.lookup f = some ⟨oc, od, .func (PySem.W.fnOf "check_plan" "check_plan" (defArgs s_check_plan) (defBody s_check_plan) (defScope s_check_plan) .none kV dc pm an cd ct), sl⟩) (c : PySem.W.codeIn K cd "check_plan" = true) (k : PySem.W.keepIn K (.ref f) = true) : ∃ (f : Addr) (fd : FuncData), At K mg "check_plan" s_check_plan ["instance", "arguments"] f fd :=
  ⟨f, _, fun_mk (st := s_check_plan) l c k, PySem.W.mg_of X G a, (fun_mk (st := s_check_plan) l c k).binds (ps := ["instance", "arguments"]) fun _ _ _ _ _ _ us hl => match us, hl with | [_, _], _ => rfl⟩
theorem mk_check_potentials (X : K.In h) (G : h.Ns mainGlobals mg) (a : PySem.W.nsIn K mainGlobals "check_potentials" = some (some (.ref f))) (l : K.lookup f = some ⟨oc, od, .func (PySem.W.fnOf "check_potentials" "check_potentials" (defArgs s_check_potentials) (defBody s_check_potentials) (defScope s_check_potentials) .none kV dc pm an cd ct), sl⟩) (c : PySem.W.codeIn K cd "check_potentials" = true) (k : PySem.W.keepIn K (.ref f) = true) : ∃ (f : Addr) (fd : FuncData), At K mg "check_potentials" s_check_potentials ["instance", "arguments"] f fd :=
  ⟨f, _, fun_mk (st := s_check_potentials) l c k, PySem.W.mg_of X G a, (fun_mk (st := s_check_potentials) l c k).binds (ps := ["instance", "arguments"]) fun _ _ _ _ _ _ us hl => match us, hl with | [_, _], _ => rfl⟩
theorem mk_compose_plans (X : K.In h) (G : h.Ns mainGlobals mg) (a : PySem.W.nsIn K mainGlobals "compose_plans" = some (some (.ref f))) (l : K.lookup f = some ⟨oc, od, .func (PySem.W.fnOf "compose_plans" "compose_plans" (defArgs s_compose_plans) (defBody s_compose_plans) (defScope s_compose_plans) .none kV dc pm an cd ct), sl⟩) (c : PySem.W.codeIn K cd "compose_plans" = true) (k : PySem.W.keepIn K (.ref f) = true) : ∃ (f : Addr) (fd : FuncData), At K mg "compose_plans" s_compose_plans ["instance", "arguments"] f fd :=
  ⟨f, _, fun_mk (st := s_compose_plans) l c k, PySem.W.mg_of X G a, (fun_mk (st := s_compose_plans) l c k).binds (ps := ["instance", "arguments"]) fun _ _ _ _ _ _ us hl => match us, hl with | [_, _], _ => rfl⟩
theorem mk_map_distribution (X : K.In h) (G : h.Ns mainGlobals mg) (a : PySem.W.nsIn K mainGlobals "map_distribution" = some (some (.ref f))) (l : K.lookup f = some ⟨oc, od, .func (PySem.W.fnOf "map_distribution" "map_distribution" (defArgs s_map_distribution) (defBody s_map_distribution) (defScope s_map_distribution) .none kV dc pm an cd ct), sl⟩) (c : PySem.W.codeIn K cd "map_distribution" = true) (k : PySem.W.keepIn K (.ref f) = true) : ∃ (f : Addr) (fd : FuncData), At K mg "map_distribution" s_map_distribution ["instance", "arguments"] f fd :=
  ⟨f, _, fun_mk (st := s_map_distribution) l c k, PySem.W.mg_of X G a, (fun_mk (st := s_map_distribution) l c k).binds (ps := ["instance", "arguments"]) fun _ _ _ _ _ _ us hl => match us, hl with | [_, _], _ => rfl⟩
theorem mk_average (X : K.In h) (G : h.Ns mainGlobals mg) (a : PySem.W.nsIn K mainGlobals "average" = some (some (.ref f))) (l : K.lookup f = some ⟨oc, od, .func (PySem.W.fnOf "average" "average" (defArgs s_average) (defBody s_average) (defScope s_average) .none kV dc pm an cd ct), sl⟩) (c : PySem.W.codeIn K cd "average" = true) (k : PySem.W.keepIn K (.ref f) = true) : ∃ (f : Addr) (fd : FuncData), At K mg "average" s_average ["instance", "arguments"] f fd :=
  ⟨f, _, fun_mk (st := s_average) l c k, PySem.W.mg_of X G a, (fun_mk (st := s_average) l c k).binds (ps := ["instance", "arguments"]) fun _ _ _ _ _ _ us hl => match us, hl with | [_, _], _ => rfl⟩
theorem mk_is_connected (X : K.In h) (G : h.Ns mainGlobals mg) (a : PySem.W.nsIn K mainGlobals "is_connected" = some (some (.ref f))) (l : K.lookup f = some ⟨oc, od, .func (PySem.W.fnOf "is_connected" "is_connected" (defArgs s_is_connected) (defBody s_is_connected) (defScope s_is_connected) .none kV dc pm an cd ct), sl⟩) (c : PySem.W.codeIn K cd "is_connected" = true) (k : PySem.W.keepIn K (.ref f) = true) : ∃ (f : Addr) (fd : FuncData), At K mg "is_connected" s_is_connected ["instance", "arguments"] f fd :=
  ⟨f, _, fun_mk (st := s_is_connected) l c k, PySem.W.mg_of X G a, (fun_mk (st := s_is_connected) l c k).binds (ps := ["instance", "arguments"]) fun _ _ _ _ _ _ us hl => match us, hl with | [_, _], _ => rfl⟩
theorem mk_require_points (X : K.In h) (G : h.Ns mainGlobals mg) (a : PySem.W.nsIn K mainGlobals "require_points" = some (some (.ref f))) (l : K.lookup f = some ⟨oc, od, .func (PySem.W.fnOf "require_points" "require_points" (defArgs s_require_points) (defBody s_require_points) (defScope s_require_points) .none kV dc pm an cd ct), sl⟩) (c : PySem.W.codeIn K cd "require_points" = true) (k : PySem.W.keepIn K (.ref f) = true) : ∃ (f : Addr) (fd : FuncData), At K mg "require_points" s_require_points ["instance", "points"] f fd :=
  ⟨f, _, fun_mk (st := s_require_points) l c k, PySem.W.mg_of X G a, (fun_mk (st := s_require_points) l c k).binds (ps := ["instance", "points"]) fun _ _ _ _ _ _ us hl => match us, hl with | [_, _], _ => rfl⟩
theorem mk_require_slots (X : K.In h) (G : h.Ns mainGlobals mg) (a : PySem.W.nsIn K mainGlobals "require_slots" = some (some (.ref f))) (l : K.lookup f = some ⟨oc, od, .func (PySem.W.fnOf "require_slots" "require_slots" (defArgs s_require_slots) (defBody s_require_slots) (defScope s_require_slots) .none kV dc pm an cd ct), sl⟩) (c : PySem.W.codeIn K cd "require_slots" = true) (k : PySem.W.keepIn K (.ref f) = true) : ∃ (f : Addr) (fd : FuncData), At K mg "require_slots" s_require_slots ["slots"] f fd :=
  ⟨f, _, fun_mk (st := s_require_slots) l c k, PySem.W.mg_of X G a, (fun_mk (st := s_require_slots) l c k).binds (ps := ["slots"]) fun _ _ _ _ _ _ us hl => match us, hl with | [_], _ => rfl⟩
theorem mk_weights_in (X : K.In h) (G : h.Ns mainGlobals mg) (a : PySem.W.nsIn K mainGlobals "weights_in" = some (some (.ref f))) (l : K.lookup f = some ⟨oc, od, .func (PySem.W.fnOf "weights_in" "weights_in" (defArgs s_weights_in) (defBody s_weights_in) (defScope s_weights_in) .none kV dc pm an cd ct), sl⟩) (c : PySem.W.codeIn K cd "weights_in" = true) (k : PySem.W.keepIn K (.ref f) = true) : ∃ (f : Addr) (fd : FuncData), At K mg "weights_in" s_weights_in ["instance", "slots"] f fd :=
  ⟨f, _, fun_mk (st := s_weights_in) l c k, PySem.W.mg_of X G a, (fun_mk (st := s_weights_in) l c k).binds (ps := ["instance", "slots"]) fun _ _ _ _ _ _ us hl => match us, hl with | [_, _], _ => rfl⟩
theorem mk_require_each (X : K.In h) (G : h.Ns mainGlobals mg) (a : PySem.W.nsIn K mainGlobals "require_each" = some (some (.ref f))) (l : K.lookup f = some ⟨oc, od, .func (PySem.W.fnOf "require_each" "require_each" (defArgs s_require_each) (defBody s_require_each) (defScope s_require_each) .none kV dc pm an cd ct), sl⟩) (c : PySem.W.codeIn K cd "require_each" = true) (k : PySem.W.keepIn K (.ref f) = true) : ∃ (f : Addr) (fd : FuncData), At K mg "require_each" s_require_each ["instance", "numbers", "lowest", "highest"] f fd :=
  ⟨f, _, fun_mk (st := s_require_each) l c k, PySem.W.mg_of X G a, (fun_mk (st := s_require_each) l c k).binds (ps := ["instance", "numbers", "lowest", "highest"]) fun _ _ _ _ _ _ us hl => match us, hl with | [_, _, _, _], _ => rfl⟩
theorem mk_connected_distances (X : K.In h) (G : h.Ns mainGlobals mg) (a : PySem.W.nsIn K mainGlobals "connected_distances" = some (some (.ref f))) (l : K.lookup f = some ⟨oc, od, .func (PySem.W.fnOf "connected_distances" "connected_distances" (defArgs s_connected_distances) (defBody s_connected_distances) (defScope s_connected_distances) .none kV dc pm an cd ct), sl⟩) (c : PySem.W.codeIn K cd "connected_distances" = true) (k : PySem.W.keepIn K (.ref f) = true) : ∃ (f : Addr) (fd : FuncData), At K mg "connected_distances" s_connected_distances ["instance"] f fd :=
  ⟨f, _, fun_mk (st := s_connected_distances) l c k, PySem.W.mg_of X G a, (fun_mk (st := s_connected_distances) l c k).binds (ps := ["instance"]) fun _ _ _ _ _ _ us hl => match us, hl with | [_], _ => rfl⟩
theorem mk_plan_answer (X : K.In h) (G : h.Ns mainGlobals mg) (a : PySem.W.nsIn K mainGlobals "plan_answer" = some (some (.ref f))) (l : K.lookup f = some ⟨oc, od, .func (PySem.W.fnOf "plan_answer" "plan_answer" (defArgs s_plan_answer) (defBody s_plan_answer) (defScope s_plan_answer) .none kV dc pm an cd ct), sl⟩) (c : PySem.W.codeIn K cd "plan_answer" = true) (k : PySem.W.keepIn K (.ref f) = true) : ∃ (f : Addr) (fd : FuncData), At K mg "plan_answer" s_plan_answer ["plan", "distances"] f fd :=
  ⟨f, _, fun_mk (st := s_plan_answer) l c k, PySem.W.mg_of X G a, (fun_mk (st := s_plan_answer) l c k).binds (ps := ["plan", "distances"]) fun _ _ _ _ _ _ us hl => match us, hl with | [_, _], _ => rfl⟩
theorem mk_as_fractions (X : K.In h) (G : h.Ns mainGlobals mg) (a : PySem.W.nsIn K mainGlobals "as_fractions" = some (some (.ref f))) (l : K.lookup f = some ⟨oc, od, .func (PySem.W.fnOf "as_fractions" "as_fractions" (defArgs s_as_fractions) (defBody s_as_fractions) (defScope s_as_fractions) .none kV dc pm an cd ct), sl⟩) (c : PySem.W.codeIn K cd "as_fractions" = true) (k : PySem.W.keepIn K (.ref f) = true) : ∃ (f : Addr) (fd : FuncData), At K mg "as_fractions" s_as_fractions ["amounts", "units"] f fd :=
  ⟨f, _, fun_mk (st := s_as_fractions) l c k, PySem.W.mg_of X G a, (fun_mk (st := s_as_fractions) l c k).binds (ps := ["amounts", "units"]) fun _ _ _ _ _ _ us hl => match us, hl with | [_, _], _ => rfl⟩
theorem mk_perform (X : K.In h) (G : h.Ns mainGlobals mg) (a : PySem.W.nsIn K mainGlobals "perform" = some (some (.ref f))) (l : K.lookup f = some ⟨oc, od, .func (PySem.W.fnOf "perform" "perform" (defArgs s_perform) (defBody s_perform) (defScope s_perform) .none kV dc pm an cd ct), sl⟩) (c : PySem.W.codeIn K cd "perform" = true) (k : PySem.W.keepIn K (.ref f) = true) : ∃ (f : Addr) (fd : FuncData), At K mg "perform" s_perform ["instance", "number", "arguments"] f fd :=
  ⟨f, _, fun_mk (st := s_perform) l c k, PySem.W.mg_of X G a, (fun_mk (st := s_perform) l c k).binds (ps := ["instance", "number", "arguments"]) fun _ _ _ _ _ _ us hl => match us, hl with | [_, _, _], _ => rfl⟩
theorem mk_split_calls (X : K.In h) (G : h.Ns mainGlobals mg) (a : PySem.W.nsIn K mainGlobals "split_calls" = some (some (.ref f))) (l : K.lookup f = some ⟨oc, od, .func (PySem.W.fnOf "split_calls" "split_calls" (defArgs s_split_calls) (defBody s_split_calls) (defScope s_split_calls) .none kV dc pm an cd ct), sl⟩) (c : PySem.W.codeIn K cd "split_calls" = true) (k : PySem.W.keepIn K (.ref f) = true) : ∃ (f : Addr) (fd : FuncData), At K mg "split_calls" s_split_calls ["calls"] f fd :=
  ⟨f, _, fun_mk (st := s_split_calls) l c k, PySem.W.mg_of X G a, (fun_mk (st := s_split_calls) l c k).binds (ps := ["calls"]) fun _ _ _ _ _ _ us hl => match us, hl with | [_], _ => rfl⟩
theorem exm_sub (h1 : PySem.W.subIn K (.ref CR) (.type "BaseException") = some true) (h2 : PySem.W.isClsIn K CR = true) (h3 : PySem.W.typeIn K (.ref CR) = some (.type "type")) (h4 : PySem.W.subIn K (.ref C) (.ref CR) = some true) : PySem.W.exmOne K (.ref C) (.ref CR) = some true := by
  have e1 : (PySem.W.subIn K (.ref CR) (.type "BaseException") == some true) = true := by rw [h1] <;> rfl
  have e2 : ((PySem.W.clsIn K CR).isSome && PySem.W.typeIn K (.ref CR) == some (.type "type")) = true := by
    have h2' : (PySem.W.clsIn K CR).isSome = true := h2
    rw [h2', h3] <;> rfl
  show (if (PySem.W.subIn K (.ref CR) (.type "BaseException") == some true) = true then (if ((PySem.W.clsIn K CR).isSome && PySem.W.typeIn K (.ref CR) == some (.type "type")) = true then PySem.W.subIn K (.ref C) (.ref CR) else none) else none) = some true
  rw [if_pos e1, if_pos e2]
  exact h4
theorem mk_Refusal (X : K.In h) (G : h.Ns mainGlobals mg) (a : PySem.W.nsIn K mainGlobals "Refusal" = some (some (.ref CR))) (k : PySem.W.keepIn K (.ref fR) = true) (g : PySem.W.specialIn K (.ref CR) "__getattribute__" = some (some (.builtin "type.__getattribute__")))
    (r1 : PySem.W.readsIn K CR (.type "type") = true) (r2 : PySem.W.findCls K (.ref CR) (.type "type") "__init__" = some (.val (.ref fR)))
    (l : K.lookup fR = some ⟨oc, od, .func (PySem.W.fnOf "__init__" "Refusal.__init__" (RX.rA ⟨197, 17, 197, 21⟩ ⟨197, 23, 197, 27⟩) (RX.rB ⟨198, 8, 198, 12⟩ ⟨198, 8, 198, 17⟩ ⟨198, 20, 198, 24⟩ ⟨198, 8, 198, 24⟩) RX.rS .none .none dc pm an cd ct), sl⟩) (c : PySem.W.codeIn K cd "Refusal.__init__" = true) : RX.RTxt K mg CR fR :=
  ⟨PySem.W.mg_of X G a, k, g, ⟨_, r1, r2⟩, ⟨_, _, _, _, _, _, _, _, _, _, _, _, _, _, l, c⟩⟩
theorem mk_NoInstance {nm q : Str} {N : Addr} {bs : List Value} {sn : List Str} {sub : List Value} {ab : Bool} {col : Option Bool} {dd : Option Addr} {m0 m1 m2 m3 m5 : Option Value} (X : K.In h) (G : h.Ns mainGlobals mg) (a : PySem.W.nsIn K mainGlobals "NoInstance" = some (some (.ref C)))
    (xL : K.lookup C = some (excClassObj nm q C N bs (.ref CR :: RX.exT) true sn sub ab col dd m0 m1 m2 m3 m5 "Exception.__new__"))
    (sa : PySem.W.findIn K (.ref C) "__setattr__" = some (some (.builtin "object.__setattr__"))) (ga : PySem.W.findIn K (.ref C) "__getattribute__" = some (some (.builtin "BaseException.__getattribute__"))) (gg : PySem.W.findIn K (.ref C) "__getattr__" = some none) (nb : PySem.W.findIn K (.ref C) "code" = some none)
    (i : PySem.W.findIn K (.ref C) "__init__" = some (some (.ref fI))) (t : PySem.W.typeIn K (.ref fI) = some (.type "function"))
    (l : K.lookup fI = some ⟨oc, od, .func (PySem.W.fnOf "__init__" "NoInstance.__init__" (RX.sA ⟨201, 17, 201, 21⟩) (RX.sB 11 ⟨202, 8, 202, 15⟩ ⟨202, 8, 202, 24⟩ ⟨202, 25, 202, 29⟩ ⟨202, 32, 202, 34⟩ ⟨202, 31, 202, 34⟩ ⟨202, 8, 202, 35⟩ ⟨202, 8, 202, 35⟩) RX.sS .none .none dc pm an cd ct), sl⟩) (c : PySem.W.codeIn K cd "NoInstance.__init__" = true)
    (kC : PySem.W.keepIn K (.ref C) = true) (eC : PySem.W.subIn K (.ref C) (.type "BaseException") = some true) (tC : PySem.W.typeIn K (.ref C) = some (.type "type")) (hC : PySem.W.hasDictIn K C = true)
    (eR : PySem.W.subIn K (.ref CR) (.type "BaseException") = some true) (iR : PySem.W.isClsIn K CR = true) (tR : PySem.W.typeIn K (.ref CR) = some (.type "type")) (sC : PySem.W.subIn K (.ref C) (.ref CR) = some true) : ∃ C fI, RX.STxt K mg "NoInstance" "NoInstance.__init__" CR C fI 11 :=
  ⟨C, fI, ⟨ga, gg, nb, eC, hC, exm_sub eR iR tR sC⟩, PySem.W.mg_of X G a, ⟨_, _, _, _, _, _, _, _, _, _, _, _, _, _, xL⟩, sa, i, t, kC, tC, ⟨_, _, _, _, _, _, _, _, _, _, _, _, _, _, _, _, l, c, by decide⟩⟩
theorem mk_Missing {nm q : Str} {N : Addr} {bs : List Value} {sn : List Str} {sub : List Value} {ab : Bool} {col : Option Bool} {dd : Option Addr} {m0 m1 m2 m3 m5 : Option Value} (X : K.In h) (G : h.Ns mainGlobals mg) (a : PySem.W.nsIn K mainGlobals "Missing" = some (some (.ref C)))
    (xL : K.lookup C = some (excClassObj nm q C N bs (.ref CR :: RX.exT) true sn sub ab col dd m0 m1 m2 m3 m5 "Exception.__new__"))
    (sa : PySem.W.findIn K (.ref C) "__setattr__" = some (some (.builtin "object.__setattr__"))) (ga : PySem.W.findIn K (.ref C) "__getattribute__" = some (some (.builtin "BaseException.__getattribute__"))) (gg : PySem.W.findIn K (.ref C) "__getattr__" = some none) (nb : PySem.W.findIn K (.ref C) "code" = some none)
    (i : PySem.W.findIn K (.ref C) "__init__" = some (some (.ref fI))) (t : PySem.W.typeIn K (.ref fI) = some (.type "function"))
    (l : K.lookup fI = some ⟨oc, od, .func (PySem.W.fnOf "__init__" "Missing.__init__" (RX.sA ⟨205, 17, 205, 21⟩) (RX.sB 2 ⟨206, 8, 206, 15⟩ ⟨206, 8, 206, 24⟩ ⟨206, 25, 206, 29⟩ ⟨206, 32, 206, 33⟩ ⟨206, 31, 206, 33⟩ ⟨206, 8, 206, 34⟩ ⟨206, 8, 206, 34⟩) RX.sS .none .none dc pm an cd ct), sl⟩) (c : PySem.W.codeIn K cd "Missing.__init__" = true)
    (kC : PySem.W.keepIn K (.ref C) = true) (eC : PySem.W.subIn K (.ref C) (.type "BaseException") = some true) (tC : PySem.W.typeIn K (.ref C) = some (.type "type")) (hC : PySem.W.hasDictIn K C = true)
    (eR : PySem.W.subIn K (.ref CR) (.type "BaseException") = some true) (iR : PySem.W.isClsIn K CR = true) (tR : PySem.W.typeIn K (.ref CR) = some (.type "type")) (sC : PySem.W.subIn K (.ref C) (.ref CR) = some true) : ∃ C fI, RX.STxt K mg "Missing" "Missing.__init__" CR C fI 2 :=
  ⟨C, fI, ⟨ga, gg, nb, eC, hC, exm_sub eR iR tR sC⟩, PySem.W.mg_of X G a, ⟨_, _, _, _, _, _, _, _, _, _, _, _, _, _, xL⟩, sa, i, t, kC, tC, ⟨_, _, _, _, _, _, _, _, _, _, _, _, _, _, _, _, l, c, by decide⟩⟩
theorem mk_Malformed {nm q : Str} {N : Addr} {bs : List Value} {sn : List Str} {sub : List Value} {ab : Bool} {col : Option Bool} {dd : Option Addr} {m0 m1 m2 m3 m5 : Option Value} (X : K.In h) (G : h.Ns mainGlobals mg) (a : PySem.W.nsIn K mainGlobals "Malformed" = some (some (.ref C)))
    (xL : K.lookup C = some (excClassObj nm q C N bs (.ref CR :: RX.exT) true sn sub ab col dd m0 m1 m2 m3 m5 "Exception.__new__"))
    (sa : PySem.W.findIn K (.ref C) "__setattr__" = some (some (.builtin "object.__setattr__"))) (ga : PySem.W.findIn K (.ref C) "__getattribute__" = some (some (.builtin "BaseException.__getattribute__"))) (gg : PySem.W.findIn K (.ref C) "__getattr__" = some none) (nb : PySem.W.findIn K (.ref C) "code" = some none)
    (i : PySem.W.findIn K (.ref C) "__init__" = some (some (.ref fI))) (t : PySem.W.typeIn K (.ref fI) = some (.type "function"))
    (l : K.lookup fI = some ⟨oc, od, .func (PySem.W.fnOf "__init__" "Malformed.__init__" (RX.sA ⟨209, 17, 209, 21⟩) (RX.sB 22 ⟨210, 8, 210, 15⟩ ⟨210, 8, 210, 24⟩ ⟨210, 25, 210, 29⟩ ⟨210, 32, 210, 34⟩ ⟨210, 31, 210, 34⟩ ⟨210, 8, 210, 35⟩ ⟨210, 8, 210, 35⟩) RX.sS .none .none dc pm an cd ct), sl⟩) (c : PySem.W.codeIn K cd "Malformed.__init__" = true)
    (kC : PySem.W.keepIn K (.ref C) = true) (eC : PySem.W.subIn K (.ref C) (.type "BaseException") = some true) (tC : PySem.W.typeIn K (.ref C) = some (.type "type")) (hC : PySem.W.hasDictIn K C = true)
    (eR : PySem.W.subIn K (.ref CR) (.type "BaseException") = some true) (iR : PySem.W.isClsIn K CR = true) (tR : PySem.W.typeIn K (.ref CR) = some (.type "type")) (sC : PySem.W.subIn K (.ref C) (.ref CR) = some true) : ∃ C fI, RX.STxt K mg "Malformed" "Malformed.__init__" CR C fI 22 :=
  ⟨C, fI, ⟨ga, gg, nb, eC, hC, exm_sub eR iR tR sC⟩, PySem.W.mg_of X G a, ⟨_, _, _, _, _, _, _, _, _, _, _, _, _, _, xL⟩, sa, i, t, kC, tC, ⟨_, _, _, _, _, _, _, _, _, _, _, _, _, _, _, _, l, c, by decide⟩⟩
theorem mk_NoPath {nm q : Str} {N : Addr} {bs : List Value} {sn : List Str} {sub : List Value} {ab : Bool} {col : Option Bool} {dd : Option Addr} {m0 m1 m2 m3 m5 : Option Value} (X : K.In h) (G : h.Ns mainGlobals mg) (a : PySem.W.nsIn K mainGlobals "NoPath" = some (some (.ref C)))
    (xL : K.lookup C = some (excClassObj nm q C N bs (.ref CR :: RX.exT) true sn sub ab col dd m0 m1 m2 m3 m5 "Exception.__new__"))
    (sa : PySem.W.findIn K (.ref C) "__setattr__" = some (some (.builtin "object.__setattr__"))) (ga : PySem.W.findIn K (.ref C) "__getattribute__" = some (some (.builtin "BaseException.__getattribute__"))) (gg : PySem.W.findIn K (.ref C) "__getattr__" = some none) (nb : PySem.W.findIn K (.ref C) "code" = some none)
    (i : PySem.W.findIn K (.ref C) "__init__" = some (some (.ref fI))) (t : PySem.W.typeIn K (.ref fI) = some (.type "function"))
    (l : K.lookup fI = some ⟨oc, od, .func (PySem.W.fnOf "__init__" "NoPath.__init__" (RX.sA ⟨213, 17, 213, 21⟩) (RX.sB 33 ⟨214, 8, 214, 15⟩ ⟨214, 8, 214, 24⟩ ⟨214, 25, 214, 29⟩ ⟨214, 32, 214, 34⟩ ⟨214, 31, 214, 34⟩ ⟨214, 8, 214, 35⟩ ⟨214, 8, 214, 35⟩) RX.sS .none .none dc pm an cd ct), sl⟩) (c : PySem.W.codeIn K cd "NoPath.__init__" = true)
    (kC : PySem.W.keepIn K (.ref C) = true) (eC : PySem.W.subIn K (.ref C) (.type "BaseException") = some true) (tC : PySem.W.typeIn K (.ref C) = some (.type "type")) (hC : PySem.W.hasDictIn K C = true)
    (eR : PySem.W.subIn K (.ref CR) (.type "BaseException") = some true) (iR : PySem.W.isClsIn K CR = true) (tR : PySem.W.typeIn K (.ref CR) = some (.type "type")) (sC : PySem.W.subIn K (.ref C) (.ref CR) = some true) : ∃ C fI, RX.STxt K mg "NoPath" "NoPath.__init__" CR C fI 33 :=
  ⟨C, fI, ⟨ga, gg, nb, eC, hC, exm_sub eR iR tR sC⟩, PySem.W.mg_of X G a, ⟨_, _, _, _, _, _, _, _, _, _, _, _, _, _, xL⟩, sa, i, t, kC, tC, ⟨_, _, _, _, _, _, _, _, _, _, _, _, _, _, _, _, l, c, by decide⟩⟩
theorem mk_TooLarge {nm q : Str} {N : Addr} {bs : List Value} {sn : List Str} {sub : List Value} {ab : Bool} {col : Option Bool} {dd : Option Addr} {m0 m1 m2 m3 m5 : Option Value} (X : K.In h) (G : h.Ns mainGlobals mg) (a : PySem.W.nsIn K mainGlobals "TooLarge" = some (some (.ref C)))
    (xL : K.lookup C = some (excClassObj nm q C N bs (.ref CR :: RX.exT) true sn sub ab col dd m0 m1 m2 m3 m5 "Exception.__new__"))
    (sa : PySem.W.findIn K (.ref C) "__setattr__" = some (some (.builtin "object.__setattr__"))) (ga : PySem.W.findIn K (.ref C) "__getattribute__" = some (some (.builtin "BaseException.__getattribute__"))) (gg : PySem.W.findIn K (.ref C) "__getattr__" = some none) (nb : PySem.W.findIn K (.ref C) "code" = some none)
    (i : PySem.W.findIn K (.ref C) "__init__" = some (some (.ref fI))) (t : PySem.W.typeIn K (.ref fI) = some (.type "function"))
    (l : K.lookup fI = some ⟨oc, od, .func (PySem.W.fnOf "__init__" "TooLarge.__init__" (RX.sA ⟨217, 17, 217, 21⟩) (RX.sB 75 ⟨218, 8, 218, 15⟩ ⟨218, 8, 218, 24⟩ ⟨218, 25, 218, 29⟩ ⟨218, 32, 218, 34⟩ ⟨218, 31, 218, 34⟩ ⟨218, 8, 218, 35⟩ ⟨218, 8, 218, 35⟩) RX.sS .none .none dc pm an cd ct), sl⟩) (c : PySem.W.codeIn K cd "TooLarge.__init__" = true)
    (kC : PySem.W.keepIn K (.ref C) = true) (eC : PySem.W.subIn K (.ref C) (.type "BaseException") = some true) (tC : PySem.W.typeIn K (.ref C) = some (.type "type")) (hC : PySem.W.hasDictIn K C = true)
    (eR : PySem.W.subIn K (.ref CR) (.type "BaseException") = some true) (iR : PySem.W.isClsIn K CR = true) (tR : PySem.W.typeIn K (.ref CR) = some (.type "type")) (sC : PySem.W.subIn K (.ref C) (.ref CR) = some true) : ∃ C fI, RX.STxt K mg "TooLarge" "TooLarge.__init__" CR C fI 75 :=
  ⟨C, fI, ⟨ga, gg, nb, eC, hC, exm_sub eR iR tR sC⟩, PySem.W.mg_of X G a, ⟨_, _, _, _, _, _, _, _, _, _, _, _, _, _, xL⟩, sa, i, t, kC, tC, ⟨_, _, _, _, _, _, _, _, _, _, _, _, _, _, _, _, l, c, by decide⟩⟩
theorem mk_tx (X : K.In h) (G : h.Ns mainGlobals mg) (b0 : PySem.W.nsIn K mainGlobals "len" = some none) (b1 : PySem.W.nsIn K mainGlobals "range" = some none) (b2 : PySem.W.nsIn K mainGlobals "enumerate" = some none) (b3 : PySem.W.nsIn K mainGlobals "min" = some none) (b4 : PySem.W.nsIn K mainGlobals "max" = some none) (b5 : PySem.W.nsIn K mainGlobals "sum" = some none) (b6 : PySem.W.nsIn K mainGlobals "list" = some none) : Tx K mg :=
  ⟨PySem.W.mg_none_of X G b0, PySem.W.mg_none_of X G b1, PySem.W.mg_none_of X G b2, PySem.W.mg_none_of X G b3, PySem.W.mg_none_of X G b4, PySem.W.mg_none_of X G b5, PySem.W.mg_none_of X G b6⟩
theorem mk_gi {x : Str} {i : Int} {t : Tok} (X : K.In h) (G : h.Ns mainGlobals mg) (a : PySem.W.nsIn K mainGlobals x = some (some (.int i t))) : GI mg x i := ⟨_, PySem.W.mg_of X G a, t, rfl⟩
theorem mk_gt {x : Str} {xs : List V} {its : List Value} {n : Nat} (X : K.In h) (G : h.Ns mainGlobals mg) (a : PySem.W.nsIn K mainGlobals x = some (some (.ref f))) (l : K.lookup f = some ⟨.type "tuple", od, .seq its.toArray n, sl⟩) (hs : its.length ≤ 100000) (v : Vals xs its) : GT K mg x xs :=
  ⟨f, PySem.W.mg_of X G a, fun H => .inr ⟨_, _, _, l, rfl, rfl, by rw [List.size_toArray]; exact size_ok hs, v⟩⟩
theorem mk_cn {fw fr : Addr} {nw nr : Nat} {odw odr : Option Addr} {slw slr : Array (Option Value)} {c0 c1 c2 c3 c4 c5 c6 u0 u1 u2 u3 u4 u5 u6 u7 u8 u9 u10 u11 u12 u13 v0 v1 v2 v3 : Tok} (X : K.In h) (G : h.Ns mainGlobals mg) (a0 : PySem.W.nsIn K mainGlobals "MOST_POINTS" = some (some (.int 6 c0))) (a1 : PySem.W.nsIn K mainGlobals "LONGEST_EDGE" = some (some (.int 9 c1))) (a2 : PySem.W.nsIn K mainGlobals "SLOTS" = some (some (.int 4 c2))) (a3 : PySem.W.nsIn K mainGlobals "GREATEST_WEIGHT" = some (some (.int 20 c3))) (a4 : PySem.W.nsIn K mainGlobals "GREATEST_POTENTIAL" = some (some (.int 999 c4))) (a5 : PySem.W.nsIn K mainGlobals "GREATEST_DENOMINATOR" = some (some (.int 100000 c5))) (a6 : PySem.W.nsIn K mainGlobals "CREATE" = some (some (.int 0 c6)))
    (aw : PySem.W.nsIn K mainGlobals "WHOLE_NUMBERS" = some (some (.ref fw))) (lw : K.lookup fw = some ⟨.type "tuple", odw, .seq (List.toArray [.int 1 u0, .int 3 u1, .int 1 u2, .int 1 u3, .int 2 u4, .int 2 u5, .int 2 u6, .int 2 u7, .int 3 u8, .int 2 u9, .int 3 u10, .int 2 u11, .int 3 u12, .int 0 u13]) nw, slw⟩)
    (ar : PySem.W.nsIn K mainGlobals "CALLS_WITH_ROW" = some (some (.ref fr))) (lr : K.lookup fr = some ⟨.type "tuple", odr, .seq (List.toArray [.int 2 v0, .int 8 v1, .int 9 v2, .int 11 v3]) nr, slr⟩) : Cn K mg :=
  ⟨mk_gi X G a0, mk_gi X G a1, mk_gi X G a2, mk_gi X G a3, mk_gi X G a4, mk_gi X G a5, mk_gi X G a6, mk_gt X G aw lw (by show 14 ≤ 100000; decide) (.cons ⟨_, rfl⟩ (.cons ⟨_, rfl⟩ (.cons ⟨_, rfl⟩ (.cons ⟨_, rfl⟩ (.cons ⟨_, rfl⟩ (.cons ⟨_, rfl⟩ (.cons ⟨_, rfl⟩ (.cons ⟨_, rfl⟩ (.cons ⟨_, rfl⟩ (.cons ⟨_, rfl⟩ (.cons ⟨_, rfl⟩ (.cons ⟨_, rfl⟩ (.cons ⟨_, rfl⟩ (.cons ⟨_, rfl⟩ .nil)))))))))))))), mk_gt X G ar lr (by show 4 ≤ 100000; decide) (.cons ⟨_, rfl⟩ (.cons ⟨_, rfl⟩ (.cons ⟨_, rfl⟩ (.cons ⟨_, rfl⟩ .nil))))⟩
theorem mk_ins (pg : PySem.W.plainGet K C Str.empty = true) (hd : PySem.W.hasDictIn K C = true) (po : PySem.W.plainOver K C = true) (sa : PySem.W.findIn K (.ref C) "__setattr__" = some (some (.builtin "object.__setattr__"))) (n1 : PySem.W.findIn K (.ref C) "points" = some none) (n2 : PySem.W.findIn K (.ref C) "lengths" = some none) (n3 : PySem.W.findIn K (.ref C) "slots" = some none) : InsT K C := ⟨⟨pg, hd, po, sa⟩, n1, n2, n3⟩
theorem mk_init (l : K.lookup f = some ⟨oc, od, .func (PySem.W.fnOf "__init__" "Instance.__init__" (defArgs s_Instance___init__) (defBody s_Instance___init__) (defScope s_Instance___init__) .none kV dc pm an cd ct), sl⟩) (c : PySem.W.codeIn K cd "Instance.__init__" = true) (k : PySem.W.keepIn K (.ref f) = true) :
    ∃ fd : FuncData, Fun K "__init__" "Instance.__init__" s_Instance___init__ f fd ∧ Binds K fd ["self", "points"] [] :=
  ⟨_, fun_mk (st := s_Instance___init__) l c k, (fun_mk (st := s_Instance___init__) l c k).binds (ps := ["self", "points"]) fun _ _ _ _ _ _ us hl => match us, hl with | [_, _], _ => rfl⟩
theorem find_list {es : List DictEntry} {k : Int} : findBy Value.isInt es.toArray k = (es.find? fun e => Value.isInt k e.key).map (·.val) := by
  unfold findBy; rw [List.find?_toArray]
theorem mk_tab {aO : Addr} {n : Nat} {h1 h2 h3 h4 h5 h6 h7 h8 h9 h10 h11 h12 h13 : Int} {t1 t2 t3 t4 t5 t6 t7 t8 t9 t10 t11 t12 t13 : Tok} {f1 f2 f3 f4 f5 f6 f7 f8 f9 f10 f11 f12 f13 : Addr} (X : K.In h) (G : h.Ns mainGlobals mg) (a : PySem.W.nsIn K mainGlobals "OPERATIONS" = some (some (.ref aO))) (l : K.lookup aO = some ⟨.type "dict", none, .dict (List.toArray [⟨h1, .int 1 t1, .ref f1⟩, ⟨h2, .int 2 t2, .ref f2⟩, ⟨h3, .int 3 t3, .ref f3⟩, ⟨h4, .int 4 t4, .ref f4⟩, ⟨h5, .int 5 t5, .ref f5⟩, ⟨h6, .int 6 t6, .ref f6⟩, ⟨h7, .int 7 t7, .ref f7⟩, ⟨h8, .int 8 t8, .ref f8⟩, ⟨h9, .int 9 t9, .ref f9⟩, ⟨h10, .int 10 t10, .ref f10⟩, ⟨h11, .int 11 t11, .ref f11⟩, ⟨h12, .int 12 t12, .ref f12⟩, ⟨h13, .int 13 t13, .ref f13⟩]) n, #[]⟩)
    (e1 : h1 = hashInt 1) (e2 : h2 = hashInt 2) (e3 : h3 = hashInt 3) (e4 : h4 = hashInt 4) (e5 : h5 = hashInt 5) (e6 : h6 = hashInt 6) (e7 : h7 = hashInt 7) (e8 : h8 = hashInt 8) (e9 : h9 = hashInt 9) (e10 : h10 = hashInt 10) (e11 : h11 = hashInt 11) (e12 : h12 = hashInt 12) (e13 : h13 = hashInt 13)
    (a1 : PySem.W.nsIn K mainGlobals "set_edge" = some (some (.ref f1))) (a2 : PySem.W.nsIn K mainGlobals "set_distribution" = some (some (.ref f2))) (a3 : PySem.W.nsIn K mainGlobals "distribution" = some (some (.ref f3))) (a4 : PySem.W.nsIn K mainGlobals "distance" = some (some (.ref f4))) (a5 : PySem.W.nsIn K mainGlobals "min_cost" = some (some (.ref f5))) (a6 : PySem.W.nsIn K mainGlobals "optimal_plan" = some (some (.ref f6))) (a7 : PySem.W.nsIn K mainGlobals "optimal_potentials" = some (some (.ref f7))) (a8 : PySem.W.nsIn K mainGlobals "check_plan" = some (some (.ref f8))) (a9 : PySem.W.nsIn K mainGlobals "check_potentials" = some (some (.ref f9))) (a10 : PySem.W.nsIn K mainGlobals "compose_plans" = some (some (.ref f10))) (a11 : PySem.W.nsIn K mainGlobals "map_distribution" = some (some (.ref f11))) (a12 : PySem.W.nsIn K mainGlobals "average" = some (some (.ref f12))) (a13 : PySem.W.nsIn K mainGlobals "is_connected" = some (some (.ref f13))) : ∃ (aO : Addr) (es : List DictEntry), mg "OPERATIONS" = some (.ref aO) ∧ Tab K aO es ∧ (∀ f, mg "set_edge" = some (.ref f) → findBy Value.isInt es.toArray 1 = some (.ref f)) ∧ (∀ f, mg "set_distribution" = some (.ref f) → findBy Value.isInt es.toArray 2 = some (.ref f)) ∧ (∀ f, mg "distribution" = some (.ref f) → findBy Value.isInt es.toArray 3 = some (.ref f)) ∧ (∀ f, mg "distance" = some (.ref f) → findBy Value.isInt es.toArray 4 = some (.ref f)) ∧ (∀ f, mg "min_cost" = some (.ref f) → findBy Value.isInt es.toArray 5 = some (.ref f)) ∧ (∀ f, mg "optimal_plan" = some (.ref f) → findBy Value.isInt es.toArray 6 = some (.ref f)) ∧ (∀ f, mg "optimal_potentials" = some (.ref f) → findBy Value.isInt es.toArray 7 = some (.ref f)) ∧ (∀ f, mg "check_plan" = some (.ref f) → findBy Value.isInt es.toArray 8 = some (.ref f)) ∧ (∀ f, mg "check_potentials" = some (.ref f) → findBy Value.isInt es.toArray 9 = some (.ref f)) ∧ (∀ f, mg "compose_plans" = some (.ref f) → findBy Value.isInt es.toArray 10 = some (.ref f)) ∧ (∀ f, mg "map_distribution" = some (.ref f) → findBy Value.isInt es.toArray 11 = some (.ref f)) ∧ (∀ f, mg "average" = some (.ref f) → findBy Value.isInt es.toArray 12 = some (.ref f)) ∧ (∀ f, mg "is_connected" = some (.ref f) → findBy Value.isInt es.toArray 13 = some (.ref f)) := by
  refine ⟨aO, [⟨h1, .int 1 t1, .ref f1⟩, ⟨h2, .int 2 t2, .ref f2⟩, ⟨h3, .int 3 t3, .ref f3⟩, ⟨h4, .int 4 t4, .ref f4⟩, ⟨h5, .int 5 t5, .ref f5⟩, ⟨h6, .int 6 t6, .ref f6⟩, ⟨h7, .int 7 t7, .ref f7⟩, ⟨h8, .int 8 t8, .ref f8⟩, ⟨h9, .int 9 t9, .ref f9⟩, ⟨h10, .int 10 t10, .ref f10⟩, ⟨h11, .int 11 t11, .ref f11⟩, ⟨h12, .int 12 t12, .ref f12⟩, ⟨h13, .int 13 t13, .ref f13⟩], PySem.W.mg_of X G a, ⟨⟨n, l⟩, ⟨⟨1, t1, rfl, e1⟩, ⟨2, t2, rfl, e2⟩, ⟨3, t3, rfl, e3⟩, ⟨4, t4, rfl, e4⟩, ⟨5, t5, rfl, e5⟩, ⟨6, t6, rfl, e6⟩, ⟨7, t7, rfl, e7⟩, ⟨8, t8, rfl, e8⟩, ⟨9, t9, rfl, e9⟩, ⟨10, t10, rfl, e10⟩, ⟨11, t11, rfl, e11⟩, ⟨12, t12, rfl, e12⟩, ⟨13, t13, rfl, e13⟩, trivial⟩⟩, ?_, ?_, ?_, ?_, ?_, ?_, ?_, ?_, ?_, ?_, ?_, ?_, ?_⟩
  all_goals (intro f m; rw [find_list])
  · have e := (PySem.W.mg_of X G a1).symm.trans m; cases e; rfl
  · have e := (PySem.W.mg_of X G a2).symm.trans m; cases e; rfl
  · have e := (PySem.W.mg_of X G a3).symm.trans m; cases e; rfl
  · have e := (PySem.W.mg_of X G a4).symm.trans m; cases e; rfl
  · have e := (PySem.W.mg_of X G a5).symm.trans m; cases e; rfl
  · have e := (PySem.W.mg_of X G a6).symm.trans m; cases e; rfl
  · have e := (PySem.W.mg_of X G a7).symm.trans m; cases e; rfl
  · have e := (PySem.W.mg_of X G a8).symm.trans m; cases e; rfl
  · have e := (PySem.W.mg_of X G a9).symm.trans m; cases e; rfl
  · have e := (PySem.W.mg_of X G a10).symm.trans m; cases e; rfl
  · have e := (PySem.W.mg_of X G a11).symm.trans m; cases e; rfl
  · have e := (PySem.W.mg_of X G a12).symm.trans m; cases e; rfl
  · have e := (PySem.W.mg_of X G a13).symm.trans m; cases e; rfl
end
/-! ### the promises put together -/
theorem all_mk {P : Program} {w : World} {K : Fr} {h : Heap} {mg : Str → Option Value} {fa C CR fR fI f0 : Addr} {oc kV dc pm cd ct : Value} {od an : Option Addr} {sl : Array (Option Value)} (X : K.In h) (G : h.Ns mainGlobals mg) (hfa : mg "answers" = some (.ref fa))
    (a0 : PySem.W.nsIn K mainGlobals "answers" = some (some (.ref f0))) (l0 : K.lookup f0 = some ⟨oc, od, .func (PySem.W.fnOf "answers" "answers" (defArgs s_answers) (defBody s_answers) (defScope s_answers) .none kV dc pm an cd ct), sl⟩) (c0 : PySem.W.codeIn K cd "answers" = true) (k0 : PySem.W.keepIn K (.ref f0) = true)
    (RT : RX.RTxt K mg CR fR) (R0 : ∃ C fI, RX.STxt K mg "NoInstance" "NoInstance.__init__" CR C fI 11) (R1 : ∃ C fI, RX.STxt K mg "Missing" "Missing.__init__" CR C fI 2) (R2 : ∃ C fI, RX.STxt K mg "Malformed" "Malformed.__init__" CR C fI 22) (R3 : ∃ C fI, RX.STxt K mg "NoPath" "NoPath.__init__" CR C fI 33) (R4 : ∃ C fI, RX.STxt K mg "TooLarge" "TooLarge.__init__" CR C fI 75)
    (T : Tx K mg) (TC : Cn K mg) (mI_ : PySem.W.nsIn K mainGlobals "Instance" = some (some (.ref C))) (IT : InsT K C) (MI : Mk K C fI) (I0 : ∃ fd : FuncData, Fun K "__init__" "Instance.__init__" s_Instance___init__ fI fd ∧ Binds K fd ["self", "points"] [])
    (TB : ∃ (aO : Addr) (es : List DictEntry), mg "OPERATIONS" = some (.ref aO) ∧ Tab K aO es ∧ (∀ f, mg "set_edge" = some (.ref f) → findBy Value.isInt es.toArray 1 = some (.ref f)) ∧ (∀ f, mg "set_distribution" = some (.ref f) → findBy Value.isInt es.toArray 2 = some (.ref f)) ∧ (∀ f, mg "distribution" = some (.ref f) → findBy Value.isInt es.toArray 3 = some (.ref f)) ∧ (∀ f, mg "distance" = some (.ref f) → findBy Value.isInt es.toArray 4 = some (.ref f)) ∧ (∀ f, mg "min_cost" = some (.ref f) → findBy Value.isInt es.toArray 5 = some (.ref f)) ∧ (∀ f, mg "optimal_plan" = some (.ref f) → findBy Value.isInt es.toArray 6 = some (.ref f)) ∧ (∀ f, mg "optimal_potentials" = some (.ref f) → findBy Value.isInt es.toArray 7 = some (.ref f)) ∧ (∀ f, mg "check_plan" = some (.ref f) → findBy Value.isInt es.toArray 8 = some (.ref f)) ∧ (∀ f, mg "check_potentials" = some (.ref f) → findBy Value.isInt es.toArray 9 = some (.ref f)) ∧ (∀ f, mg "compose_plans" = some (.ref f) → findBy Value.isInt es.toArray 10 = some (.ref f)) ∧ (∀ f, mg "map_distribution" = some (.ref f) → findBy Value.isInt es.toArray 11 = some (.ref f)) ∧ (∀ f, mg "average" = some (.ref f) → findBy Value.isInt es.toArray 12 = some (.ref f)) ∧ (∀ f, mg "is_connected" = some (.ref f) → findBy Value.isInt es.toArray 13 = some (.ref f)))
    (D_greatest_divisor : ∃ (f : Addr) (fd : FuncData), At K mg "greatest_divisor" s_greatest_divisor ["first", "second"] f fd)
    (D_least_multiple : ∃ (f : Addr) (fd : FuncData), At K mg "least_multiple" s_least_multiple ["first", "second"] f fd)
    (D_lowest_terms : ∃ (f : Addr) (fd : FuncData), At K mg "lowest_terms" s_lowest_terms ["numerator", "denominator"] f fd)
    (D_common_units : ∃ (f : Addr) (fd : FuncData), At K mg "common_units" s_common_units ["first", "second"] f fd)
    (D_in_units : ∃ (f : Addr) (fd : FuncData), At K mg "in_units" s_in_units ["weights", "units"] f fd)
    (D_mapped_weights : ∃ (f : Addr) (fd : FuncData), At K mg "mapped_weights" s_mapped_weights ["weights", "targets"] f fd)
    (D_mean_weights : ∃ (f : Addr) (fd : FuncData), At K mg "mean_weights" s_mean_weights ["first", "second"] f fd)
    (D_without_divisor : ∃ (f : Addr) (fd : FuncData), At K mg "without_divisor" s_without_divisor ["weights"] f fd)
    (D_all_distances : ∃ (f : Addr) (fd : FuncData), At K mg "all_distances" s_all_distances ["lengths"] f fd)
    (D_shortest_ways : ∃ (f : Addr) (fd : FuncData), At K mg "shortest_ways" s_shortest_ways ["steps"] f fd)
    (D_joined : ∃ (f : Addr) (fd : FuncData), At K mg "joined" s_joined ["first", "second"] f fd)
    (D_shorter : ∃ (f : Addr) (fd : FuncData), At K mg "shorter" s_shorter ["first", "second"] f fd)
    (D_all_connected : ∃ (f : Addr) (fd : FuncData), At K mg "all_connected" s_all_connected ["distances"] f fd)
    (D_raise_entry : ∃ (f : Addr) (fd : FuncData), At K mg "raise_entry" s_raise_entry ["flow", "costs", "free", "row", "column"] f fd)
    (D_open_steps : ∃ (f : Addr) (fd : FuncData), At K mg "open_steps" s_open_steps ["flow", "costs", "free"] f fd)
    (D_cheapest_way : ∃ (f : Addr) (fd : FuncData), At K mg "cheapest_way" s_cheapest_way ["steps", "start", "goal"] f fd)
    (D_traced_way : ∃ (f : Addr) (fd : FuncData), At K mg "traced_way" s_traced_way ["previous", "start", "goal"] f fd)
    (D_lowered_entries : ∃ (f : Addr) (fd : FuncData), At K mg "lowered_entries" s_lowered_entries ["way", "size"] f fd)
    (D_raised_entries : ∃ (f : Addr) (fd : FuncData), At K mg "raised_entries" s_raised_entries ["way", "size"] f fd)
    (D_total_cost : ∃ (f : Addr) (fd : FuncData), At K mg "total_cost" s_total_cost ["costs", "entries"] f fd)
    (D_some_cheapest_plan : ∃ (f : Addr) (fd : FuncData), At K mg "some_cheapest_plan" s_some_cheapest_plan ["first", "second", "distances"] f fd)
    (D_greatest_cheapest_plan : ∃ (f : Addr) (fd : FuncData), At K mg "greatest_cheapest_plan" s_greatest_cheapest_plan ["first", "second", "distances"] f fd)
    (D_all_free : ∃ (f : Addr) (fd : FuncData), At K mg "all_free" s_all_free ["size"] f fd)
    (D_composed_plan : ∃ (f : Addr) (fd : FuncData), At K mg "composed_plan" s_composed_plan ["first_plan", "second_plan", "weights"] f fd)
    (D_inverse_parts : ∃ (f : Addr) (fd : FuncData), At K mg "inverse_parts" s_inverse_parts ["weights"] f fd)
    (D_is_plan : ∃ (f : Addr) (fd : FuncData), At K mg "is_plan" s_is_plan ["plan", "units", "first", "second"] f fd)
    (D_are_shares : ∃ (f : Addr) (fd : FuncData), At K mg "are_shares" s_are_shares ["amounts", "units", "weights"] f fd)
    (D_plan_units : ∃ (f : Addr) (fd : FuncData), At K mg "plan_units" s_plan_units ["plan"] f fd)
    (D_plan_cost : ∃ (f : Addr) (fd : FuncData), At K mg "plan_cost" s_plan_cost ["plan", "distances"] f fd)
    (D_greatest_best_potentials : ∃ (f : Addr) (fd : FuncData), At K mg "greatest_best_potentials" s_greatest_best_potentials ["first", "second", "distances"] f fd)
    (D_are_feasible : ∃ (f : Addr) (fd : FuncData), At K mg "are_feasible" s_are_feasible ["potentials", "distances"] f fd)
    (D_value_of_potentials : ∃ (f : Addr) (fd : FuncData), At K mg "value_of_potentials" s_value_of_potentials ["potentials", "first", "second"] f fd)
    (D_create : ∃ (f : Addr) (fd : FuncData), At K mg "create" s_create ["arguments"] f fd)
    (D_set_edge : ∃ (f : Addr) (fd : FuncData), At K mg "set_edge" s_set_edge ["instance", "arguments"] f fd)
    (D_set_distribution : ∃ (f : Addr) (fd : FuncData), At K mg "set_distribution" s_set_distribution ["instance", "arguments"] f fd)
    (D_distribution : ∃ (f : Addr) (fd : FuncData), At K mg "distribution" s_distribution ["instance", "arguments"] f fd)
    (D_distance : ∃ (f : Addr) (fd : FuncData), At K mg "distance" s_distance ["instance", "arguments"] f fd)
    (D_min_cost : ∃ (f : Addr) (fd : FuncData), At K mg "min_cost" s_min_cost ["instance", "arguments"] f fd)
    (D_optimal_plan : ∃ (f : Addr) (fd : FuncData), At K mg "optimal_plan" s_optimal_plan ["instance", "arguments"] f fd)
    (D_optimal_potentials : ∃ (f : Addr) (fd : FuncData), At K mg "optimal_potentials" s_optimal_potentials ["instance", "arguments"] f fd)
    (D_check_plan : ∃ (f : Addr) (fd : FuncData), At K mg "check_plan" s_check_plan ["instance", "arguments"] f fd)
    (D_check_potentials : ∃ (f : Addr) (fd : FuncData), At K mg "check_potentials" s_check_potentials ["instance", "arguments"] f fd)
    (D_compose_plans : ∃ (f : Addr) (fd : FuncData), At K mg "compose_plans" s_compose_plans ["instance", "arguments"] f fd)
    (D_map_distribution : ∃ (f : Addr) (fd : FuncData), At K mg "map_distribution" s_map_distribution ["instance", "arguments"] f fd)
    (D_average : ∃ (f : Addr) (fd : FuncData), At K mg "average" s_average ["instance", "arguments"] f fd)
    (D_is_connected : ∃ (f : Addr) (fd : FuncData), At K mg "is_connected" s_is_connected ["instance", "arguments"] f fd)
    (D_require_points : ∃ (f : Addr) (fd : FuncData), At K mg "require_points" s_require_points ["instance", "points"] f fd)
    (D_require_slots : ∃ (f : Addr) (fd : FuncData), At K mg "require_slots" s_require_slots ["slots"] f fd)
    (D_weights_in : ∃ (f : Addr) (fd : FuncData), At K mg "weights_in" s_weights_in ["instance", "slots"] f fd)
    (D_require_each : ∃ (f : Addr) (fd : FuncData), At K mg "require_each" s_require_each ["instance", "numbers", "lowest", "highest"] f fd)
    (D_connected_distances : ∃ (f : Addr) (fd : FuncData), At K mg "connected_distances" s_connected_distances ["instance"] f fd)
    (D_plan_answer : ∃ (f : Addr) (fd : FuncData), At K mg "plan_answer" s_plan_answer ["plan", "distances"] f fd)
    (D_as_fractions : ∃ (f : Addr) (fd : FuncData), At K mg "as_fractions" s_as_fractions ["amounts", "units"] f fd)
    (D_perform : ∃ (f : Addr) (fd : FuncData), At K mg "perform" s_perform ["instance", "number", "arguments"] f fd)
    (D_split_calls : ∃ (f : Addr) (fd : FuncData), At K mg "split_calls" s_split_calls ["calls"] f fd) :
    ∃ fd : FuncData, (∀ (s : Shared) (us : List Value), us.length = (["calls"] : List Str).length → BindsTo s fd ⟨us, []⟩ ((["calls"] : List Str).zip us)) ∧ ∀ base : Heap, K.In base → base.Ns mainGlobals mg → FnOk P w K mg base CX0 8 fa fd ["calls"] (spAns K) := by
  have e := hfa.symm.trans (PySem.W.mg_of X G a0)
  cases e
  refine ⟨PySem.W.fnOf "answers" "answers" (defArgs s_answers) (defBody s_answers) (defScope s_answers) .none kV dc pm an cd ct, fun s us hu => match us, hu with | [_], _ => .of_eq rfl, fun base _ _ => ?_⟩
  have mI_ := PySem.W.mg_of X G mI_
  have R : Rf K mg CR fR := ⟨RT, R0, R1, R2, R3, R4⟩
  obtain ⟨fdI, FI0, bI⟩ := I0
  have FI := ok_init (P := P) (w := w) (base := base) T TC IT FI0
  obtain ⟨aO, es, mO, B, r1, r2, r3, r4, r5, r6, r7, r8, r9, r10, r11, r12, r13⟩ := TB
  obtain ⟨f_greatest_divisor, d_greatest_divisor, A_greatest_divisor⟩ := D_greatest_divisor
  obtain ⟨f_least_multiple, d_least_multiple, A_least_multiple⟩ := D_least_multiple
  obtain ⟨f_lowest_terms, d_lowest_terms, A_lowest_terms⟩ := D_lowest_terms
  obtain ⟨f_common_units, d_common_units, A_common_units⟩ := D_common_units
  obtain ⟨f_in_units, d_in_units, A_in_units⟩ := D_in_units
  obtain ⟨f_mapped_weights, d_mapped_weights, A_mapped_weights⟩ := D_mapped_weights
  obtain ⟨f_mean_weights, d_mean_weights, A_mean_weights⟩ := D_mean_weights
  obtain ⟨f_without_divisor, d_without_divisor, A_without_divisor⟩ := D_without_divisor
  obtain ⟨f_all_distances, d_all_distances, A_all_distances⟩ := D_all_distances
  obtain ⟨f_shortest_ways, d_shortest_ways, A_shortest_ways⟩ := D_shortest_ways
  obtain ⟨f_joined, d_joined, A_joined⟩ := D_joined
  obtain ⟨f_shorter, d_shorter, A_shorter⟩ := D_shorter
  obtain ⟨f_all_connected, d_all_connected, A_all_connected⟩ := D_all_connected
  obtain ⟨f_raise_entry, d_raise_entry, A_raise_entry⟩ := D_raise_entry
  obtain ⟨f_open_steps, d_open_steps, A_open_steps⟩ := D_open_steps
  obtain ⟨f_cheapest_way, d_cheapest_way, A_cheapest_way⟩ := D_cheapest_way
  obtain ⟨f_traced_way, d_traced_way, A_traced_way⟩ := D_traced_way
  obtain ⟨f_lowered_entries, d_lowered_entries, A_lowered_entries⟩ := D_lowered_entries
  obtain ⟨f_raised_entries, d_raised_entries, A_raised_entries⟩ := D_raised_entries
  obtain ⟨f_total_cost, d_total_cost, A_total_cost⟩ := D_total_cost
  obtain ⟨f_some_cheapest_plan, d_some_cheapest_plan, A_some_cheapest_plan⟩ := D_some_cheapest_plan
  obtain ⟨f_greatest_cheapest_plan, d_greatest_cheapest_plan, A_greatest_cheapest_plan⟩ := D_greatest_cheapest_plan
  obtain ⟨f_all_free, d_all_free, A_all_free⟩ := D_all_free
  obtain ⟨f_composed_plan, d_composed_plan, A_composed_plan⟩ := D_composed_plan
  obtain ⟨f_inverse_parts, d_inverse_parts, A_inverse_parts⟩ := D_inverse_parts
  obtain ⟨f_is_plan, d_is_plan, A_is_plan⟩ := D_is_plan
  obtain ⟨f_are_shares, d_are_shares, A_are_shares⟩ := D_are_shares
  obtain ⟨f_plan_units, d_plan_units, A_plan_units⟩ := D_plan_units
  obtain ⟨f_plan_cost, d_plan_cost, A_plan_cost⟩ := D_plan_cost
  obtain ⟨f_greatest_best_potentials, d_greatest_best_potentials, A_greatest_best_potentials⟩ := D_greatest_best_potentials
  obtain ⟨f_are_feasible, d_are_feasible, A_are_feasible⟩ := D_are_feasible
  obtain ⟨f_value_of_potentials, d_value_of_potentials, A_value_of_potentials⟩ := D_value_of_potentials
  obtain ⟨f_create, d_create, A_create⟩ := D_create
  obtain ⟨f_set_edge, d_set_edge, A_set_edge⟩ := D_set_edge
  obtain ⟨f_set_distribution, d_set_distribution, A_set_distribution⟩ := D_set_distribution
  obtain ⟨f_distribution, d_distribution, A_distribution⟩ := D_distribution
  obtain ⟨f_distance, d_distance, A_distance⟩ := D_distance
  obtain ⟨f_min_cost, d_min_cost, A_min_cost⟩ := D_min_cost
  obtain ⟨f_optimal_plan, d_optimal_plan, A_optimal_plan⟩ := D_optimal_plan
  obtain ⟨f_optimal_potentials, d_optimal_potentials, A_optimal_potentials⟩ := D_optimal_potentials
  obtain ⟨f_check_plan, d_check_plan, A_check_plan⟩ := D_check_plan
  obtain ⟨f_check_potentials, d_check_potentials, A_check_potentials⟩ := D_check_potentials
  obtain ⟨f_compose_plans, d_compose_plans, A_compose_plans⟩ := D_compose_plans
  obtain ⟨f_map_distribution, d_map_distribution, A_map_distribution⟩ := D_map_distribution
  obtain ⟨f_average, d_average, A_average⟩ := D_average
  obtain ⟨f_is_connected, d_is_connected, A_is_connected⟩ := D_is_connected
  obtain ⟨f_require_points, d_require_points, A_require_points⟩ := D_require_points
  obtain ⟨f_require_slots, d_require_slots, A_require_slots⟩ := D_require_slots
  obtain ⟨f_weights_in, d_weights_in, A_weights_in⟩ := D_weights_in
  obtain ⟨f_require_each, d_require_each, A_require_each⟩ := D_require_each
  obtain ⟨f_connected_distances, d_connected_distances, A_connected_distances⟩ := D_connected_distances
  obtain ⟨f_plan_answer, d_plan_answer, A_plan_answer⟩ := D_plan_answer
  obtain ⟨f_as_fractions, d_as_fractions, A_as_fractions⟩ := D_as_fractions
  obtain ⟨f_perform, d_perform, A_perform⟩ := D_perform
  obtain ⟨f_split_calls, d_split_calls, A_split_calls⟩ := D_split_calls
  have G_split_calls := ok_split (P := P) (w := w) (base := base) T TC A_split_calls
  have G_create := ok_create (P := P) (w := w) (base := base) T TC R A_create MI FI bI mI_
  have G_require_points := ok_pts (P := P) (w := w) (base := base) T IT R A_require_points
  have G_set_edge := ok_setedge (P := P) (w := w) (base := base) T TC IT R A_set_edge G_require_points
  have G_require_slots := ok_slt (P := P) (w := w) (base := base) T TC R A_require_slots
  have G_require_each := ok_each (P := P) (w := w) (base := base) T IT R A_require_each
  have G_set_distribution := ok_setdist (P := P) (w := w) (base := base) T TC IT R A_set_distribution G_require_slots G_require_each
  have G_weights_in := ok_win (P := P) (w := w) (base := base) T IT R A_weights_in G_require_slots
  have G_greatest_divisor := ok_gcd (P := P) (w := w) (base := base) A_greatest_divisor
  have G_lowest_terms := ok_low (P := P) (w := w) (base := base) A_lowest_terms G_greatest_divisor
  have G_as_fractions := ok_fracs (P := P) (w := w) (base := base) T A_as_fractions G_lowest_terms
  have G_distribution := ok_distribution (P := P) (w := w) (base := base) T IT A_distribution G_weights_in G_as_fractions
  have G_joined := ok_joined (P := P) (w := w) (base := base) A_joined
  have G_shorter := ok_shorter (P := P) (w := w) (base := base) T A_shorter
  have G_shortest_ways := ok_ways (P := P) (w := w) (base := base) T A_shortest_ways G_joined G_shorter
  have G_all_distances := ok_dist (P := P) (w := w) (base := base) T A_all_distances G_shortest_ways
  have G_distance := ok_distance (P := P) (w := w) (base := base) T IT R A_distance G_require_points G_all_distances
  have G_all_connected := ok_conn (P := P) (w := w) (base := base) A_all_connected
  have G_connected_distances := ok_con (P := P) (w := w) (base := base) T IT R A_connected_distances G_all_distances G_all_connected
  have G_least_multiple := ok_lcm (P := P) (w := w) (base := base) A_least_multiple G_greatest_divisor
  have G_common_units := ok_common (P := P) (w := w) (base := base) T A_common_units G_least_multiple
  have G_in_units := ok_inu (P := P) (w := w) (base := base) T A_in_units
  have G_all_free := ok_allfree (P := P) (w := w) (base := base) T A_all_free
  have G_traced_way := ok_traced (P := P) (w := w) (base := base) T A_traced_way
  have G_cheapest_way := ok_search (P := P) (w := w) (base := base) T A_cheapest_way G_traced_way
  have G_open_steps := ok_open (P := P) (w := w) (base := base) T A_open_steps
  have G_lowered_entries := ok_lowered (P := P) (w := w) (base := base) T A_lowered_entries
  have G_raised_entries := ok_raised (P := P) (w := w) (base := base) T A_raised_entries
  have G_total_cost := ok_total (P := P) (w := w) (base := base) T A_total_cost
  have G_raise_entry := ok_raise (P := P) (w := w) (base := base) T A_raise_entry G_cheapest_way G_open_steps G_lowered_entries G_raised_entries G_total_cost
  have G_some_cheapest_plan := ok_some (P := P) (w := w) (base := base) T A_some_cheapest_plan G_common_units G_in_units G_all_free G_raise_entry
  have G_plan_cost := ok_cost (P := P) (w := w) (base := base) T A_plan_cost
  have G_plan_units := ok_units (P := P) (w := w) (base := base) T A_plan_units
  have G_min_cost := ok_mincost (P := P) (w := w) (base := base) T IT A_min_cost G_weights_in G_connected_distances G_some_cheapest_plan G_lowest_terms G_plan_cost G_plan_units
  have G_greatest_cheapest_plan := ok_greatest (P := P) (w := w) (base := base) T A_greatest_cheapest_plan G_some_cheapest_plan G_all_free G_raise_entry
  have G_plan_answer := ok_planans (P := P) (w := w) (base := base) T A_plan_answer G_lowest_terms G_plan_units G_as_fractions G_plan_cost
  have G_optimal_plan := ok_optplan (P := P) (w := w) (base := base) T IT A_optimal_plan G_weights_in G_connected_distances G_greatest_cheapest_plan G_plan_answer
  have G_greatest_best_potentials := ok_bestpot (P := P) (w := w) (base := base) T A_greatest_best_potentials G_some_cheapest_plan G_shortest_ways
  have G_value_of_potentials := ok_value (P := P) (w := w) (base := base) T A_value_of_potentials G_common_units G_in_units G_lowest_terms
  have G_optimal_potentials := ok_optpot (P := P) (w := w) (base := base) T IT A_optimal_potentials G_weights_in G_connected_distances G_greatest_best_potentials G_value_of_potentials
  have G_are_shares := ok_shares (P := P) (w := w) (base := base) T A_are_shares
  have G_is_plan := ok_isplan (P := P) (w := w) (base := base) T A_is_plan G_are_shares
  have G_check_plan := ok_checkplan (P := P) (w := w) (base := base) T IT R A_check_plan G_weights_in G_connected_distances G_is_plan G_lowest_terms G_plan_cost
  have G_are_feasible := ok_feas (P := P) (w := w) (base := base) T A_are_feasible
  have G_check_potentials := ok_checkpot (P := P) (w := w) (base := base) T TC IT A_check_potentials G_weights_in G_connected_distances G_require_each G_are_feasible G_value_of_potentials
  have G_inverse_parts := ok_parts (P := P) (w := w) (base := base) T A_inverse_parts G_least_multiple
  have G_composed_plan := ok_composed (P := P) (w := w) (base := base) T A_composed_plan G_inverse_parts
  have G_compose_plans := ok_compose (P := P) (w := w) (base := base) T IT A_compose_plans G_weights_in G_connected_distances G_greatest_cheapest_plan G_plan_answer G_composed_plan
  have G_mapped_weights := ok_mapped (P := P) (w := w) (base := base) T A_mapped_weights
  have G_map_distribution := ok_mapdist (P := P) (w := w) (base := base) T TC IT A_map_distribution G_require_slots G_require_each G_mapped_weights
  have G_without_divisor := ok_without (P := P) (w := w) (base := base) T A_without_divisor G_greatest_divisor
  have G_mean_weights := ok_mean (P := P) (w := w) (base := base) T A_mean_weights G_common_units G_in_units G_without_divisor
  have G_average := ok_average (P := P) (w := w) (base := base) T TC IT R A_average G_weights_in G_mean_weights G_lowest_terms
  have G_is_connected := ok_isconnected (P := P) (w := w) (base := base) (CR := CR) T IT A_is_connected G_all_distances G_all_connected
  have DD : DispOk P w K mg base C CR 6 es := by
    intro c hc
    cases c with
    | begin_ n => exact absurd rfl hc
    | way _ _ _ =>
      obtain ⟨f, fd, m, kp, b, F⟩ := G_set_edge
      exact ⟨f, fd, _, ⟨_, _, _, rfl⟩, r1 f m, kp, b, F.mono (k := 6) (by decide)⟩
    | spread _ _ =>
      obtain ⟨f, fd, m, kp, b, F⟩ := G_set_distribution
      exact ⟨f, fd, _, ⟨_, _, rfl⟩, r2 f m, kp, b, F.mono (k := 6) (by decide)⟩
    | told _ =>
      obtain ⟨f, fd, m, kp, b, F⟩ := G_distribution
      exact ⟨f, fd, _, ⟨_, rfl⟩, r3 f m, kp, b, F.mono (k := 6) (by decide)⟩
    | far _ _ =>
      obtain ⟨f, fd, m, kp, b, F⟩ := G_distance
      exact ⟨f, fd, _, ⟨_, _, rfl⟩, r4 f m, kp, b, F.mono (k := 6) (by decide)⟩
    | least _ _ =>
      obtain ⟨f, fd, m, kp, b, F⟩ := G_min_cost
      exact ⟨f, fd, _, ⟨_, _, rfl⟩, r5 f m, kp, b, F.mono (k := 6) (by decide)⟩
    | plan _ _ =>
      obtain ⟨f, fd, m, kp, b, F⟩ := G_optimal_plan
      exact ⟨f, fd, _, ⟨_, _, rfl⟩, r6 f m, kp, b, F.mono (k := 6) (by decide)⟩
    | prices _ _ =>
      obtain ⟨f, fd, m, kp, b, F⟩ := G_optimal_potentials
      exact ⟨f, fd, _, ⟨_, _, rfl⟩, r7 f m, kp, b, F.mono (k := 6) (by decide)⟩
    | test _ _ _ _ =>
      obtain ⟨f, fd, m, kp, b, F⟩ := G_check_plan
      exact ⟨f, fd, _, ⟨_, _, _, _, rfl⟩, r8 f m, kp, b, F.mono (k := 6) (by decide)⟩
    | fair _ _ _ =>
      obtain ⟨f, fd, m, kp, b, F⟩ := G_check_potentials
      exact ⟨f, fd, _, ⟨_, _, _, rfl⟩, r9 f m, kp, b, F.mono (k := 6) (by decide)⟩
    | behind _ _ _ =>
      obtain ⟨f, fd, m, kp, b, F⟩ := G_compose_plans
      exact ⟨f, fd, _, ⟨_, _, _, rfl⟩, r10 f m, kp, b, F.mono (k := 6) (by decide)⟩
    | image _ _ _ =>
      obtain ⟨f, fd, m, kp, b, F⟩ := G_map_distribution
      exact ⟨f, fd, _, ⟨_, _, _, rfl⟩, r11 f m, kp, b, F.mono (k := 6) (by decide)⟩
    | middle _ _ _ =>
      obtain ⟨f, fd, m, kp, b, F⟩ := G_average
      exact ⟨f, fd, _, ⟨_, _, _, rfl⟩, r12 f m, kp, b, F.mono (k := 6) (by decide)⟩
    | hangs =>
      obtain ⟨f, fd, m, kp, b, F⟩ := G_is_connected
      exact ⟨f, fd, fun c => c = .hangs, rfl, r13 f m, kp, b, F.mono (k := 6) (by decide)⟩
  have G_perform := ok_perform (P := P) (w := w) (base := base) T R A_perform mO B DD
  exact ok_answers (P := P) (w := w) (base := base) T TC R ⟨fun_mk (st := s_answers) l0 c0 k0, hfa, (fun_mk (st := s_answers) l0 c0 k0).binds (ps := ["calls"]) fun _ _ _ _ _ _ us hl => match us, hl with | [_], _ => rfl⟩ G_split_calls G_create G_perform
end EH

open PySem PySem.W PyProof.Rows
set_option maxRecDepth 100000 in
set_option maxHeartbeats 80000000 in
theorem PySem.Challenge.cw_earthheaps_s01_answers_holds : PySem.Challenge.rw_earthheaps_s01_answers.Holds := by
  w_on; k_headS; (case hw => exact ⟨[.list [.int 0, .int 1]], by decide +kernel, by decide +kernel⟩)
  k_fillS
  refine L2.walk_specK (r := PySem.Challenge.rw_earthheaps_s01_answers) (k := 8) (CX := L2.CX0) (ps := ["calls"]) (sp := EH.spAns) (by decide +kernel) rfl rfl ⟨rfl, by decide, by decide⟩ (fun w h Y => PySem.W.kIn_of Y) ?F ?S (fun _ _ _ _ z => z)
  case F =>
    intro w mg fa h Y KX G hmg
    refine' EH.all_mk KX G hmg ?z0a ?z0l ?z0c ?z0k ?zRT ?zS0 ?zS1 ?zS2 ?zS3 ?zS4 ?zT ?zC ?zIa ?zIT ?zMI ?zI0 ?zTB ?zd_greatest_divisor ?zd_least_multiple ?zd_lowest_terms ?zd_common_units ?zd_in_units ?zd_mapped_weights ?zd_mean_weights ?zd_without_divisor ?zd_all_distances ?zd_shortest_ways ?zd_joined ?zd_shorter ?zd_all_connected ?zd_raise_entry ?zd_open_steps ?zd_cheapest_way ?zd_traced_way ?zd_lowered_entries ?zd_raised_entries ?zd_total_cost ?zd_some_cheapest_plan ?zd_greatest_cheapest_plan ?zd_all_free ?zd_composed_plan ?zd_inverse_parts ?zd_is_plan ?zd_are_shares ?zd_plan_units ?zd_plan_cost ?zd_greatest_best_potentials ?zd_are_feasible ?zd_value_of_potentials ?zd_create ?zd_set_edge ?zd_set_distribution ?zd_distribution ?zd_distance ?zd_min_cost ?zd_optimal_plan ?zd_optimal_potentials ?zd_check_plan ?zd_check_potentials ?zd_compose_plans ?zd_map_distribution ?zd_average ?zd_is_connected ?zd_require_points ?zd_require_slots ?zd_weights_in ?zd_require_each ?zd_connected_distances ?zd_plan_answer ?zd_as_fractions ?zd_perform ?zd_split_calls
    (case z0a => k_is)
    (case z0l => k_is)
    (case z0c => k_is)
    (case z0k => k_is)
    case zRT =>
      refine' EH.mk_Refusal KX G ?zRT_a ?zRT_k ?zRT_g ?zRT_r1 ?zRT_r2 ?zRT_l ?zRT_c
      (case zRT_a => k_is)
      (case zRT_g => k_is)
      (case zRT_r1 => k_is)
      (case zRT_r2 => k_is)
      (case zRT_l => k_is)
      (case zRT_c => k_is)
      (case zRT_k => k_is)
    case zS0 =>
      refine' EH.mk_NoInstance KX G ?zS0_a ?zS0_xL ?zS0_sa ?zS0_ga ?zS0_gg ?zS0_nb ?zS0_i ?zS0_t ?zS0_l ?zS0_c ?zS0_kC ?zS0_eC ?zS0_tC ?zS0_hC ?zS0_eR ?zS0_iR ?zS0_tR ?zS0_sC
      (case zS0_a => k_is)
      (case zS0_xL => k_is)
      (case zS0_sa => k_is)
      (case zS0_ga => k_is)
      (case zS0_gg => k_is)
      (case zS0_nb => k_is)
      (case zS0_i => k_is)
      (case zS0_t => k_is)
      (case zS0_l => k_is)
      (case zS0_c => k_is)
      (case zS0_kC => k_is)
      (case zS0_eC => k_is)
      (case zS0_tC => k_is)
      (case zS0_hC => k_is)
      (case zS0_eR => k_is)
      (case zS0_iR => k_is)
      (case zS0_tR => k_is)
      (case zS0_sC => first | rfl | k_is)
    case zS1 =>
      refine' EH.mk_Missing KX G ?zS1_a ?zS1_xL ?zS1_sa ?zS1_ga ?zS1_gg ?zS1_nb ?zS1_i ?zS1_t ?zS1_l ?zS1_c ?zS1_kC ?zS1_eC ?zS1_tC ?zS1_hC ?zS1_eR ?zS1_iR ?zS1_tR ?zS1_sC
      (case zS1_a => k_is)
      (case zS1_xL => k_is)
      (case zS1_sa => k_is)
      (case zS1_ga => k_is)
      (case zS1_gg => k_is)
      (case zS1_nb => k_is)
      (case zS1_i => k_is)
      (case zS1_t => k_is)
      (case zS1_l => k_is)
      (case zS1_c => k_is)
      (case zS1_kC => k_is)
      (case zS1_eC => k_is)
      (case zS1_tC => k_is)
      (case zS1_hC => k_is)
      (case zS1_eR => k_is)
      (case zS1_iR => k_is)
      (case zS1_tR => k_is)
      (case zS1_sC => first | rfl | k_is)
    case zS2 =>
      refine' EH.mk_Malformed KX G ?zS2_a ?zS2_xL ?zS2_sa ?zS2_ga ?zS2_gg ?zS2_nb ?zS2_i ?zS2_t ?zS2_l ?zS2_c ?zS2_kC ?zS2_eC ?zS2_tC ?zS2_hC ?zS2_eR ?zS2_iR ?zS2_tR ?zS2_sC
      (case zS2_a => k_is)
      (case zS2_xL => k_is)
      (case zS2_sa => k_is)
      (case zS2_ga => k_is)
      (case zS2_gg => k_is)
      (case zS2_nb => k_is)
      (case zS2_i => k_is)
      (case zS2_t => k_is)
      (case zS2_l => k_is)
      (case zS2_c => k_is)
      (case zS2_kC => k_is)
      (case zS2_eC => k_is)
      (case zS2_tC => k_is)
      (case zS2_hC => k_is)
      (case zS2_eR => k_is)
      (case zS2_iR => k_is)
      (case zS2_tR => k_is)
      (case zS2_sC => first | rfl | k_is)
    case zS3 =>
      refine' EH.mk_NoPath KX G ?zS3_a ?zS3_xL ?zS3_sa ?zS3_ga ?zS3_gg ?zS3_nb ?zS3_i ?zS3_t ?zS3_l ?zS3_c ?zS3_kC ?zS3_eC ?zS3_tC ?zS3_hC ?zS3_eR ?zS3_iR ?zS3_tR ?zS3_sC
      (case zS3_a => k_is)
      (case zS3_xL => k_is)
      (case zS3_sa => k_is)
      (case zS3_ga => k_is)
      (case zS3_gg => k_is)
      (case zS3_nb => k_is)
      (case zS3_i => k_is)
      (case zS3_t => k_is)
      (case zS3_l => k_is)
      (case zS3_c => k_is)
      (case zS3_kC => k_is)
      (case zS3_eC => k_is)
      (case zS3_tC => k_is)
      (case zS3_hC => k_is)
      (case zS3_eR => k_is)
      (case zS3_iR => k_is)
      (case zS3_tR => k_is)
      (case zS3_sC => first | rfl | k_is)
    case zS4 =>
      refine' EH.mk_TooLarge KX G ?zS4_a ?zS4_xL ?zS4_sa ?zS4_ga ?zS4_gg ?zS4_nb ?zS4_i ?zS4_t ?zS4_l ?zS4_c ?zS4_kC ?zS4_eC ?zS4_tC ?zS4_hC ?zS4_eR ?zS4_iR ?zS4_tR ?zS4_sC
      (case zS4_a => k_is)
      (case zS4_xL => k_is)
      (case zS4_sa => k_is)
      (case zS4_ga => k_is)
      (case zS4_gg => k_is)
      (case zS4_nb => k_is)
      (case zS4_i => k_is)
      (case zS4_t => k_is)
      (case zS4_l => k_is)
      (case zS4_c => k_is)
      (case zS4_kC => k_is)
      (case zS4_eC => k_is)
      (case zS4_tC => k_is)
      (case zS4_hC => k_is)
      (case zS4_eR => k_is)
      (case zS4_iR => k_is)
      (case zS4_tR => k_is)
      (case zS4_sC => first | rfl | k_is)
    case zT =>
      refine' EH.mk_tx KX G ?zT_b0 ?zT_b1 ?zT_b2 ?zT_b3 ?zT_b4 ?zT_b5 ?zT_b6
      (case zT_b0 => k_is)
      (case zT_b1 => k_is)
      (case zT_b2 => k_is)
      (case zT_b3 => k_is)
      (case zT_b4 => k_is)
      (case zT_b5 => k_is)
      (case zT_b6 => k_is)
    case zC =>
      refine' EH.mk_cn KX G ?zC_a0 ?zC_a1 ?zC_a2 ?zC_a3 ?zC_a4 ?zC_a5 ?zC_a6 ?zC_aw ?zC_lw ?zC_ar ?zC_lr
      (case zC_a0 => k_is)
      (case zC_a1 => k_is)
      (case zC_a2 => k_is)
      (case zC_a3 => k_is)
      (case zC_a4 => k_is)
      (case zC_a5 => k_is)
      (case zC_a6 => k_is)
      (case zC_aw => k_is)
      (case zC_lw => k_is)
      (case zC_ar => k_is)
      (case zC_lr => k_is)
    (case zIa => k_is)
    case zIT =>
      refine' EH.mk_ins ?zIT_pg ?zIT_hd ?zIT_po ?zIT_sa ?zIT_n1 ?zIT_n2 ?zIT_n3
      (case zIT_pg => k_is)
      (case zIT_hd => k_is)
      (case zIT_po => k_is)
      (case zIT_sa => k_is)
      (case zIT_n1 => k_is)
      (case zIT_n2 => k_is)
      (case zIT_n3 => k_is)
    case zMI =>
      refine' ⟨?zMI_m, ?zMI_i, ?zMI_f, ?zMI_k⟩
      (case zMI_m => k_is)
      (case zMI_i => k_is)
      (case zMI_f => k_is)
      (case zMI_k => k_is)
    case zI0 =>
      refine' EH.mk_init ?zI0_l ?zI0_c ?zI0_k
      (case zI0_l => k_is)
      (case zI0_c => k_is)
      (case zI0_k => k_is)
    case zTB =>
      refine' EH.mk_tab KX G ?zTB_a ?zTB_l ?zTB_e1 ?zTB_e2 ?zTB_e3 ?zTB_e4 ?zTB_e5 ?zTB_e6 ?zTB_e7 ?zTB_e8 ?zTB_e9 ?zTB_e10 ?zTB_e11 ?zTB_e12 ?zTB_e13 ?zTB_a1 ?zTB_a2 ?zTB_a3 ?zTB_a4 ?zTB_a5 ?zTB_a6 ?zTB_a7 ?zTB_a8 ?zTB_a9 ?zTB_a10 ?zTB_a11 ?zTB_a12 ?zTB_a13
      (case zTB_a => k_is)
      (case zTB_l => k_is)
      (case zTB_e1 => rfl)
      (case zTB_e2 => rfl)
      (case zTB_e3 => rfl)
      (case zTB_e4 => rfl)
      (case zTB_e5 => rfl)
      (case zTB_e6 => rfl)
      (case zTB_e7 => rfl)
      (case zTB_e8 => rfl)
      (case zTB_e9 => rfl)
      (case zTB_e10 => rfl)
      (case zTB_e11 => rfl)
      (case zTB_e12 => rfl)
      (case zTB_e13 => rfl)
      (case zTB_a1 => k_is)
      (case zTB_a2 => k_is)
      (case zTB_a3 => k_is)
      (case zTB_a4 => k_is)
      (case zTB_a5 => k_is)
      (case zTB_a6 => k_is)
      (case zTB_a7 => k_is)
      (case zTB_a8 => k_is)
      (case zTB_a9 => k_is)
      (case zTB_a10 => k_is)
      (case zTB_a11 => k_is)
      (case zTB_a12 => k_is)
      (case zTB_a13 => k_is)
    case zd_greatest_divisor =>
      refine' EH.mk_greatest_divisor KX G ?zd_greatest_divisor_a ?zd_greatest_divisor_l ?zd_greatest_divisor_c ?zd_greatest_divisor_k
      (case zd_greatest_divisor_a => k_is)
      (case zd_greatest_divisor_l => k_is)
      (case zd_greatest_divisor_c => k_is)
      (case zd_greatest_divisor_k => k_is)
    case zd_least_multiple =>
      refine' EH.mk_least_multiple KX G ?zd_least_multiple_a ?zd_least_multiple_l ?zd_least_multiple_c ?zd_least_multiple_k
      (case zd_least_multiple_a => k_is)
      (case zd_least_multiple_l => k_is)
      (case zd_least_multiple_c => k_is)
      (case zd_least_multiple_k => k_is)
    case zd_lowest_terms =>
      refine' EH.mk_lowest_terms KX G ?zd_lowest_terms_a ?zd_lowest_terms_l ?zd_lowest_terms_c ?zd_lowest_terms_k
      (case zd_lowest_terms_a => k_is)
      (case zd_lowest_terms_l => k_is)
      (case zd_lowest_terms_c => k_is)
      (case zd_lowest_terms_k => k_is)
    case zd_common_units =>
      refine' EH.mk_common_units KX G ?zd_common_units_a ?zd_common_units_l ?zd_common_units_c ?zd_common_units_k
      (case zd_common_units_a => k_is)
      (case zd_common_units_l => k_is)
      (case zd_common_units_c => k_is)
      (case zd_common_units_k => k_is)
    case zd_in_units =>
      refine' EH.mk_in_units KX G ?zd_in_units_a ?zd_in_units_l ?zd_in_units_c ?zd_in_units_k
      (case zd_in_units_a => k_is)
      (case zd_in_units_l => k_is)
      (case zd_in_units_c => k_is)
      (case zd_in_units_k => k_is)
    case zd_mapped_weights =>
      refine' EH.mk_mapped_weights KX G ?zd_mapped_weights_a ?zd_mapped_weights_l ?zd_mapped_weights_c ?zd_mapped_weights_k
      (case zd_mapped_weights_a => k_is)
      (case zd_mapped_weights_l => k_is)
      (case zd_mapped_weights_c => k_is)
      (case zd_mapped_weights_k => k_is)
    case zd_mean_weights =>
      refine' EH.mk_mean_weights KX G ?zd_mean_weights_a ?zd_mean_weights_l ?zd_mean_weights_c ?zd_mean_weights_k
      (case zd_mean_weights_a => k_is)
      (case zd_mean_weights_l => k_is)
      (case zd_mean_weights_c => k_is)
      (case zd_mean_weights_k => k_is)
    case zd_without_divisor =>
      refine' EH.mk_without_divisor KX G ?zd_without_divisor_a ?zd_without_divisor_l ?zd_without_divisor_c ?zd_without_divisor_k
      (case zd_without_divisor_a => k_is)
      (case zd_without_divisor_l => k_is)
      (case zd_without_divisor_c => k_is)
      (case zd_without_divisor_k => k_is)
    case zd_all_distances =>
      refine' EH.mk_all_distances KX G ?zd_all_distances_a ?zd_all_distances_l ?zd_all_distances_c ?zd_all_distances_k
      (case zd_all_distances_a => k_is)
      (case zd_all_distances_l => k_is)
      (case zd_all_distances_c => k_is)
      (case zd_all_distances_k => k_is)
    case zd_shortest_ways =>
      refine' EH.mk_shortest_ways KX G ?zd_shortest_ways_a ?zd_shortest_ways_l ?zd_shortest_ways_c ?zd_shortest_ways_k
      (case zd_shortest_ways_a => k_is)
      (case zd_shortest_ways_l => k_is)
      (case zd_shortest_ways_c => k_is)
      (case zd_shortest_ways_k => k_is)
    case zd_joined =>
      refine' EH.mk_joined KX G ?zd_joined_a ?zd_joined_l ?zd_joined_c ?zd_joined_k
      (case zd_joined_a => k_is)
      (case zd_joined_l => k_is)
      (case zd_joined_c => k_is)
      (case zd_joined_k => k_is)
    case zd_shorter =>
      refine' EH.mk_shorter KX G ?zd_shorter_a ?zd_shorter_l ?zd_shorter_c ?zd_shorter_k
      (case zd_shorter_a => k_is)
      (case zd_shorter_l => k_is)
      (case zd_shorter_c => k_is)
      (case zd_shorter_k => k_is)
    case zd_all_connected =>
      refine' EH.mk_all_connected KX G ?zd_all_connected_a ?zd_all_connected_l ?zd_all_connected_c ?zd_all_connected_k
      (case zd_all_connected_a => k_is)
      (case zd_all_connected_l => k_is)
      (case zd_all_connected_c => k_is)
      (case zd_all_connected_k => k_is)
    case zd_raise_entry =>
      refine' EH.mk_raise_entry KX G ?zd_raise_entry_a ?zd_raise_entry_l ?zd_raise_entry_c ?zd_raise_entry_k
      (case zd_raise_entry_a => k_is)
      (case zd_raise_entry_l => k_is)
      (case zd_raise_entry_c => k_is)
      (case zd_raise_entry_k => k_is)
    case zd_open_steps =>
      refine' EH.mk_open_steps KX G ?zd_open_steps_a ?zd_open_steps_l ?zd_open_steps_c ?zd_open_steps_k
      (case zd_open_steps_a => k_is)
      (case zd_open_steps_l => k_is)
      (case zd_open_steps_c => k_is)
      (case zd_open_steps_k => k_is)
    case zd_cheapest_way =>
      refine' EH.mk_cheapest_way KX G ?zd_cheapest_way_a ?zd_cheapest_way_l ?zd_cheapest_way_c ?zd_cheapest_way_k
      (case zd_cheapest_way_a => k_is)
      (case zd_cheapest_way_l => k_is)
      (case zd_cheapest_way_c => k_is)
      (case zd_cheapest_way_k => k_is)
    case zd_traced_way =>
      refine' EH.mk_traced_way KX G ?zd_traced_way_a ?zd_traced_way_l ?zd_traced_way_c ?zd_traced_way_k
      (case zd_traced_way_a => k_is)
      (case zd_traced_way_l => k_is)
      (case zd_traced_way_c => k_is)
      (case zd_traced_way_k => k_is)
    case zd_lowered_entries =>
      refine' EH.mk_lowered_entries KX G ?zd_lowered_entries_a ?zd_lowered_entries_l ?zd_lowered_entries_c ?zd_lowered_entries_k
      (case zd_lowered_entries_a => k_is)
      (case zd_lowered_entries_l => k_is)
      (case zd_lowered_entries_c => k_is)
      (case zd_lowered_entries_k => k_is)
    case zd_raised_entries =>
      refine' EH.mk_raised_entries KX G ?zd_raised_entries_a ?zd_raised_entries_l ?zd_raised_entries_c ?zd_raised_entries_k
      (case zd_raised_entries_a => k_is)
      (case zd_raised_entries_l => k_is)
      (case zd_raised_entries_c => k_is)
      (case zd_raised_entries_k => k_is)
    case zd_total_cost =>
      refine' EH.mk_total_cost KX G ?zd_total_cost_a ?zd_total_cost_l ?zd_total_cost_c ?zd_total_cost_k
      (case zd_total_cost_a => k_is)
      (case zd_total_cost_l => k_is)
      (case zd_total_cost_c => k_is)
      (case zd_total_cost_k => k_is)
    case zd_some_cheapest_plan =>
      refine' EH.mk_some_cheapest_plan KX G ?zd_some_cheapest_plan_a ?zd_some_cheapest_plan_l ?zd_some_cheapest_plan_c ?zd_some_cheapest_plan_k
      (case zd_some_cheapest_plan_a => k_is)
      (case zd_some_cheapest_plan_l => k_is)
      (case zd_some_cheapest_plan_c => k_is)
      (case zd_some_cheapest_plan_k => k_is)
    case zd_greatest_cheapest_plan =>
      refine' EH.mk_greatest_cheapest_plan KX G ?zd_greatest_cheapest_plan_a ?zd_greatest_cheapest_plan_l ?zd_greatest_cheapest_plan_c ?zd_greatest_cheapest_plan_k
      (case zd_greatest_cheapest_plan_a => k_is)
      (case zd_greatest_cheapest_plan_l => k_is)
      (case zd_greatest_cheapest_plan_c => k_is)
      (case zd_greatest_cheapest_plan_k => k_is)
    case zd_all_free =>
      refine' EH.mk_all_free KX G ?zd_all_free_a ?zd_all_free_l ?zd_all_free_c ?zd_all_free_k
      (case zd_all_free_a => k_is)
      (case zd_all_free_l => k_is)
      (case zd_all_free_c => k_is)
      (case zd_all_free_k => k_is)
    case zd_composed_plan =>
      refine' EH.mk_composed_plan KX G ?zd_composed_plan_a ?zd_composed_plan_l ?zd_composed_plan_c ?zd_composed_plan_k
      (case zd_composed_plan_a => k_is)
      (case zd_composed_plan_l => k_is)
      (case zd_composed_plan_c => k_is)
      (case zd_composed_plan_k => k_is)
    case zd_inverse_parts =>
      refine' EH.mk_inverse_parts KX G ?zd_inverse_parts_a ?zd_inverse_parts_l ?zd_inverse_parts_c ?zd_inverse_parts_k
      (case zd_inverse_parts_a => k_is)
      (case zd_inverse_parts_l => k_is)
      (case zd_inverse_parts_c => k_is)
      (case zd_inverse_parts_k => k_is)
    case zd_is_plan =>
      refine' EH.mk_is_plan KX G ?zd_is_plan_a ?zd_is_plan_l ?zd_is_plan_c ?zd_is_plan_k
      (case zd_is_plan_a => k_is)
      (case zd_is_plan_l => k_is)
      (case zd_is_plan_c => k_is)
      (case zd_is_plan_k => k_is)
    case zd_are_shares =>
      refine' EH.mk_are_shares KX G ?zd_are_shares_a ?zd_are_shares_l ?zd_are_shares_c ?zd_are_shares_k
      (case zd_are_shares_a => k_is)
      (case zd_are_shares_l => k_is)
      (case zd_are_shares_c => k_is)
      (case zd_are_shares_k => k_is)
    case zd_plan_units =>
      refine' EH.mk_plan_units KX G ?zd_plan_units_a ?zd_plan_units_l ?zd_plan_units_c ?zd_plan_units_k
      (case zd_plan_units_a => k_is)
      (case zd_plan_units_l => k_is)
      (case zd_plan_units_c => k_is)
      (case zd_plan_units_k => k_is)
    case zd_plan_cost =>
      refine' EH.mk_plan_cost KX G ?zd_plan_cost_a ?zd_plan_cost_l ?zd_plan_cost_c ?zd_plan_cost_k
      (case zd_plan_cost_a => k_is)
      (case zd_plan_cost_l => k_is)
      (case zd_plan_cost_c => k_is)
      (case zd_plan_cost_k => k_is)
    case zd_greatest_best_potentials =>
      refine' EH.mk_greatest_best_potentials KX G ?zd_greatest_best_potentials_a ?zd_greatest_best_potentials_l ?zd_greatest_best_potentials_c ?zd_greatest_best_potentials_k
      (case zd_greatest_best_potentials_a => k_is)
      (case zd_greatest_best_potentials_l => k_is)
      (case zd_greatest_best_potentials_c => k_is)
      (case zd_greatest_best_potentials_k => k_is)
    case zd_are_feasible =>
      refine' EH.mk_are_feasible KX G ?zd_are_feasible_a ?zd_are_feasible_l ?zd_are_feasible_c ?zd_are_feasible_k
      (case zd_are_feasible_a => k_is)
      (case zd_are_feasible_l => k_is)
      (case zd_are_feasible_c => k_is)
      (case zd_are_feasible_k => k_is)
    case zd_value_of_potentials =>
      refine' EH.mk_value_of_potentials KX G ?zd_value_of_potentials_a ?zd_value_of_potentials_l ?zd_value_of_potentials_c ?zd_value_of_potentials_k
      (case zd_value_of_potentials_a => k_is)
      (case zd_value_of_potentials_l => k_is)
      (case zd_value_of_potentials_c => k_is)
      (case zd_value_of_potentials_k => k_is)
    case zd_create =>
      refine' EH.mk_create KX G ?zd_create_a ?zd_create_l ?zd_create_c ?zd_create_k
      (case zd_create_a => k_is)
      (case zd_create_l => k_is)
      (case zd_create_c => k_is)
      (case zd_create_k => k_is)
    case zd_set_edge =>
      refine' EH.mk_set_edge KX G ?zd_set_edge_a ?zd_set_edge_l ?zd_set_edge_c ?zd_set_edge_k
      (case zd_set_edge_a => k_is)
      (case zd_set_edge_l => k_is)
      (case zd_set_edge_c => k_is)
      (case zd_set_edge_k => k_is)
    case zd_set_distribution =>
      refine' EH.mk_set_distribution KX G ?zd_set_distribution_a ?zd_set_distribution_l ?zd_set_distribution_c ?zd_set_distribution_k
      (case zd_set_distribution_a => k_is)
      (case zd_set_distribution_l => k_is)
      (case zd_set_distribution_c => k_is)
      (case zd_set_distribution_k => k_is)
    case zd_distribution =>
      refine' EH.mk_distribution KX G ?zd_distribution_a ?zd_distribution_l ?zd_distribution_c ?zd_distribution_k
      (case zd_distribution_a => k_is)
      (case zd_distribution_l => k_is)
      (case zd_distribution_c => k_is)
      (case zd_distribution_k => k_is)
    case zd_distance =>
      refine' EH.mk_distance KX G ?zd_distance_a ?zd_distance_l ?zd_distance_c ?zd_distance_k
      (case zd_distance_a => k_is)
      (case zd_distance_l => k_is)
      (case zd_distance_c => k_is)
      (case zd_distance_k => k_is)
    case zd_min_cost =>
      refine' EH.mk_min_cost KX G ?zd_min_cost_a ?zd_min_cost_l ?zd_min_cost_c ?zd_min_cost_k
      (case zd_min_cost_a => k_is)
      (case zd_min_cost_l => k_is)
      (case zd_min_cost_c => k_is)
      (case zd_min_cost_k => k_is)
    case zd_optimal_plan =>
      refine' EH.mk_optimal_plan KX G ?zd_optimal_plan_a ?zd_optimal_plan_l ?zd_optimal_plan_c ?zd_optimal_plan_k
      (case zd_optimal_plan_a => k_is)
      (case zd_optimal_plan_l => k_is)
      (case zd_optimal_plan_c => k_is)
      (case zd_optimal_plan_k => k_is)
    case zd_optimal_potentials =>
      refine' EH.mk_optimal_potentials KX G ?zd_optimal_potentials_a ?zd_optimal_potentials_l ?zd_optimal_potentials_c ?zd_optimal_potentials_k
      (case zd_optimal_potentials_a => k_is)
      (case zd_optimal_potentials_l => k_is)
      (case zd_optimal_potentials_c => k_is)
      (case zd_optimal_potentials_k => k_is)
    case zd_check_plan =>
      refine' EH.mk_check_plan KX G ?zd_check_plan_a ?zd_check_plan_l ?zd_check_plan_c ?zd_check_plan_k
      (case zd_check_plan_a => k_is)
      (case zd_check_plan_l => k_is)
      (case zd_check_plan_c => k_is)
      (case zd_check_plan_k => k_is)
    case zd_check_potentials =>
      refine' EH.mk_check_potentials KX G ?zd_check_potentials_a ?zd_check_potentials_l ?zd_check_potentials_c ?zd_check_potentials_k
      (case zd_check_potentials_a => k_is)
      (case zd_check_potentials_l => k_is)
      (case zd_check_potentials_c => k_is)
      (case zd_check_potentials_k => k_is)
    case zd_compose_plans =>
      refine' EH.mk_compose_plans KX G ?zd_compose_plans_a ?zd_compose_plans_l ?zd_compose_plans_c ?zd_compose_plans_k
      (case zd_compose_plans_a => k_is)
      (case zd_compose_plans_l => k_is)
      (case zd_compose_plans_c => k_is)
      (case zd_compose_plans_k => k_is)
    case zd_map_distribution =>
      refine' EH.mk_map_distribution KX G ?zd_map_distribution_a ?zd_map_distribution_l ?zd_map_distribution_c ?zd_map_distribution_k
      (case zd_map_distribution_a => k_is)
      (case zd_map_distribution_l => k_is)
      (case zd_map_distribution_c => k_is)
      (case zd_map_distribution_k => k_is)
    case zd_average =>
      refine' EH.mk_average KX G ?zd_average_a ?zd_average_l ?zd_average_c ?zd_average_k
      (case zd_average_a => k_is)
      (case zd_average_l => k_is)
      (case zd_average_c => k_is)
      (case zd_average_k => k_is)
    case zd_is_connected =>
      refine' EH.mk_is_connected KX G ?zd_is_connected_a ?zd_is_connected_l ?zd_is_connected_c ?zd_is_connected_k
      (case zd_is_connected_a => k_is)
      (case zd_is_connected_l => k_is)
      (case zd_is_connected_c => k_is)
      (case zd_is_connected_k => k_is)
    case zd_require_points =>
      refine' EH.mk_require_points KX G ?zd_require_points_a ?zd_require_points_l ?zd_require_points_c ?zd_require_points_k
      (case zd_require_points_a => k_is)
      (case zd_require_points_l => k_is)
      (case zd_require_points_c => k_is)
      (case zd_require_points_k => k_is)
    case zd_require_slots =>
      refine' EH.mk_require_slots KX G ?zd_require_slots_a ?zd_require_slots_l ?zd_require_slots_c ?zd_require_slots_k
      (case zd_require_slots_a => k_is)
      (case zd_require_slots_l => k_is)
      (case zd_require_slots_c => k_is)
      (case zd_require_slots_k => k_is)
    case zd_weights_in =>
      refine' EH.mk_weights_in KX G ?zd_weights_in_a ?zd_weights_in_l ?zd_weights_in_c ?zd_weights_in_k
      (case zd_weights_in_a => k_is)
      (case zd_weights_in_l => k_is)
      (case zd_weights_in_c => k_is)
      (case zd_weights_in_k => k_is)
    case zd_require_each =>
      refine' EH.mk_require_each KX G ?zd_require_each_a ?zd_require_each_l ?zd_require_each_c ?zd_require_each_k
      (case zd_require_each_a => k_is)
      (case zd_require_each_l => k_is)
      (case zd_require_each_c => k_is)
      (case zd_require_each_k => k_is)
    case zd_connected_distances =>
      refine' EH.mk_connected_distances KX G ?zd_connected_distances_a ?zd_connected_distances_l ?zd_connected_distances_c ?zd_connected_distances_k
      (case zd_connected_distances_a => k_is)
      (case zd_connected_distances_l => k_is)
      (case zd_connected_distances_c => k_is)
      (case zd_connected_distances_k => k_is)
    case zd_plan_answer =>
      refine' EH.mk_plan_answer KX G ?zd_plan_answer_a ?zd_plan_answer_l ?zd_plan_answer_c ?zd_plan_answer_k
      (case zd_plan_answer_a => k_is)
      (case zd_plan_answer_l => k_is)
      (case zd_plan_answer_c => k_is)
      (case zd_plan_answer_k => k_is)
    case zd_as_fractions =>
      refine' EH.mk_as_fractions KX G ?zd_as_fractions_a ?zd_as_fractions_l ?zd_as_fractions_c ?zd_as_fractions_k
      (case zd_as_fractions_a => k_is)
      (case zd_as_fractions_l => k_is)
      (case zd_as_fractions_c => k_is)
      (case zd_as_fractions_k => k_is)
    case zd_perform =>
      refine' EH.mk_perform KX G ?zd_perform_a ?zd_perform_l ?zd_perform_c ?zd_perform_k
      (case zd_perform_a => k_is)
      (case zd_perform_l => k_is)
      (case zd_perform_c => k_is)
      (case zd_perform_k => k_is)
    case zd_split_calls =>
      refine' EH.mk_split_calls KX G ?zd_split_calls_a ?zd_split_calls_l ?zd_split_calls_c ?zd_split_calls_k
      (case zd_split_calls_a => k_is)
      (case zd_split_calls_l => k_is)
      (case zd_split_calls_c => k_is)
      (case zd_split_calls_k => k_is)
  case S =>
    intro K H xs a hO hwi hask hx
    cases hx with
    | cons h1 h2 =>
      cases h2
      cases h1 with
      | lst hs ha =>
        have e := L2.ints_dw a.1 _ ha
        subst e
        exact ⟨_, a.1, rfl, hs, hask, fun p H' hp => .lst (L2.SqL.of hp) (L2.dw_ints _)⟩
#print axioms PySem.Challenge.cw_earthheaps_s01_answers_holds

