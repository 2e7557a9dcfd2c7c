import PyProof.Rows.All
import Wide.All
import OpenK.AllK
import Wide.FinOn
import Open.SpecLaws
import KE.OsGo
import KE.GoesZip
import KE.GoesEnum
import KE.SortData
import KE.SortKeyHeap
import HandS.ForSpec
import HandS.ForMost
import HandS.Walk
import HandS.Wide
import HandS.Conv
import HandS.TupSets
import HandS.SortKw
import HandS.Nested
import HandS.EndTab
import KE.KNest
import PySem.Challenge.RW_alikebodies_s07_dual
set_option linter.all false
set_option Elab.async false
namespace AB
abbrev V := Nat → Rat

/-! ### sums of products over the first n places -/
def dt : Nat → V → V → Rat
  | 0, _, _ => 0
  | n + 1, a, b => dt n a b + a n * b n

theorem dt_comm (n : Nat) (a b : V) : dt n a b = dt n b a := by
  induction n with
  | zero => rfl
  | succ n ih => simp only [dt]; grind

theorem dt_congr {n : Nat} {a a' b b' : V} (h : ∀ i, i < n → a i = a' i) (h' : ∀ i, i < n → b i = b' i) : dt n a b = dt n a' b' := by
  induction n with
  | zero => rfl
  | succ n ih =>
    simp only [dt]
    rw [ih (fun i hi => h i (by omega)) (fun i hi => h' i (by omega)), h n (by omega), h' n (by omega)]

/-- x + t y -/
def lin (x : V) (t : Rat) (y : V) : V := fun i => x i + t * y i
@[simp] theorem lin_at (x : V) (t : Rat) (y : V) (i : Nat) : lin x t y i = x i + t * y i := rfl

theorem dt_lin (n : Nat) (a x y : V) (t : Rat) : dt n a (lin x t y) = dt n a x + t * dt n a y := by
  induction n with
  | zero => simp only [dt]; grind
  | succ n ih => simp only [dt, ih, lin_at]; grind

theorem dt_lin' (n : Nat) (a x y : V) (t : Rat) : dt n (lin x t y) a = dt n x a + t * dt n y a := by
  rw [dt_comm, dt_lin, dt_comm n a x, dt_comm n a y]

def zv : V := fun _ => 0
theorem dt_zero (n : Nat) (a b : V) (h : ∀ i, i < n → b i = 0) : dt n a b = 0 := by
  induction n with
  | zero => rfl
  | succ n ih => simp only [dt]; rw [ih (fun i hi => h i (by omega)), h n (by omega)]; grind

theorem dt_zero' (n : Nat) (a b : V) (h : ∀ i, i < n → a i = 0) : dt n a b = 0 := by
  rw [dt_comm]; exact dt_zero n b a h

/-- the j-th unit -/
def ev (j : Nat) : V := fun i => if i = j then 1 else 0
theorem dt_ev (n : Nat) (a : V) (j : Nat) (h : j < n) : dt n a (ev j) = a j := by
  induction n with
  | zero => omega
  | succ n ih =>
    simp only [dt]
    by_cases e : j = n
    · subst e
      rw [dt_zero j a (ev j) (fun i hi => by simp [ev]; omega)]
      simp [ev, Rat.zero_add]
    · rw [ih (by omega)]
      simp [ev]; grind

theorem sq_nonneg (x : Rat) : 0 ≤ x * x := by
  rcases Rat.le_total (a := 0) (b := x) with h | h
  · exact Rat.mul_nonneg h h
  · have : 0 ≤ (-x) * (-x) := Rat.mul_nonneg (by grind) (by grind)
    grind

theorem dt_self_nonneg (n : Nat) (a : V) : 0 ≤ dt n a a := by
  induction n with
  | zero => simp [dt]
  | succ n ih => simp only [dt]; have := sq_nonneg (a n); grind

theorem dt_self_zero (n : Nat) (a : V) (h : dt n a a = 0) : ∀ i, i < n → a i = 0 := by
  induction n with
  | zero => intro i hi; omega
  | succ n ih =>
    simp only [dt] at h
    have h1 := dt_self_nonneg n a
    have h2 := sq_nonneg (a n)
    have h3 : dt n a a = 0 := by grind
    have h4 : a n * a n = 0 := by grind
    intro i hi
    by_cases e : i = n
    · subst e
      rcases Rat.mul_eq_zero.mp h4 with h | h <;> exact h
    · exact ih h3 i (by omega)

/-- all of the first n are 0 -/
def Nil (n : Nat) (d : V) : Prop := ∀ i, i < n → d i = 0

/-! ### positions at which something of a room of directions ends -/
structure Sub (D : V → Prop) : Prop where
  zero : D zv
  lin : ∀ x y t, D x → D y → D (lin x t y)

def Fr (n : Nat) (D : V → Prop) (j : Nat) : Prop := ∃ d, D d ∧ d j ≠ 0 ∧ ∀ i, j < i → i < n → d i = 0

noncomputable def nf (n : Nat) (D : V → Prop) (j : Nat) : Bool := @decide (¬ Fr n D j) (Classical.propDecidable _)
theorem nf_true {n : Nat} {D : V → Prop} {j : Nat} : nf n D j = true ↔ ¬ Fr n D j := by
  unfold nf
  exact @decide_eq_true_iff _ (Classical.propDecidable _)
theorem nf_false {n : Nat} {D : V → Prop} {j : Nat} : nf n D j = false ↔ Fr n D j := by
  rw [← Bool.not_eq_true, nf_true, Classical.not_not]
noncomputable def rk (n : Nat) (D : V → Prop) : Nat := ((List.range n).filter (nf n D)).length

theorem Fr_congr {n : Nat} {D E : V → Prop} (h : ∀ d, D d ↔ E d) (j : Nat) : Fr n D j ↔ Fr n E j := by
  constructor
  · rintro ⟨d, h1, h2⟩; exact ⟨d, (h d).mp h1, h2⟩
  · rintro ⟨d, h1, h2⟩; exact ⟨d, (h d).mpr h1, h2⟩

theorem rk_of_Fr {n : Nat} {D E : V → Prop} (h : ∀ j, j < n → (Fr n D j ↔ Fr n E j)) : rk n D = rk n E := by
  unfold rk
  congr 1
  apply List.filter_congr
  intro j hj
  rw [List.mem_range] at hj
  rw [Bool.eq_iff_iff, nf_true, nf_true, h j hj]

theorem rk_congr {n : Nat} {D E : V → Prop} (h : ∀ d, D d ↔ E d) : rk n D = rk n E := rk_of_Fr fun j _ => Fr_congr h j

theorem rk_le (n : Nat) (D : V → Prop) : rk n D ≤ n := by
  unfold rk
  refine Nat.le_trans (List.length_filter_le _ _) ?_
  simp

/-- the last place of the first n that isn't 0 -/
theorem last_place (n : Nat) (d : V) (h : ¬ Nil n d) : ∃ j, j < n ∧ d j ≠ 0 ∧ ∀ i, j < i → i < n → d i = 0 := by
  induction n with
  | zero => exact absurd (fun i hi => by omega) h
  | succ n ih =>
    by_cases e : d n = 0
    · have : ¬ Nil n d := fun q => h fun i hi => by
        by_cases ei : i = n
        · rw [ei]; exact e
        · exact q i (by omega)
      obtain ⟨j, h1, h2, h3⟩ := ih this
      refine ⟨j, by omega, h2, fun i a b => ?_⟩
      by_cases ei : i = n
      · rw [ei]; exact e
      · exact h3 i a (by omega)
    · exact ⟨n, by omega, e, fun i a b => by omega⟩

theorem rk_full {n : Nat} {D : V → Prop} : rk n D = n ↔ ∀ d, D d → Nil n d := by
  constructor
  · intro h d hd
    apply Classical.byContradiction
    intro q
    obtain ⟨j, h1, h2, h3⟩ := last_place n d q
    have fr : Fr n D j := ⟨d, hd, h2, h3⟩
    unfold rk at h
    have := List.length_filter_eq_length_iff (p := nf n D) (l := List.range n)
    rw [List.length_range] at this
    exact nf_true.mp (this.mp h j (List.mem_range.mpr h1)) fr
  · intro h
    unfold rk
    have := List.length_filter_eq_length_iff (p := nf n D) (l := List.range n)
    rw [List.length_range] at this
    apply this.mpr
    intro j hj
    rw [List.mem_range] at hj
    rw [nf_true]
    rintro ⟨d, h1, h2, h3⟩
    exact h2 (h d h1 j hj)

theorem rk_top {n : Nat} {D : V → Prop} (h : ∀ d, D d) : rk n D = 0 := by
  unfold rk
  rw [List.length_eq_zero_iff, List.filter_eq_nil_iff]
  intro j hj
  rw [nf_true, Classical.not_not]
  exact ⟨ev j, h _, by simp [ev], fun i a b => by simp [ev]; omega⟩

theorem least {p : Nat → Prop} (h : ∃ n, p n) : ∃ n, p n ∧ ∀ m, m < n → ¬ p m := by
  obtain ⟨n, hn⟩ := h
  induction n using Nat.strongRecOn with
  | ind n ih =>
    by_cases e : ∃ m, m < n ∧ p m
    · obtain ⟨m, h1, h2⟩ := e
      exact ih m h1 h2
    · exact ⟨n, hn, fun m hm q => e ⟨m, hm, q⟩⟩

theorem filter_one {l : List Nat} (nd : l.Nodup) {p q : Nat → Bool} {k : Nat} (hk : k ∈ l) (pk : p k = false) (qk : q k = true) (h : ∀ j, j ∈ l → j ≠ k → p j = q j) :
    (l.filter q).length = (l.filter p).length + 1 := by
  induction l with
  | nil => cases hk
  | cons a l ih =>
    have nd' := List.nodup_cons.mp nd
    by_cases e : a = k
    · subst e
      rw [List.filter_cons_of_pos qk, List.filter_cons_of_neg (by rw [pk]; decide)]
      have : l.filter q = l.filter p := List.filter_congr fun j hj => (h j (List.mem_cons_of_mem _ hj) (fun e => nd'.1 (e ▸ hj))).symm
      rw [this]; rfl
    · have hk' : k ∈ l := by
        rcases List.mem_cons.mp hk with q | q
        · exact absurd q.symm e
        · exact q
      have := ih nd'.2 hk' (fun j hj => h j (List.mem_cons_of_mem _ hj))
      have ea := h a (List.mem_cons_self ..) e
      cases qa : q a
      · rw [List.filter_cons_of_neg (by rw [qa]; decide), List.filter_cons_of_neg (by rw [ea, qa]; decide)]; exact this
      · rw [List.filter_cons_of_pos qa, List.filter_cons_of_pos (by rw [ea, qa]), List.length_cons, List.length_cons, this]

/-- one more row that isn't 0 on all of the room takes one dimension of it -/
theorem rk_cut {n : Nat} {D : V → Prop} (S : Sub D) (a : V) (h : ∃ d, D d ∧ dt n a d ≠ 0) : rk n (fun d => D d ∧ dt n a d = 0) = rk n D + 1 := by
  have h0 : ∃ j, ∃ d, D d ∧ dt n a d ≠ 0 ∧ ∀ i, j < i → i < n → d i = 0 := by
    obtain ⟨d, h1, h2⟩ := h
    exact ⟨n, d, h1, h2, fun i _ _ => by omega⟩
  obtain ⟨k, ⟨e, he, hae, hek⟩, hmin⟩ := least h0
  have ek : e k ≠ 0 ∧ k < n := by
    have : ¬ Nil n e := fun q => hae (dt_zero n a e q)
    obtain ⟨j, j1, j2, j3⟩ := last_place n e this
    have : ¬ j < k := fun q => hmin j q ⟨e, he, hae, j3⟩
    have : ¬ k < j := fun q => j2 (hek j q j1)
    have : j = k := by omega
    subst this
    exact ⟨j2, j1⟩
  unfold rk
  refine filter_one List.nodup_range (k := k) (List.mem_range.mpr ek.2) ?_ ?_ ?_
  · rw [nf_false]
    exact ⟨e, he, ek.1, hek⟩
  · rw [nf_true]
    rintro ⟨d, ⟨h1, h2⟩, h3, h4⟩
    -- e - (e k / d k) d ends sooner
    have e1 : D (lin e (-(e k / d k)) d) := S.lin _ _ _ he h1
    have e2 : dt n a (lin e (-(e k / d k)) d) ≠ 0 := by
      rw [dt_lin, h2]; intro q; apply hae; grind
    have e3 : ∀ i, k ≤ i → i < n → lin e (-(e k / d k)) d i = 0 := by
      intro i h5 h6
      by_cases q : i = k
      · subst q
        simp only [lin_at]
        grind
      · simp only [lin_at]
        rw [hek i (by omega) h6, h4 i (by omega) h6]; grind
    cases k with
    | zero => exact e2 (dt_zero n a _ fun i hi => e3 i (by omega) hi)
    | succ k => exact hmin k (by omega) ⟨_, e1, e2, fun i h5 h6 => e3 i (by omega) h6⟩
  · intro j hj hjk
    rw [List.mem_range] at hj
    have : Fr n (fun d => D d ∧ dt n a d = 0) j ↔ Fr n D j := by
      constructor
      · rintro ⟨d, ⟨h1, _⟩, h3⟩; exact ⟨d, h1, h3⟩
      · rintro ⟨d, h1, h3, h4⟩
        refine ⟨lin d (-(dt n a d / dt n a e)) e, ⟨S.lin _ _ _ h1 he, ?_⟩, ?_, ?_⟩
        · rw [dt_lin]; grind
        · by_cases q : k < j
          · simp only [lin_at]
            rw [hek j q hj]; grind
          · have : dt n a d = 0 := by
              apply Classical.byContradiction
              intro w
              exact hmin j (by omega) ⟨d, h1, w, h4⟩
            simp only [lin_at, this]; grind
        · intro i h5 h6
          by_cases q : k < j
          · simp only [lin_at]
            rw [hek i (by omega) h6, h4 i h5 h6]; grind
          · have : dt n a d = 0 := by
              apply Classical.byContradiction
              intro w
              exact hmin j (by omega) ⟨d, h1, w, h4⟩
            simp only [lin_at, this]
            rw [h4 i h5 h6]; grind
    rw [← Bool.not_inj_iff, Bool.eq_iff_iff]
    simp only [Bool.not_eq_true', nf_false]
    exact Iff.symm this

/-- orthogonal to all of some rows -/
def Orth (n : Nat) (l : List V) (d : V) : Prop := ∀ r, r ∈ l → dt n r d = 0
theorem Orth.sub (n : Nat) (l : List V) : Sub (Orth n l) :=
  ⟨fun r _ => dt_zero n r zv fun _ _ => rfl, fun x y t hx hy r hr => by rw [dt_lin, hx r hr, hy r hr]; grind⟩
theorem orth_cons {n : Nat} {a : V} {l : List V} {d : V} : Orth n (a :: l) d ↔ Orth n l d ∧ dt n a d = 0 := by
  constructor
  · intro h; exact ⟨fun r hr => h r (List.mem_cons_of_mem _ hr), h a (List.mem_cons_self ..)⟩
  · rintro ⟨h1, h2⟩ r hr
    rcases List.mem_cons.mp hr with e | e
    · rw [e]; exact h2
    · exact h1 r e

noncomputable def rkL (n : Nat) (l : List V) : Nat := rk n (Orth n l)
theorem rkL_nil (n : Nat) : rkL n [] = 0 := rk_top fun d r hr => by cases hr
theorem rkL_cons_new {n : Nat} {a : V} {l : List V} (h : ∃ d, Orth n l d ∧ dt n a d ≠ 0) : rkL n (a :: l) = rkL n l + 1 := by
  unfold rkL
  rw [← rk_cut (Orth.sub n l) a h]
  exact rk_congr fun d => orth_cons
theorem rkL_cons_old {n : Nat} {a : V} {l : List V} (h : ∀ d, Orth n l d → dt n a d = 0) : rkL n (a :: l) = rkL n l :=
  rk_congr fun d => by rw [orth_cons]; exact ⟨fun q => q.1, fun q => ⟨q, h d q⟩⟩
theorem rkL_congr {n : Nat} {l m : List V} (h : ∀ d, Orth n l d ↔ Orth n m d) : rkL n l = rkL n m := rk_congr h

theorem rkL_cons_cases (n : Nat) (a : V) (l : List V) : ((∃ d, Orth n l d ∧ dt n a d ≠ 0) ∧ rkL n (a :: l) = rkL n l + 1) ∨ ((∀ d, Orth n l d → dt n a d = 0) ∧ rkL n (a :: l) = rkL n l) := by
  by_cases h : ∃ d, Orth n l d ∧ dt n a d ≠ 0
  · exact .inl ⟨h, rkL_cons_new h⟩
  · have : ∀ d, Orth n l d → dt n a d = 0 := fun d hd => Classical.byContradiction fun q => h ⟨d, hd, q⟩
    exact .inr ⟨this, rkL_cons_old this⟩

theorem rkL_le_length (n : Nat) : ∀ l : List V, rkL n l ≤ l.length
  | [] => by rw [rkL_nil]; exact Nat.zero_le _
  | a :: l => by
    have := rkL_le_length n l
    rcases rkL_cons_cases n a l with ⟨_, h⟩ | ⟨_, h⟩ <;> rw [h, List.length_cons] <;> omega

theorem rkL_full {n : Nat} {l : List V} : rkL n l = n ↔ ∀ d, Orth n l d → Nil n d := rk_full

/-- fewer rows than places: some direction is left -/
theorem orth_left {n : Nat} {l : List V} (h : rkL n l < n) : ∃ d, Orth n l d ∧ ¬ Nil n d := by
  apply Classical.byContradiction
  intro q
  have : rkL n l = n := rkL_full.mpr fun d hd => Classical.byContradiction fun w => q ⟨d, hd, w⟩
  omega

/-- as few of some rows as make the same room -/
theorem basis (n : Nat) : ∀ l : List V, ∃ s : List V, s.Sublist l ∧ s.length = rkL n l ∧ ∀ d, Orth n s d ↔ Orth n l d
  | [] => ⟨[], .slnil, by rw [rkL_nil]; rfl, fun d => Iff.rfl⟩
  | a :: l => by
    obtain ⟨s, h1, h2, h3⟩ := basis n l
    rcases rkL_cons_cases n a l with ⟨hn, h⟩ | ⟨ho, h⟩
    · refine ⟨a :: s, h1.cons_cons a, by rw [List.length_cons, h, h2], fun d => ?_⟩
      rw [orth_cons, orth_cons, h3]
    · refine ⟨s, h1.cons a, by rw [h, h2], fun d => ?_⟩
      rw [h3, orth_cons]
      exact ⟨fun q => ⟨q, ho d q⟩, fun q => q.1⟩

/-- all that is orthogonal to rows of rank n - 1 is made of one -/
theorem orth_one {n : Nat} {l : List V} (h : rkL n l + 1 = n) {a : V} (ha : Orth n l a) (na : ¬ Nil n a) {d : V} (hd : Orth n l d) : ∃ t : Rat, ∀ i, i < n → d i = t * a i := by
  have ex : ∃ e, Orth n l e ∧ dt n a e ≠ 0 := ⟨a, ha, fun q => na (dt_self_zero n a q)⟩
  have full := rkL_cons_new ex
  rw [h] at full
  have := rkL_full.mp full
  have haa : dt n a a ≠ 0 := fun q => na (dt_self_zero n a q)
  have z := this (lin d (-(dt n a d / dt n a a)) a) (orth_cons.mpr ⟨(Orth.sub n l).lin _ _ _ hd ha, by rw [dt_lin]; grind⟩)
  refine ⟨dt n a d / dt n a a, fun i hi => ?_⟩
  have := z i hi
  simp only [lin_at] at this
  grind
end AB

set_option linter.all false
set_option Elab.async false
namespace AB
theorem div_nn {a b : Rat} (h : 0 ≤ a) (hb : 0 < b) : 0 ≤ a / b := by
  rw [Rat.div_def]
  exact Rat.mul_nonneg h (by have := Rat.inv_pos.mpr hb; grind)
theorem div_pos {a b : Rat} (h : 0 < a) (hb : 0 < b) : 0 < a / b := by
  rw [Rat.div_def]
  exact Rat.mul_pos h (Rat.inv_pos.mpr hb)
/-! ### what is made of some vectors with parts not below 0 -/
inductive Cone (n : Nat) (S : V → Prop) : V → Prop
  | nil {x : V} : Nil n x → Cone n S x
  | more {x y p : V} {t : Rat} : Cone n S x → S p → 0 ≤ t → (∀ i, i < n → y i = x i + t * p i) → Cone n S y

theorem Cone.eq {n : Nat} {S : V → Prop} {x y : V} (h : Cone n S x) (e : ∀ i, i < n → y i = x i) : Cone n S y := by
  cases h with
  | nil h => exact .nil fun i hi => by rw [e i hi, h i hi]
  | more h1 h2 h3 h4 => exact .more h1 h2 h3 fun i hi => by rw [e i hi, h4 i hi]

theorem Cone.mono {n : Nat} {S T : V → Prop} {x : V} (h : Cone n S x) (st : ∀ p, S p → T p) : Cone n T x := by
  induction h with
  | nil h => exact .nil h
  | more _ h2 h3 h4 ih => exact .more ih (st _ h2) h3 h4

theorem Cone.add {n : Nat} {S : V → Prop} {x y : V} (hx : Cone n S x) (hy : Cone n S y) (t : Rat) (ht : 0 ≤ t) : Cone n S (lin x t y) := by
  induction hy with
  | nil h => exact hx.eq fun i hi => by rw [lin_at, h i hi]; grind
  | @more y z p s h1 h2 h3 h4 ih =>
    refine .more ih h2 (t := t * s) (Rat.mul_nonneg ht h3) fun i hi => ?_
    rw [lin_at, lin_at, h4 i hi]; grind

theorem Cone.of {n : Nat} {S : V → Prop} {p : V} (h : S p) : Cone n S p :=
  .more (x := zv) (t := 1) (.nil fun _ _ => rfl) h (by decide) fun i _ => by simp [zv]; grind

theorem Cone.trans {n : Nat} {S T : V → Prop} {x : V} (h : Cone n S x) (st : ∀ p, S p → Cone n T p) : Cone n T x := by
  induction h with
  | nil h => exact .nil h
  | more _ h2 h3 h4 ih => exact (ih.add (st _ h2) _ h3).eq h4

theorem Cone.dual {n : Nat} {S : V → Prop} {x : V} (h : Cone n S x) {c : V} (hc : ∀ p, S p → dt n p c ≤ 0) : dt n x c ≤ 0 := by
  induction h with
  | nil h => rw [dt_zero' n _ c h]; exact Rat.le_refl
  | @more x y p t h1 h2 h3 h4 ih =>
    have e : dt n y c = dt n x c + t * dt n p c := by
      rw [← dt_lin']; exact dt_congr h4 fun _ _ => rfl
    have := Rat.mul_nonneg h3 (show 0 ≤ -(dt n p c) by have := hc p h2; grind)
    rw [e]; grind

theorem Cone.tight {n : Nat} {S : V → Prop} {x : V} (h : Cone n S x) {c : V} (hc : ∀ p, S p → dt n p c ≤ 0) (hx : dt n x c = 0) : Cone n (fun p => S p ∧ dt n p c = 0) x := by
  induction h with
  | nil h => exact .nil h
  | @more x y p t h1 h2 h3 h4 ih =>
    have e : dt n y c = dt n x c + t * dt n p c := by
      rw [← dt_lin']; exact dt_congr h4 fun _ _ => rfl
    have a1 := hc p h2
    have a2 := h1.dual hc
    have a3 := Rat.mul_nonneg h3 (show 0 ≤ -(dt n p c) by grind)
    have a4 : dt n x c = 0 := by grind
    have a5 : t * dt n p c = 0 := by grind
    rcases Rat.mul_eq_zero.mp a5 with q | q
    · exact (ih a4).eq fun i hi => by rw [h4 i hi, q]; grind
    · exact .more (ih a4) ⟨h2, q⟩ h3 h4

theorem Cone.orth {n : Nat} {S : V → Prop} {x : V} (h : Cone n S x) {c : V} (hc : ∀ p, S p → dt n p c = 0) : dt n x c = 0 := by
  induction h with
  | nil h => exact dt_zero' n _ c h
  | @more x y p t h1 h2 h3 h4 ih =>
    have e : dt n y c = dt n x c + t * dt n p c := by
      rw [← dt_lin']; exact dt_congr h4 fun _ _ => rfl
    rw [e, ih, hc p h2]; grind

/-- either made of some, or parted from them -/
theorem farkas (n : Nat) : ∀ (l : List V) (b : V), Cone n (· ∈ l) b ∨ ∃ x, (∀ a, a ∈ l → dt n a x ≤ 0) ∧ 0 < dt n b x := by
  suffices H : ∀ (k : Nat) (l : List V), l.length = k → ∀ b : V, Cone n (· ∈ l) b ∨ ∃ x, (∀ a, a ∈ l → dt n a x ≤ 0) ∧ 0 < dt n b x from fun l b => H l.length l rfl b
  intro k
  induction k with
  | zero =>
    intro l hl b
    rw [List.length_eq_zero_iff] at hl
    subst hl
    by_cases e : dt n b b = 0
    · exact .inl (.nil (dt_self_zero n b e))
    · exact .inr ⟨b, (fun a ha => by cases ha), (by have := dt_self_nonneg n b; grind)⟩
  | succ k IH =>
    intro l hl b
    match l, hl with
    | a :: l, hl =>
    have hl' : l.length = k := by simpa using hl
    rcases IH l hl' b with h | ⟨x, h1, h2⟩
    · exact .inl (h.mono fun p hp => List.mem_cons_of_mem _ hp)
    · by_cases q : dt n a x ≤ 0
      · exact .inr ⟨x, fun c hc => by rcases List.mem_cons.mp hc with e | e; (rw [e]; exact q); exact h1 c e, h2⟩
      · have q' : 0 < dt n a x := by grind
        -- all less as much of a as makes them square to x
        let pr : V → V := fun c => lin c (-(dt n c x / dt n a x)) a
        rcases IH (l.map pr) (by rw [List.length_map]; exact hl') (pr b) with h | ⟨y, h3, h4⟩
        · left
          have st : ∀ p, p ∈ l.map pr → Cone n (· ∈ a :: l) p := by
            intro p hp
            obtain ⟨c, hc, rfl⟩ := List.mem_map.mp hp
            refine (Cone.of (List.mem_cons_of_mem _ hc)).add (Cone.of (List.mem_cons_self ..)) _ ?_
            have := h1 c hc
            have := div_nn (show 0 ≤ -(dt n c x) by grind) q'
            have : -(dt n c x / dt n a x) = -(dt n c x) / dt n a x := by grind
            rw [this]; assumption
          have hb : Cone n (· ∈ a :: l) (lin (pr b) (dt n b x / dt n a x) a) := (h.trans st).add (Cone.of (List.mem_cons_self ..)) _ (div_nn (by grind) q')
          exact hb.eq fun i hi => by show b i = (b i + _ * a i) + _ * a i; grind
        · right
          refine ⟨lin y (-(dt n a y / dt n a x)) x, ?_, ?_⟩
          · intro c hc
            rcases List.mem_cons.mp hc with e | e
            · rw [e, dt_lin]
              have : dt n a y + -(dt n a y / dt n a x) * dt n a x = 0 := by grind
              rw [this]; exact Rat.le_refl
            · have h5 := h3 (pr c) (List.mem_map_of_mem e)
              rw [dt_lin]
              have e2 : dt n (pr c) y = dt n c y + (-(dt n c x / dt n a x)) * dt n a y := dt_lin' n y c a _
              have e3 : dt n c y + -(dt n a y / dt n a x) * dt n c x = dt n (pr c) y := by rw [e2]; grind
              rw [e3]; exact h5
          · rw [dt_lin]
            have e2 : dt n (pr b) y = dt n b y + (-(dt n b x / dt n a x)) * dt n a y := dt_lin' n y b a _
            have e3 : dt n b y + -(dt n a y / dt n a x) * dt n b x = dt n (pr b) y := by rw [e2]; grind
            rw [e3]; exact h4

/-! ### a 1 ahead of a point's numbers -/
def hm (p : V) : V
  | 0 => 1
  | i + 1 => p i
def sh (c : V) : V := fun i => c (i + 1)
theorem dt_hm (n : Nat) (p c : V) : dt (n + 1) (hm p) c = c 0 + dt n p (sh c) := by
  induction n with
  | zero => simp only [dt, hm]; grind
  | succ n ih =>
    rw [dt, ih]
    simp only [dt, hm, sh]; grind

/-- between some points: a mixture of them -/
def Conv (n : Nat) (S : V → Prop) (x : V) : Prop := Cone (n + 1) (fun v => ∃ p, S p ∧ v = hm p) (hm x)
theorem Conv.mono {n : Nat} {S T : V → Prop} {x : V} (h : Conv n S x) (st : ∀ p, S p → T p) : Conv n T x :=
  Cone.mono h fun _ ⟨p, hp, e⟩ => ⟨p, st p hp, e⟩
theorem Conv.of {n : Nat} {S : V → Prop} {p : V} (h : S p) : Conv n S p := Cone.of ⟨p, h, rfl⟩
theorem Conv.trans {n : Nat} {S T : V → Prop} {x : V} (h : Conv n S x) (st : ∀ p, S p → Conv n T p) : Conv n T x :=
  Cone.trans h fun _ ⟨p, hp, e⟩ => e ▸ st p hp
theorem Conv.eq {n : Nat} {S : V → Prop} {x y : V} (h : Conv n S x) (e : ∀ i, i < n → y i = x i) : Conv n S y :=
  Cone.eq h fun i hi => by
    cases i with
    | zero => rfl
    | succ i => exact e i (by omega)
def hb (a : V) (b : Rat) : V
  | 0 => -b
  | i + 1 => a i
theorem dt_hb (n : Nat) (p a : V) (b : Rat) : dt (n + 1) (hm p) (hb a b) = dt n p a - b := by
  rw [dt_hm]
  have e : sh (hb a b) = a := rfl
  rw [e]
  show -b + dt n p a = _
  grind
/-- a functional that is not above b at all of them isn't at a mixture -/
theorem Conv.dual {n : Nat} {S : V → Prop} {x : V} (h : Conv n S x) {a : V} {b : Rat} (hc : ∀ p, S p → dt n p a ≤ b) : dt n x a ≤ b := by
  have := Cone.dual (c := hb a b) h (by
    rintro _ ⟨p, hp, rfl⟩
    rw [dt_hb]
    have := hc p hp
    grind)
  rw [dt_hb] at this
  grind
/-- where it is b at a mixture, it is at those that make it -/
theorem Conv.tight {n : Nat} {S : V → Prop} {x : V} (h : Conv n S x) {a : V} {b : Rat} (hc : ∀ p, S p → dt n p a ≤ b) (hx : dt n x a = b) : Conv n (fun p => S p ∧ dt n p a = b) x := by
  have := Cone.tight (c := hb a b) h (by
    rintro _ ⟨p, hp, rfl⟩
    rw [dt_hb]
    have := hc p hp
    grind) (by rw [dt_hb]; grind)
  refine Cone.mono this ?_
  rintro _ ⟨⟨p, hp, rfl⟩, e⟩
  rw [dt_hb] at e
  exact ⟨p, ⟨hp, by grind⟩, rfl⟩

theorem Conv.farkas (n : Nat) (l : List V) (x : V) : Conv n (· ∈ l) x ∨ ∃ (a : V) (b : Rat), (∀ p, p ∈ l → dt n p a ≤ b) ∧ b < dt n x a := by
  rcases AB.farkas (n + 1) (l.map hm) (hm x) with h | ⟨c, h1, h2⟩
  · left
    exact Cone.mono h fun v hv => by
      obtain ⟨p, hp, rfl⟩ := List.mem_map.mp hv
      exact ⟨p, hp, rfl⟩
  · right
    refine ⟨sh c, -(c 0), fun p hp => ?_, ?_⟩
    · have := h1 _ (List.mem_map_of_mem hp)
      rw [dt_hm] at this; grind
    · rw [dt_hm] at h2; grind

/-- the tight ones of some points -/
noncomputable def tights (n : Nat) (l : List V) (c : V) : List V := l.filter fun p => decide (dt (n + 1) (hm p) c = 0)
theorem mem_tights {n : Nat} {l : List V} {c p : V} : p ∈ tights n l c ↔ p ∈ l ∧ dt (n + 1) (hm p) c = 0 := by
  unfold tights
  rw [List.mem_filter, decide_eq_true_iff]

theorem exists_min {α : Type} (f : α → Rat) : ∀ {l : List α}, l ≠ [] → ∃ x, x ∈ l ∧ ∀ y, y ∈ l → f x ≤ f y
  | [x], _ => ⟨x, List.mem_cons_self .., fun y hy => by rw [List.mem_singleton.mp hy]; exact Rat.le_refl⟩
  | x :: y :: l, _ => by
    obtain ⟨z, h1, h2⟩ := exists_min f (l := y :: l) (by simp)
    by_cases e : f x ≤ f z
    · refine ⟨x, List.mem_cons_self .., fun w hw => ?_⟩
      rcases List.mem_cons.mp hw with q | q
      · rw [q]; exact Rat.le_refl
      · exact Rat.le_trans e (h2 w q)
    · refine ⟨z, List.mem_cons_of_mem _ h1, fun w hw => ?_⟩
      rcases List.mem_cons.mp hw with q | q
      · rw [q]; grind
      · exact h2 w q

theorem filter_len_le {α : Type} {p q : α → Bool} (h : ∀ x, p x = true → q x = true) : ∀ l : List α, (l.filter p).length ≤ (l.filter q).length
  | [] => by simp
  | x :: l => by
    have ih := filter_len_le h l
    by_cases e : p x = true
    · rw [List.filter_cons_of_pos e, List.filter_cons_of_pos (h x e)]; simpa using ih
    · rw [List.filter_cons_of_neg e]
      by_cases e2 : q x = true
      · rw [List.filter_cons_of_pos e2]; simp only [List.length_cons]; omega
      · rw [List.filter_cons_of_neg e2]; exact ih

theorem filter_len_lt {α : Type} {p q : α → Bool} (h : ∀ x, p x = true → q x = true) : ∀ {l : List α} {x : α}, x ∈ l → p x = false → q x = true → (l.filter p).length < (l.filter q).length
  | y :: l, x, hx, hp, hq => by
    have le := filter_len_le h l
    rcases List.mem_cons.mp hx with e | e
    · subst e
      rw [List.filter_cons_of_neg (by rw [hp]; decide), List.filter_cons_of_pos hq, List.length_cons]; omega
    · have ih := filter_len_lt h e hp hq
      by_cases e1 : p y = true
      · rw [List.filter_cons_of_pos e1, List.filter_cons_of_pos (h y e1), List.length_cons, List.length_cons]; omega
      · rw [List.filter_cons_of_neg e1]
        by_cases e2 : q y = true
        · rw [List.filter_cons_of_pos e2, List.length_cons]; omega
        · rw [List.filter_cons_of_neg e2]; exact ih

/-- **What isn't between some points of full dimension is parted from them by one that has points of n - 1 dimensions on its bound.** -/
theorem facet_of (n : Nat) (l : List V) (full : rkL (n + 1) (l.map hm) = n + 1) (x : V) : ∀ (k : Nat) (c : V), l.length - (tights n l c).length = k →
    (∀ p, p ∈ l → dt (n + 1) (hm p) c ≤ 0) → 0 < dt (n + 1) (hm x) c →
    ∃ c : V, (∀ p, p ∈ l → dt (n + 1) (hm p) c ≤ 0) ∧ 0 < dt (n + 1) (hm x) c ∧ rkL (n + 1) ((tights n l c).map hm) = n := by
  intro k
  induction k using Nat.strongRecOn with
  | ind k IH =>
  intro c hk hc hx
  have up : rkL (n + 1) ((tights n l c).map hm) ≤ n := by
    have := rk_le (n + 1) (Orth (n + 1) ((tights n l c).map hm))
    have ne : rkL (n + 1) ((tights n l c).map hm) ≠ n + 1 := by
      intro q
      have := rkL_full.mp q c (fun r hr => by
        obtain ⟨p, hp, rfl⟩ := List.mem_map.mp hr
        exact (mem_tights.mp hp).2)
      rw [dt_zero _ _ _ this] at hx
      exact absurd hx (by decide)
    unfold rkL at ne ⊢
    omega
  by_cases lt : rkL (n + 1) ((tights n l c).map hm) = n
  · exact ⟨c, hc, hx, lt⟩
  -- some direction is square to the tight ones and to x
  have more : rkL (n + 1) (hm x :: (tights n l c).map hm) < n + 1 := by
    rcases rkL_cons_cases (n + 1) (hm x) ((tights n l c).map hm) with ⟨_, h⟩ | ⟨_, h⟩ <;> omega
  obtain ⟨d, hd, nd⟩ := orth_left more
  rw [orth_cons] at hd
  have : ∃ p, p ∈ l ∧ dt (n + 1) (hm p) d ≠ 0 := by
    apply Classical.byContradiction
    intro q
    refine nd (rkL_full.mp full d fun r hr => ?_)
    obtain ⟨p, hp, rfl⟩ := List.mem_map.mp hr
    exact Classical.byContradiction fun w => q ⟨p, hp, w⟩
  obtain ⟨p0, hp0, hn0⟩ := this
  -- its sign such that some point comes nearer
  obtain ⟨e, he, hxe, p1, hp1, hpos⟩ : ∃ e, Orth (n + 1) ((tights n l c).map hm) e ∧ dt (n + 1) (hm x) e = 0 ∧ ∃ p, p ∈ l ∧ 0 < dt (n + 1) (hm p) e := by
    by_cases q : 0 < dt (n + 1) (hm p0) d
    · exact ⟨d, hd.1, hd.2, p0, hp0, q⟩
    · refine ⟨lin zv (-1) d, (Orth.sub _ _).lin _ _ _ (Orth.sub _ _).zero hd.1, ?_, p0, hp0, ?_⟩
      · rw [dt_lin, dt_zero _ _ zv (fun _ _ => rfl), hd.2]; grind
      · rw [dt_lin, dt_zero _ _ zv (fun _ _ => rfl)]; grind
  -- the nearest of those that come nearer
  let m := l.filter fun p => decide (0 < dt (n + 1) (hm p) e)
  have mne : m ≠ [] := by
    intro q
    have : p1 ∈ m := List.mem_filter.mpr ⟨hp1, decide_eq_true hpos⟩
    rw [q] at this; cases this
  obtain ⟨z, hz, hmin⟩ := exists_min (fun p => -(dt (n + 1) (hm p) c) / dt (n + 1) (hm p) e) mne
  obtain ⟨hzl, hzp⟩ := List.mem_filter.mp hz
  have hzp := of_decide_eq_true hzp
  have znt : dt (n + 1) (hm z) c ≠ 0 := by
    intro q
    have := he (hm z) (List.mem_map_of_mem (mem_tights.mpr ⟨hzl, q⟩))
    grind
  let t := -(dt (n + 1) (hm z) c) / dt (n + 1) (hm z) e
  have t0 : 0 ≤ t := div_nn (by have := hc z hzl; grind) hzp
  have hz0 : dt (n + 1) (hm z) (lin c t e) = 0 := by
    rw [dt_lin]; show _ + (-(dt (n + 1) (hm z) c) / dt (n + 1) (hm z) e) * _ = 0; grind
  have ok : ∀ p, p ∈ l → dt (n + 1) (hm p) (lin c t e) ≤ 0 := by
    intro p hp
    rw [dt_lin]
    by_cases q : 0 < dt (n + 1) (hm p) e
    · have h1 : t ≤ -(dt (n + 1) (hm p) c) / dt (n + 1) (hm p) e := hmin p (List.mem_filter.mpr ⟨hp, decide_eq_true q⟩)
      have h2 := Rat.mul_le_mul_of_nonneg_right h1 (show 0 ≤ dt (n + 1) (hm p) e by grind)
      have h3 : -(dt (n + 1) (hm p) c) / dt (n + 1) (hm p) e * dt (n + 1) (hm p) e = -(dt (n + 1) (hm p) c) := Rat.div_mul_cancel (by grind)
      rw [h3] at h2
      grind
    · have h1 := hc p hp
      have h2 := Rat.mul_nonneg t0 (show 0 ≤ -(dt (n + 1) (hm p) e) by grind)
      grind
  have hx' : 0 < dt (n + 1) (hm x) (lin c t e) := by
    rw [dt_lin, hxe]; grind
  have lt2 : (tights n l c).length < (tights n l (lin c t e)).length := by
    unfold tights
    have : (∀ y, decide (dt (n + 1) (hm y) c = 0) = true → y ∈ l → decide (dt (n + 1) (hm y) (lin c t e) = 0) = true) := by
      intro y hy hyl
      have hy := of_decide_eq_true hy
      apply decide_eq_true
      rw [dt_lin, hy, he (hm y) (List.mem_map_of_mem (mem_tights.mpr ⟨hyl, hy⟩))]; grind
    have e1 : l.filter (fun p => decide (dt (n + 1) (hm p) c = 0)) = l.filter (fun p => decide (dt (n + 1) (hm p) c = 0) && decide (dt (n + 1) (hm p) (lin c t e) = 0)) :=
      List.filter_congr fun y hy => by
        by_cases q : dt (n + 1) (hm y) c = 0
        · rw [decide_eq_true q, this y (decide_eq_true q) hy]; rfl
        · rw [decide_eq_false q]; rfl
    rw [e1]
    refine filter_len_lt (fun y hy => ?_) hzl ?_ (decide_eq_true hz0)
    · rw [Bool.and_eq_true] at hy; exact hy.2
    · rw [decide_eq_false znt]; rfl
  have le2 : (tights n l (lin c t e)).length ≤ l.length := List.length_filter_le _ _
  exact IH _ (by omega) (lin c t e) rfl ok hx'

theorem facet (n : Nat) (l : List V) (full : rkL (n + 1) (l.map hm) = n + 1) (x : V) (h : ¬ Conv n (· ∈ l) x) :
    ∃ (a : V) (b : Rat), (∀ p, p ∈ l → dt n p a ≤ b) ∧ b < dt n x a ∧ rkL (n + 1) ((tights n l (hb a b)).map hm) = n := by
  rcases Conv.farkas n l x with q | ⟨a, b, h1, h2⟩
  · exact absurd q h
  obtain ⟨c, g1, g2, g3⟩ := facet_of n l full x _ (hb a b) rfl (fun p hp => by rw [dt_hb]; have := h1 p hp; grind) (by rw [dt_hb]; grind)
  have ec : ∀ p, dt (n + 1) (hm p) c = dt (n + 1) (hm p) (hb (sh c) (-(c 0))) := fun p => by
    rw [dt_hm, dt_hb]; grind
  refine ⟨sh c, -(c 0), fun p hp => ?_, ?_, ?_⟩
  · have := g1 p hp; rw [ec, dt_hb] at this; grind
  · rw [ec, dt_hb] at g2; grind
  · have : tights n l (hb (sh c) (-(c 0))) = tights n l c := List.filter_congr fun p _ => by rw [ec]
    rw [this]; exact g3
end AB

set_option linter.all false
set_option Elab.async false
namespace AB
/-- alike in the first n -/
def Eqn (n : Nat) (p q : V) : Prop := ∀ i, i < n → p i = q i
theorem Eqn.symm {n : Nat} {p q : V} (h : Eqn n p q) : Eqn n q p := fun i hi => (h i hi).symm
theorem Eqn.trans {n : Nat} {p q r : V} (h : Eqn n p q) (h' : Eqn n q r) : Eqn n p r := fun i hi => (h i hi).trans (h' i hi)

/-- one of some points that isn't a mixture of the others -/
def Corner (n : Nat) (S : V → Prop) (p : V) : Prop := S p ∧ ¬ Conv n (fun q => S q ∧ ¬ Eqn n q p) p

theorem conv_empty {n : Nat} {S : V → Prop} {x : V} (h : Conv n S x) (e : ∀ p, ¬ S p) : False := by
  have := h.dual (a := zv) (b := -1) fun p hp => absurd hp (e p)
  rw [dt_zero n x zv fun _ _ => rfl] at this
  exact absurd this (by decide)

theorem conv_ev {n : Nat} {S : V → Prop} {x : V} {i : Nat} (hi : i < n) (h : Conv n S x) {b : Rat} (e : ∀ p, S p → p i = b) : x i = b := by
  have h1 := h.dual (a := ev i) (b := b) fun p hp => by rw [dt_ev n p i hi, e p hp]; exact Rat.le_refl
  have h2 := h.dual (a := lin zv (-1) (ev i)) (b := -b) fun p hp => by
    rw [dt_lin, dt_zero n p zv (fun _ _ => rfl), dt_ev n p i hi, e p hp]; grind
  rw [dt_ev n x i hi] at h1
  rw [dt_lin, dt_zero n x zv (fun _ _ => rfl), dt_ev n x i hi] at h2
  grind

theorem lex_most (n : Nat) : ∀ k, k ≤ n → ∀ m : List V, m ≠ [] → ∃ v, v ∈ m ∧ ∀ S : V → Prop, (∀ q, S q → q ∈ m) → Conv n S v → Conv n (fun q => S q ∧ ∀ i, i < k → q i = v i) v := by
  intro k
  induction k with
  | zero =>
    intro _ m hm
    obtain ⟨v, hv⟩ := List.exists_mem_of_ne_nil m hm
    exact ⟨v, hv, fun S _ h => h.mono fun p hp => ⟨hp, fun i hi => by omega⟩⟩
  | succ k IH =>
    intro hk m hm
    obtain ⟨w, hw, hmax⟩ := exists_min (fun p : V => -(p k)) hm
    let m' := m.filter fun q => decide (q k = w k)
    have hm' : m' ≠ [] := by
      intro q
      have : w ∈ m' := List.mem_filter.mpr ⟨hw, decide_eq_true rfl⟩
      rw [q] at this; cases this
    obtain ⟨v, hv, hS⟩ := IH (by omega) m' hm'
    obtain ⟨hv1, hv2⟩ := List.mem_filter.mp hv
    have hv2 := of_decide_eq_true hv2
    refine ⟨v, hv1, fun S hSm hc => ?_⟩
    have h1 := hc.tight (a := ev k) (b := v k) (fun p hp => by
      rw [dt_ev n p k (by omega)]
      have := hmax p (hSm p hp)
      grind) (dt_ev n v k (by omega))
    have h2 := hS _ (fun q hq => List.mem_filter.mpr ⟨hSm q hq.1, decide_eq_true (by
      have := hq.2
      rw [dt_ev n q k (by omega)] at this
      rw [this, hv2])⟩) h1
    refine h2.mono fun q hq => ⟨hq.1.1, fun i hi => ?_⟩
    by_cases e : i = k
    · have := hq.1.2
      rw [dt_ev n q k (by omega)] at this
      rw [e, this]
    · exact hq.2 i (by omega)

/-- **All of some points are mixtures of their corners.** -/
theorem between_corners (n : Nat) (l : List V) (p : V) (hp : p ∈ l) : Conv n (Corner n (· ∈ l)) p := by
  let P : V → Bool := fun q => @decide (Corner n (· ∈ l) q) (Classical.propDecidable _)
  have hP : ∀ q, P q = true ↔ Corner n (· ∈ l) q := fun q => @decide_eq_true_iff _ (Classical.propDecidable _)
  rcases Conv.farkas n (l.filter P) p with h | ⟨a, b, h1, h2⟩
  · exact h.mono fun q hq => (hP q).mp (List.mem_filter.mp hq).2
  exfalso
  obtain ⟨w, hw, hmax⟩ := exists_min (fun q : V => -(dt n q a)) (l := l) (fun q => by rw [q] at hp; cases hp)
  let m := l.filter fun q => decide (dt n q a = dt n w a)
  obtain ⟨v, hv, hS⟩ := lex_most n n (Nat.le_refl n) m (by
    intro q
    have : w ∈ m := List.mem_filter.mpr ⟨hw, decide_eq_true rfl⟩
    rw [q] at this; cases this)
  obtain ⟨hv1, hv2⟩ := List.mem_filter.mp hv
  have hv2 := of_decide_eq_true hv2
  have vc : Corner n (· ∈ l) v := by
    refine ⟨hv1, fun hc => ?_⟩
    have g1 := hc.tight (a := a) (b := dt n v a) (fun q hq => by
      have := hmax q hq.1
      rw [hv2]; grind) rfl
    have g2 := hS _ (fun q hq => List.mem_filter.mpr ⟨hq.1.1, decide_eq_true (by rw [hq.2, hv2])⟩) g1
    exact conv_empty g2 fun q hq => hq.1.1.2 hq.2
  have := h1 v (List.mem_filter.mpr ⟨hv1, (hP v).mpr vc⟩)
  have := hmax p hp
  grind

/-- half spaces that have all of the points and leave nothing else than their mixtures -/
structure Sides (n : Nat) (l : List V) (F : List (V × Rat)) : Prop where
  all : ∀ f, f ∈ F → ∀ p, p ∈ l → dt n p f.1 ≤ f.2
  no : ∀ x, (∀ f, f ∈ F → dt n x f.1 ≤ f.2) → Conv n (· ∈ l) x

theorem small_step (n : Nat) (p d : V) : ∀ F : List (V × Rat), (∀ f, f ∈ F → dt n p f.1 ≤ f.2) → (∀ f, f ∈ F → dt n p f.1 = f.2 → dt n d f.1 = 0) →
    ∃ t : Rat, 0 < t ∧ ∀ f, f ∈ F → dt n (lin p t d) f.1 ≤ f.2 ∧ dt n (lin p (-t) d) f.1 ≤ f.2
  | [], _, _ => ⟨1, by decide, fun f hf => by cases hf⟩
  | f :: F, h1, h2 => by
    obtain ⟨t, ht, hF⟩ := small_step n p d F (fun g hg => h1 g (List.mem_cons_of_mem _ hg)) (fun g hg => h2 g (List.mem_cons_of_mem _ hg))
    have a1 := h1 f (List.mem_cons_self ..)
    -- smaller steps do as well
    have less : ∀ s, 0 < s → s ≤ t → ∀ g, g ∈ F → dt n (lin p s d) g.1 ≤ g.2 ∧ dt n (lin p (-s) d) g.1 ≤ g.2 := by
      intro s hs hst g hg
      have b0 := h1 g (List.mem_cons_of_mem _ hg)
      obtain ⟨b1, b2⟩ := hF g hg
      rw [dt_lin'] at b1 b2 ⊢
      rw [dt_lin']
      by_cases q : 0 ≤ dt n d g.1
      · have := Rat.mul_le_mul_of_nonneg_right hst q
        have := Rat.mul_nonneg (show 0 ≤ s by grind) q
        constructor <;> grind
      · have := Rat.mul_le_mul_of_nonneg_right hst (show 0 ≤ -(dt n d g.1) by grind)
        have := Rat.mul_nonneg (show 0 ≤ s by grind) (show 0 ≤ -(dt n d g.1) by grind)
        constructor <;> grind
    by_cases q : dt n p f.1 = f.2
    · refine ⟨t, ht, fun g hg => ?_⟩
      rcases List.mem_cons.mp hg with e | e
      · have := h2 f (List.mem_cons_self ..) q
        rw [e, dt_lin', dt_lin', this, q]; constructor <;> grind
      · exact hF g e
    · -- room: f.2 - p f > 0
      have room : 0 < f.2 - dt n p f.1 := by grind
      have big : 0 < 1 + dt n d f.1 * dt n d f.1 := by have := sq_nonneg (dt n d f.1); grind
      let u := (f.2 - dt n p f.1) / (1 + dt n d f.1 * dt n d f.1)
      have hu : 0 < u := div_pos room big
      have eu : u * (1 + dt n d f.1 * dt n d f.1) = f.2 - dt n p f.1 := Rat.div_mul_cancel (by grind)
      -- a step s of at most u keeps f
      have keep : ∀ s, 0 < s → s ≤ u → dt n (lin p s d) f.1 ≤ f.2 ∧ dt n (lin p (-s) d) f.1 ≤ f.2 := by
        intro s hs hsu
        rw [dt_lin', dt_lin']
        have c1 : dt n d f.1 ≤ 1 + dt n d f.1 * dt n d f.1 ∧ -(dt n d f.1) ≤ 1 + dt n d f.1 * dt n d f.1 := by
          have e1 := sq_nonneg (dt n d f.1 - 1)
          have e2 := sq_nonneg (dt n d f.1 + 1)
          have e3 := sq_nonneg (dt n d f.1)
          constructor <;> grind
        have c2 := Rat.mul_le_mul_of_nonneg_left c1.1 (show 0 ≤ s by grind)
        have c3 := Rat.mul_le_mul_of_nonneg_left c1.2 (show 0 ≤ s by grind)
        have c4 := Rat.mul_le_mul_of_nonneg_right hsu (show 0 ≤ 1 + dt n d f.1 * dt n d f.1 by grind)
        constructor <;> grind
      by_cases tu : t ≤ u
      · refine ⟨t, ht, fun g hg => ?_⟩
        rcases List.mem_cons.mp hg with e | e
        · rw [e]; exact keep t ht tu
        · exact hF g e
      · refine ⟨u, hu, fun g hg => ?_⟩
        rcases List.mem_cons.mp hg with e | e
        · rw [e]; exact keep u hu Rat.le_refl
        · exact less u hu (by grind) g e

theorem conv_tights {n : Nat} {x : V} : ∀ (F : List (V × Rat)) {S : V → Prop}, Conv n S x → (∀ f, f ∈ F → ∀ p, S p → dt n p f.1 ≤ f.2) → Conv n (fun q => S q ∧ ∀ f, f ∈ F → dt n x f.1 = f.2 → dt n q f.1 = f.2) x
  | [], S, h, _ => h.mono fun p hp => ⟨hp, fun f hf => by cases hf⟩
  | f :: F, S, h, ha => by
    have h1 := conv_tights F h fun g hg => ha g (List.mem_cons_of_mem _ hg)
    by_cases q : dt n x f.1 = f.2
    · have h2 := h1.tight (a := f.1) (b := f.2) (fun p hp => ha f (List.mem_cons_self ..) p hp.1) q
      refine h2.mono fun p hp => ⟨hp.1.1, fun g hg hx => ?_⟩
      rcases List.mem_cons.mp hg with e | e
      · rw [e]; exact hp.2
      · exact hp.1.2 g e hx
    · refine h1.mono fun p hp => ⟨hp.1, fun g hg hx => ?_⟩
      rcases List.mem_cons.mp hg with e | e
      · rw [e] at hx; exact absurd hx q
      · exact hp.2 g e hx

/-- **A point is a corner just if the sides on whose bounds it is are square to no direction together.** -/
theorem corner_iff {n : Nat} {l : List V} {F : List (V × Rat)} (H : Sides n l F) {p : V} (hp : p ∈ l) :
    Corner n (· ∈ l) p ↔ ∀ d, (∀ f, f ∈ F → dt n p f.1 = f.2 → dt n d f.1 = 0) → Nil n d := by
  constructor
  · rintro ⟨_, hc⟩ d hd
    apply Classical.byContradiction
    intro nd
    obtain ⟨t, ht, hF⟩ := small_step n p d F (fun f hf => H.all f hf p hp) hd
    have c1 := H.no (lin p t d) fun f hf => (hF f hf).1
    have c2 := H.no (lin p (-t) d) fun f hf => (hF f hf).2
    let P : V → Bool := fun q => @decide (¬ Eqn n q p) (Classical.propDecidable _)
    have hP : ∀ q, P q = true ↔ ¬ Eqn n q p := fun q => @decide_eq_true_iff _ (Classical.propDecidable _)
    rcases Conv.farkas n (l.filter P) p with h | ⟨a, b, h1, h2⟩
    · exact hc (h.mono fun q hq => ⟨(List.mem_filter.mp hq).1, (hP q).mp (List.mem_filter.mp hq).2⟩)
    · have le : ∀ q, q ∈ l → dt n q a ≤ dt n p a := by
        intro q hq
        by_cases e : Eqn n q p
        · rw [dt_congr e fun _ _ => rfl]; exact Rat.le_refl
        · have := h1 q (List.mem_filter.mpr ⟨hq, (hP q).mpr e⟩)
          grind
      have d1 := c1.dual le
      have d2 := c2.dual le
      rw [dt_lin'] at d1 d2
      have z : t * dt n d a = 0 := by grind
      have t1 := c1.tight (a := a) (b := dt n p a) le (by rw [dt_lin', z]; grind)
      have sm : ∀ q, (q ∈ l ∧ dt n q a = dt n p a) → Eqn n q p := by
        rintro q ⟨hq, e⟩
        apply Classical.byContradiction
        intro w
        have := h1 q (List.mem_filter.mpr ⟨hq, (hP q).mpr w⟩)
        grind
      refine nd fun i hi => ?_
      have := conv_ev hi t1 (b := p i) fun q hq => sm q hq i hi
      rw [lin_at] at this
      have : t * d i = 0 := by grind
      rcases Rat.mul_eq_zero.mp this with e | e
      · grind
      · exact e
  · intro h
    refine ⟨hp, fun hc => ?_⟩
    have h1 := conv_tights F hc fun f hf q hq => H.all f hf q hq.1
    refine conv_empty h1 ?_
    rintro q ⟨⟨hq, ne⟩, ht⟩
    refine ne fun i hi => ?_
    have := h (lin q (-1) p) (fun f hf e => by rw [dt_lin', ht f hf e, e]; grind) i hi
    rw [lin_at] at this
    grind

/-- a side: it has all, and points of n - 1 dimensions are on its bound -/
def Fac (n : Nat) (l : List V) (a : V) (b : Rat) : Prop := (∀ p, p ∈ l → dt n p a ≤ b) ∧ rkL (n + 1) ((tights n l (hb a b)).map hm) = n

theorem mem_tights' {n : Nat} {l : List V} {a p : V} {b : Rat} : p ∈ tights n l (hb a b) ↔ p ∈ l ∧ dt n p a = b := by
  rw [mem_tights, dt_hb]
  constructor
  · rintro ⟨h, e⟩; exact ⟨h, by grind⟩
  · rintro ⟨h, e⟩; exact ⟨h, by grind⟩

theorem orth_map {n : Nat} {l : List V} {d : V} : Orth (n + 1) (l.map hm) d ↔ ∀ p, p ∈ l → dt (n + 1) (hm p) d = 0 := by
  constructor
  · intro h p hp; exact h _ (List.mem_map_of_mem hp)
  · intro h r hr
    obtain ⟨p, hp, rfl⟩ := List.mem_map.mp hr
    exact h p hp

/-- the corners of some points, as points -/
structure Crn (n : Nat) (l m : List V) : Prop where
  sub : ∀ p, p ∈ m → p ∈ l
  all : ∀ p, Corner n (· ∈ l) p → p ∈ m

theorem Crn.conv {n : Nat} {l m : List V} (C : Crn n l m) {p : V} (hp : p ∈ l) : Conv n (· ∈ m) p :=
  (between_corners n l p hp).mono fun q hq => C.all q hq

theorem Crn.orth {n : Nat} {l m : List V} (C : Crn n l m) (d : V) : Orth (n + 1) (m.map hm) d ↔ Orth (n + 1) (l.map hm) d := by
  rw [orth_map, orth_map]
  constructor
  · intro h p hp
    exact Cone.orth (C.conv hp) (c := d) (by rintro _ ⟨q, hq, rfl⟩; exact h q hq)
  · intro h p hp; exact h p (C.sub p hp)

/-- the sides of the body between some points are those of the body between their corners -/
theorem Crn.fac {n : Nat} {l m : List V} (C : Crn n l m) (a : V) (b : Rat) : Fac n m a b ↔ Fac n l a b := by
  have v : (∀ p, p ∈ m → dt n p a ≤ b) ↔ (∀ p, p ∈ l → dt n p a ≤ b) := by
    constructor
    · intro h p hp; exact (C.conv hp).dual h
    · intro h p hp; exact h p (C.sub p hp)
  have o : (∀ p, p ∈ l → dt n p a ≤ b) → ∀ d, Orth (n + 1) ((tights n m (hb a b)).map hm) d ↔ Orth (n + 1) ((tights n l (hb a b)).map hm) d := by
    intro hv d
    rw [orth_map, orth_map]
    constructor
    · intro h p hp
      obtain ⟨h1, h2⟩ := mem_tights'.mp hp
      have := (C.conv h1).tight (fun q hq => hv q (C.sub q hq)) h2
      exact Cone.orth this (c := d) (by rintro _ ⟨q, hq, rfl⟩; exact h q (mem_tights'.mpr hq))
    · intro h p hp
      obtain ⟨h1, h2⟩ := mem_tights'.mp hp
      exact h p (mem_tights'.mpr ⟨C.sub p h1, h2⟩)
  unfold Fac
  constructor
  · rintro ⟨h1, h2⟩
    exact ⟨v.mp h1, by rw [← rkL_congr (o (v.mp h1))]; exact h2⟩
  · rintro ⟨h1, h2⟩
    exact ⟨v.mpr h1, by rw [rkL_congr (o h1)]; exact h2⟩

theorem rkL_mono {n : Nat} {l m : List V} (h : ∀ d, Orth n l d → Orth n m d) : rkL n m ≤ rkL n l := by
  unfold rkL rk
  refine filter_len_le (fun j hj => ?_) _
  rw [nf_true] at hj ⊢
  rintro ⟨d, h1, h2⟩
  exact hj ⟨d, h d h1, h2⟩

/-- differences against points with a 1 ahead -/
theorem rk_diffs (n : Nat) (p : V) (r : List V) : rkL (n + 1) ((p :: r).map hm) = rkL n (r.map fun q => lin q (-1) p) + 1 := by
  have key : ∀ c, Orth (n + 1) ((p :: r).map hm) c ↔ c 0 = -(dt n p (sh c)) ∧ Orth n (r.map fun q => lin q (-1) p) (sh c) := by
    intro c
    rw [orth_map]
    constructor
    · intro h
      have h1 := h p (List.mem_cons_self ..)
      rw [dt_hm] at h1
      refine ⟨by grind, fun s hs => ?_⟩
      obtain ⟨q, hq, rfl⟩ := List.mem_map.mp hs
      have h2 := h q (List.mem_cons_of_mem _ hq)
      rw [dt_hm] at h2
      rw [dt_lin']; grind
    · rintro ⟨h1, h2⟩ q hq
      rw [dt_hm]
      rcases List.mem_cons.mp hq with e | e
      · rw [e]; grind
      · have := h2 _ (List.mem_map_of_mem e)
        rw [dt_lin'] at this; grind
  unfold rkL rk
  rw [List.range_succ_eq_map]
  have z : nf (n + 1) (Orth (n + 1) ((p :: r).map hm)) 0 = true := by
    rw [nf_true]
    rintro ⟨c, h1, h2, h3⟩
    rw [key] at h1
    apply h2
    rw [h1.1, dt_zero n p (sh c) fun i hi => h3 (i + 1) (by omega) (by omega)]
    grind
  rw [List.filter_cons_of_pos z, List.length_cons]
  congr 1
  rw [List.filter_map, List.length_map]
  congr 1
  apply List.filter_congr
  intro j hj
  rw [List.mem_range] at hj
  rw [Bool.eq_iff_iff, Function.comp, nf_true, nf_true]
  have : Fr (n + 1) (Orth (n + 1) ((p :: r).map hm)) (j + 1) ↔ Fr n (Orth n (r.map fun q => lin q (-1) p)) j := by
    constructor
    · rintro ⟨c, h1, h2, h3⟩
      rw [key] at h1
      exact ⟨sh c, h1.2, h2, fun i a b => h3 (i + 1) (by omega) (by omega)⟩
    · rintro ⟨d, h1, h2, h3⟩
      refine ⟨hb d (dt n p d), (key _).mpr ⟨rfl, h1⟩, h2, fun i a b => ?_⟩
      cases i with
      | zero => omega
      | succ i => exact h3 i (by omega) (by omega)
  exact not_congr this

/-- n of the points on a side's bound that lie in n - 1 dimensions -/
theorem Fac.few {n : Nat} {l : List V} {a : V} {b : Rat} (h : Fac n l a b) : ∃ c : List V, c.Sublist l ∧ c.length = n ∧ (∀ p, p ∈ c → dt n p a = b) ∧ rkL (n + 1) (c.map hm) = n := by
  obtain ⟨s, h1, h2, h3⟩ := basis (n + 1) ((tights n l (hb a b)).map hm)
  obtain ⟨c, hc, rfl⟩ := List.sublist_map_iff.mp h1
  refine ⟨c, hc.trans List.filter_sublist, ?_, fun p hp => (mem_tights'.mp (hc.subset hp)).2, ?_⟩
  · rw [List.length_map] at h2; rw [h2, h.2]
  · rw [rkL_congr h3, h.2]

theorem Fac.of {n : Nat} {l : List V} {a : V} {b : Rat} (na : ¬ Nil n a) (hv : ∀ p, p ∈ l → dt n p a ≤ b) {c : List V} (sub : ∀ p, p ∈ c → p ∈ l) (ht : ∀ p, p ∈ c → dt n p a = b)
    (hr : rkL (n + 1) (c.map hm) = n) : Fac n l a b := by
  refine ⟨hv, ?_⟩
  have h1 : rkL (n + 1) (c.map hm) ≤ rkL (n + 1) ((tights n l (hb a b)).map hm) := rkL_mono fun d hd => by
    rw [orth_map] at hd ⊢
    exact fun p hp => hd p (mem_tights'.mpr ⟨sub p hp, ht p hp⟩)
  have h2 := rk_le (n + 1) (Orth (n + 1) ((tights n l (hb a b)).map hm))
  have h3 : rkL (n + 1) ((tights n l (hb a b)).map hm) ≠ n + 1 := by
    intro q
    have := rkL_full.mp q (hb a b) (orth_map.mpr fun p hp => by rw [dt_hb, (mem_tights'.mp hp).2]; grind)
    exact na fun i hi => this (i + 1) (by omega)
  unfold rkL at *
  omega
end AB

set_option linter.all false
set_option Elab.async false
namespace AB
open PhBase
theorem sorted_ext {α : Type} {R : α → α → Prop} (irr : ∀ a, ¬ R a a) (asy : ∀ a b, R a b → ¬ R b a) : ∀ {l m : List α}, l.Pairwise R → m.Pairwise R → (∀ x, x ∈ l ↔ x ∈ m) → l = m
  | [], [], _, _, _ => rfl
  | [], y :: m, _, _, h => absurd ((h y).mpr (List.mem_cons_self ..)) (by simp)
  | x :: l, [], _, _, h => absurd ((h x).mp (List.mem_cons_self ..)) (by simp)
  | x :: l, y :: m, hl, hm, h => by
    obtain ⟨hl1, hl2⟩ := List.pairwise_cons.mp hl
    obtain ⟨hm1, hm2⟩ := List.pairwise_cons.mp hm
    have e : x = y := by
      rcases List.mem_cons.mp ((h x).mp (List.mem_cons_self ..)) with q | q
      · exact q
      · rcases List.mem_cons.mp ((h y).mpr (List.mem_cons_self ..)) with w | w
        · exact w.symm
        · exact absurd (hl1 y w) (asy _ _ (hm1 x q))
    subst e
    rw [sorted_ext irr asy hl2 hm2 fun z => ?_]
    constructor
    · intro hz
      rcases List.mem_cons.mp ((h z).mp (List.mem_cons_of_mem _ hz)) with q | q
      · rw [q] at hz; exact absurd (hl1 _ hz) (irr _)
      · exact q
    · intro hz
      rcases List.mem_cons.mp ((h z).mpr (List.mem_cons_of_mem _ hz)) with q | q
      · rw [q] at hz; exact absurd (hm1 _ hz) (irr _)
      · exact q

/-! ### rows of numbers as directions -/
def tv (l : List Rat) : V := fun i => l.getD i 0
theorem tv_nil (i : Nat) : tv [] i = 0 := by simp [tv]
theorem tv_zero (x : Rat) (l : List Rat) : tv (x :: l) 0 = x := by simp [tv]
theorem tv_succ (x : Rat) (l : List Rat) (i : Nat) : tv (x :: l) (i + 1) = tv l i := by simp [tv]
theorem tv_big {l : List Rat} {i : Nat} (h : l.length ≤ i) : tv l i = 0 := by
  simp only [tv, List.getD_eq_getElem?_getD, List.getElem?_eq_none h, Option.getD_none]
theorem tv_map_range (n : Nat) (f : Nat → Rat) {i : Nat} (h : i < n) : tv ((List.range n).map f) i = f i := by
  simp only [tv, List.getD_eq_getElem?_getD, List.getElem?_map, List.getElem?_range h, Option.map_some, Option.getD_some]
theorem tv_ext {n : Nat} {a b : List Rat} (ha : a.length = n) (hb : b.length = n) (h : ∀ i, i < n → tv a i = tv b i) : a = b := by
  apply List.ext_getElem (ha.trans hb.symm)
  intro i h1 h2
  have := h i (ha ▸ h1)
  simpa [tv, List.getD_eq_getElem?_getD, h1, h2] using this

theorem dt_head (n : Nat) (a b : V) : dt (n + 1) a b = a 0 * b 0 + dt n (sh a) (sh b) := by
  induction n with
  | zero => simp only [dt]; grind
  | succ n ih =>
    rw [dt, ih]
    simp only [dt, sh]; grind

theorem dot_from : ∀ (n : Nat) (a b : List Rat) (s : Rat), a.length = n → b.length = n → ((a.zip b).map fun (x : Rat × Rat) => x.1 * x.2).foldl (fun s y => s + y) s = s + dt n (tv a) (tv b)
  | 0, [], [], s, _, _ => by simp [dt]; grind
  | n + 1, x :: a, y :: b, s, ha, hb => by
    rw [List.zip_cons_cons, List.map_cons, List.foldl_cons, dot_from n a b _ (by simpa using ha) (by simpa using hb), dt_head]
    have e1 : sh (tv (x :: a)) = tv a := funext fun i => tv_succ x a i
    have e2 : sh (tv (y :: b)) = tv b := funext fun i => tv_succ y b i
    rw [e1, e2, tv_zero, tv_zero]; grind

theorem dot_eq {n : Nat} {a b : List Rat} (ha : a.length = n) (hb : b.length = n) : dot a b = dt n (tv a) (tv b) := by
  unfold dot
  rw [dot_from n a b 0 ha hb]; grind

theorem minus_len {n : Nat} {a b : List Rat} (ha : a.length = n) (hb : b.length = n) : (minus a b).length = n := by
  simp [minus, ha, hb]
theorem tv_minus {a b : List Rat} (h : a.length = b.length) (i : Nat) : tv (minus a b) i = tv a i - tv b i := by
  by_cases q : i < a.length
  · have q' : i < b.length := h ▸ q
    simp [tv, minus, List.getD_eq_getElem?_getD, q, q', List.zip, List.getElem?_zipWith]
  · rw [tv_big (l := a) (by omega), tv_big (l := b) (by omega), tv_big (by simp [minus]; omega)]; grind
theorem scale_len (r : Rat) (a : List Rat) : (scale r a).length = a.length := by simp [scale]
theorem tv_scale (r : Rat) (a : List Rat) (i : Nat) : tv (scale r a) i = r * tv a i := by
  by_cases q : i < a.length
  · simp [tv, scale, List.getD_eq_getElem?_getD, q]
  · rw [tv_big (l := a) (by omega), tv_big (by simp [scale]; omega)]; grind

theorem pick_none {c : Nat} : ∀ {l : List Pt}, pick c l = none → ∀ r, r ∈ l → tv r c = 0
  | [], _, r, hr => by cases hr
  | x :: l, h, r, hr => by
    unfold pick at h
    by_cases q : x.getD c 0 ≠ 0
    · rw [if_pos q] at h; cases h
    · rw [if_neg q, Option.map_eq_none_iff] at h
      rcases List.mem_cons.mp hr with e | e
      · rw [e]; exact Classical.not_not.mp q
      · exact pick_none h r e
theorem pick_some {c : Nat} : ∀ {l : List Pt} {r : Pt} {m : List Pt}, pick c l = some (r, m) → tv r c ≠ 0 ∧ ∀ x, x ∈ l ↔ x = r ∨ x ∈ m
  | x :: l, r, m, h => by
    unfold pick at h
    by_cases q : x.getD c 0 ≠ 0
    · rw [if_pos q] at h
      cases h
      exact ⟨q, fun y => List.mem_cons⟩
    · rw [if_neg q] at h
      obtain ⟨⟨r', m'⟩, h1, h2⟩ := Option.map_eq_some_iff.mp h
      cases h2
      obtain ⟨g1, g2⟩ := pick_some h1
      refine ⟨g1, fun y => ?_⟩
      rw [List.mem_cons, List.mem_cons, g2 y]
      grind

/-! ### rows brought to steps -/
structure Steps (N c : Nat) (ps : List (Nat × Pt)) : Prop where
  len : ∀ x, x ∈ ps → x.2.length = N
  lt : ∀ x, x ∈ ps → x.1 < c
  one : ∀ x, x ∈ ps → tv x.2 x.1 = 1
  zer : ∀ x, x ∈ ps → ∀ i, i < x.1 → tv x.2 i = 0
  two : ps.Pairwise fun x y => x.1 < y.1 ∧ tv x.2 y.1 = 0 ∧ tv y.2 x.1 = 0

theorem reduced_ok (N : Nat) : ∀ (k c : Nat) (ps : List (Nat × Pt)) (rest : List Pt), k + c = N → Steps N c ps → (∀ r, r ∈ rest → r.length = N ∧ ∀ i, i < c → tv r i = 0) →
    ∃ qs : List (Nat × Pt), reduced k c (ps.map (·.2)) rest = qs.map (·.2) ∧ Steps N N qs ∧ ∀ d, Orth N (qs.map fun x => tv x.2) d ↔ (Orth N (ps.map fun x => tv x.2) d ∧ Orth N (rest.map tv) d)
  | 0, c, ps, rest, hk, S, hr => by
    refine ⟨ps, rfl, by rw [← (show c = N by omega)]; rw [← (show c = N by omega)] at S; exact S, fun d => ⟨fun h => ⟨h, ?_⟩, fun h => h.1⟩⟩
    intro r hm
    obtain ⟨x, hx, rfl⟩ := List.mem_map.mp hm
    exact dt_zero' N _ d fun i hi => (hr x hx).2 i (by omega)
  | k + 1, c, ps, rest, hk, S, hr => by
    unfold reduced
    cases e : pick c rest with
    | none =>
      have z := pick_none e
      obtain ⟨qs, h1, h2, h3⟩ := reduced_ok N k (c + 1) ps rest (by omega) ⟨S.len, fun x hx => by have := S.lt x hx; omega, S.one, S.zer, S.two⟩ (fun r hm => ⟨(hr r hm).1, fun i hi => by
        by_cases q : i = c
        · rw [q]; exact z r hm
        · exact (hr r hm).2 i (by omega)⟩)
      exact ⟨qs, h1, h2, h3⟩
    | some rm =>
      obtain ⟨r, m⟩ := rm
      obtain ⟨rc, mem⟩ := pick_some e
      have hrr := hr r ((mem r).mpr (.inl rfl))
      have hmm : ∀ x, x ∈ m → _ := fun x hx => hr x ((mem x).mpr (.inr hx))
      let p := scale (1 / r.getD c 0) r
      have hp : p.length = N := by show (scale _ r).length = N; rw [scale_len]; exact hrr.1
      have rc' : r.getD c 0 ≠ 0 := rc
      have pc : tv p c = 1 := by
        show tv (scale _ r) c = 1
        rw [tv_scale]
        show 1 / r.getD c 0 * r.getD c 0 = 1
        exact Rat.div_mul_cancel rc'
      have pz : ∀ i, i < c → tv p i = 0 := fun i hi => by
        show tv (scale _ r) i = 0
        rw [tv_scale, hrr.2 i hi]; grind
      let g : Pt → Pt := fun d => minus d (scale (d.getD c 0) p)
      have gl : ∀ d : Pt, d.length = N → (g d).length = N := fun d hd => minus_len hd (by rw [scale_len]; exact hp)
      have gt : ∀ (d : Pt), d.length = N → ∀ i, tv (g d) i = tv d i - tv d c * tv p i := fun d hd i => by
        show tv (minus d (scale (d.getD c 0) p)) i = _
        rw [tv_minus (by rw [scale_len, hd, hp]), tv_scale]; rfl
      let qs' : List (Nat × Pt) := ps.map (fun x => (x.1, g x.2)) ++ [(c, p)]
      have eq' : (ps.map (·.2)).map g ++ [p] = qs'.map (·.2) := by
        simp [qs', List.map_map, Function.comp_def]
      have S' : Steps N (c + 1) qs' := by
        constructor
        · intro x hx
          rcases List.mem_append.mp hx with q | q
          · obtain ⟨y, hy, rfl⟩ := List.mem_map.mp q
            exact gl _ (S.len y hy)
          · rw [List.mem_singleton.mp q]; exact hp
        · intro x hx
          rcases List.mem_append.mp hx with q | q
          · obtain ⟨y, hy, rfl⟩ := List.mem_map.mp q
            have := S.lt y hy
            show y.1 < c + 1
            omega
          · rw [List.mem_singleton.mp q]; exact Nat.lt_succ_self c
        · intro x hx
          rcases List.mem_append.mp hx with q | q
          · obtain ⟨y, hy, rfl⟩ := List.mem_map.mp q
            show tv (g y.2) y.1 = 1
            rw [gt _ (S.len y hy), S.one y hy, pz _ (S.lt y hy)]; grind
          · rw [List.mem_singleton.mp q]; exact pc
        · intro x hx i hi
          rcases List.mem_append.mp hx with q | q
          · obtain ⟨y, hy, rfl⟩ := List.mem_map.mp q
            have hi : i < y.1 := hi
            show tv (g y.2) i = 0
            rw [gt _ (S.len y hy), S.zer y hy i hi, pz i (by have := S.lt y hy; omega)]; grind
          · rw [List.mem_singleton.mp q] at hi ⊢; exact pz i hi
        · refine List.pairwise_append.mpr ⟨?_, List.pairwise_singleton _ _, ?_⟩
          · rw [List.pairwise_map]
            refine S.two.imp_of_mem fun {x y} hx hy h => ⟨h.1, ?_, ?_⟩
            · show tv (g x.2) y.1 = 0
              rw [gt _ (S.len x hx), h.2.1, pz _ (S.lt y hy)]; grind
            · show tv (g y.2) x.1 = 0
              rw [gt _ (S.len y hy), h.2.2, pz _ (S.lt x hx)]; grind
          · intro x hx y hy
            obtain ⟨z, hz, rfl⟩ := List.mem_map.mp hx
            rw [List.mem_singleton.mp hy]
            refine ⟨S.lt z hz, ?_, pz _ (S.lt z hz)⟩
            show tv (g z.2) c = 0
            rw [gt _ (S.len z hz), pc]; grind
      obtain ⟨qs, h1, h2, h3⟩ := reduced_ok N k (c + 1) qs' (m.map g) (by omega) S' (fun x hx => by
        obtain ⟨y, hy, rfl⟩ := List.mem_map.mp hx
        refine ⟨gl _ (hmm y hy).1, fun i hi => ?_⟩
        rw [gt _ (hmm y hy).1]
        by_cases q : i = c
        · rw [q, pc]; grind
        · rw [(hmm y hy).2 i (by omega), pz i (by omega)]; grind)
      refine ⟨qs, ?_, h2, fun d => ?_⟩
      · rw [← h1, ← eq']
      · rw [h3]
        have gd : ∀ x : Pt, x.length = N → dt N (tv (g x)) d = dt N (tv x) d - tv x c * dt N (tv p) d := fun x hx => by
          have : dt N (tv (g x)) d = dt N (lin (tv x) (-(tv x c)) (tv p)) d := dt_congr (fun i _ => by rw [gt x hx, lin_at]; grind) fun _ _ => rfl
          rw [this, dt_lin']; grind
        have pd : dt N (tv p) d = 1 / tv r c * dt N (tv r) d := by
          have : dt N (tv p) d = dt N (lin zv (1 / tv r c) (tv r)) d := dt_congr (fun i _ => by
            show tv (scale _ r) i = _
            rw [tv_scale, lin_at]; show 1 / tv r c * tv r i = (0 : Rat) + 1 / tv r c * tv r i; grind) fun _ _ => rfl
          rw [this, dt_lin', dt_zero' N zv d fun _ _ => rfl]; grind
        have pr : dt N (tv p) d = 0 ↔ dt N (tv r) d = 0 := by
          rw [pd]
          constructor
          · intro h
            rcases Rat.mul_eq_zero.mp h with q | q
            · exfalso
              have : 1 / tv r c * tv r c = 1 := Rat.div_mul_cancel rc
              rw [q] at this; grind
            · exact q
          · intro h; rw [h]; grind
        constructor
        · rintro ⟨a1, a2⟩
          have hp0 : dt N (tv p) d = 0 := a1 _ (List.mem_map.mpr ⟨(c, p), List.mem_append_right _ (List.mem_singleton.mpr rfl), rfl⟩)
          refine ⟨fun v hv => ?_, fun v hv => ?_⟩
          · obtain ⟨x, hx, rfl⟩ := List.mem_map.mp hv
            have := a1 (tv (g x.2)) (List.mem_map.mpr ⟨(x.1, g x.2), List.mem_append_left _ (List.mem_map_of_mem hx), rfl⟩)
            rw [gd _ (S.len x hx), hp0] at this; grind
          · obtain ⟨x, hx, rfl⟩ := List.mem_map.mp hv
            rcases (mem x).mp hx with q | q
            · rw [q]; exact pr.mp hp0
            · have := a2 (tv (g x)) (List.mem_map.mpr ⟨g x, List.mem_map_of_mem q, rfl⟩)
              rw [gd _ (hmm x q).1, hp0] at this; grind
        · rintro ⟨a1, a2⟩
          have hp0 : dt N (tv p) d = 0 := pr.mpr (a2 _ (List.mem_map_of_mem ((mem r).mpr (.inl rfl))))
          refine ⟨fun v hv => ?_, fun v hv => ?_⟩
          · obtain ⟨x, hx, rfl⟩ := List.mem_map.mp hv
            rcases List.mem_append.mp hx with q | q
            · obtain ⟨y, hy, rfl⟩ := List.mem_map.mp q
              show dt N (tv (g y.2)) d = 0
              rw [gd _ (S.len y hy), hp0, a1 _ (List.mem_map_of_mem (f := fun x : Nat × Pt => tv x.2) hy)]; grind
            · rw [List.mem_singleton.mp q]; exact hp0
          · obtain ⟨x, hx, rfl⟩ := List.mem_map.mp hv
            obtain ⟨y, hy, rfl⟩ := List.mem_map.mp hx
            rw [gd _ (hmm y hy).1, hp0, a2 _ (List.mem_map_of_mem ((mem y).mpr (.inr hy)))]; grind

theorem reduce_ok {N : Nat} {l : List Pt} (h : ∀ r, r ∈ l → r.length = N) : ∃ qs : List (Nat × Pt), reduce N l = qs.map (·.2) ∧ Steps N N qs ∧ ∀ d, Orth N (qs.map fun x => tv x.2) d ↔ Orth N (l.map tv) d := by
  obtain ⟨qs, h1, h2, h3⟩ := reduced_ok N N 0 [] l (by omega) ⟨by simp, by simp, by simp, by simp, .nil⟩ (fun r hr => ⟨h r hr, fun i hi => by omega⟩)
  exact ⟨qs, h1, h2, fun d => by rw [h3]; exact ⟨fun q => q.2, fun q => ⟨(by intro r hr; cases hr), q⟩⟩⟩

theorem dt_single {N : Nat} {a d : V} {j : Nat} (hj : j < N) (h : ∀ i, i < N → i ≠ j → a i * d i = 0) : dt N a d = a j * d j := by
  induction N with
  | zero => omega
  | succ n ih =>
    simp only [dt]
    by_cases e : j = n
    · subst e
      have : dt j a d = 0 := by
        clear ih
        have H : ∀ k, k ≤ j → dt k a d = 0 := by
          intro k
          induction k with
          | zero => intro _; rfl
          | succ k ihk => intro hk; simp only [dt]; rw [ihk (by omega), h k (by omega) (by omega)]; grind
        exact H j (Nat.le_refl j)
      rw [this]; grind
    · rw [ih (by omega) (fun i hi ne => h i (by omega) ne), h n (by omega) (by omega)]; grind

theorem dt_double {N : Nat} {a d : V} {j k : Nat} (hj : j < N) (hk : k < N) (ne : j ≠ k) (h : ∀ i, i < N → i ≠ j → i ≠ k → a i * d i = 0) : dt N a d = a j * d j + a k * d k := by
  -- take the place k out
  let d' : V := fun i => if i = k then 0 else d i
  have e : dt N a d = dt N a (lin d' (d k) (ev k)) := dt_congr (fun _ _ => rfl) fun i hi => by
    simp only [lin_at, d', ev]
    by_cases q : i = k
    · rw [if_pos q, if_pos q, q]; grind
    · rw [if_neg q, if_neg q]; grind
  rw [e, dt_lin, dt_ev N a k hk, dt_single hj (fun i hi ni => ?_)]
  · simp only [d']; rw [if_neg ne]; grind
  · simp only [d']
    by_cases q : i = k
    · rw [if_pos q]; grind
    · rw [if_neg q]; exact h i hi ni q

/-- the direction of a place without a step -/
def kv (ps : List (Nat × Pt)) (j : Nat) : V := fun i => if i = j then 1 else match ps.find? (fun x => x.1 == i) with
  | some x => -(tv x.2 j)
  | none => 0

theorem steps_find {N : Nat} {ps : List (Nat × Pt)} (S : Steps N N ps) {x : Nat × Pt} (hx : x ∈ ps) : ps.find? (fun y => y.1 == x.1) = some x := by
  have two := S.two
  clear S
  induction ps with
  | nil => cases hx
  | cons y ps ih =>
    obtain ⟨h1, h2⟩ := List.pairwise_cons.mp two
    rw [List.find?_cons]
    rcases List.mem_cons.mp hx with e | e
    · subst e; simp
    · have := (h1 x e).1
      have : (y.1 == x.1) = false := by simp; omega
      rw [this]
      exact ih e h2

theorem steps_apart {N : Nat} {ps : List (Nat × Pt)} (S : Steps N N ps) {x y : Nat × Pt} (hx : x ∈ ps) (hy : y ∈ ps) (ne : x.1 ≠ y.1) : tv x.2 y.1 = 0 := by
  have := List.Pairwise.forall_of_forall_of_flip (R := fun x y : Nat × Pt => x.1 ≠ y.1 → tv x.2 y.1 = 0) (l := ps) (fun z _ q => absurd rfl q) (S.two.imp fun h _ => h.2.1) (S.two.imp fun h _ => h.2.2)
  exact this hx hy ne

theorem kv_orth {N : Nat} {ps : List (Nat × Pt)} (S : Steps N N ps) {j : Nat} (hj : j < N) (nj : ∀ x, x ∈ ps → x.1 ≠ j) : Orth N (ps.map fun x => tv x.2) (kv ps j) := by
  intro r hr
  obtain ⟨x, hx, rfl⟩ := List.mem_map.mp hr
  rw [dt_double (S.lt x hx) hj (nj x hx)]
  · have e1 : kv ps j x.1 = -(tv x.2 j) := by
      unfold kv
      rw [if_neg (nj x hx), steps_find S hx]
    have e2 : kv ps j j = 1 := by unfold kv; rw [if_pos rfl]
    rw [e1, e2, S.one x hx]; grind
  · intro i hi n1 n2
    unfold kv
    rw [if_neg n2]
    cases q : ps.find? (fun y => y.1 == i) with
    | none => show tv x.2 i * 0 = 0; grind
    | some y =>
      have hy := List.mem_of_find?_eq_some q
      have hyi : y.1 = i := by have := List.find?_some q; simpa using this
      show tv x.2 i * _ = 0
      rw [← hyi, steps_apart S hx hy (by rw [hyi]; exact fun e => n1 e.symm)]; grind

theorem kv_none {ps : List (Nat × Pt)} {i j : Nat} (ij : i ≠ j) (h : ∀ x, x ∈ ps → x.1 ≠ i) : kv ps j i = 0 := by
  unfold kv
  rw [if_neg ij]
  have : ps.find? (fun y => y.1 == i) = none := List.find?_eq_none.mpr fun x hx => by simp; exact h x hx
  rw [this]

theorem steps_Fr {N : Nat} {ps : List (Nat × Pt)} (S : Steps N N ps) {j : Nat} (hj : j < N) : Fr N (Orth N (ps.map fun x => tv x.2)) j ↔ ∀ x, x ∈ ps → x.1 ≠ j := by
  constructor
  · rintro ⟨d, h1, h2, h3⟩ x hx e
    have := h1 _ (List.mem_map_of_mem (f := fun x : Nat × Pt => tv x.2) hx)
    rw [dt_single (j := j) hj] at this
    · have o := S.one x hx
      rw [e] at o
      rw [o] at this
      apply h2; grind
    · intro i hi ne
      by_cases q : i < j
      · rw [S.zer x hx i (by omega)]; grind
      · rw [h3 i (by omega) hi]; grind
  · intro h
    refine ⟨kv ps j, kv_orth S hj h, by unfold kv; rw [if_pos rfl]; decide, fun i h1 h2 => ?_⟩
    unfold kv
    rw [if_neg (by omega)]
    cases q : ps.find? (fun y => y.1 == i) with
    | none => rfl
    | some y =>
      have hy := List.mem_of_find?_eq_some q
      have hyi : y.1 = i := by have := List.find?_some q; simpa using this
      show -(tv y.2 j) = 0
      rw [S.zer y hy j (by omega)]; decide

theorem lt_irr' : ∀ a : Nat, ¬ a < a := fun a => Nat.lt_irrefl a
theorem range_sorted (n : Nat) : (List.range n).Pairwise (· < ·) := List.pairwise_lt_range

theorem steps_pivots {N : Nat} {ps : List (Nat × Pt)} (S : Steps N N ps) : (List.range N).filter (fun j => (ps.map (·.1)).contains j) = ps.map (·.1) := by
  refine sorted_ext (R := (· < ·)) lt_irr' (fun a b h => by omega) ((range_sorted N).filter _) (by rw [List.pairwise_map]; exact S.two.imp fun h => h.1) fun j => ?_
  rw [List.mem_filter, List.mem_range, List.contains_iff_mem]
  constructor
  · exact fun h => h.2
  · intro h
    obtain ⟨x, hx, rfl⟩ := List.mem_map.mp h
    exact ⟨S.lt x hx, List.mem_map_of_mem hx⟩

theorem steps_rk {N : Nat} {ps : List (Nat × Pt)} (S : Steps N N ps) : rkL N (ps.map fun x => tv x.2) = ps.length := by
  have e := congrArg List.length (steps_pivots S)
  rw [List.length_map] at e
  rw [← e]
  unfold rkL rk
  congr 1
  apply List.filter_congr
  intro j hj
  rw [List.mem_range] at hj
  rw [Bool.eq_iff_iff, nf_true, steps_Fr S hj, List.contains_iff_mem, List.mem_map]
  grind

/-- the specification's rank -/
theorem rank_eq {n : Nat} {l : List Pt} (h : ∀ r, r ∈ l → r.length = n) : rank n l = rkL n (l.map tv) := by
  obtain ⟨qs, h1, h2, h3⟩ := reduce_ok h
  unfold rank
  rw [h1, List.length_map, ← steps_rk h2]
  exact rkL_congr h3

theorem steps_lead {N : Nat} {ps : List (Nat × Pt)} (S : Steps N N ps) : (ps.map (·.2)).map (fun (x : Pt) => x.findIdx fun (y : Rat) => decide (y ≠ 0)) = ps.map (·.1) := by
  rw [List.map_map]
  apply List.map_congr_left
  intro x hx
  show List.findIdx _ x.2 = x.1
  have hl : x.1 < x.2.length := by rw [S.len x hx]; exact S.lt x hx
  have one := S.one x hx
  rw [List.findIdx_eq hl]
  constructor
  · apply decide_eq_true
    intro q
    simp [tv, List.getD_eq_getElem?_getD, hl] at one
    rw [one] at q
    exact absurd q (by decide)
  · intro i hi
    apply decide_eq_false
    rw [Classical.not_not]
    have := S.zer x hx i hi
    simpa [tv, List.getD_eq_getElem?_getD, Nat.lt_trans hi hl] using this

theorem idx_find (ps : List (Nat × Pt)) (i j : Nat) : (match (ps.map (·.1)).idxOf? i with
    | some k => -(((ps.map (·.2)).getD k []).getD j 0)
    | none => 0) = match ps.find? (fun x => x.1 == i) with
    | some x => -(tv x.2 j)
    | none => 0 := by
  have H : ∀ ps : List (Nat × Pt), (∃ k x, (ps.map (·.1)).idxOf? i = some k ∧ (ps.map (·.2)).getD k [] = x.2 ∧ ps.find? (fun x => x.1 == i) = some x) ∨ ((ps.map (·.1)).idxOf? i = none ∧ ps.find? (fun x => x.1 == i) = none) := by
    intro ps
    induction ps with
    | nil => exact .inr ⟨by simp, rfl⟩
    | cons y ps ih =>
      rw [List.map_cons, List.idxOf?_cons, List.find?_cons]
      by_cases q : y.1 == i
      · rw [q]; exact .inl ⟨0, y, rfl, rfl, rfl⟩
      · have q' : (y.1 == i) = false := by simpa using q
        rw [q']
        rcases ih with ⟨k, x, h1, h2, h3⟩ | ⟨h1, h2⟩
        · exact .inl ⟨k + 1, x, by rw [h1]; rfl, by simpa using h2, h3⟩
        · exact .inr ⟨by rw [h1]; rfl, h2⟩
  rcases H ps with ⟨k, x, h1, h2, h3⟩ | ⟨h1, h2⟩
  · rw [h1, h3]
    show -(((ps.map (·.2)).getD k []).getD j 0) = _
    rw [h2]; rfl
  · rw [h1, h2]

/-- the specification's kernel: as many rows as dimensions lack; if one: it is square to all and not 0 -/
theorem kernel_ok {n : Nat} {l : List Pt} (h : ∀ r, r ∈ l → r.length = n) : (kernel n l).length + rkL n (l.map tv) = n ∧ ∀ a, a ∈ kernel n l → a.length = n ∧ Orth n (l.map tv) (tv a) ∧ ¬ Nil n (tv a) := by
  obtain ⟨qs, h1, h2, h3⟩ := reduce_ok h
  have ek : kernel n l = ((List.range n).filter fun (j : Nat) => !(qs.map (·.1)).contains j).map fun (j : Nat) => (List.range n).map (kv qs j) := by
    unfold kernel
    rw [h1]
    dsimp only
    rw [steps_lead h2]
    apply List.map_congr_left
    intro j _
    apply List.map_congr_left
    intro i _
    unfold kv
    by_cases q : i = j
    · rw [if_pos q, if_pos q]
    · rw [if_neg q, if_neg q]; exact idx_find qs i j
  constructor
  · rw [ek, List.length_map]
    have e1 := congrArg List.length (steps_pivots h2)
    have e2 : rkL n (l.map tv) = qs.length := by rw [← steps_rk h2]; exact (rkL_congr h3).symm
    rw [List.length_map] at e1
    have : ∀ (p : Nat → Bool) (l : List Nat), (l.filter p).length + (l.filter fun j => !p j).length = l.length := by
      intro p l
      induction l with
      | nil => rfl
      | cons x l ih =>
        cases q : p x
        · rw [List.filter_cons_of_neg (by rw [q]; decide), List.filter_cons_of_pos (by rw [q]; rfl), List.length_cons, List.length_cons]; omega
        · rw [List.filter_cons_of_pos q, List.filter_cons_of_neg (by rw [q]; decide), List.length_cons, List.length_cons]; omega
    have := this (fun j => (qs.map (·.1)).contains j) (List.range n)
    rw [List.length_range] at this
    omega
  · intro a ha
    rw [ek] at ha
    obtain ⟨j, hj, rfl⟩ := List.mem_map.mp ha
    obtain ⟨j1, j2⟩ := List.mem_filter.mp hj
    rw [List.mem_range] at j1
    have nj : ∀ x, x ∈ qs → x.1 ≠ j := by
      intro x hx e
      have : (qs.map (·.1)).contains j = true := List.contains_iff_mem.mpr (e ▸ List.mem_map_of_mem hx)
      rw [this] at j2; cases j2
    have et : ∀ i, i < n → tv ((List.range n).map (kv qs j)) i = kv qs j i := fun i hi => tv_map_range n _ hi
    refine ⟨by simp, ?_, ?_⟩
    · rw [← h3]
      intro r hr
      rw [dt_congr (fun _ _ => rfl) et]
      exact kv_orth h2 j1 nj r hr
    · intro q
      have := q j j1
      rw [et j j1] at this
      unfold kv at this
      rw [if_pos rfl] at this
      exact absurd this (by decide)

/-- y's first n numbers and behind them -1 -/
def em (n : Nat) (y : V) : V := fun i => if i = n then -1 else y i
theorem dt_em (n : Nat) (r y : V) : dt (n + 1) r (em n y) = dt n r y - r n := by
  simp only [dt]
  have : dt n r (em n y) = dt n r y := dt_congr (fun _ _ => rfl) fun i hi => by unfold em; rw [if_neg (by omega)]
  rw [this]
  show _ + r n * (if n = n then -1 else y n) = _
  rw [if_pos rfl]; grind

theorem solve_sound {n : Nat} {l : List Pt} (h : ∀ r, r ∈ l → r.length = n + 1) {w : Pt} (e : solve n l = some w) : w.length = n ∧ ∀ r, r ∈ l → dt n (tv r) (tv w) = tv r n := by
  obtain ⟨qs, h1, h2, h3⟩ := reduce_ok h
  unfold solve at e
  rw [h1] at e
  dsimp only at e
  split at e
  case isFalse => cases e
  case isTrue q =>
  cases e
  obtain ⟨q1, q2⟩ := q
  rw [List.length_map] at q1
  rw [List.all_eq_true] at q2
  have lt : ∀ x, x ∈ qs → x.1 < n := by
    intro x hx
    have := q2 x.2 (List.mem_map_of_mem hx)
    rw [List.any_eq_true] at this
    obtain ⟨y, hy, ny⟩ := this
    have ny := of_decide_eq_true ny
    obtain ⟨i, hi, e⟩ := List.mem_iff_getElem.mp hy
    rw [List.length_take] at hi
    apply Classical.byContradiction
    intro w
    have z := h2.zer x hx i (by omega)
    rw [List.getElem_take] at e
    apply ny
    rw [← e]
    simpa [tv, List.getD_eq_getElem?_getD, (show i < x.2.length by omega)] using z
  have piv : qs.map (·.1) = List.range n := by
    have s1 : (List.range n).filter (fun j => (qs.map (·.1)).contains j) = qs.map (·.1) := by
      refine sorted_ext (R := (· < ·)) lt_irr' (fun a b h => by omega) ((range_sorted n).filter _) (by rw [List.pairwise_map]; exact h2.two.imp fun h => h.1) fun j => ?_
      rw [List.mem_filter, List.mem_range, List.contains_iff_mem]
      constructor
      · exact fun h => h.2
      · intro h
        obtain ⟨x, hx, rfl⟩ := List.mem_map.mp h
        exact ⟨lt x hx, List.mem_map_of_mem hx⟩
    have s2 := congrArg List.length s1
    rw [List.length_map, q1] at s2
    rw [← s1]
    apply List.filter_eq_self.mpr
    have := List.length_filter_eq_length_iff (p := fun j => (qs.map (·.1)).contains j) (l := List.range n)
    rw [List.length_range] at this
    exact this.mp s2
  refine ⟨by simp [q1], ?_⟩
  have pk : ∀ k (hk : k < qs.length), (qs[k]).1 = k := by
    intro k hk
    have e1 : (qs.map (·.1))[k]? = (List.range n)[k]? := by rw [piv]
    rw [List.getElem?_map, List.getElem?_range (by omega), List.getElem?_eq_getElem hk] at e1
    exact Option.some.inj e1
  have tw : ∀ k (hk : k < qs.length), tv ((qs.map (·.2)).map fun (x : Pt) => x.getD n 0) k = tv (qs[k]).2 n := by
    intro k hk
    simp [tv, List.getD_eq_getElem?_getD, hk]
  have o : Orth (n + 1) (qs.map fun x => tv x.2) (em n (tv ((qs.map (·.2)).map fun (x : Pt) => x.getD n 0))) := by
    intro r hr
    obtain ⟨x, hx, rfl⟩ := List.mem_map.mp hr
    obtain ⟨k, hk, ek⟩ := List.mem_iff_getElem.mp hx
    have kn : k < n := by omega
    rw [dt_em, dt_single (j := k) kn]
    · rw [tw k hk, ek]
      have := h2.one x hx
      rw [← ek, pk k hk, ek] at this
      rw [this]; grind
    · intro i hi ne
      have hi' : i < qs.length := by omega
      have := steps_apart h2 hx (List.getElem_mem hi') (by rw [pk i hi', ← ek, pk k hk]; exact fun e => ne e.symm)
      rw [pk i hi'] at this
      rw [this]; grind
  have := (h3 _).mp o
  intro r hr
  have := this (tv r) (List.mem_map_of_mem hr)
  rw [dt_em] at this
  grind

theorem solve_whole {n : Nat} {l : List Pt} (h : ∀ r, r ∈ l → r.length = n + 1) {y : V} (hy : ∀ r, r ∈ l → dt n (tv r) y = tv r n)
    (un : ∀ z, (∀ r, r ∈ l → dt n (tv r) z = tv r n) → Eqn n z y) : ∃ w, solve n l = some w ∧ Eqn n (tv w) y := by
  obtain ⟨qs, h1, h2, h3⟩ := reduce_ok h
  have oy : Orth (n + 1) (qs.map fun x => tv x.2) (em n y) := by
    rw [h3]
    intro r hr
    obtain ⟨x, hx, rfl⟩ := List.mem_map.mp hr
    rw [dt_em, hy x hx]; grind
  have lt : ∀ x, x ∈ qs → x.1 < n := by
    intro x hx
    apply Classical.byContradiction
    intro q
    have xn : x.1 = n := by have := h2.lt x hx; omega
    have := oy _ (List.mem_map_of_mem (f := fun x : Nat × Pt => tv x.2) hx)
    rw [dt_em, dt_zero' n _ _ (fun i hi => h2.zer x hx i (by omega))] at this
    have o := h2.one x hx
    rw [xn] at o
    rw [o] at this
    grind
  have all : ∀ j, j < n → ∃ x, x ∈ qs ∧ x.1 = j := by
    intro j hj
    apply Classical.byContradiction
    intro q
    have nj : ∀ x, x ∈ qs → x.1 ≠ j := fun x hx e => q ⟨x, hx, e⟩
    have ko := kv_orth h2 (show j < n + 1 by omega) nj
    have kn : kv qs j n = 0 := kv_none (by omega) fun x hx => by have := lt x hx; omega
    have := un (lin y 1 (kv qs j)) (fun r hr => by
      have a1 := (h3 _).mp ko (tv r) (List.mem_map_of_mem hr)
      simp only [dt] at a1
      rw [kn] at a1
      rw [dt_lin, hy r hr]; grind) j hj
    rw [lin_at] at this
    have k1 : kv qs j j = 1 := by unfold kv; rw [if_pos rfl]
    rw [k1] at this
    grind
  have piv : qs.map (·.1) = List.range n := by
    refine sorted_ext (R := (· < ·)) lt_irr' (fun a b h => by omega) (by rw [List.pairwise_map]; exact h2.two.imp fun h => h.1) (range_sorted n) fun j => ?_
    rw [List.mem_range, List.mem_map]
    constructor
    · rintro ⟨x, hx, rfl⟩; exact lt x hx
    · exact all j
  have ln : qs.length = n := by have := congrArg List.length piv; simpa using this
  have ex : ∃ w, solve n l = some w := by
    unfold solve
    rw [h1]
    dsimp only
    refine ⟨_, if_pos ⟨by rw [List.length_map, ln], ?_⟩⟩
    rw [List.all_eq_true]
    intro r hr
    obtain ⟨x, hx, rfl⟩ := List.mem_map.mp hr
    have xl : x.1 < x.2.length := by rw [h2.len x hx]; exact h2.lt x hx
    have one := h2.one x hx
    rw [List.any_eq_true]
    refine ⟨x.2[x.1], ?_, ?_⟩
    · rw [List.mem_iff_getElem]
      exact ⟨x.1, by rw [List.length_take]; have := lt x hx; omega, by rw [List.getElem_take]⟩
    · apply decide_eq_true
      intro q
      simp [tv, List.getD_eq_getElem?_getD, xl] at one
      rw [one] at q
      exact absurd q (by decide)
  obtain ⟨w, hw⟩ := ex
  exact ⟨w, hw, un _ (solve_sound h hw).2⟩
end AB

set_option linter.all false
set_option Elab.async false
namespace AB
open PhBase
/-- so much of each of some vectors -/
def comb (c : List V) (w : V) : V := fun i => dt c.length (fun j => (c.getD j zv) i) w
theorem comb_cons (x : V) (c : List V) (w : V) (i : Nat) : comb (x :: c) w i = x i * w 0 + comb c (sh w) i := by
  unfold comb
  rw [List.length_cons, dt_head]
  congr 1
theorem comb_nil (w : V) (i : Nat) : comb [] w i = 0 := rfl

theorem cone_comb {N : Nat} : ∀ (c : List V) (w : V), (∀ j, j < c.length → 0 ≤ w j) → Cone N (· ∈ c) (comb c w)
  | [], w, _ => .nil fun i _ => rfl
  | x :: c, w, h => by
    have ih := cone_comb (N := N) c (sh w) fun j hj => h (j + 1) (by simp; omega)
    refine .more (ih.mono fun p hp => List.mem_cons_of_mem _ hp) (List.mem_cons_self ..) (h 0 (by simp)) fun i _ => ?_
    rw [comb_cons]; grind

theorem comb_cone {N : Nat} {c : List V} {x : V} (h : Cone N (· ∈ c) x) : ∃ w : V, (∀ j, 0 ≤ w j) ∧ ∀ i, i < N → x i = comb c w i := by
  induction h with
  | nil h => exact ⟨zv, fun _ => Rat.le_refl, fun i hi => by rw [h i hi]; exact (dt_zero _ _ _ fun _ _ => rfl).symm⟩
  | @more x y p t h1 h2 h3 h4 ih =>
    obtain ⟨w, w0, wx⟩ := ih
    obtain ⟨j, hj, rfl⟩ := List.mem_iff_getElem.mp h2
    refine ⟨lin w t (ev j), fun k => ?_, fun i hi => ?_⟩
    · rw [lin_at]
      have := w0 k
      unfold ev
      split <;> grind
    · have : comb c (lin w t (ev j)) i = comb c w i + t * (c[j]) i := by
        unfold comb
        rw [dt_lin, dt_ev _ _ j hj]
        simp [List.getD_eq_getElem?_getD, hj]
      rw [this, h4 i hi, wx i hi]

theorem cone_drop {N : Nat} : ∀ (c : List V) (w : V) (j : Nat), (∀ j, j < c.length → 0 ≤ w j) → j < c.length → w j = 0 → Cone N (· ∈ c.eraseIdx j) (comb c w)
  | [], _, _, _, h, _ => absurd h (by simp)
  | x :: c, w, 0, h, _, z => by
    refine (cone_comb c (sh w) fun j hj => h (j + 1) (by simp; omega)).eq fun i _ => ?_
    rw [comb_cons, z]; grind
  | x :: c, w, j + 1, h, hj, z => by
    have ih := cone_drop (N := N) c (sh w) j (fun j hj => h (j + 1) (by simp; omega)) (by simpa using hj) z
    rw [List.eraseIdx_cons_succ]
    refine .more (ih.mono fun p hp => List.mem_cons_of_mem _ hp) (List.mem_cons_self ..) (h 0 (by simp)) fun i _ => ?_
    rw [comb_cons]; grind

theorem sum_zero {k : Nat} {d : V} (nn : ∀ j, j < k → 0 ≤ d j) (z : dt k (fun _ => 1) d = 0) : Nil k d := by
  induction k with
  | zero => intro i hi; omega
  | succ k ih =>
    simp only [dt] at z
    have h1 : ∀ m, m ≤ k → 0 ≤ dt m (fun _ => 1) d := by
      intro m
      induction m with
      | zero => intro _; exact Rat.le_refl
      | succ m ihm => intro hm; simp only [dt]; have := ihm (by omega); have := nn m (by omega); grind
    have h2 := h1 k (Nat.le_refl k)
    have h3 := nn k (by omega)
    have h4 : dt k (fun _ => 1) d = 0 := by grind
    intro i hi
    by_cases e : i = k
    · rw [e]; grind
    · exact ih (fun j hj => nn j (by omega)) h4 i (by omega)

/-- weights of just one kind, all above 0 -/
structure Only (N : Nat) (c : List V) (x w : V) : Prop where
  pos : ∀ j, j < c.length → 0 < w j
  is : ∀ i, i < N → comb c w i = x i
  one : ∀ y : V, (∀ i, i < N → comb c y i = x i) → Eqn c.length y w

theorem fewest {N : Nat} (hN : 0 < N) {x : V} : ∀ (m : Nat) (c : List V), c.length = m → (∀ v, v ∈ c → v 0 = 1) → Cone N (· ∈ c) x → ∃ s : List V, s.Sublist c ∧ ∃ w, Only N s x w := by
  intro m
  induction m with
  | zero =>
    intro c hc _ h
    rw [List.length_eq_zero_iff] at hc
    subst hc
    obtain ⟨w, w0, wx⟩ := comb_cone h
    exact ⟨[], .slnil, w, fun j hj => absurd hj (by simp), fun i hi => (wx i hi).symm, fun y _ i hi => absurd hi (by simp)⟩
  | succ m IH =>
    intro c hc ones h
    obtain ⟨w, w0, wx⟩ := comb_cone h
    -- leave one out
    have less : ∀ (u : V) (j : Nat), (∀ j, j < c.length → 0 ≤ u j) → (∀ i, i < N → comb c u i = x i) → j < c.length → u j = 0 → ∃ s : List V, s.Sublist c ∧ ∃ w, Only N s x w := by
      intro u j u0 ux hj z
      have h1 := (cone_drop (N := N) c u j u0 hj z).eq (y := x) fun i hi => (ux i hi).symm
      obtain ⟨s, s1, s2⟩ := IH (c.eraseIdx j) (by rw [List.length_eraseIdx]; simp [hj]; omega) (fun v hv => ones v (List.mem_of_mem_eraseIdx hv)) h1
      exact ⟨s, s1.trans (List.eraseIdx_sublist ..), s2⟩
    by_cases q : ∃ j, j < c.length ∧ w j = 0
    · obtain ⟨j, hj, z⟩ := q
      exact less w j (fun j _ => w0 j) (fun i hi => (wx i hi).symm) hj z
    have wp : ∀ j, j < c.length → 0 < w j := fun j hj => by
      have := w0 j
      have : w j ≠ 0 := fun e => q ⟨j, hj, e⟩
      grind
    by_cases un : ∀ y : V, (∀ i, i < N → comb c y i = x i) → Eqn c.length y w
    · exact ⟨c, List.Sublist.refl c, w, wp, fun i hi => (wx i hi).symm, un⟩
    -- another way: go along it till one is used up
    obtain ⟨y, hy⟩ := Classical.not_forall.mp un
    obtain ⟨hy, ny⟩ := Classical.not_imp.mp hy
    let d : V := lin y (-1) w
    have dz : ∀ i, i < N → comb c d i = 0 := fun i hi => by
      have : comb c d i = comb c y i + -1 * comb c w i := dt_lin _ _ _ _ _
      rw [this, hy i hi, wx i hi]; grind
    have dn : ¬ Nil c.length d := fun e => ny fun i hi => by
      have := e i hi
      simp only [d, lin_at] at this
      grind
    have ds : dt c.length (fun _ => 1) d = 0 := by
      have e1 := dz 0 hN
      unfold comb at e1
      rw [← e1]
      refine dt_congr (fun j hj => ?_) fun _ _ => rfl
      rw [List.getD_eq_getElem?_getD, List.getElem?_eq_getElem hj, Option.getD_some]
      exact (ones _ (List.getElem_mem hj)).symm
    have ex : ∃ j, j < c.length ∧ d j < 0 := by
      apply Classical.byContradiction
      intro e
      refine dn (sum_zero (fun j hj => ?_) ds)
      have : ¬ d j < 0 := fun w => e ⟨j, hj, w⟩
      grind
    obtain ⟨j0, hj0, nj0⟩ := ex
    let m := (List.range c.length).filter fun j => decide (d j < 0)
    have mne : m ≠ [] := by
      intro e
      have : j0 ∈ m := List.mem_filter.mpr ⟨List.mem_range.mpr hj0, decide_eq_true nj0⟩
      rw [e] at this; cases this
    obtain ⟨k, hk, hmin⟩ := exists_min (fun j => w j / -(d j)) mne
    obtain ⟨hk1, hk2⟩ := List.mem_filter.mp hk
    rw [List.mem_range] at hk1
    have hk2 := of_decide_eq_true hk2
    let t := w k / -(d k)
    have t0 : 0 ≤ t := div_nn (w0 k) (by grind)
    have tk : t * -(d k) = w k := Rat.div_mul_cancel (by grind)
    refine less (lin w t d) k (fun j hj => ?_) (fun i hi => ?_) hk1 (by rw [lin_at]; grind)
    · rw [lin_at]
      by_cases e : d j < 0
      · have h1 : t ≤ w j / -(d j) := hmin j (List.mem_filter.mpr ⟨List.mem_range.mpr hj, decide_eq_true e⟩)
        have h2 := Rat.mul_le_mul_of_nonneg_right h1 (show 0 ≤ -(d j) by grind)
        have h3 : w j / -(d j) * -(d j) = w j := Rat.div_mul_cancel (by grind)
        rw [h3] at h2; grind
      · have := Rat.mul_nonneg t0 (show 0 ≤ d j by grind)
        have := w0 j
        grind
    · have : comb c (lin w t d) i = comb c w i + t * comb c d i := dt_lin _ _ _ _ _
      rw [this, dz i hi, wx i hi]; grind

theorem Only.len {N : Nat} {c : List V} {x w : V} (O : Only N c x w) : c.length ≤ N := by
  apply Classical.byContradiction
  intro q
  let rows : List V := (List.range N).map fun i => fun j => (c.getD j zv) i
  have : rkL c.length rows < c.length := by
    have := rkL_le_length c.length rows
    have hl : rows.length = N := by simp [rows]
    omega
  obtain ⟨d, hd, nd⟩ := orth_left this
  refine nd ?_
  have := O.one (lin w 1 d) fun i hi => by
    have e : comb c (lin w 1 d) i = comb c w i + 1 * comb c d i := dt_lin _ _ _ _ _
    have z : comb c d i = 0 := hd _ (List.mem_map.mpr ⟨i, List.mem_range.mpr hi, rfl⟩)
    rw [e, z, O.is i hi]; grind
  intro j hj
  have := this j hj
  rw [lin_at] at this
  grind

/-! ### choices -/
theorem mem_choices {α : Type} : ∀ (k : Nat) (l : List α) (c : List α), c ∈ choices k l ↔ c.Sublist l ∧ c.length = k
  | 0, l, c => by
    unfold choices
    rw [List.mem_singleton]
    constructor
    · rintro rfl; exact ⟨List.nil_sublist l, rfl⟩
    · rintro ⟨_, h⟩; exact List.length_eq_zero_iff.mp h
  | k + 1, [], c => by
    unfold choices
    constructor
    · intro h; cases h
    · rintro ⟨h1, h2⟩
      rw [List.sublist_nil.mp h1] at h2
      cases h2
  | k + 1, x :: l, c => by
    unfold choices
    rw [List.mem_append, List.mem_map, mem_choices (k + 1) l c]
    constructor
    · rintro (⟨d, hd, rfl⟩ | ⟨h1, h2⟩)
      · obtain ⟨h1, h2⟩ := (mem_choices k l d).mp hd
        exact ⟨h1.cons_cons x, by rw [List.length_cons, h2]⟩
      · exact ⟨h1.cons x, h2⟩
    · rintro ⟨h1, h2⟩
      cases h1 with
      | cons _ h => exact .inr ⟨h, h2⟩
      | @cons_cons d _ _ h => exact .inl ⟨d, (mem_choices k l d).mpr ⟨h, by simpa using h2⟩, rfl⟩

theorem range_getD {α : Type} (l : List α) (z : α) : (List.range l.length).map (fun i => l.getD i z) = l := by
  apply List.ext_getElem
  · simp
  · intro i h1 h2
    simp [List.getD_eq_getElem?_getD, h2]

theorem mixture_some {n : Nat} {l : List Pt} {p : Pt} : (Ph01.mixture n l p).isSome = true ↔ ∃ c : List Pt, c.Sublist l ∧ 0 < c.length ∧ c.length ≤ n + 1 ∧ ∃ w, Ph01.weights n c p = some w ∧ ∀ x, x ∈ w → 0 < x := by
  unfold Ph01.mixture
  rw [List.findSome?_isSome_iff]
  constructor
  · rintro ⟨c, hc, h⟩
    obtain ⟨k, hk, hc⟩ := List.mem_flatMap.mp hc
    rw [List.mem_range] at hk
    obtain ⟨c1, c2⟩ := (mem_choices _ _ _).mp hc
    rw [Option.isSome_map] at h
    obtain ⟨w, hw⟩ := Option.isSome_iff_exists.mp h
    obtain ⟨w1, w2⟩ := Option.filter_eq_some_iff.mp hw
    refine ⟨c.map fun i => l.getD i [], ?_, by rw [List.length_map]; omega, by rw [List.length_map]; omega, w, w1, fun x hx => ?_⟩
    · have := c1.map fun i => l.getD i []
      rw [range_getD] at this
      exact this
    · rw [List.all_eq_true] at w2
      exact of_decide_eq_true (w2 x hx)
  · rintro ⟨c, hc, h0, h1, w, hw, hp⟩
    rw [← range_getD l []] at hc
    obtain ⟨ix, i1, rfl⟩ := List.sublist_map_iff.mp hc
    rw [List.length_map] at h0 h1
    refine ⟨ix, List.mem_flatMap.mpr ⟨ix.length - 1, List.mem_range.mpr (by omega), (mem_choices _ _ _).mpr ⟨i1, by omega⟩⟩, ?_⟩
    rw [hw, Option.isSome_map, Option.isSome_iff_exists]
    exact ⟨w, Option.filter_eq_some_iff.mpr ⟨rfl, List.all_eq_true.mpr fun x hx => decide_eq_true (hp x hx)⟩⟩

/-- the equations of weights, as sums -/
theorem weights_rows {n : Nat} {c : List Pt} {p : Pt} (y : V) : (∀ r, r ∈ ((List.range (n + 1)).map fun (i : Nat) => (c.map fun (q : Pt) => if i = n then (1 : Rat) else q.getD i 0) ++ [if i = n then 1 else p.getD i 0]) → dt c.length (tv r) y = tv r c.length) ↔
    ∀ i, i < n + 1 → comb (c.map fun q => hm (tv q)) y i = hm (tv p) i := by
  have row : ∀ i, dt c.length (tv ((c.map fun (q : Pt) => if i = n then (1 : Rat) else q.getD i 0) ++ [if i = n then 1 else p.getD i 0])) y = comb (c.map fun q => hm (tv q)) y (if i = n then 0 else i + 1) := by
    intro i
    unfold comb
    rw [List.length_map]
    refine dt_congr (fun j hj => ?_) fun _ _ => rfl
    have hj' : j < (c.map fun (q : Pt) => if i = n then (1 : Rat) else q.getD i 0).length := by rw [List.length_map]; exact hj
    show List.getD (_ ++ _) j 0 = List.getD (c.map fun q => hm (tv q)) j zv _
    rw [List.getD_eq_getElem?_getD (l := _ ++ _), List.getElem?_append_left hj', List.getElem?_map, List.getElem?_eq_getElem hj, Option.map_some, Option.getD_some,
      List.getD_eq_getElem?_getD (l := c.map _), List.getElem?_map, List.getElem?_eq_getElem hj, Option.map_some, Option.getD_some]
    by_cases e : i = n
    · rw [if_pos e, if_pos e]; rfl
    · rw [if_neg e, if_neg e]; rfl
  have last : ∀ i, tv ((c.map fun (q : Pt) => if i = n then (1 : Rat) else q.getD i 0) ++ [if i = n then 1 else p.getD i 0]) c.length = hm (tv p) (if i = n then 0 else i + 1) := by
    intro i
    simp [tv, List.getD_eq_getElem?_getD]
    by_cases e : i = n
    · rw [if_pos e, if_pos e]; rfl
    · rw [if_neg e, if_neg e]; rfl
  constructor
  · intro h i hi
    cases i with
    | zero =>
      have := h _ (List.mem_map.mpr ⟨n, List.mem_range.mpr (by omega), rfl⟩)
      rw [row, last] at this
      simpa using this
    | succ i =>
      have := h _ (List.mem_map.mpr ⟨i, List.mem_range.mpr (by omega), rfl⟩)
      rw [row, last] at this
      rw [if_neg (by omega)] at this
      exact this
  · intro h r hr
    obtain ⟨i, hi, rfl⟩ := List.mem_map.mp hr
    rw [List.mem_range] at hi
    rw [row, last]
    by_cases e : i = n
    · rw [if_pos e]; exact h 0 (by omega)
    · rw [if_neg e]; exact h (i + 1) (by omega)

theorem weights_len {n : Nat} {c : List Pt} {p : Pt} : ∀ r, r ∈ ((List.range (n + 1)).map fun (i : Nat) => (c.map fun (q : Pt) => if i = n then (1 : Rat) else q.getD i 0) ++ [if i = n then 1 else p.getD i 0]) → r.length = c.length + 1 := by
  intro r hr
  obtain ⟨i, _, rfl⟩ := List.mem_map.mp hr
  simp

/-- **mixture finds one just if there is one.** -/
theorem mixture_iff {n : Nat} {l : List Pt} {p : Pt} : (Ph01.mixture n l p).isSome = true ↔ Conv n (· ∈ l.map tv) (tv p) := by
  rw [mixture_some]
  constructor
  · rintro ⟨c, hc, h0, h1, w, hw, hp⟩
    obtain ⟨wl, ws⟩ := solve_sound weights_len hw
    have e := (weights_rows (tv w)).mp ws
    have k := cone_comb (N := n + 1) (c.map fun q => hm (tv q)) (tv w) fun j hj => by
      rw [List.length_map] at hj
      have : tv w j ∈ w := by
        simp [tv, List.getD_eq_getElem?_getD, show j < w.length by omega]
      have := hp _ this
      grind
    refine (k.eq (y := hm (tv p)) fun i hi => (e i hi).symm).mono fun v hv => ?_
    obtain ⟨q, hq, rfl⟩ := List.mem_map.mp hv
    exact ⟨tv q, List.mem_map_of_mem (hc.subset hq), rfl⟩
  · intro h
    have h1 : Cone (n + 1) (· ∈ l.map fun q => hm (tv q)) (hm (tv p)) := Cone.mono h fun v ⟨q, hq, e⟩ => by
      obtain ⟨r, hr, rfl⟩ := List.mem_map.mp hq
      rw [e]; exact List.mem_map.mpr ⟨r, hr, rfl⟩
    obtain ⟨s, hs, w, O⟩ := fewest (by omega) _ _ rfl (fun v hv => by
      obtain ⟨q, _, rfl⟩ := List.mem_map.mp hv
      rfl) h1
    obtain ⟨c, hc, rfl⟩ := List.sublist_map_iff.mp hs
    have cl := O.len
    rw [List.length_map] at cl
    have c0 : 0 < c.length := by
      apply Classical.byContradiction
      intro q
      have : c = [] := List.length_eq_zero_iff.mp (by omega)
      have z := O.is 0 (by omega)
      rw [this] at z
      exact absurd z (by show ¬ (0 : Rat) = 1; decide)
    obtain ⟨u, hu, eu⟩ := solve_whole (weights_len (n := n) (c := c) (p := p)) ((weights_rows w).mpr O.is) (fun z hz => by
      have := O.one z ((weights_rows z).mp hz)
      rw [List.length_map] at this
      exact this)
    refine ⟨c, hc, c0, cl, u, hu, fun x hx => ?_⟩
    obtain ⟨j, hj, rfl⟩ := List.mem_iff_getElem.mp hx
    have ul := (solve_sound weights_len hu).1
    have := eu j (by omega)
    have e : tv u j = u[j] := by simp [tv, List.getD_eq_getElem?_getD, hj]
    rw [← e, this]
    exact O.pos j (by rw [List.length_map]; omega)
end AB

set_option linter.all false
set_option Elab.async false
namespace AB
open PhBase
/-! ### rows of whole numbers -/
def iv (l : List Int) : List Rat := l.map fun (z : Int) => (z : Rat)
def vv (l : List Int) : V := tv (iv l)
theorem iv_len (l : List Int) : (iv l).length = l.length := by simp [iv]
theorem vv_at (l : List Int) (i : Nat) : vv l i = ((l.getD i 0 : Int) : Rat) := by
  by_cases h : i < l.length
  · simp [vv, tv, iv, List.getD_eq_getElem?_getD, h]
  · simp [vv, tv, iv, List.getD_eq_getElem?_getD, h]

def tog (a p : List Int) : Int := ((a.zip p).map fun (x : Int × Int) => x.1 * x.2).sum
theorem tog_eq : ∀ {n : Nat} {a p : List Int}, a.length = n → p.length = n → ((tog a p : Int) : Rat) = dt n (vv a) (vv p)
  | 0, [], [], _, _ => by simp [tog, dt]
  | n + 1, x :: a, y :: p, ha, hp => by
    have ih := tog_eq (a := a) (p := p) (by simpa using ha) (by simpa using hp)
    have e : tog (x :: a) (y :: p) = x * y + tog a p := by simp [tog]
    rw [e, dt_head, Rat.intCast_add, Rat.intCast_mul, ih]
    have e1 : sh (vv (x :: a)) = vv a := funext fun i => by show vv (x :: a) (i + 1) = _; rw [vv_at, vv_at]; simp
    have e2 : sh (vv (y :: p)) = vv p := funext fun i => by show vv (y :: p) (i + 1) = _; rw [vv_at, vv_at]; simp
    rw [e1, e2, vv_at, vv_at]
    simp

def dirn (s e : List Int) : List Int := (s.zip e).map fun (x : Int × Int) => x.2 - x.1
theorem dirn_len {n : Nat} {s e : List Int} (hs : s.length = n) (he : e.length = n) : (dirn s e).length = n := by simp [dirn, hs, he]
theorem vv_dirn {s e : List Int} (h : s.length = e.length) (i : Nat) : vv (dirn s e) i = vv e i - vv s i := by
  rw [vv_at, vv_at, vv_at]
  by_cases q : i < s.length
  · have q' : i < e.length := h ▸ q
    simp [dirn, List.getD_eq_getElem?_getD, q, q', List.zip, List.getElem?_zipWith, Rat.intCast_sub]
  · have q' : ¬ i < e.length := h ▸ q
    simp [dirn, List.getD_eq_getElem?_getD, List.zip, List.getElem?_zipWith, List.getElem?_eq_none (Nat.le_of_not_lt q)]
    rw [List.getElem?_eq_none (Nat.le_of_not_lt q')]
    simp; grind

def clr (lead : List Int) (j : Nat) (row : List Int) : List Int := (row.zip lead).map fun (x : Int × Int) => x.1 * lead.getD j 0 - x.2 * row.getD j 0
theorem clr_len {n : Nat} {lead row : List Int} {j : Nat} (hs : row.length = n) (he : lead.length = n) : (clr lead j row).length = n := by simp [clr, hs, he]
theorem vv_clr {lead row : List Int} {j : Nat} (h : row.length = lead.length) (i : Nat) : vv (clr lead j row) i = vv row i * vv lead j - vv lead i * vv row j := by
  rw [vv_at, vv_at, vv_at, vv_at, vv_at]
  by_cases q : i < row.length
  · have q' : i < lead.length := h ▸ q
    simp [clr, List.getD_eq_getElem?_getD, q, q', List.zip, List.getElem?_zipWith, Rat.intCast_sub, Rat.intCast_mul]
  · have q' : ¬ i < lead.length := h ▸ q
    simp [clr, List.getD_eq_getElem?_getD, List.zip, List.getElem?_zipWith, List.getElem?_eq_none (Nat.le_of_not_lt q)]
    rw [List.getElem?_eq_none (Nat.le_of_not_lt q')]
    simp; grind

/-- the first place that isn't 0 -/
def fnz (l : List Int) : Option Nat := l.findIdx? fun z => decide (z ≠ 0)

/-- how many of the directions are free: the last leads -/
def hmf : Nat → List (List Int) → Nat
  | 0, _ => 0
  | k + 1, l => match l.getLast? with
    | none => 0
    | some lead => match fnz lead with
      | none => hmf k l.dropLast
      | some j => hmf k (l.dropLast.map (clr lead j)) + 1

theorem orth_snoc {n : Nat} {l : List V} {a d : V} : Orth n (l ++ [a]) d ↔ Orth n (a :: l) d := by
  constructor
  · intro h r hr
    rcases List.mem_cons.mp hr with e | e
    · exact h r (by rw [e]; simp)
    · exact h r (by simp [e])
  · intro h r hr
    rcases List.mem_append.mp hr with e | e
    · exact h r (List.mem_cons_of_mem _ e)
    · exact h r (by rw [List.mem_singleton.mp e]; exact List.mem_cons_self ..)

theorem hmf_rk {n : Nat} : ∀ (k : Nat) (l : List (List Int)), l.length = k → (∀ r, r ∈ l → r.length = n) → hmf k l = rkL n (l.map vv)
  | 0, l, hl, _ => by
    rw [List.length_eq_zero_iff] at hl
    subst hl
    rw [List.map_nil, rkL_nil]; rfl
  | k + 1, l, hl, hn => by
    have ne : l ≠ [] := by intro e; rw [e] at hl; cases hl
    obtain ⟨m, lead, rfl⟩ : ∃ m lead, l = m ++ [lead] := ⟨l.dropLast, l.getLast ne, (List.dropLast_concat_getLast ne).symm⟩
    have hm' : m.length = k := by simpa using hl
    have hmn : ∀ r, r ∈ m → r.length = n := fun r hr => hn r (by simp [hr])
    have hln : lead.length = n := hn lead (by simp)
    unfold hmf
    rw [List.getLast?_concat, List.dropLast_concat]
    dsimp only
    cases e : fnz lead with
    | none =>
      dsimp only
      rw [hmf_rk k m hm' hmn]
      refine rkL_congr fun d => ?_
      rw [List.map_append, List.map_cons, List.map_nil, orth_snoc, orth_cons]
      refine ⟨fun h => ⟨h, dt_zero' n _ d fun i hi => ?_⟩, fun h => h.1⟩
      rw [vv_at]
      unfold fnz at e
      rw [List.findIdx?_eq_none_iff] at e
      have hi' : i < lead.length := by omega
      have := e _ (List.getElem_mem hi')
      simp at this
      simp [List.getD_eq_getElem?_getD, hi', this]
    | some j =>
      dsimp only
      unfold fnz at e
      rw [List.findIdx?_eq_some_iff_getElem] at e
      obtain ⟨hj, hz, _⟩ := e
      have lj : vv lead j ≠ 0 := by
        rw [vv_at]
        simp [List.getD_eq_getElem?_getD, hj]
        simpa using hz
      have jn : j < n := by omega
      rw [hmf_rk k (m.map (clr lead j)) (by rw [List.length_map]; exact hm') (fun r hr => by
        obtain ⟨s, hs, rfl⟩ := List.mem_map.mp hr
        exact clr_len (hmn s hs) hln)]
      have key : ∀ r, r ∈ m → ∀ d, dt n (vv (clr lead j r)) d = vv lead j * dt n (vv r) d - vv r j * dt n (vv lead) d := by
        intro r hr d
        have : dt n (vv (clr lead j r)) d = dt n (lin (lin zv (vv lead j) (vv r)) (-(vv r j)) (vv lead)) d := dt_congr (fun i _ => by
          rw [vv_clr (by rw [hmn r hr, hln]), lin_at, lin_at]; simp only [zv]; grind) fun _ _ => rfl
        rw [this, dt_lin', dt_lin', dt_zero' n zv d fun _ _ => rfl]; grind
      have new := rkL_cons_new (n := n) (a := vv lead) (l := (m.map (clr lead j)).map vv) ⟨ev j, fun r hr => by
          obtain ⟨s, hs, rfl⟩ := List.mem_map.mp hr
          obtain ⟨t, ht, rfl⟩ := List.mem_map.mp hs
          rw [key t ht, dt_ev n _ j jn, dt_ev n _ j jn]; grind, by rw [dt_ev n _ j jn]; exact lj⟩
      rw [← new]
      refine rkL_congr fun d => ?_
      rw [List.map_append, List.map_cons, List.map_nil, orth_snoc, orth_cons, orth_cons]
      constructor
      · rintro ⟨h1, h2⟩
        refine ⟨fun r hr => ?_, h2⟩
        obtain ⟨s, hs, rfl⟩ := List.mem_map.mp hr
        have := h1 _ (List.mem_map_of_mem (List.mem_map_of_mem hs))
        rw [key s hs, h2] at this
        have : vv lead j * dt n (vv s) d = 0 := by grind
        rcases Rat.mul_eq_zero.mp this with q | q
        · exact absurd q lj
        · exact q
      · rintro ⟨h1, h2⟩
        refine ⟨fun r hr => ?_, h2⟩
        obtain ⟨s, hs, rfl⟩ := List.mem_map.mp hr
        obtain ⟨t, ht, rfl⟩ := List.mem_map.mp hs
        rw [key t ht, h2, h1 _ (List.mem_map_of_mem ht)]; grind

/-! ### determinants by their first row -/
def sg (j : Nat) : Int := if j % 2 = 0 then 1 else -1
def detN : Nat → List (List Int) → Int
  | 0, _ => 1
  | k + 1, rows => tog (rows.headD []) ((List.range (k + 1)).map fun j => sg j * detN k (rows.tail.map fun r => r.eraseIdx j))
def crs (rows : List (List Int)) : List Int := (List.range (rows.length + 1)).map fun j => sg j * detN rows.length (rows.map fun r => r.eraseIdx j)
theorem crs_len (rows : List (List Int)) : (crs rows).length = rows.length + 1 := by simp [crs]
theorem detN_cons (r : List Int) (rows : List (List Int)) : detN (rows.length + 1) (r :: rows) = tog r (crs rows) := rfl

theorem len2 {l : List Int} (h : l.length = 2) : ∃ a b, l = [a, b] := by
  match l, h with
  | [a, b], _ => exact ⟨a, b, rfl⟩
theorem len3 {l : List Int} (h : l.length = 3) : ∃ a b c, l = [a, b, c] := by
  match l, h with
  | [a, b, c], _ => exact ⟨a, b, c, rfl⟩
theorem len4 {l : List Int} (h : l.length = 4) : ∃ a b c d, l = [a, b, c, d] := by
  match l, h with
  | [a, b, c, d], _ => exact ⟨a, b, c, d, rfl⟩
/-- square to its rows: for two, three and four numbers -/
theorem crs_orth (rows : List (List Int)) (hl : rows.length ≤ 3) (h : ∀ r, r ∈ rows → r.length = rows.length + 1) : ∀ r, r ∈ rows → tog r (crs rows) = 0 := by
  match rows, hl, h with
  | [], _, _ => intro r hr; cases hr
  | [x], _, h =>
    obtain ⟨a, b, rfl⟩ := len2 (h x (by simp))
    intro r hr
    rw [List.mem_singleton.mp hr]
    simp [crs, tog, detN, sg, List.range_succ]
    grind
  | [x, y], _, h =>
    obtain ⟨a, b, c, rfl⟩ := len3 (h x (by simp))
    obtain ⟨d, e, f, rfl⟩ := len3 (h y (by simp))
    intro r hr
    simp only [List.mem_cons, List.not_mem_nil, or_false] at hr
    rcases hr with rfl | rfl <;> simp [crs, tog, detN, sg, List.range_succ] <;> grind
  | [x, y, z], _, h =>
    obtain ⟨a, b, c, d, rfl⟩ := len4 (h x (by simp))
    obtain ⟨e, f, g, i, rfl⟩ := len4 (h y (by simp))
    obtain ⟨j, k, l, m, rfl⟩ := len4 (h z (by simp))
    intro r hr
    simp only [List.mem_cons, List.not_mem_nil, or_false] at hr
    rcases hr with rfl | rfl | rfl <;> simp [crs, tog, detN, sg, List.range_succ] <;> grind
  | _ :: _ :: _ :: _ :: _, hl, _ => simp at hl

/-- rows that something not 0 is square to -/
def Sing (k : Nat) (rows : List (List Int)) : Prop := ∃ u, Orth k (rows.map vv) u ∧ ¬ Nil k u

/-- a row without its place j, a direction with a 0 put in at j -/
def ins0 (j : Nat) (u : V) : V := fun i => if i < j then u i else if i = j then 0 else u (i - 1)
def del (j : Nat) (u : V) : V := fun i => if i < j then u i else u (i + 1)
theorem vv_eraseIdx (r : List Int) (j : Nat) (i : Nat) : vv (r.eraseIdx j) i = del j (vv r) i := by
  unfold del
  rw [vv_at, List.getD_eq_getElem?_getD, List.getElem?_eraseIdx]
  split
  · rw [vv_at, List.getD_eq_getElem?_getD]
  · rw [vv_at, List.getD_eq_getElem?_getD]
theorem dt_del (j : Nat) (a u : V) : ∀ n, j ≤ n → dt n (del j a) u = dt (n + 1) a (ins0 j u) := by
  intro n hj
  have H : ∀ n, n < j → dt n (del j a) u = dt n a (ins0 j u) := by
    intro n
    intro hn
    exact dt_congr (fun i hi => by unfold del; rw [if_pos (by omega)]) (fun i hi => by unfold ins0; rw [if_pos (by omega)])
  induction n with
  | zero =>
    have : j = 0 := by omega
    subst this
    simp [dt, ins0]; grind
  | succ n ih =>
    by_cases q : j ≤ n
    · rw [dt, ih q, dt]
      congr 1
      · unfold del ins0
        rw [if_neg (by omega), if_neg (by omega), if_neg (by omega)]; rfl
    · have e : j = n + 1 := by omega
      rw [dt, dt, dt]
      have h1 := dt_congr (n := n) (a := del j a) (a' := a) (b := u) (b' := ins0 j u) (fun i hi => by unfold del; rw [if_pos (by omega)]) (fun i hi => by unfold ins0; rw [if_pos (by omega)])
      rw [h1]
      have h2 : del j a n * u n = a n * ins0 j u n := by unfold del ins0; rw [if_pos (by omega), if_pos (by omega)]
      have h3 : ins0 j u (n + 1) = 0 := by unfold ins0; rw [if_neg (by omega), if_pos (by omega)]
      rw [h2, h3]; grind

/-- what a crossing says, one size after another -/
structure CrsOk (m : Nat) : Prop where
  /-- a direction square to all n rows: their determinant is 0, and the other way -/
  det : ∀ rows : List (List Int), rows.length = m → (∀ r, r ∈ rows → r.length = m) → (detN m rows = 0 ↔ Sing m rows)

theorem crs_rk {m : Nat} (D : CrsOk m) (rows : List (List Int)) (hl : rows.length = m) (h : ∀ r, r ∈ rows → r.length = m + 1) :
    (¬ Nil (m + 1) (vv (crs rows))) ↔ rkL (m + 1) (rows.map vv) = m := by
  have at_ : ∀ j, j < m + 1 → vv (crs rows) j = ((sg j * detN m (rows.map fun r => r.eraseIdx j) : Int) : Rat) := by
    intro j hj
    rw [vv_at, List.getD_eq_getElem?_getD]
    unfold crs
    rw [List.getElem?_map, hl, List.getElem?_range hj]; rfl
  have at0 : ∀ j, j < m + 1 → (vv (crs rows) j = 0 ↔ detN m (rows.map fun r => r.eraseIdx j) = 0) := by
    intro j hj
    rw [at_ j hj]
    have : sg j = 1 ∨ sg j = -1 := by unfold sg; split <;> simp
    rcases this with e | e <;> rw [e] <;> constructor <;> intro q
    · rw [show (0 : Rat) = ((0 : Int) : Rat) from rfl, Rat.intCast_inj] at q; omega
    · rw [q]; rfl
    · rw [show (0 : Rat) = ((0 : Int) : Rat) from rfl, Rat.intCast_inj] at q; omega
    · rw [q]; rfl
  have el : ∀ j, j < m + 1 → ∀ r, r ∈ (rows.map fun r => r.eraseIdx j) → r.length = m := by
    intro j hj r hr
    obtain ⟨s, hs, rfl⟩ := List.mem_map.mp hr
    rw [List.length_eraseIdx, h s hs, if_pos hj]; omega
  have sing : ∀ j, j < m + 1 → (Sing m (rows.map fun r => r.eraseIdx j) ↔ ∃ d, Orth (m + 1) (rows.map vv) d ∧ ¬ Nil (m + 1) d ∧ d j = 0) := by
    intro j hj
    constructor
    · rintro ⟨u, h1, h2⟩
      refine ⟨ins0 j u, fun r hr => ?_, fun q => h2 fun i hi => ?_, by unfold ins0; rw [if_neg (by omega), if_pos rfl]⟩
      · obtain ⟨s, hs, rfl⟩ := List.mem_map.mp hr
        rw [← dt_del j _ u m (by omega)]
        have := h1 _ (List.mem_map_of_mem (List.mem_map_of_mem hs))
        rw [← this]
        exact dt_congr (fun i _ => (vv_eraseIdx s j i).symm) fun _ _ => rfl
      · by_cases w : i < j
        · have := q i (by omega)
          unfold ins0 at this
          rw [if_pos w] at this; exact this
        · have := q (i + 1) (by omega)
          unfold ins0 at this
          rw [if_neg (by omega), if_neg (by omega)] at this; exact this
    · rintro ⟨d, h1, h2, h3⟩
      have di : ∀ i, ins0 j (del j d) i = d i := by
        intro i
        unfold ins0 del
        by_cases w : i < j
        · rw [if_pos w, if_pos w]
        · rw [if_neg w]
          by_cases w2 : i = j
          · rw [if_pos w2, w2, h3]
          · rw [if_neg w2, if_neg (by omega)]
            congr 1; omega
      refine ⟨del j d, fun r hr => ?_, fun q => h2 fun i hi => ?_⟩
      · obtain ⟨s, hs, rfl⟩ := List.mem_map.mp hr
        obtain ⟨t, ht, rfl⟩ := List.mem_map.mp hs
        rw [dt_congr (fun i _ => vv_eraseIdx t j i) fun _ _ => rfl, dt_del j _ _ m (by omega), dt_congr (fun _ _ => rfl) fun i _ => di i]
        exact h1 _ (List.mem_map_of_mem ht)
      · by_cases w : i < j
        · have := q i (by omega)
          unfold del at this
          rw [if_pos w] at this; exact this
        · by_cases w2 : i = j
          · rw [w2]; exact h3
          · have := q (i - 1) (by omega)
            unfold del at this
            rw [if_neg (by omega)] at this
            rw [show i - 1 + 1 = i by omega] at this; exact this
  have le : rkL (m + 1) (rows.map vv) ≤ m := by have := rkL_le_length (m + 1) (rows.map vv); rw [List.length_map, hl] at this; exact this
  constructor
  · intro nn
    obtain ⟨j, j1, j2, _⟩ := last_place _ _ nn
    have nd : ¬ Sing m (rows.map fun r => r.eraseIdx j) := fun s => j2 ((at0 j j1).mpr ((D.det _ (by rw [List.length_map, hl]) (el j j1)).mpr s))
    rw [sing j j1] at nd
    have full : rkL (m + 1) (ev j :: rows.map vv) = m + 1 := rkL_full.mpr fun d hd => by
      rw [orth_cons, dt_comm, dt_ev _ _ j j1] at hd
      exact Classical.byContradiction fun q => nd ⟨d, hd.1, q, hd.2⟩
    rcases rkL_cons_cases (m + 1) (ev j) (rows.map vv) with ⟨_, e⟩ | ⟨_, e⟩ <;> omega
  · intro hr nn
    obtain ⟨a, ha, na⟩ := orth_left (n := m + 1) (l := rows.map vv) (by omega)
    refine na fun j hj => ?_
    have d0 := (at0 j hj).mp (nn j hj)
    obtain ⟨d, h1, h2, h3⟩ := (sing j hj).mp ((D.det _ (by rw [List.length_map, hl]) (el j hj)).mp d0)
    obtain ⟨t, ht⟩ := orth_one (by rw [hr]) ha na h1
    have := ht j hj
    rw [h3] at this
    rcases Rat.mul_eq_zero.mp this.symm with q | q
    · exact absurd (fun i hi => by rw [ht i hi, q]; grind) h2
    · exact q

theorem crs_orth' {rows : List (List Int)} (hl : rows.length ≤ 3) (h : ∀ r, r ∈ rows → r.length = rows.length + 1) : Orth (rows.length + 1) (rows.map vv) (vv (crs rows)) := by
  intro r hr
  obtain ⟨s, hs, rfl⟩ := List.mem_map.mp hr
  rw [← tog_eq (h s hs) (crs_len rows), crs_orth rows hl h s hs]; rfl

theorem crs_ok : ∀ m, m ≤ 4 → CrsOk m
  | 0, _ => ⟨fun rows hl _ => by
      constructor
      · intro h; exact absurd h (by show ¬ (1 : Int) = 0; decide)
      · rintro ⟨u, _, h⟩; exact absurd (fun i hi => absurd hi (by omega)) h⟩
  | m + 1, hm => by
    have D := crs_ok m (by omega)
    constructor
    intro rows hl h
    match rows, hl, h with
    | r :: rows, hl, h =>
    have hl' : rows.length = m := by simpa using hl
    have h' : ∀ s, s ∈ rows → s.length = m + 1 := fun s hs => h s (List.mem_cons_of_mem _ hs)
    have hr := h r (List.mem_cons_self ..)
    have e : detN (m + 1) (r :: rows) = tog r (crs rows) := by rw [← hl']; rfl
    have R := crs_rk D rows hl' h'
    have O : Orth (m + 1) (rows.map vv) (vv (crs rows)) := by
      have := crs_orth' (rows := rows) (by omega) (by rw [hl']; exact h')
      rw [hl'] at this; exact this
    have te : ((tog r (crs rows) : Int) : Rat) = dt (m + 1) (vv r) (vv (crs rows)) := tog_eq hr (by rw [crs_len, hl'])
    rw [e]
    constructor
    · intro z
      rw [z] at te
      by_cases q : Nil (m + 1) (vv (crs rows))
      · have : ¬ rkL (m + 1) (rows.map vv) = m := fun w => R.mpr w q
        have le := rkL_le_length (m + 1) (rows.map vv)
        rw [List.length_map, hl'] at le
        have : rkL (m + 1) ((r :: rows).map vv) < m + 1 := by
          rw [List.map_cons]
          rcases rkL_cons_cases (m + 1) (vv r) (rows.map vv) with ⟨_, e⟩ | ⟨_, e⟩ <;> omega
        obtain ⟨d, h1, h2⟩ := orth_left this
        exact ⟨d, h1, h2⟩
      · exact ⟨vv (crs rows), by rw [List.map_cons, orth_cons]; exact ⟨O, te.symm⟩, q⟩
    · rintro ⟨u, h1, h2⟩
      rw [List.map_cons, orth_cons] at h1
      by_cases q : Nil (m + 1) (vv (crs rows))
      · rw [dt_zero _ _ _ q] at te
        exact Rat.intCast_inj.mp te
      · have rk := R.mp q
        obtain ⟨t, ht⟩ := orth_one (by rw [rk]) O q h1.1
        have z := h1.2
        have : dt (m + 1) (vv r) u = t * dt (m + 1) (vv r) (vv (crs rows)) := by
          have : dt (m + 1) (vv r) u = dt (m + 1) (vv r) (lin zv t (vv (crs rows))) := dt_congr (fun _ _ => rfl) fun i hi => by
            rw [ht i hi, lin_at]; simp only [zv]; grind
          rw [this, dt_lin, dt_zero _ _ zv fun _ _ => rfl]; grind
        rw [this] at z
        rcases Rat.mul_eq_zero.mp z with w | w
        · exact absurd (fun i hi => by rw [ht i hi, w]; grind) h2
        · rw [w] at te
          exact Rat.intCast_inj.mp te

/-- **The crossing of n - 1 rows isn't 0 just if none is made of the others.** -/
theorem crs_iff {n : Nat} (hn : n ≤ 4) {rows : List (List Int)} (hl : rows.length + 1 = n) (h : ∀ r, r ∈ rows → r.length = n) :
    (¬ Nil n (vv (crs rows))) ↔ rkL n (rows.map vv) + 1 = n := by
  subst hl
  rw [crs_rk (crs_ok rows.length (by omega)) rows rfl h]
  omega
end AB

set_option linter.all false
set_option Elab.async false
namespace AB
open PhBase
/-! ### whole numbers without a common divisor -/
def Prim (t : List Int) : Prop := ∀ k : Nat, (∀ x, x ∈ t → (k : Int) ∣ x) → k = 1

theorem num_den (x : Rat) : x * (x.den : Rat) = (x.num : Rat) := by
  have h : (x.den : Rat) ≠ 0 := by
    intro e
    rw [Rat.natCast_eq_zero_iff] at e
    exact x.den_nz e
  have e : (x.num : Rat) / (x.den : Rat) = x := by
    have := Rat.num_divInt_den x
    rw [Rat.divInt_eq_div, Rat.intCast_natCast] at this
    exact this
  have := Rat.div_mul_cancel (a := (x.num : Rat)) h
  rw [e] at this
  exact this

theorem int_zero {z : Int} (h : (z : Rat) = 0) : z = 0 := Rat.intCast_inj.mp h

theorem prim_uniq {t u : List Int} (hl : t.length = u.length) (ht : Prim t) (hu : Prim u) {s : Rat} (hs : 0 < s) (h : ∀ i, i < t.length → vv u i = s * vv t i) : t = u := by
  -- s = p / q: q u = p t
  have hq : (s.den : Rat) ≠ 0 := by intro e; rw [Rat.natCast_eq_zero_iff] at e; exact s.den_nz e
  have eqn : ∀ i, i < t.length → (s.den : Int) * u.getD i 0 = s.num * t.getD i 0 := by
    intro i hi
    have := h i hi
    rw [vv_at, vv_at] at this
    rw [← Rat.intCast_inj, Rat.intCast_mul, Rat.intCast_mul, this, Rat.intCast_natCast, ← num_den s]
    grind
  have sp : 0 < s.num := by
    have e := num_den s
    have dp : (0 : Rat) < (s.den : Rat) := Rat.natCast_pos.mpr (Nat.pos_of_ne_zero s.den_nz)
    have := Rat.mul_pos hs dp
    rw [e, show (0 : Rat) = ((0 : Int) : Rat) from rfl, Rat.intCast_lt_intCast] at this
    exact this
  have cop : Nat.Coprime s.num.natAbs s.den := s.reduced
  have mem : ∀ (l : List Int) x, x ∈ l → ∃ i, i < l.length ∧ l.getD i 0 = x := by
    intro l x hx
    obtain ⟨i, hi, e⟩ := List.mem_iff_getElem.mp hx
    exact ⟨i, hi, by simp [List.getD_eq_getElem?_getD, hi, e]⟩
  have p1 : s.num.natAbs = 1 := hu _ fun x hx => by
    obtain ⟨i, hi, e⟩ := mem u x hx
    have := eqn i (by omega)
    rw [e] at this
    rw [← Int.natAbs_dvd_natAbs, Int.natAbs_natCast]
    have d : s.num.natAbs ∣ s.den * x.natAbs := by
      rw [← Int.natAbs_natCast s.den, ← Int.natAbs_mul, this, Int.natAbs_mul]
      exact Nat.dvd_mul_right ..
    exact cop.dvd_of_dvd_mul_left d
  have q1 : s.den = 1 := ht _ fun x hx => by
    obtain ⟨i, hi, e⟩ := mem t x hx
    have := eqn i (by omega)
    rw [e] at this
    rw [← Int.natAbs_dvd_natAbs, Int.natAbs_natCast]
    have d : s.den ∣ s.num.natAbs * x.natAbs := by
      rw [← Int.natAbs_mul, ← this, Int.natAbs_mul, Int.natAbs_natCast]
      exact Nat.dvd_mul_right ..
    exact cop.symm.dvd_of_dvd_mul_left d
  apply List.ext_getElem hl
  intro i h1 h2
  have := eqn i h1
  rw [q1] at this
  have pn : s.num = 1 := by omega
  rw [pn] at this
  simp [List.getD_eq_getElem?_getD, h1, h2] at this
  exact this.symm

theorem gcd_dvd (k : Nat) : ∀ (l : List Int) (n : Nat), k ∣ l.foldl (fun (n : Nat) (x : Int) => Nat.gcd n x.natAbs) n ↔ k ∣ n ∧ ∀ x, x ∈ l → (k : Int) ∣ x
  | [], n => by simp
  | x :: l, n => by
    rw [List.foldl_cons, gcd_dvd k l, Nat.dvd_gcd_iff]
    have : k ∣ x.natAbs ↔ (k : Int) ∣ x := by rw [← Int.natAbs_dvd_natAbs, Int.natAbs_natCast]
    rw [this]
    constructor
    · rintro ⟨⟨h1, h2⟩, h3⟩
      refine ⟨h1, fun y hy => ?_⟩
      rcases List.mem_cons.mp hy with e | e
      · rw [e]; exact h2
      · exact h3 y e
    · rintro ⟨h1, h2⟩
      exact ⟨⟨h1, h2 x (List.mem_cons_self ..)⟩, fun y hy => h2 y (List.mem_cons_of_mem _ hy)⟩

def gcdL (l : List Int) : Nat := l.foldl (fun (n : Nat) (x : Int) => Nat.gcd n x.natAbs) 0
theorem gcdL_dvd {l : List Int} {x : Int} (h : x ∈ l) : (gcdL l : Int) ∣ x := ((gcd_dvd (gcdL l) l 0).mp (Nat.dvd_refl _)).2 x h
theorem gcdL_pos {l : List Int} {x : Int} (h : x ∈ l) (nz : x ≠ 0) : 0 < gcdL l := by
  apply Nat.pos_of_ne_zero
  intro e
  have := gcdL_dvd h
  rw [e] at this
  exact nz (Int.zero_dvd.mp this)
/-- divided by the greatest that divides all, and with any sign: nothing divides all -/
theorem prim_div {l : List Int} (hp : 0 < gcdL l) {e : Int} (he : e = (gcdL l : Int) ∨ e = -(gcdL l : Int)) {u : List Int} (hu : u.length = l.length) (hm : ∀ i, i < l.length → l.getD i 0 = e * u.getD i 0) : Prim u := by
  intro k hk
  have : k * gcdL l ∣ gcdL l := (gcd_dvd _ l 0).mpr ⟨Nat.dvd_zero _, fun x hx => by
    obtain ⟨i, hi, ex⟩ := List.mem_iff_getElem.mp hx
    have h1 := hm i hi
    have h2 : l.getD i 0 = x := by simp [List.getD_eq_getElem?_getD, hi, ex]
    have h3 : u.getD i 0 ∈ u := by simp [List.getD_eq_getElem?_getD, hu ▸ hi]
    obtain ⟨c, hc⟩ := hk _ h3
    rw [← h2, h1, hc]
    rcases he with q | q <;> rw [q]
    · exact ⟨c, by push_cast; grind⟩
    · exact ⟨-c, by push_cast; grind⟩⟩
  have := Nat.le_of_dvd hp this
  rcases k with _ | _ | k
  · rename_i h
    simp at *
    omega
  · rfl
  · exfalso
    have : (k + 1 + 1) * gcdL l ≤ 1 * gcdL l := by omega
    have := Nat.le_of_mul_le_mul_right this hp
    omega

/-! ### the specification's plain half spaces -/
theorem lcm_dvd : ∀ (l : List Rat) (n : Nat), n ∣ l.foldl (fun (n : Nat) (x : Rat) => Nat.lcm n x.den) n ∧ (∀ x, x ∈ l → x.den ∣ l.foldl (fun (n : Nat) (x : Rat) => Nat.lcm n x.den) n) ∧ (n ≠ 0 → l.foldl (fun (n : Nat) (x : Rat) => Nat.lcm n x.den) n ≠ 0)
  | [], n => ⟨Nat.dvd_refl n, by simp, id⟩
  | x :: l, n => by
    rw [List.foldl_cons]
    obtain ⟨h1, h2, h3⟩ := lcm_dvd l (Nat.lcm n x.den)
    refine ⟨Nat.dvd_trans (Nat.dvd_lcm_left ..) h1, fun y hy => ?_, fun hn => h3 ?_⟩
    · rcases List.mem_cons.mp hy with e | e
      · rw [e]; exact Nat.dvd_trans (Nat.dvd_lcm_right ..) h1
      · exact h2 y e
    · exact Nat.lcm_ne_zero hn x.den_nz

theorem whole {x : Rat} {d : Nat} (h : x.den ∣ d) : x * (d : Rat) = ((x * (d : Rat)).num : Rat) := by
  obtain ⟨e, rfl⟩ := h
  have : x * ((x.den * e : Nat) : Rat) = ((x.num * (e : Int) : Int) : Rat) := by
    rw [Rat.natCast_mul, Rat.intCast_mul, Rat.intCast_natCast, ← num_den x]; grind
  rw [this]; rfl

/-- the half space of n + 1 whole numbers -/
def hf (t : List Int) : Half := ⟨iv (t.take (t.length - 1)), ((t.getD (t.length - 1) 0 : Int) : Rat)⟩

theorem take_last {n : Nat} {t : List Int} (h : t.length = n + 1) : t.take n ++ [t.getD n 0] = t := by
  apply List.ext_getElem
  · simp [h]
  · intro i h1 h2
    by_cases q : i < n
    · rw [List.getElem_append_left (by simp; omega), List.getElem_take]
    · have e : i = n := by omega
      subst e
      rw [List.getElem_append_right (by simp; omega)]
      simp [List.getD_eq_getElem?_getD, h2]

theorem plain_ok {n : Nat} {h : Half} (hl : h.a.length = n) (nz : ¬ Nil n (tv h.a)) : ∃ t : List Int, t.length = n + 1 ∧ Prim t ∧ plain h = hf t ∧ ∃ s : Rat, 0 < s ∧ (∀ i, i < n → vv t i = s * tv h.a i) ∧ vv t n = s * h.b := by
  let l := h.b :: h.a
  let d := l.foldl (fun (n : Nat) (x : Rat) => Nat.lcm n x.den) 1
  obtain ⟨_, dv, dn⟩ := lcm_dvd l 1
  have d0 : d ≠ 0 := dn (by decide)
  let z := l.map fun (x : Rat) => (x * (d : Rat)).num
  let g := gcdL z
  have wh : ∀ x, x ∈ l → x * (d : Rat) = ((x * (d : Rat)).num : Rat) := fun x hx => whole (dv x hx)
  have dr : (0 : Rat) < (d : Rat) := Rat.natCast_pos.mpr (Nat.pos_of_ne_zero d0)
  have g0 : 0 < g := by
    obtain ⟨i, hi, ni, _⟩ := last_place n _ nz
    have hi' : i < h.a.length := by omega
    have ei : tv h.a i = h.a[i] := by simp [tv, List.getD_eq_getElem?_getD, hi']
    have mm : h.a[i] ∈ l := List.mem_cons_of_mem _ (List.getElem_mem hi')
    refine gcdL_pos (x := (h.a[i] * (d : Rat)).num) (List.mem_map_of_mem mm) fun e => ?_
    have := wh _ mm
    rw [e] at this
    rcases Rat.mul_eq_zero.mp this with q | q
    · exact ni (ei.trans q)
    · grind
  have gr : (0 : Rat) < (g : Rat) := Rat.natCast_pos.mpr g0
  let q : Rat → Int := fun x => (x * (d : Rat)).num / (g : Int)
  have qm : ∀ x, x ∈ l → (x * (d : Rat)).num = (g : Int) * q x := fun x hx => (Int.mul_ediv_cancel' (gcdL_dvd (List.mem_map_of_mem (f := fun (x : Rat) => (x * (d : Rat)).num) hx))).symm
  have qr : ∀ x, x ∈ l → x * (d : Rat) / (g : Rat) = (q x : Rat) := fun x hx => by
    rw [wh x hx, qm x hx, Rat.intCast_mul, Rat.intCast_natCast]
    have := Rat.mul_div_cancel (a := (q x : Rat)) (b := (g : Rat)) (by grind)
    rw [← this]; congr 1; grind
  let t := h.a.map q ++ [q h.b]
  have tl : t.length = n + 1 := by simp [t, hl]
  have tt : t.take (t.length - 1) = h.a.map q := by
    rw [tl, Nat.add_sub_cancel]
    show (h.a.map q ++ [q h.b]).take n = _
    rw [List.take_append_of_le_length (by simp [hl]), List.take_of_length_le (by simp [hl])]
  have tn : t.getD (t.length - 1) 0 = q h.b := by
    rw [tl, Nat.add_sub_cancel]
    simp [t, List.getD_eq_getElem?_getD, hl]
  refine ⟨t, tl, ?_, ?_, (d : Rat) / (g : Rat), div_pos dr gr, ?_, ?_⟩
  · intro k hk
    refine prim_div (l := z) (e := (g : Int)) g0 (.inl rfl) (u := q h.b :: h.a.map q) (by simp [z, l]) (fun i hi => ?_) k (fun x hx => hk x ?_)
    · cases i with
      | zero => simpa [z, l] using qm h.b (List.mem_cons_self ..)
      | succ i =>
        have hi' : i < h.a.length := by simpa [z, l] using hi
        have := qm h.a[i] (List.mem_cons_of_mem _ (List.getElem_mem hi'))
        simp [z, l, List.getD_eq_getElem?_getD, hi']
        exact this
    · show x ∈ h.a.map q ++ [q h.b]
      rcases List.mem_cons.mp hx with e | e
      · simp [e]
      · exact List.mem_append_left _ e
  · unfold plain
    have gz : ¬ z.foldl (fun (n : Nat) (x : Int) => Nat.gcd n x.natAbs) 0 = 0 := Nat.pos_iff_ne_zero.mp g0
    show (if z.foldl (fun (n : Nat) (x : Int) => Nat.gcd n x.natAbs) 0 = 0 then h else _) = _
    rw [if_neg gz]
    unfold hf
    rw [tt, tn]
    congr 1
    · show h.a.map (fun (x : Rat) => x * (d : Rat) / (g : Rat)) = iv (h.a.map q)
      unfold iv
      rw [List.map_map]
      exact List.map_congr_left fun x hx => qr x (List.mem_cons_of_mem _ hx)
    · exact qr h.b (List.mem_cons_self ..)
  · intro i hi
    have hi' : i < h.a.length := by omega
    rw [vv_at]
    have e1 : t.getD i 0 = q h.a[i] := by simp [t, List.getD_eq_getElem?_getD, hi', List.getElem?_append_left]
    rw [e1, ← qr _ (List.mem_cons_of_mem _ (List.getElem_mem hi'))]
    have ei : tv h.a i = h.a[i] := by simp [tv, List.getD_eq_getElem?_getD, hi']
    rw [ei]
    rw [Rat.div_def, Rat.div_def]; grind
  · rw [vv_at]
    have e1 : t.getD n 0 = q h.b := by rw [← tn, tl, Nat.add_sub_cancel]
    rw [e1, ← qr _ (List.mem_cons_self ..)]
    rw [Rat.div_def, Rat.div_def]; grind

/-! ### sides in whole numbers -/
structure PS (n : Nat) (l : List V) (t : List Int) : Prop where
  len : t.length = n + 1
  prim : Prim t
  nz : ¬ Nil n (vv t)
  fac : Fac n l (vv t) (vv t n)

theorem Fac.congr {n : Nat} {l : List V} {a a' : V} {b : Rat} (h : ∀ i, i < n → a i = a' i) (f : Fac n l a b) : Fac n l a' b := by
  have e : ∀ p, dt n p a = dt n p a' := fun p => dt_congr (fun _ _ => rfl) h
  refine ⟨fun p hp => by rw [← e]; exact f.1 p hp, ?_⟩
  have : tights n l (hb a' b) = tights n l (hb a b) := List.filter_congr fun p _ => by rw [dt_hb, dt_hb, e]
  rw [this]; exact f.2

theorem Fac.scale {n : Nat} {l : List V} {a a' : V} {b : Rat} {s : Rat} (hs : 0 < s) (h : ∀ i, i < n → a' i = s * a i) (f : Fac n l a b) : Fac n l a' (s * b) := by
  have e : ∀ p, dt n p a' = s * dt n p a := fun p => by
    have : dt n p a' = dt n p (lin zv s a) := dt_congr (fun _ _ => rfl) fun i hi => by rw [h i hi, lin_at]; simp only [zv]; grind
    rw [this, dt_lin, dt_zero n p zv fun _ _ => rfl]; grind
  refine ⟨fun p hp => ?_, ?_⟩
  · rw [e]; exact Rat.mul_le_mul_of_nonneg_left (f.1 p hp) (by grind)
  · have : tights n l (hb a' (s * b)) = tights n l (hb a b) := List.filter_congr fun p _ => by
      rw [dt_hb, dt_hb, e]
      rw [Bool.eq_iff_iff, decide_eq_true_iff, decide_eq_true_iff]
      constructor
      · intro q
        have : s * (dt n p a - b) = 0 := by grind
        rcases Rat.mul_eq_zero.mp this with w | w
        · grind
        · exact w
      · intro q
        have : dt n p a = b := by grind
        rw [this]; grind
    rw [this]; exact f.2

/-- a side of a body of full dimension isn't 0 -/
theorem Fac.nz {n : Nat} (hn : 0 < n) {l : List V} (full : rkL (n + 1) (l.map hm) = n + 1) {a : V} {b : Rat} (f : Fac n l a b) : ¬ Nil n a := by
  intro q
  have e : ∀ p, dt n p a = 0 := fun p => dt_zero n p a q
  by_cases hb0 : b = 0
  · have : tights n l (hb a b) = l := List.filter_eq_self.mpr fun p _ => by rw [dt_hb, e, hb0]; exact decide_eq_true (by grind)
    have h2 := f.2
    rw [this, full] at h2
    omega
  · have : tights n l (hb a b) = [] := List.filter_eq_nil_iff.mpr fun p _ => by
      rw [dt_hb, e]
      intro w
      have := of_decide_eq_true w
      apply hb0; grind
    have h2 := f.2
    rw [this, List.map_nil, rkL_nil] at h2
    omega

theorem PS.of_fac {n : Nat} {l : List V} {a : V} {b : Rat} (nz : ¬ Nil n a) (f : Fac n l a b) : ∃ t, PS n l t ∧ ∃ s : Rat, 0 < s ∧ (∀ i, i < n → vv t i = s * a i) ∧ vv t n = s * b := by
  have ha : ∀ i, i < n → tv ((List.range n).map a) i = a i := fun i hi => tv_map_range n a hi
  obtain ⟨t, t1, t2, _, s, s0, s1, s2⟩ := plain_ok (n := n) (h := ⟨(List.range n).map a, b⟩) (by simp) (fun q => nz fun i hi => by rw [← ha i hi]; exact q i hi)
  have s1' : ∀ i, i < n → vv t i = s * a i := fun i hi => by rw [s1 i hi]; show s * tv ((List.range n).map a) i = _; rw [ha i hi]
  refine ⟨t, ⟨t1, t2, fun q => nz fun i hi => ?_, ?_⟩, s, s0, s1', s2⟩
  · have := s1' i hi
    rw [q i hi] at this
    rcases Rat.mul_eq_zero.mp this.symm with w | w
    · grind
    · exact w
  · rw [s2]; exact f.scale s0 s1'

/-- two that are told by the same points, one a positive so much of the other -/
theorem PS.uniq {n : Nat} {l l' : List V} {t u : List Int} (ht : PS n l t) (hu : PS n l' u) {s : Rat} (hs : 0 < s) (h1 : ∀ i, i < n → vv u i = s * vv t i) (h2 : vv u n = s * vv t n) : t = u :=
  prim_uniq (ht.len.trans hu.len.symm) ht.prim hu.prim hs fun i hi => by
    rw [ht.len] at hi
    by_cases q : i = n
    · rw [q]; exact h2
    · exact h1 i (by omega)

theorem PS.crn {n : Nat} {l m : List V} (C : Crn n l m) {t : List Int} : PS n m t ↔ PS n l t :=
  ⟨fun h => ⟨h.len, h.prim, h.nz, (C.fac _ _).mp h.fac⟩, fun h => ⟨h.len, h.prim, h.nz, (C.fac _ _).mpr h.fac⟩⟩
end AB

set_option linter.all false
set_option Elab.async false
namespace AB
open PhBase
/-! ### sides, as they are found in whole numbers -/
def aheadT (few : List (List Int)) : List Int := crs (few.tail.map (dirn (few.headD [])))
def sideT (few points : List (List Int)) : List Int :=
  if (aheadT few).all (fun x => decide (x = 0)) then [] else
  if ((points.map fun p => tog (aheadT few) p - tog (aheadT few) (few.headD [])).any fun x => decide (x < 0)) && ((points.map fun p => tog (aheadT few) p - tog (aheadT few) (few.headD [])).any fun x => decide (0 < x)) then [] else
  (aheadT few ++ [tog (aheadT few) (few.headD [])]).map fun x =>
    Int.fdiv x (if (points.map fun p => tog (aheadT few) p - tog (aheadT few) (few.headD [])).any (fun x => decide (0 < x)) then -(gcdL (aheadT few ++ [tog (aheadT few) (few.headD [])]) : Int) else (gcdL (aheadT few ++ [tog (aheadT few) (few.headD [])]) : Int))

theorem diffs_orth {n : Nat} {p : List Int} {r : List (List Int)} (hp : p.length = n) (hr : ∀ q, q ∈ r → q.length = n) (d : V) :
    Orth n ((r.map (dirn p)).map vv) d ↔ Orth n ((r.map vv).map fun q => lin q (-1) (vv p)) d := by
  have e : ∀ q, q ∈ r → dt n (vv (dirn p q)) d = dt n (lin (vv q) (-1) (vv p)) d := fun q hq => dt_congr (fun i _ => by
    rw [vv_dirn (by rw [hp, hr q hq]), lin_at]; grind) fun _ _ => rfl
  constructor
  · intro h s hs
    obtain ⟨v, hv, rfl⟩ := List.mem_map.mp hs
    obtain ⟨q, hq, rfl⟩ := List.mem_map.mp hv
    rw [← e q hq]
    exact h _ (List.mem_map_of_mem (List.mem_map_of_mem hq))
  · intro h s hs
    obtain ⟨v, hv, rfl⟩ := List.mem_map.mp hs
    obtain ⟨q, hq, rfl⟩ := List.mem_map.mp hv
    rw [e q hq]
    exact h (lin (vv q) (-1) (vv p)) (List.mem_map.mpr ⟨vv q, List.mem_map_of_mem hq, rfl⟩)

theorem few_rk {n : Nat} {p : List Int} {r : List (List Int)} (hp : p.length = n) (hr : ∀ q, q ∈ r → q.length = n) :
    rkL (n + 1) ((p :: r).map fun q => hm (vv q)) = rkL n ((r.map (dirn p)).map vv) + 1 := by
  have e : ((p :: r).map fun q => hm (vv q)) = (vv p :: r.map vv).map hm := by simp
  rw [e, rk_diffs, rkL_congr (diffs_orth hp hr)]

/-- what a crossing of points tells -/
structure Ahead (n : Nat) (few : List (List Int)) : Prop where
  len : (aheadT few).length = n
  bound : ∀ q, q ∈ few → dt n (vv q) (vv (aheadT few)) = ((tog (aheadT few) (few.headD []) : Int) : Rat)
  nz : ¬ Nil n (vv (aheadT few)) ↔ rkL (n + 1) (few.map fun q => hm (vv q)) = n
  orth : Orth n ((few.tail.map (dirn (few.headD []))).map vv) (vv (aheadT few))

theorem ahead_ok {n : Nat} (hn : 1 ≤ n) (hn4 : n ≤ 4) {few : List (List Int)} (hl : few.length = n) (h : ∀ q, q ∈ few → q.length = n) : Ahead n few := by
  match few, hl, h with
  | [], hl, _ => simp at hl; omega
  | p :: r, hl, h =>
    have hp := h p (List.mem_cons_self ..)
    have hr : ∀ q, q ∈ r → q.length = n := fun q hq => h q (List.mem_cons_of_mem _ hq)
    have dl : (r.map (dirn p)).length + 1 = n := by rw [List.length_map]; simpa using hl
    have dn : ∀ q, q ∈ r.map (dirn p) → q.length = n := fun q hq => by
      obtain ⟨s, hs, rfl⟩ := List.mem_map.mp hq
      exact dirn_len hp (hr s hs)
    have al : (aheadT (p :: r)).length = n := by show (crs (r.map (dirn p))).length = n; rw [crs_len, dl]
    have o : Orth n ((r.map (dirn p)).map vv) (vv (crs (r.map (dirn p)))) := by
      have := crs_orth' (rows := r.map (dirn p)) (by omega) (by rw [dl]; exact dn)
      rw [dl] at this; exact this
    have tp : ((tog (aheadT (p :: r)) ((p :: r).headD []) : Int) : Rat) = dt n (vv p) (vv (aheadT (p :: r))) := by
      rw [dt_comm]; exact tog_eq al hp
    refine ⟨al, fun q hq => ?_, ?_, o⟩
    · rw [tp]
      rcases List.mem_cons.mp hq with e | e
      · rw [e]
      · have := (diffs_orth hp hr _).mp o (lin (vv q) (-1) (vv p)) (List.mem_map.mpr ⟨vv q, List.mem_map_of_mem e, rfl⟩)
        rw [dt_lin'] at this
        show dt n (vv q) (vv (crs (r.map (dirn p)))) = dt n (vv p) (vv (crs (r.map (dirn p))))
        grind
    · rw [few_rk hp hr]
      exact crs_iff hn4 dl dn

theorem nil_all {n : Nat} {l : List Int} (hl : l.length = n) : l.all (fun x => decide (x = 0)) = true ↔ Nil n (vv l) := by
  rw [List.all_eq_true]
  constructor
  · intro h i hi
    rw [vv_at]
    have := of_decide_eq_true (h _ (List.getElem_mem (by omega : i < l.length)))
    simp [List.getD_eq_getElem?_getD, (by omega : i < l.length), this]
  · intro h x hx
    obtain ⟨i, hi, rfl⟩ := List.mem_iff_getElem.mp hx
    have := h i (by omega)
    rw [vv_at] at this
    have := int_zero this
    simp [List.getD_eq_getElem?_getD, hi] at this
    exact decide_eq_true this

theorem vv_snoc {n : Nat} {a : List Int} {b : Int} (hl : a.length = n) : (∀ i, i < n → vv (a ++ [b]) i = vv a i) ∧ vv (a ++ [b]) n = (b : Rat) := by
  constructor
  · intro i hi
    rw [vv_at, vv_at, List.getD_eq_getElem?_getD, List.getD_eq_getElem?_getD, List.getElem?_append_left (by omega)]
  · rw [vv_at, List.getD_eq_getElem?_getD, List.getElem?_append_right (by omega), hl]
    simp

/-- the side that is found is one -/
theorem sideT_sound {n : Nat} (hn : 1 ≤ n) (hn4 : n ≤ 4) {P few : List (List Int)} (hP : ∀ q, q ∈ P → q.length = n) (sub : ∀ q, q ∈ few → q ∈ P) (hl : few.length = n) (ne : sideT few P ≠ []) :
    PS n (P.map vv) (sideT few P) ∧ ∃ e : Int, e ≠ 0 ∧ (∀ i, i < n → (e : Rat) * vv (sideT few P) i = vv (aheadT few) i) ∧ (e : Rat) * vv (sideT few P) n = ((tog (aheadT few) (few.headD []) : Int) : Rat) ∧
      (e < 0 ↔ ∃ q, q ∈ P ∧ 0 < tog (aheadT few) q - tog (aheadT few) (few.headD [])) := by
  have A := ahead_ok hn hn4 hl fun q hq => hP q (sub q hq)
  have c1 : ¬ (aheadT few).all (fun x => decide (x = 0)) = true := by
    intro q; apply ne; unfold sideT; rw [if_pos q]
  have nz : ¬ Nil n (vv (aheadT few)) := fun q => c1 ((nil_all A.len).mpr q)
  have c2 : ¬ (((P.map fun p => tog (aheadT few) p - tog (aheadT few) (few.headD [])).any fun x => decide (x < 0)) && ((P.map fun p => tog (aheadT few) p - tog (aheadT few) (few.headD [])).any fun x => decide (0 < x))) = true := by
    intro q; apply ne; unfold sideT; rw [if_neg c1, if_pos q]
  have Al := A.len
  have Ab := A.bound
  have Az := A.nz
  clear A
  generalize hb : tog (aheadT few) (few.headD []) = b at *
  generalize ha : aheadT few = a at *
  have anyP : ∀ f : Int → Bool, ((P.map fun p => tog a p - b).any f = true ↔ ∃ q, q ∈ P ∧ f (tog a q - b) = true) := fun f => by
    rw [List.any_eq_true]
    constructor
    · rintro ⟨x, hx, h⟩
      obtain ⟨q, hq, rfl⟩ := List.mem_map.mp hx
      exact ⟨q, hq, h⟩
    · rintro ⟨q, hq, h⟩
      exact ⟨_, List.mem_map_of_mem (f := fun p => tog a p - b) hq, h⟩
  obtain ⟨e, hee⟩ : ∃ e : Int, e = (if (P.map fun p => tog a p - b).any (fun x => decide (0 < x)) then -(gcdL (a ++ [b]) : Int) else (gcdL (a ++ [b]) : Int)) := ⟨_, rfl⟩
  have eT : sideT few P = (a ++ [b]).map fun x => Int.fdiv x e := by
    unfold sideT
    rw [ha, hb, if_neg c1, if_neg c2, hee]
  have gp : 0 < gcdL (a ++ [b]) := by
    obtain ⟨i, hi, ni, _⟩ := last_place n _ nz
    have hi' : i < a.length := by rw [Al]; exact hi
    refine gcdL_pos (x := a[i]) (List.mem_append_left _ (List.getElem_mem hi')) fun z => ni ?_
    rw [vv_at]
    simp [List.getD_eq_getElem?_getD, hi', z]
  have ee : e = (gcdL (a ++ [b]) : Int) ∨ e = -(gcdL (a ++ [b]) : Int) := by
    rw [hee]; split
    · exact .inr rfl
    · exact .inl rfl
  have e0 : e ≠ 0 := by rcases ee with q | q <;> omega
  have ed : ∀ x, x ∈ a ++ [b] → e * Int.fdiv x e = x := fun x hx => by
    have d : e ∣ x := by
      rcases ee with q | q <;> rw [q]
      · exact gcdL_dvd hx
      · exact Int.neg_dvd.mpr (gcdL_dvd hx)
    exact Int.mul_fdiv_cancel' d
  have tl : ((a ++ [b]).map fun x => Int.fdiv x e).length = n + 1 := by simp [Al]
  have rel : ∀ i, i < n + 1 → (e : Rat) * vv ((a ++ [b]).map fun x => Int.fdiv x e) i = vv (a ++ [b]) i := by
    intro i hi
    have hi' : i < (a ++ [b]).length := by simp [Al]; exact hi
    rw [vv_at, vv_at]
    rw [List.getD_eq_getElem?_getD, List.getElem?_map, List.getElem?_eq_getElem hi', List.getD_eq_getElem?_getD, List.getElem?_eq_getElem hi']
    show (e : Rat) * ((Int.fdiv _ e : Int) : Rat) = _
    rw [← Rat.intCast_mul, ed _ (List.getElem_mem hi')]; rfl
  obtain ⟨s1, s2⟩ := vv_snoc (n := n) (b := b) Al
  have sgn : e < 0 ↔ ∃ q, q ∈ P ∧ 0 < tog a q - b := by
    have := anyP fun x => decide (0 < x)
    rw [hee]
    split
    case isTrue h =>
      obtain ⟨q, hq, h⟩ := this.mp h
      exact ⟨fun _ => ⟨q, hq, of_decide_eq_true h⟩, fun _ => by omega⟩
    case isFalse h =>
      exact ⟨fun q => by omega, fun ⟨q, hq, w⟩ => absurd (this.mpr ⟨q, hq, decide_eq_true w⟩) h⟩
  have er : (e : Rat) ≠ 0 := fun z => e0 (int_zero z)
  have rel1 : ∀ i, i < n → (e : Rat) * vv ((a ++ [b]).map fun x => Int.fdiv x e) i = vv a i := fun i hi => by rw [rel i (by omega), s1 i hi]
  have rel2 : (e : Rat) * vv ((a ++ [b]).map fun x => Int.fdiv x e) n = (b : Rat) := by rw [rel n (by omega), s2]
  rw [eT]
  have dte : ∀ v : V, (e : Rat) * dt n v (vv ((a ++ [b]).map fun x => Int.fdiv x e)) = dt n v (vv a) := fun v => by
    have : dt n v (vv a) = dt n v (lin zv e (vv ((a ++ [b]).map fun x => Int.fdiv x e))) := dt_congr (fun _ _ => rfl) fun i hi => by
      rw [← rel1 i hi, lin_at]; simp only [zv]; grind
    rw [this, dt_lin, dt_zero n v zv fun _ _ => rfl]; grind
  refine ⟨⟨tl, ?_, ?_, ?_⟩, e, e0, rel1, rel2, sgn⟩
  · refine prim_div gp ee (by simp) fun i hi => ?_
    rw [List.getD_eq_getElem?_getD, List.getElem?_eq_getElem hi, List.getD_eq_getElem?_getD, List.getElem?_map, List.getElem?_eq_getElem hi]
    exact (ed _ (List.getElem_mem hi)).symm
  · intro q
    refine nz fun i hi => ?_
    rw [← rel1 i hi, q i hi]; grind
  · refine Fac.of (c := few.map vv) ?_ (fun v hv => ?_) (fun v hv => ?_) (fun v hv => ?_) ?_
    · intro q
      refine nz fun i hi => ?_
      rw [← rel1 i hi, q i hi]; grind
    · obtain ⟨p, hp, rfl⟩ := List.mem_map.mp hv
      have tq : ((tog a p : Int) : Rat) = dt n (vv p) (vv a) := by rw [dt_comm]; exact tog_eq Al (hP p hp)
      have d1 := dte (vv p)
      rw [← tq] at d1
      by_cases w : e < 0
      · -- none is below
        have nb : ¬ (tog a p - b < 0) := fun z => c2 (by
          rw [Bool.and_eq_true, anyP, anyP]
          obtain ⟨q, hq, hpos⟩ := sgn.mp w
          exact ⟨⟨p, hp, decide_eq_true z⟩, ⟨q, hq, decide_eq_true hpos⟩⟩)
        have ew : (0 : Rat) < -(e : Rat) := by
          have : (e : Rat) < ((0 : Int) : Rat) := Rat.intCast_lt_intCast.mpr w
          have z0 : ((0 : Int) : Rat) = 0 := rfl
          grind
        have nb' : (b : Rat) ≤ ((tog a p : Int) : Rat) := Rat.intCast_le_intCast.mpr (by omega)
        apply Classical.byContradiction
        intro z
        have z1 : 0 < dt n (vv p) (vv ((a ++ [b]).map fun x => Int.fdiv x e)) - vv ((a ++ [b]).map fun x => Int.fdiv x e) n := by grind
        have := Rat.mul_pos ew z1
        grind
      · have na : ¬ (0 < tog a p - b) := fun z => w (sgn.mpr ⟨p, hp, z⟩)
        have ew : (0 : Rat) < (e : Rat) := by
          have : ((0 : Int) : Rat) < (e : Rat) := Rat.intCast_lt_intCast.mpr (by omega)
          exact this
        have na' : ((tog a p : Int) : Rat) ≤ (b : Rat) := Rat.intCast_le_intCast.mpr (by omega)
        apply Classical.byContradiction
        intro z
        have z1 : 0 < dt n (vv p) (vv ((a ++ [b]).map fun x => Int.fdiv x e)) - vv ((a ++ [b]).map fun x => Int.fdiv x e) n := by grind
        have := Rat.mul_pos ew z1
        grind
    · obtain ⟨p, hp, rfl⟩ := List.mem_map.mp hv
      exact List.mem_map_of_mem (sub p hp)
    · obtain ⟨p, hp, rfl⟩ := List.mem_map.mp hv
      have h1 := Ab p hp
      have h2 := dte (vv p)
      rw [h1, ← rel2] at h2
      have : (e : Rat) * (dt n (vv p) (vv ((a ++ [b]).map fun x => Int.fdiv x e)) - vv ((a ++ [b]).map fun x => Int.fdiv x e) n) = 0 := by grind
      rcases Rat.mul_eq_zero.mp this with q | q
      · exact absurd q er
      · grind
    · rw [List.map_map]
      exact Az.mp nz

/-- each side is found -/
theorem sideT_whole {n : Nat} (hn : 1 ≤ n) (hn4 : n ≤ 4) {P : List (List Int)} (hP : ∀ q, q ∈ P → q.length = n) (full : rkL (n + 1) ((P.map vv).map hm) = n + 1) {t : List Int} (T : PS n (P.map vv) t) :
    ∃ few : List (List Int), few.Sublist P ∧ few.length = n ∧ sideT few P = t := by
  obtain ⟨c, c1, c2, c3, c4⟩ := T.fac.few
  obtain ⟨few, f1, rfl⟩ := List.sublist_map_iff.mp c1
  rw [List.length_map] at c2
  have sub : ∀ q, q ∈ few → q ∈ P := fun q hq => f1.subset hq
  have A := ahead_ok hn hn4 c2 fun q hq => hP q (sub q hq)
  refine ⟨few, f1, c2, ?_⟩
  have rk : rkL (n + 1) (few.map fun q => hm (vv q)) = n := by rw [List.map_map] at c4; exact c4
  have nz := A.nz.mpr rk
  have hne : few ≠ [] := by intro e; rw [e] at c2; simp at c2; omega
  -- ahead is so much of t
  obtain ⟨s, hs⟩ : ∃ s : Rat, ∀ i, i < n → vv (aheadT few) i = s * vv t i := by
    match few, hne, f1, c1, c2, c3, c4, sub, A, rk, nz with
    | p :: r, _, f1, c1, c2, c3, c4, sub, A, rk, nz =>
      have hp := hP p (sub p (List.mem_cons_self ..))
      have hr : ∀ q, q ∈ r → q.length = n := fun q hq => hP q (sub q (List.mem_cons_of_mem _ hq))
      refine orth_one (l := (r.map (dirn p)).map vv) (by rw [← few_rk hp hr]; exact rk) ?_ T.nz A.orth
      rw [diffs_orth hp hr]
      intro v hv
      obtain ⟨u, hu, rfl⟩ := List.mem_map.mp hv
      obtain ⟨q, hq, rfl⟩ := List.mem_map.mp hu
      rw [dt_lin', c3 _ (List.mem_map_of_mem (List.mem_cons_of_mem _ hq)), c3 _ (List.mem_map_of_mem (List.mem_cons_self ..))]; grind
  have dts : ∀ v : V, dt n v (vv (aheadT few)) = s * dt n v (vv t) := fun v => by
    have : dt n v (vv (aheadT few)) = dt n v (lin zv s (vv t)) := dt_congr (fun _ _ => rfl) fun i hi => by
      rw [hs i hi, lin_at]; simp only [zv]; grind
    rw [this, dt_lin, dt_zero n v zv fun _ _ => rfl]; grind
  have s0 : s ≠ 0 := fun z => nz fun i hi => by rw [hs i hi, z]; grind
  have hb : ((tog (aheadT few) (few.headD []) : Int) : Rat) = s * vv t n := by
    obtain ⟨q, hq⟩ := List.exists_mem_of_ne_nil few hne
    rw [← A.bound q hq, dts, c3 _ (List.mem_map_of_mem hq)]
  have high : ∀ p, p ∈ P → ((tog (aheadT few) p - tog (aheadT few) (few.headD []) : Int) : Rat) = s * (dt n (vv p) (vv t) - vv t n) := fun p hp => by
    have tq : ((tog (aheadT few) p : Int) : Rat) = dt n (vv p) (vv (aheadT few)) := by rw [dt_comm]; exact tog_eq A.len (hP p hp)
    rw [Rat.intCast_sub, hb, tq, dts]; grind
  have low : ∀ p, p ∈ P → dt n (vv p) (vv t) - vv t n ≤ 0 := fun p hp => by have := T.fac.1 _ (List.mem_map_of_mem hp); grind
  have z0 : ((0 : Int) : Rat) = 0 := rfl
  -- some point is off the bound
  have off : ∃ p, p ∈ P ∧ dt n (vv p) (vv t) - vv t n < 0 := by
    apply Classical.byContradiction
    intro q
    have all : ∀ p, p ∈ P → dt n (vv p) (vv t) = vv t n := fun p hp => by
      have := low p hp
      have : ¬ dt n (vv p) (vv t) - vv t n < 0 := fun w => q ⟨p, hp, w⟩
      grind
    have : tights n (P.map vv) (AB.hb (vv t) (vv t n)) = P.map vv := List.filter_eq_self.mpr fun v hv => by
      obtain ⟨p, hp, rfl⟩ := List.mem_map.mp hv
      apply decide_eq_true
      rw [dt_hb, all p hp]; grind
    have h2 := T.fac.2
    rw [this, full] at h2
    omega
  have pos_iff : ∀ p, p ∈ P → (0 < tog (aheadT few) p - tog (aheadT few) (few.headD []) ↔ 0 < s * (dt n (vv p) (vv t) - vv t n)) := fun p hp => by
    rw [← high p hp, ← z0, Rat.intCast_lt_intCast]
  have neg_iff : ∀ p, p ∈ P → (tog (aheadT few) p - tog (aheadT few) (few.headD []) < 0 ↔ s * (dt n (vv p) (vv t) - vv t n) < 0) := fun p hp => by
    rw [← high p hp, ← z0, Rat.intCast_lt_intCast]
  have ne : sideT few P ≠ [] := by
    unfold sideT
    have c1 : ¬ (aheadT few).all (fun x => decide (x = 0)) = true := fun q => nz ((nil_all A.len).mp q)
    rw [if_neg c1, if_neg]
    · intro q
      have := congrArg List.length q
      simp at this
    · rw [Bool.and_eq_true, List.any_eq_true, List.any_eq_true]
      rintro ⟨⟨x, hx, x0⟩, ⟨y, hy, y0⟩⟩
      obtain ⟨p, hp, rfl⟩ := List.mem_map.mp hx
      obtain ⟨q, hq, rfl⟩ := List.mem_map.mp hy
      have x0 := (neg_iff p hp).mp (of_decide_eq_true x0)
      have y0 := (pos_iff q hq).mp (of_decide_eq_true y0)
      have lp := low p hp
      have lq := low q hq
      by_cases w : 0 < s
      · have := Rat.mul_nonneg (show 0 ≤ s by grind) (show 0 ≤ -(dt n (vv q) (vv t) - vv t n) by grind)
        grind
      · have := Rat.mul_nonneg (show 0 ≤ -s by grind) (show 0 ≤ -(dt n (vv p) (vv t) - vv t n) by grind)
        grind
  obtain ⟨T', e, e0, r1, r2, r3⟩ := sideT_sound hn hn4 hP sub c2 ne
  have er : (e : Rat) ≠ 0 := fun z => e0 (int_zero z)
  have esgn : 0 < s / (e : Rat) := by
    by_cases w : 0 < s
    · have ne : ¬ e < 0 := by
        rw [r3]
        rintro ⟨q, hq, h⟩
        rw [pos_iff q hq] at h
        have := Rat.mul_nonneg (show 0 ≤ s by grind) (show 0 ≤ -(dt n (vv q) (vv t) - vv t n) by have := low q hq; grind)
        grind
      refine div_pos w ?_
      rw [← z0, Rat.intCast_lt_intCast]; omega
    · have ne : e < 0 := by
        rw [r3]
        obtain ⟨q, hq, h⟩ := off
        refine ⟨q, hq, (pos_iff q hq).mpr ?_⟩
        have := Rat.mul_pos (show 0 < -s by grind) (show 0 < -(dt n (vv q) (vv t) - vv t n) by grind)
        grind
      have ee : (e : Rat) < 0 := by rw [← z0, Rat.intCast_lt_intCast]; exact ne
      have := div_pos (show 0 < -s by grind) (show 0 < -(e : Rat) by grind)
      have q : -s / -(e : Rat) = s / (e : Rat) := by grind
      rw [← q]; exact this
  refine (PS.uniq T T' esgn (fun i hi => ?_) ?_).symm
  · have := r1 i hi
    rw [hs i hi] at this
    grind
  · rw [hb] at r2
    grind

/-- **the specification's sides, ahead of their order** -/
theorem through_iff {n : Nat} (hn : 1 ≤ n) {C : List Pt} (hC : ∀ q, q ∈ C → q.length = n) (h : Half) : h ∈ (choices n C).flatMap (through n C) ↔ ∃ t, PS n (C.map tv) t ∧ h = hf t := by
  -- rows of differences
  have dif : ∀ (p : Pt) (r : List Pt), p.length = n → (∀ q, q ∈ r → q.length = n) → (∀ d, Orth n ((r.map fun (q : Pt) => minus q p).map tv) d ↔ Orth n ((r.map tv).map fun q => lin q (-1) (tv p)) d) := by
    intro p r hp hr d
    have e : ∀ q, q ∈ r → dt n (tv (minus q p)) d = dt n (lin (tv q) (-1) (tv p)) d := fun q hq => dt_congr (fun i _ => by
      rw [tv_minus (by rw [hp, hr q hq]), lin_at]; grind) fun _ _ => rfl
    constructor
    · intro h s hs
      obtain ⟨v, hv, rfl⟩ := List.mem_map.mp hs
      obtain ⟨q, hq, rfl⟩ := List.mem_map.mp hv
      rw [← e q hq]
      exact h _ (List.mem_map_of_mem (List.mem_map_of_mem hq))
    · intro h s hs
      obtain ⟨v, hv, rfl⟩ := List.mem_map.mp hs
      obtain ⟨q, hq, rfl⟩ := List.mem_map.mp hv
      rw [e q hq]
      exact h (lin (tv q) (-1) (tv p)) (List.mem_map.mpr ⟨tv q, List.mem_map_of_mem hq, rfl⟩)
  have frk : ∀ (p : Pt) (r : List Pt), p.length = n → (∀ q, q ∈ r → q.length = n) → rkL (n + 1) ((p :: r).map fun q => hm (tv q)) = rkL n ((r.map fun (q : Pt) => minus q p).map tv) + 1 := by
    intro p r hp hr
    have e : ((p :: r).map fun q => hm (tv q)) = (tv p :: r.map tv).map hm := by simp
    rw [e, rk_diffs, rkL_congr (dif p r hp hr)]
  have val : ∀ k : Half, k.a.length = n → ((C.all (holds k)) = true ↔ ∀ v, v ∈ C.map tv → dt n v (tv k.a) ≤ k.b) := by
    intro k hk
    rw [List.all_eq_true]
    constructor
    · intro h v hv
      obtain ⟨q, hq, rfl⟩ := List.mem_map.mp hv
      have := of_decide_eq_true (h q hq)
      rw [dot_eq hk (hC q hq)] at this
      rw [dt_comm]; exact this
    · intro h q hq
      apply decide_eq_true
      rw [dot_eq hk (hC q hq), dt_comm]
      exact h _ (List.mem_map_of_mem hq)
  constructor
  · intro hh
    obtain ⟨c, hc, hh⟩ := List.mem_flatMap.mp hh
    obtain ⟨c1, c2⟩ := (mem_choices _ _ _).mp hc
    have sub : ∀ q, q ∈ c → q ∈ C := fun q hq => c1.subset hq
    match c, c2, sub, hh with
    | [], c2, _, _ => simp at c2; omega
    | p :: r, c2, sub, hh =>
      have hp := hC p (sub p (List.mem_cons_self ..))
      have hr : ∀ q, q ∈ r → q.length = n := fun q hq => hC q (sub q (List.mem_cons_of_mem _ hq))
      have hrows : ∀ q, q ∈ (r.map fun (q : Pt) => minus q p) → q.length = n := fun q hq => by
        obtain ⟨s, hs, rfl⟩ := List.mem_map.mp hq
        exact minus_len (hr s hs) hp
      obtain ⟨k1, k2⟩ := kernel_ok hrows
      unfold through at hh
      dsimp only at hh
      match hk : kernel n (r.map fun (q : Pt) => minus q p), hh with
      | [], hh => cases hh
      | _ :: _ :: _, hh => cases hh
      | [a], hh =>
        rw [hk] at k1 k2
        obtain ⟨a1, a2, a3⟩ := k2 a (List.mem_cons_self ..)
        have rk : rkL (n + 1) ((p :: r).map fun q => hm (tv q)) = n := by
          rw [frk p r hp hr]
          rw [List.length_singleton] at k1; omega
        have bnd : ∀ q, q ∈ p :: r → dt n (tv q) (tv a) = dt n (tv p) (tv a) := by
          intro q hq
          rcases List.mem_cons.mp hq with e | e
          · rw [e]
          · have := (dif p r hp hr _).mp a2 (lin (tv q) (-1) (tv p)) (List.mem_map.mpr ⟨tv q, List.mem_map_of_mem e, rfl⟩)
            rw [dt_lin'] at this
            grind
        have key : ∀ k : Half, k.a.length = n → ¬ Nil n (tv k.a) → C.all (holds k) = true → (∀ q, q ∈ p :: r → dt n (tv q) (tv k.a) = k.b) → ∃ t, PS n (C.map tv) t ∧ plain k = hf t := by
          intro k q1 q2 q3 q4
          obtain ⟨t, t1, t2, t3, s, s0, s1, s2⟩ := plain_ok q1 q2
          refine ⟨t, ⟨t1, t2, fun q => q2 fun i hi => ?_, ?_⟩, t3⟩
          · have := s1 i hi
            rw [q i hi] at this
            rcases Rat.mul_eq_zero.mp this.symm with w | w
            · grind
            · exact w
          · rw [s2]
            refine Fac.scale s0 s1 (Fac.of (c := (p :: r).map tv) q2 ((val k q1).mp q3) (fun v hv => ?_) (fun v hv => ?_) ?_)
            · obtain ⟨q, hq, rfl⟩ := List.mem_map.mp hv
              exact List.mem_map_of_mem (sub q hq)
            · obtain ⟨q, hq, rfl⟩ := List.mem_map.mp hv
              exact q4 q hq
            · rw [List.map_map]; exact rk
        obtain ⟨k, hk2, rfl⟩ := List.mem_map.mp hh
        obtain ⟨hk3, hk4⟩ := List.mem_filter.mp hk2
        simp only [List.mem_cons, List.not_mem_nil, or_false] at hk3
        have dp : dot a p = dt n (tv p) (tv a) := by rw [dot_eq a1 hp, dt_comm]
        rcases hk3 with rfl | rfl
        · exact key _ a1 a3 hk4 fun q hq => by rw [bnd q hq]; exact dp.symm
        · have sc : ∀ v : V, dt n v (tv (scale (-1) a)) = -(dt n v (tv a)) := fun v => by
            have : dt n v (tv (scale (-1) a)) = dt n v (lin zv (-1) (tv a)) := dt_congr (fun _ _ => rfl) fun i _ => by
              rw [tv_scale, lin_at]; simp only [zv]; grind
            rw [this, dt_lin, dt_zero n v zv fun _ _ => rfl]; grind
          refine key _ (by rw [scale_len]; exact a1) (fun q => a3 fun i hi => ?_) hk4 fun q hq => by rw [sc, bnd q hq, dp]
          have := q i hi
          rw [tv_scale] at this; grind
  · rintro ⟨t, T, rfl⟩
    obtain ⟨c, c1, c2, c3, c4⟩ := T.fac.few
    obtain ⟨few, f1, rfl⟩ := List.sublist_map_iff.mp c1
    rw [List.length_map] at c2
    have sub : ∀ q, q ∈ few → q ∈ C := fun q hq => f1.subset hq
    refine List.mem_flatMap.mpr ⟨few, (mem_choices _ _ _).mpr ⟨f1, c2⟩, ?_⟩
    match few, c2, c3, c4, sub with
    | [], c2, _, _, _ => simp at c2; omega
    | p :: r, c2, c3, c4, sub =>
      have hp := hC p (sub p (List.mem_cons_self ..))
      have hr : ∀ q, q ∈ r → q.length = n := fun q hq => hC q (sub q (List.mem_cons_of_mem _ hq))
      have hrows : ∀ q, q ∈ (r.map fun (q : Pt) => minus q p) → q.length = n := fun q hq => by
        obtain ⟨s, hs, rfl⟩ := List.mem_map.mp hq
        exact minus_len (hr s hs) hp
      obtain ⟨k1, k2⟩ := kernel_ok hrows
      have rk : rkL (n + 1) ((p :: r).map fun q => hm (tv q)) = n := by rw [List.map_map] at c4; exact c4
      rw [frk p r hp hr] at rk
      have one : (kernel n (r.map fun (q : Pt) => minus q p)).length = 1 := by omega
      obtain ⟨a, ha⟩ : ∃ a, kernel n (r.map fun (q : Pt) => minus q p) = [a] := by
        match kernel n (r.map fun (q : Pt) => minus q p), one with
        | [a], _ => exact ⟨a, rfl⟩
      rw [ha] at k2
      obtain ⟨a1, a2, a3⟩ := k2 a (List.mem_cons_self ..)
      have to : Orth n ((r.map fun (q : Pt) => minus q p).map tv) (vv t) := by
        rw [dif p r hp hr]
        intro v hv
        obtain ⟨u, hu, rfl⟩ := List.mem_map.mp hv
        obtain ⟨q, hq, rfl⟩ := List.mem_map.mp hu
        rw [dt_lin', c3 _ (List.mem_map_of_mem (List.mem_cons_of_mem _ hq)), c3 _ (List.mem_map_of_mem (List.mem_cons_self ..))]; grind
      obtain ⟨s, hs⟩ := orth_one rk a2 a3 to
      have s0 : s ≠ 0 := fun z => T.nz fun i hi => by rw [hs i hi, z]; grind
      have dts : ∀ v : V, dt n v (vv t) = s * dt n v (tv a) := fun v => by
        have : dt n v (vv t) = dt n v (lin zv s (tv a)) := dt_congr (fun _ _ => rfl) fun i hi => by
          rw [hs i hi, lin_at]; simp only [zv]; grind
        rw [this, dt_lin, dt_zero n v zv fun _ _ => rfl]; grind
      have dp : dot a p = dt n (tv p) (tv a) := by rw [dot_eq a1 hp, dt_comm]
      have tn : vv t n = s * dt n (tv p) (tv a) := by rw [← dts]; exact (c3 _ (List.mem_map_of_mem (List.mem_cons_self ..))).symm
      -- the half space of it that is so much above 0 of t
      have key : ∀ (k : Half) (u : Rat), 0 < u → k.a.length = n → ¬ Nil n (tv k.a) → (∀ i, i < n → vv t i = u * tv k.a i) → vv t n = u * k.b → C.all (holds k) = true ∧ plain k = hf t := by
        intro k u u0 q1 q2 q3 q4
        have du : ∀ v : V, dt n v (vv t) = u * dt n v (tv k.a) := fun v => by
          have : dt n v (vv t) = dt n v (lin zv u (tv k.a)) := dt_congr (fun _ _ => rfl) fun i hi => by
            rw [q3 i hi, lin_at]; simp only [zv]; grind
          rw [this, dt_lin, dt_zero n v zv fun _ _ => rfl]; grind
        constructor
        · rw [val k q1]
          intro v hv
          have := T.fac.1 v hv
          rw [du, q4] at this
          exact Rat.le_of_mul_le_mul_left this u0
        · obtain ⟨t', t1, t2, t3, s', s0', s1, s2⟩ := plain_ok q1 q2
          rw [t3]
          congr 1
          refine (prim_uniq (s := s' / u) (T.len.trans t1.symm) T.prim t2 (div_pos s0' u0) fun i hi => ?_).symm
          rw [T.len] at hi
          have un : u ≠ 0 := by grind
          by_cases w : i = n
          · rw [w, s2, q4]; grind
          · rw [s1 i (by omega), q3 i (by omega)]; grind
      unfold through
      dsimp only
      rw [ha]
      dsimp only
      by_cases w : 0 < s
      · obtain ⟨v1, v2⟩ := key ⟨a, dot a p⟩ s w a1 a3 hs (by rw [tn, dp])
        exact List.mem_map.mpr ⟨_, List.mem_filter.mpr ⟨List.mem_cons_self .., v1⟩, v2⟩
      · obtain ⟨v1, v2⟩ := key ⟨scale (-1) a, -(dot a p)⟩ (-s) (by grind) (by rw [scale_len]; exact a1) (fun q => a3 fun i hi => by
          have := q i hi
          rw [tv_scale] at this; grind) (fun i hi => by rw [hs i hi, tv_scale]; grind) (by rw [tn, dp]; grind)
        exact List.mem_map.mpr ⟨_, List.mem_filter.mpr ⟨List.mem_cons_of_mem _ (List.mem_cons_self ..), v1⟩, v2⟩
end AB

set_option linter.all false
set_option Elab.async false
namespace AB
open PhBase
/-! ### lists in order, each once -/
section
variable {α : Type} [DecidableEq α] (lt : α → α → Bool)
def gins (a : α) : List α → List α
  | [] => [a]
  | b :: l => if a = b then b :: l else if lt a b = true then a :: b :: l else b :: gins a l
def gsort (s l : List α) : List α := l.foldl (fun (s : List α) (a : α) => gins lt a s) s
/-- what an order is asked, among things of one kind -/
structure Ord (lt : α → α → Bool) (D : α → Prop) : Prop where
  irr : ∀ a, lt a a = false
  asy : ∀ a b, lt a b = true → lt b a = false
  tri : ∀ a b, D a → D b → a ≠ b → lt a b = false → lt b a = true
  tra : ∀ a b c, D a → D b → D c → lt a b = true → lt b c = true → lt a c = true
variable {lt}
theorem gins_mem (a x : α) : ∀ l : List α, x ∈ gins lt a l ↔ x = a ∨ x ∈ l
  | [] => by simp [gins]
  | b :: l => by
    unfold gins
    split
    case isTrue h => subst h; simp
    case isFalse h =>
      split
      · simp
      · rw [List.mem_cons, gins_mem a x l, List.mem_cons]
        constructor <;> rintro (h | h | h) <;> simp [h]
theorem gins_sorted {D : α → Prop} (O : Ord lt D) {a : α} (ha : D a) : ∀ {l : List α}, (∀ x, x ∈ l → D x) → l.Pairwise (fun x y => lt x y = true) → (gins lt a l).Pairwise (fun x y => lt x y = true)
  | [], _, _ => by simp [gins]
  | b :: l, hD, h => by
    obtain ⟨h1, h2⟩ := List.pairwise_cons.mp h
    unfold gins
    split
    · exact h
    case isFalse ne =>
      have hb := hD b (List.mem_cons_self ..)
      split
      case isTrue q =>
        refine List.pairwise_cons.mpr ⟨fun x hx => ?_, h⟩
        rcases List.mem_cons.mp hx with e | e
        · rw [e]; exact q
        · exact O.tra _ _ _ ha hb (hD x hx) q (h1 x e)
      case isFalse q =>
        refine List.pairwise_cons.mpr ⟨fun x hx => ?_, gins_sorted O ha (fun x hx => hD x (List.mem_cons_of_mem _ hx)) h2⟩
        rcases (gins_mem a x l).mp hx with e | e
        · rw [e]; exact O.tri a b ha hb ne (by simpa using q)
        · exact h1 x e
theorem gsort_mem (x : α) : ∀ (l s : List α), x ∈ gsort lt s l ↔ x ∈ s ∨ x ∈ l
  | [], s => by simp [gsort]
  | a :: l, s => by
    show x ∈ gsort lt (gins lt a s) l ↔ _
    rw [gsort_mem x l, gins_mem, List.mem_cons]
    constructor
    · rintro ((h | h) | h) <;> simp [h]
    · rintro (h | h | h) <;> simp [h]
theorem gsort_sorted {D : α → Prop} (O : Ord lt D) : ∀ {l s : List α}, (∀ x, x ∈ l → D x) → (∀ x, x ∈ s → D x) → s.Pairwise (fun x y => lt x y = true) → (gsort lt s l).Pairwise (fun x y => lt x y = true)
  | [], s, _, _, h => h
  | a :: l, s, hl, hs, h => by
    show (gsort lt (gins lt a s) l).Pairwise _
    refine gsort_sorted O (fun x hx => hl x (List.mem_cons_of_mem _ hx)) (fun x hx => ?_) (gins_sorted O (hl a (List.mem_cons_self ..)) hs h)
    rcases (gins_mem a x s).mp hx with e | e
    · rw [e]; exact hl a (List.mem_cons_self ..)
    · exact hs x e
theorem gins_len {D : α → Prop} (O : Ord lt D) {a : α} (ha : D a) : ∀ {l : List α}, (∀ x, x ∈ l → D x) → l.Pairwise (fun x y => lt x y = true) → (a ∈ l ∧ gins lt a l = l) ∨ (a ∉ l ∧ (gins lt a l).length = l.length + 1)
  | [], _, _ => .inr ⟨by simp, by simp [gins]⟩
  | b :: l, hD, h => by
    obtain ⟨h1, h2⟩ := List.pairwise_cons.mp h
    unfold gins
    split
    case isTrue e => exact .inl ⟨by rw [e]; exact List.mem_cons_self .., rfl⟩
    case isFalse ne =>
      have hb := hD b (List.mem_cons_self ..)
      split
      case isTrue q =>
        refine .inr ⟨fun hx => ?_, by simp⟩
        rcases List.mem_cons.mp hx with e | e
        · exact ne e
        · have := O.asy _ _ q
          rw [h1 a e] at this; cases this
      case isFalse q =>
        rcases gins_len O ha (fun x hx => hD x (List.mem_cons_of_mem _ hx)) h2 with ⟨m, e⟩ | ⟨m, e⟩
        · exact .inl ⟨List.mem_cons_of_mem _ m, by rw [e]⟩
        · refine .inr ⟨fun hx => ?_, by simp [e]⟩
          rcases List.mem_cons.mp hx with w | w
          · exact ne w
          · exact m w
theorem ord_ext {D : α → Prop} (O : Ord lt D) {l m : List α} (hl : l.Pairwise (fun x y => lt x y = true)) (hm : m.Pairwise (fun x y => lt x y = true)) (h : ∀ x, x ∈ l ↔ x ∈ m) : l = m :=
  sorted_ext (R := fun x y => lt x y = true) (fun a q => by have := O.irr a; rw [q] at this; cases this) (fun a b q w => by have := O.asy a b q; rw [w] at this; cases this) hl hm h
end

/-! ### the order of points -/
theorem before_irr : ∀ a : List Rat, before a a = false
  | [] => rfl
  | x :: a => by
    unfold before
    rw [before_irr a]
    simp
theorem before_asy : ∀ a b : List Rat, before a b = true → before b a = false
  | [], _, h => by simp [before] at h
  | _ :: _, [], h => by simp [before] at h
  | x :: a, y :: b, h => by
    unfold before at h ⊢
    simp only [Bool.or_eq_true, Bool.and_eq_true, decide_eq_true_iff] at h
    simp only [Bool.or_eq_false_iff, Bool.and_eq_false_iff, decide_eq_false_iff_not]
    rcases h with h | ⟨h1, h2⟩
    · refine ⟨by grind, .inl (by grind)⟩
    · exact ⟨by grind, .inr (before_asy a b h2)⟩
theorem before_tri : ∀ a b : List Rat, a.length = b.length → a ≠ b → before a b = false → before b a = true
  | [], [], _, ne, _ => absurd rfl ne
  | x :: a, y :: b, hl, ne, h => by
    unfold before at h ⊢
    simp only [Bool.or_eq_false_iff, Bool.and_eq_false_iff, decide_eq_false_iff_not] at h
    simp only [Bool.or_eq_true, Bool.and_eq_true, decide_eq_true_iff]
    by_cases e : x = y
    · subst e
      refine .inr ⟨rfl, before_tri a b (by simpa using hl) (fun q => ne (by rw [q])) ?_⟩
      rcases h.2 with q | q
      · exact absurd rfl q
      · exact q
    · exact .inl (by grind)
theorem before_tra : ∀ a b c : List Rat, before a b = true → before b c = true → before a c = true
  | [], _, _, h, _ => by simp [before] at h
  | _ :: _, [], _, h, _ => by simp [before] at h
  | _ :: _, _ :: _, [], _, h => by simp [before] at h
  | x :: a, y :: b, z :: c, h, h' => by
    unfold before at h h' ⊢
    simp only [Bool.or_eq_true, Bool.and_eq_true, decide_eq_true_iff] at h h' ⊢
    rcases h with h | ⟨h1, h2⟩ <;> rcases h' with h' | ⟨h1', h2'⟩
    · exact .inl (by grind)
    · exact .inl (by grind)
    · exact .inl (by grind)
    · exact .inr ⟨by grind, before_tra a b c h2 h2'⟩
theorem before_ord (n : Nat) : Ord before (fun a : List Rat => a.length = n) :=
  ⟨before_irr, before_asy, fun a b ha hb => before_tri a b (ha.trans hb.symm), fun a b c _ _ _ => before_tra a b c⟩

theorem insert_gins (p : Pt) : ∀ l, PhBase.insert p l = gins before p l
  | [] => rfl
  | q :: l => by
    unfold PhBase.insert gins
    rw [insert_gins p l]
theorem sorted_gsort (l : List Pt) : sorted l = gsort before [] l := by
  unfold sorted gsort
  have : (fun (s : List Pt) (p : Pt) => PhBase.insert p s) = fun s p => gins before p s := by funext s p; exact insert_gins p s
  rw [this]

theorem half_ord (n : Nat) : Ord halfBefore (fun h : Half => h.a.length = n) := by
  have inj : ∀ h k : Half, h.a.length = n → k.a.length = n → h.a ++ [h.b] = k.a ++ [k.b] → h = k := by
    intro h k e1 e2 e
    obtain ⟨q1, q2⟩ := List.append_inj e (e1.trans e2.symm)
    cases h; cases k
    simp at q1 q2
    rw [q1, q2]
  exact ⟨fun a => before_irr _, fun a b => before_asy _ _, fun a b ha hb ne h => before_tri _ _ (by simp [ha, hb]) (fun q => ne (inj a b ha hb q)) h, fun a b c _ _ _ => before_tra _ _ _⟩
theorem insertHalf_gins (p : Half) : ∀ l, insertHalf p l = gins halfBefore p l
  | [] => rfl
  | q :: l => by
    unfold insertHalf gins
    rw [insertHalf_gins p l]
theorem sortedHalves_gsort (l : List Half) : sortedHalves l = gsort halfBefore [] l := by
  unfold sortedHalves gsort
  have : (fun (s : List Half) (p : Half) => insertHalf p s) = fun s p => gins halfBefore p s := by funext s p; exact insertHalf_gins p s
  rw [this]

/-- rows of whole numbers by the first in which they differ (a shorter one that begins alike stands ahead) -/
def lexI : List Int → List Int → Bool
  | x :: a, y :: b => decide (x < y) || (decide (x = y) && lexI a b)
  | [], _ :: _ => true
  | _, _ => false
theorem lexI_before : ∀ a b : List Int, a.length = b.length → lexI a b = before (iv a) (iv b)
  | [], [], _ => rfl
  | x :: a, y :: b, h => by
    have ih := lexI_before a b (by simpa using h)
    show (decide (x < y) || (decide (x = y) && lexI a b)) = (decide ((x : Rat) < (y : Rat)) || (decide ((x : Rat) = (y : Rat)) && before (iv a) (iv b)))
    rw [ih]
    congr 1
    · rw [decide_eq_decide, Rat.intCast_lt_intCast]
    · congr 1
      rw [decide_eq_decide, Rat.intCast_inj]
theorem iv_inj {a b : List Int} (h : iv a = iv b) : a = b := by
  have hl : a.length = b.length := by have := congrArg List.length h; simpa [iv_len] using this
  apply List.ext_getElem hl
  intro i h1 h2
  have : (iv a)[i]? = (iv b)[i]? := by rw [h]
  simp [iv, h1, h2] at this
  exact this
theorem lexI_ord (n : Nat) : Ord lexI (fun a : List Int => a.length = n) := by
  refine ⟨fun a => ?_, ?_, fun a b ha hb ne h => ?_, fun a b c ha hb hc h h' => ?_⟩
  · rw [lexI_before a a rfl]; exact before_irr _
  · intro a
    induction a with
    | nil => intro b h; cases b <;> simp [lexI] at h ⊢
    | cons x a ih =>
      intro b h
      cases b with
      | nil => simp [lexI] at h
      | cons y b =>
        unfold lexI at h ⊢
        simp only [Bool.or_eq_true, Bool.and_eq_true, decide_eq_true_iff] at h
        simp only [Bool.or_eq_false_iff, Bool.and_eq_false_iff, decide_eq_false_iff_not]
        rcases h with h | ⟨h1, h2⟩
        · exact ⟨by omega, .inl (by omega)⟩
        · exact ⟨by omega, .inr (ih b h2)⟩
  · rw [lexI_before _ _ (ha.trans hb.symm)] at h
    rw [lexI_before _ _ (hb.trans ha.symm)]
    exact before_tri _ _ (by rw [iv_len, iv_len, ha, hb]) (fun q => ne (iv_inj q)) h
  · rw [lexI_before _ _ (ha.trans hb.symm)] at h
    rw [lexI_before _ _ (hb.trans hc.symm)] at h'
    rw [lexI_before _ _ (ha.trans hc.symm)]
    exact before_tra _ _ _ h h'

def srt (l : List (List Int)) : List (List Int) := gsort lexI [] l
theorem srt_mem {l : List (List Int)} {x : List Int} : x ∈ srt l ↔ x ∈ l := by
  unfold srt; rw [gsort_mem]; simp
theorem srt_sorted {n : Nat} {l : List (List Int)} (h : ∀ x, x ∈ l → x.length = n) : (srt l).Pairwise (fun x y => lexI x y = true) :=
  gsort_sorted (lexI_ord n) h (fun x hx => by cases hx) .nil

theorem sorted_iv {n : Nat} {l : List (List Int)} (h : ∀ x, x ∈ l → x.length = n) : sorted (l.map iv) = (srt l).map iv := by
  rw [sorted_gsort]
  refine ord_ext (before_ord n) (gsort_sorted (before_ord n) (fun x hx => ?_) (fun x hx => by cases hx) .nil) ?_ fun x => ?_
  · obtain ⟨y, hy, rfl⟩ := List.mem_map.mp hx
    rw [iv_len]; exact h y hy
  · rw [List.pairwise_map]
    refine (srt_sorted h).imp_of_mem fun {x y} hx hy q => ?_
    rw [← lexI_before x y ((h x (srt_mem.mp hx)).trans (h y (srt_mem.mp hy)).symm)]; exact q
  · rw [gsort_mem, List.mem_map, List.mem_map]
    simp only [srt_mem]
    simp

/-! ### the body, in whole numbers -/
def sidesT (n : Nat) (pts : List (List Int)) : List (List Int) := srt (((choices n pts).map fun few => sideT few pts).filter fun t => decide (t ≠ []))
def tightT (t p : List Int) : Bool := decide (tog (t.take (t.length - 1)) p = t.getD (t.length - 1) 0)
def normals (sides : List (List Int)) (p : List Int) : List (List Int) := (sides.filter fun t => tightT t p).map fun t => t.take (t.length - 1)
def cornT (sides : List (List Int)) (p : List Int) : Bool := decide (hmf (normals sides p).length (normals sides p) = p.length)

theorem take_vv {n : Nat} {t : List Int} (h : t.length = n + 1) {i : Nat} (hi : i < n) : vv (t.take (t.length - 1)) i = vv t i := by
  rw [vv_at, vv_at, List.getD_eq_getElem?_getD, List.getD_eq_getElem?_getD, List.getElem?_take, if_pos (by omega)]
theorem last_vv {n : Nat} {t : List Int} (h : t.length = n + 1) : ((t.getD (t.length - 1) 0 : Int) : Rat) = vv t n := by
  rw [vv_at, h, Nat.add_sub_cancel]

theorem tightT_iff {n : Nat} {t p : List Int} (ht : t.length = n + 1) (hp : p.length = n) : tightT t p = true ↔ dt n (vv p) (vv t) = vv t n := by
  unfold tightT
  rw [decide_eq_true_iff, ← Rat.intCast_inj, tog_eq (n := n) (by rw [List.length_take, ht]; omega) hp, last_vv ht, dt_comm]
  rw [dt_congr (fun _ _ => rfl) fun i hi => take_vv ht hi]

theorem tight_hf {n : Nat} {t p : List Int} (ht : t.length = n + 1) (hp : p.length = n) : tight (hf t) (iv p) = tightT t p := by
  rw [Bool.eq_iff_iff, tightT_iff ht hp]
  unfold tight hf
  rw [decide_eq_true_iff, dot_eq (n := n) (by rw [iv_len, List.length_take, ht]; omega) (by rw [iv_len, hp])]
  show dt n (vv (t.take (t.length - 1))) (vv p) = _ ↔ _
  rw [last_vv ht, dt_comm, dt_congr (fun _ _ => rfl) fun i hi => take_vv ht hi]

/-- points that lie in all dimensions -/
structure Pts (n : Nat) (pts : List (List Int)) : Prop where
  n2 : 2 ≤ n
  n4 : n ≤ 4
  len : ∀ q, q ∈ pts → q.length = n
  full : rkL (n + 1) ((pts.map vv).map hm) = n + 1

theorem Pts.srt {n : Nat} {pts : List (List Int)} (H : Pts n pts) : Pts n (srt pts) := by
  refine ⟨H.n2, H.n4, fun q hq => H.len q (srt_mem.mp hq), ?_⟩
  refine Eq.trans (rkL_congr fun d => ?_) H.full
  rw [orth_map, orth_map]
  simp only [List.mem_map, srt_mem]

theorem sidesT_mem {n : Nat} {pts : List (List Int)} (H : Pts n pts) {t : List Int} : t ∈ sidesT n pts ↔ PS n (pts.map vv) t := by
  unfold sidesT
  rw [srt_mem, List.mem_filter, List.mem_map]
  constructor
  · rintro ⟨⟨few, hf, rfl⟩, ne⟩
    have ne := of_decide_eq_true ne
    obtain ⟨h1, h2⟩ := (mem_choices _ _ _).mp hf
    exact (sideT_sound (by have := H.n2; omega) H.n4 H.len (fun q hq => h1.subset hq) h2 ne).1
  · intro T
    obtain ⟨few, h1, h2, h3⟩ := sideT_whole (by have := H.n2; omega) H.n4 H.len H.full T
    refine ⟨⟨few, (mem_choices _ _ _).mpr ⟨h1, h2⟩, h3⟩, decide_eq_true fun e => ?_⟩
    have := T.len
    rw [e] at this
    simp at this

theorem sidesT_len {n : Nat} {pts : List (List Int)} (H : Pts n pts) : ∀ t, t ∈ sidesT n pts → t.length = n + 1 := fun t ht => ((sidesT_mem H).mp ht).len
theorem sidesT_sorted {n : Nat} {pts : List (List Int)} (H : Pts n pts) : (sidesT n pts).Pairwise (fun x y => lexI x y = true) := by
  unfold sidesT
  refine srt_sorted (n := n + 1) fun t ht => ?_
  exact sidesT_len H t (by unfold sidesT; rw [srt_mem]; exact ht)

/-- the sides as half spaces, all that parts -/
theorem Pts.sides {n : Nat} {pts : List (List Int)} (H : Pts n pts) : Sides n (pts.map vv) ((sidesT n pts).map fun t => (vv t, vv t n)) := by
  constructor
  · intro f hf p hp
    obtain ⟨t, ht, rfl⟩ := List.mem_map.mp hf
    exact ((sidesT_mem H).mp ht).fac.1 p hp
  · intro x hx
    apply Classical.byContradiction
    intro nc
    obtain ⟨a, b, h1, h2, h3⟩ := facet n (pts.map vv) H.full x nc
    have F : Fac n (pts.map vv) a b := ⟨h1, h3⟩
    obtain ⟨t, T, s, s0, s1, s2⟩ := PS.of_fac (F.nz (by have := H.n2; omega) H.full) F
    have := hx _ (List.mem_map_of_mem (f := fun t => (vv t, vv t n)) ((sidesT_mem H).mpr T))
    have e : dt n x (vv t) = s * dt n x a := by
      have : dt n x (vv t) = dt n x (lin zv s a) := dt_congr (fun _ _ => rfl) fun i hi => by rw [s1 i hi, lin_at]; simp only [zv]; grind
      rw [this, dt_lin, dt_zero n x zv fun _ _ => rfl]; grind
    have this : dt n x (vv t) ≤ vv t n := this
    rw [e, s2] at this
    have := Rat.le_of_mul_le_mul_left this s0
    grind

theorem cornT_iff {n : Nat} {pts : List (List Int)} (H : Pts n pts) {p : List Int} (hp : p ∈ pts) : cornT (sidesT n pts) p = true ↔ Corner n (· ∈ pts.map vv) (vv p) := by
  have pl := H.len p hp
  have nl : ∀ r, r ∈ normals (sidesT n pts) p → r.length = n := fun r hr => by
    obtain ⟨t, ht, rfl⟩ := List.mem_map.mp hr
    have := sidesT_len H t (List.mem_filter.mp ht).1
    rw [List.length_take]; omega
  unfold cornT
  rw [decide_eq_true_iff, hmf_rk (n := n) _ _ rfl nl, pl, rkL_full, corner_iff H.sides (List.mem_map_of_mem hp)]
  have key : ∀ d, Orth n ((normals (sidesT n pts) p).map vv) d ↔ ∀ f, f ∈ (sidesT n pts).map (fun t => (vv t, vv t n)) → dt n (vv p) f.1 = f.2 → dt n d f.1 = 0 := by
    intro d
    constructor
    · intro h f hf ht
      obtain ⟨t, htm, rfl⟩ := List.mem_map.mp hf
      have tl := sidesT_len H t htm
      have := h _ (List.mem_map_of_mem (List.mem_map_of_mem (List.mem_filter.mpr ⟨htm, (tightT_iff tl pl).mpr ht⟩)))
      rw [dt_congr (fun i hi => take_vv tl hi) fun _ _ => rfl] at this
      rw [dt_comm]; exact this
    · intro h r hr
      obtain ⟨s, hs, rfl⟩ := List.mem_map.mp hr
      obtain ⟨t, ht, rfl⟩ := List.mem_map.mp hs
      obtain ⟨t1, t2⟩ := List.mem_filter.mp ht
      have tl := sidesT_len H t t1
      rw [dt_congr (fun i hi => take_vv tl hi) fun _ _ => rfl, dt_comm]
      exact h _ (List.mem_map_of_mem (f := fun t => (vv t, vv t n)) t1) ((tightT_iff tl pl).mp t2)
  constructor
  · intro h d hd; exact h d ((key d).mpr hd)
  · intro h d hd; exact h d ((key d).mp hd)

/-- the corners -/
def cornersT (n : Nat) (pts : List (List Int)) : List (List Int) := (srt pts).filter fun p => cornT (sidesT n (srt pts)) p

theorem eqn_iv {n : Nat} {p q : List Int} (hp : p.length = n) (hq : q.length = n) : Eqn n (vv p) (vv q) ↔ p = q := by
  constructor
  · intro h; exact iv_inj (tv_ext (by rw [iv_len, hp]) (by rw [iv_len, hq]) h)
  · rintro rfl; exact fun _ _ => rfl

theorem corners_eq {n : Nat} {pts : List (List Int)} (H : Pts n pts) : Ph01.cornersOf n (pts.map iv) = (cornersT n pts).map iv := by
  unfold Ph01.cornersOf cornersT
  dsimp only
  rw [sorted_iv H.len, List.filter_map]
  congr 1
  apply List.filter_congr
  intro p hp
  have hp' := H.srt.len p hp
  rw [Bool.eq_iff_iff, cornT_iff H.srt hp]
  show (Ph01.mixture n (((srt pts).map iv).filter fun (q : Pt) => decide (q ≠ iv p)) (iv p)).isNone = true ↔ _
  rw [Option.isNone_iff_eq_none, ← Option.not_isSome_iff_eq_none, mixture_iff]
  have : ∀ v, v ∈ ((((srt pts).map iv).filter fun (q : Pt) => decide (q ≠ iv p)).map tv) ↔ v ∈ (srt pts).map vv ∧ ¬ Eqn n v (vv p) := by
    intro v
    constructor
    · intro hv
      obtain ⟨x, hx, rfl⟩ := List.mem_map.mp hv
      obtain ⟨x1, x2⟩ := List.mem_filter.mp hx
      obtain ⟨q, hq, rfl⟩ := List.mem_map.mp x1
      refine ⟨List.mem_map_of_mem hq, fun e => ?_⟩
      exact of_decide_eq_true x2 (by rw [(eqn_iv (H.srt.len q hq) hp').mp e])
    · rintro ⟨hv, ne⟩
      obtain ⟨q, hq, rfl⟩ := List.mem_map.mp hv
      exact List.mem_map.mpr ⟨iv q, List.mem_filter.mpr ⟨List.mem_map_of_mem hq, decide_eq_true fun e => ne (by rw [iv_inj e]; exact fun _ _ => rfl)⟩, rfl⟩
  constructor
  · intro h
    exact ⟨List.mem_map_of_mem hp, fun c => h (c.mono fun v hv => (this v).mpr hv)⟩
  · rintro ⟨_, h⟩ c
    exact h (c.mono fun v hv => (this v).mp hv)

theorem cornersT_sub {n : Nat} {pts : List (List Int)} {p : List Int} (h : p ∈ cornersT n pts) : p ∈ srt pts := (List.mem_filter.mp h).1
theorem cornersT_len {n : Nat} {pts : List (List Int)} (H : Pts n pts) : ∀ p, p ∈ cornersT n pts → p.length = n := fun p hp => H.srt.len p (cornersT_sub hp)
theorem crn {n : Nat} {pts : List (List Int)} (H : Pts n pts) : Crn n ((srt pts).map vv) ((cornersT n pts).map vv) := by
  constructor
  · intro v hv
    obtain ⟨p, hp, rfl⟩ := List.mem_map.mp hv
    exact List.mem_map_of_mem (cornersT_sub hp)
  · intro v hv
    obtain ⟨p, hp, rfl⟩ := List.mem_map.mp hv.1
    exact List.mem_map_of_mem (List.mem_filter.mpr ⟨hp, (cornT_iff H.srt hp).mpr hv⟩)

/-- the corners lie in all dimensions, too -/
theorem Pts.corners {n : Nat} {pts : List (List Int)} (H : Pts n pts) : Pts n (cornersT n pts) :=
  ⟨H.n2, H.n4, cornersT_len H, by rw [rkL_congr (crn H).orth]; exact H.srt.full⟩

theorem iv_tv (l : List (List Int)) : (l.map iv).map tv = l.map vv := by rw [List.map_map]; rfl

theorem hf_before {n : Nat} {t u : List Int} (ht : t.length = n + 1) (hu : u.length = n + 1) : halfBefore (hf t) (hf u) = lexI t u := by
  have e : ∀ {t : List Int}, t.length = n + 1 → (hf t).a ++ [(hf t).b] = iv t := by
    intro t ht
    have := take_last ht
    show iv (t.take (t.length - 1)) ++ [((t.getD (t.length - 1) 0 : Int) : Rat)] = iv t
    rw [ht, Nat.add_sub_cancel]
    have q : iv (t.take n) ++ [((t.getD n 0 : Int) : Rat)] = iv (t.take n ++ [t.getD n 0]) := by simp [iv]
    rw [q, this]
  unfold halfBefore
  rw [e ht, e hu, lexI_before _ _ (ht.trans hu.symm)]

/-- the specification's sides of the corners are the sides found among all points -/
theorem sides_eq {n : Nat} {pts : List (List Int)} (H : Pts n pts) : sides n ((cornersT n pts).map iv) = (sidesT n (srt pts)).map hf := by
  unfold PhBase.sides
  rw [sortedHalves_gsort]
  have hC : ∀ q, q ∈ (cornersT n pts).map iv → q.length = n := fun q hq => by
    obtain ⟨p, hp, rfl⟩ := List.mem_map.mp hq
    rw [iv_len]; exact cornersT_len H p hp
  have mem : ∀ h, h ∈ (choices n ((cornersT n pts).map iv)).flatMap (through n ((cornersT n pts).map iv)) ↔ h ∈ (sidesT n (srt pts)).map hf := by
    intro h
    rw [through_iff (by have := H.n2; omega) hC, iv_tv, List.mem_map]
    constructor
    · rintro ⟨t, T, rfl⟩
      exact ⟨t, (sidesT_mem H.srt).mpr ((PS.crn (crn H)).mp T), rfl⟩
    · rintro ⟨t, T, rfl⟩
      exact ⟨t, (PS.crn (crn H)).mpr ((sidesT_mem H.srt).mp T), rfl⟩
  have al : ∀ h, h ∈ (sidesT n (srt pts)).map hf → h.a.length = n := fun h hh => by
    obtain ⟨t, T, rfl⟩ := List.mem_map.mp hh
    have := sidesT_len H.srt t T
    show (iv (t.take (t.length - 1))).length = n
    rw [iv_len, List.length_take]; omega
  refine ord_ext (half_ord n) (gsort_sorted (half_ord n) (fun x hx => al x ((mem x).mp hx)) (fun x hx => by cases hx) .nil) ?_ fun x => ?_
  · rw [List.pairwise_map]
    refine (sidesT_sorted H.srt).imp_of_mem fun {t u} ht hu q => ?_
    rw [hf_before (sidesT_len H.srt t ht) (sidesT_len H.srt u hu)]; exact q
  · rw [gsort_mem, mem]; simp
end AB

set_option linter.all false
set_option Elab.async false
namespace AB
open PhBase
/-! ### the order of faces -/
theorem lexLess_irr : ∀ a : List Nat, Ph02.sizeBefore.lexLess a a = false
  | [] => rfl
  | x :: a => by unfold Ph02.sizeBefore.lexLess; rw [lexLess_irr a]; simp
theorem lexLess_asy : ∀ a b : List Nat, Ph02.sizeBefore.lexLess a b = true → Ph02.sizeBefore.lexLess b a = false
  | [], _, h => by simp [Ph02.sizeBefore.lexLess] at h
  | _ :: _, [], h => by simp [Ph02.sizeBefore.lexLess] at h
  | x :: a, y :: b, h => by
    unfold Ph02.sizeBefore.lexLess at h ⊢
    simp only [Bool.or_eq_true, Bool.and_eq_true, decide_eq_true_iff, beq_iff_eq] at h
    simp only [Bool.or_eq_false_iff, Bool.and_eq_false_iff, decide_eq_false_iff_not, beq_eq_false_iff_ne]
    rcases h with h | ⟨h1, h2⟩
    · exact ⟨by omega, .inl (by omega)⟩
    · exact ⟨by omega, .inr (lexLess_asy a b h2)⟩
theorem lexLess_tri : ∀ a b : List Nat, a.length = b.length → a ≠ b → Ph02.sizeBefore.lexLess a b = false → Ph02.sizeBefore.lexLess b a = true
  | [], [], _, ne, _ => absurd rfl ne
  | x :: a, y :: b, hl, ne, h => by
    unfold Ph02.sizeBefore.lexLess at h ⊢
    simp only [Bool.or_eq_false_iff, Bool.and_eq_false_iff, decide_eq_false_iff_not, beq_eq_false_iff_ne] at h
    simp only [Bool.or_eq_true, Bool.and_eq_true, decide_eq_true_iff, beq_iff_eq]
    by_cases e : x = y
    · subst e
      refine .inr ⟨rfl, lexLess_tri a b (by simpa using hl) (fun q => ne (by rw [q])) ?_⟩
      rcases h.2 with q | q
      · exact absurd rfl q
      · exact q
    · exact .inl (by omega)
theorem lexLess_tra : ∀ a b c : List Nat, Ph02.sizeBefore.lexLess a b = true → Ph02.sizeBefore.lexLess b c = true → Ph02.sizeBefore.lexLess a c = true
  | [], _, _, h, _ => by simp [Ph02.sizeBefore.lexLess] at h
  | _ :: _, [], _, h, _ => by simp [Ph02.sizeBefore.lexLess] at h
  | _ :: _, _ :: _, [], _, h => by simp [Ph02.sizeBefore.lexLess] at h
  | x :: a, y :: b, z :: c, h, h' => by
    unfold Ph02.sizeBefore.lexLess at h h' ⊢
    simp only [Bool.or_eq_true, Bool.and_eq_true, decide_eq_true_iff, beq_iff_eq] at h h' ⊢
    rcases h with h | ⟨h1, h2⟩ <;> rcases h' with h' | ⟨h1', h2'⟩
    · exact .inl (by omega)
    · exact .inl (by omega)
    · exact .inl (by omega)
    · exact .inr ⟨by omega, lexLess_tra a b c h2 h2'⟩
theorem size_ord : Ord Ph02.sizeBefore (fun _ : List Nat => True) := by
  constructor
  · intro a; unfold Ph02.sizeBefore; rw [lexLess_irr]; simp
  · intro a b h
    unfold Ph02.sizeBefore at h ⊢
    simp only [Bool.or_eq_true, Bool.and_eq_true, decide_eq_true_iff, beq_iff_eq] at h
    simp only [Bool.or_eq_false_iff, Bool.and_eq_false_iff, decide_eq_false_iff_not, beq_eq_false_iff_ne]
    rcases h with h | ⟨h1, h2⟩
    · exact ⟨by omega, .inl (by omega)⟩
    · exact ⟨by omega, .inr (lexLess_asy a b h2)⟩
  · intro a b _ _ ne h
    unfold Ph02.sizeBefore at h ⊢
    simp only [Bool.or_eq_false_iff, Bool.and_eq_false_iff, decide_eq_false_iff_not, beq_eq_false_iff_ne] at h
    simp only [Bool.or_eq_true, Bool.and_eq_true, decide_eq_true_iff, beq_iff_eq]
    by_cases e : a.length = b.length
    · refine .inr ⟨e.symm, lexLess_tri a b e ne ?_⟩
      rcases h.2 with q | q
      · exact absurd e q
      · exact q
    · exact .inl (by omega)
  · intro a b c _ _ _ h h'
    unfold Ph02.sizeBefore at h h' ⊢
    simp only [Bool.or_eq_true, Bool.and_eq_true, decide_eq_true_iff, beq_iff_eq] at h h' ⊢
    rcases h with h | ⟨h1, h2⟩ <;> rcases h' with h' | ⟨h1', h2'⟩
    · exact .inl (by omega)
    · exact .inl (by omega)
    · exact .inl (by omega)
    · exact .inr ⟨by omega, lexLess_tra a b c h2 h2'⟩
theorem insertSet_gins (p : List Nat) : ∀ l, Ph02.insertSet p l = gins Ph02.sizeBefore p l
  | [] => rfl
  | q :: l => by
    unfold Ph02.insertSet gins
    rw [insertSet_gins p l]
theorem foldSet_gsort (l s : List (List Nat)) : l.foldl (fun (k : List (List Nat)) (a : List Nat) => Ph02.insertSet a k) s = gsort Ph02.sizeBefore s l := by
  unfold gsort
  have : (fun (k : List (List Nat)) (a : List Nat) => Ph02.insertSet a k) = fun s p => gins Ph02.sizeBefore p s := by funext s p; exact insertSet_gins p s
  rw [this]

/-- what all of some rows have in common, among the first m numbers -/
def inter (m : Nat) (T : List (List Nat)) : List Nat := (List.range m).filter fun i => T.all fun b => b.contains i
theorem inter_nil (m : Nat) : inter m [] = List.range m := by unfold inter; exact List.filter_eq_self.mpr fun _ _ => rfl
theorem common_inter (m : Nat) (T : List (List Nat)) (b : List Nat) : Ph02.common (inter m T) b = inter m (b :: T) := by
  unfold Ph02.common inter
  rw [List.filter_filter]
  apply List.filter_congr
  intro i _
  rw [List.all_cons]
theorem inter_congr {m : Nat} {T U : List (List Nat)} (h : ∀ b, b ∈ T ↔ b ∈ U) : inter m T = inter m U := by
  unfold inter
  apply List.filter_congr
  intro i _
  rw [Bool.eq_iff_iff, List.all_eq_true, List.all_eq_true]
  simp only [h]
theorem inter_len (m : Nat) (T : List (List Nat)) : (inter m T).length ≤ m := by
  unfold inter
  exact Nat.le_trans (List.length_filter_le _ _) (by simp)

theorem common_len (a b : List Nat) : (Ph02.common a b).length ≤ a.length := List.length_filter_le _ _
theorem common_self {a b : List Nat} (h : (Ph02.common a b).length = a.length) : Ph02.common a b = a := by
  unfold Ph02.common at h ⊢
  exact List.filter_eq_self.mpr (List.length_filter_eq_length_iff.mp h)

/-- no more of them are needed than there are numbers -/
theorem few_common : ∀ (T : List (List Nat)) (x : List Nat), ∃ U : List (List Nat), (∀ b, b ∈ U → b ∈ T) ∧ U.length ≤ x.length ∧ U.foldl Ph02.common x = T.foldl Ph02.common x
  | [], x => ⟨[], by simp, Nat.zero_le _, rfl⟩
  | b :: T, x => by
    obtain ⟨U, h1, h2, h3⟩ := few_common T (Ph02.common x b)
    by_cases e : (Ph02.common x b).length = x.length
    · have := common_self e
      refine ⟨U, fun c hc => List.mem_cons_of_mem _ (h1 c hc), by omega, ?_⟩
      rw [List.foldl_cons, ← h3, this]
    · refine ⟨b :: U, fun c hc => ?_, ?_, ?_⟩
      · rcases List.mem_cons.mp hc with q | q
        · rw [q]; exact List.mem_cons_self ..
        · exact List.mem_cons_of_mem _ (h1 c q)
      · have := common_len x b
        rw [List.length_cons]; omega
      · rw [List.foldl_cons, List.foldl_cons, h3]

theorem foldl_inter (m : Nat) : ∀ (T U : List (List Nat)), T.foldl Ph02.common (inter m U) = inter m (T.reverse ++ U)
  | [], U => rfl
  | b :: T, U => by
    rw [List.foldl_cons, common_inter, foldl_inter m T (b :: U)]
    congr 1
    simp

abbrev SB : List (List Nat) → Prop := fun l => l.Pairwise (fun x y => Ph02.sizeBefore x y = true)

theorem meet_step {S l : List (List Nat)} (x : List Nat) : x ∈ gsort Ph02.sizeBefore l (l.flatMap fun (a : List Nat) => S.map (Ph02.common a)) ↔ x ∈ l ∨ ∃ a, a ∈ l ∧ ∃ b, b ∈ S ∧ x = Ph02.common a b := by
  rw [gsort_mem, List.mem_flatMap]
  constructor
  · rintro (h | ⟨a, ha, h⟩)
    · exact .inl h
    · obtain ⟨b, hb, e⟩ := List.mem_map.mp h
      exact .inr ⟨a, ha, b, hb, e.symm⟩
  · rintro (h | ⟨a, ha, b, hb, e⟩)
    · exact .inl h
    · exact .inr ⟨a, ha, List.mem_map.mpr ⟨b, hb, e.symm⟩⟩

theorem gsort_len_ge : ∀ {k l : List (List Nat)}, SB l → l.length ≤ (gsort Ph02.sizeBefore l k).length ∧ ((gsort Ph02.sizeBefore l k).length = l.length → ∀ x, x ∈ k → x ∈ l)
  | [], l, _ => ⟨Nat.le_refl _, fun _ x hx => by cases hx⟩
  | a :: k, l, h => by
    have hs : SB (gins Ph02.sizeBefore a l) := gins_sorted size_ord trivial (fun _ _ => trivial) h
    obtain ⟨h1, h2⟩ := gsort_len_ge (k := k) hs
    show l.length ≤ (gsort Ph02.sizeBefore (gins Ph02.sizeBefore a l) k).length ∧ ((gsort Ph02.sizeBefore (gins Ph02.sizeBefore a l) k).length = l.length → _)
    rcases gins_len size_ord (a := a) trivial (fun _ _ => trivial) h with ⟨m, e⟩ | ⟨m, e⟩
    · rw [e] at h1 h2 ⊢
      refine ⟨h1, fun q x hx => ?_⟩
      rcases List.mem_cons.mp hx with w | w
      · rw [w]; exact m
      · exact h2 q x w
    · exact ⟨by omega, fun q => by omega⟩

theorem meet_sorted (S : List (List Nat)) : ∀ (f : Nat) (l : List (List Nat)), SB l → SB (Ph02.meet S f l)
  | 0, l, h => h
  | f + 1, l, h => by
    unfold Ph02.meet
    dsimp only
    rw [foldSet_gsort]
    split
    · exact h
    · exact meet_sorted S f _ (gsort_sorted size_ord (fun _ _ => trivial) (fun _ _ => trivial) h)

theorem meet_sound {S : List (List Nat)} {m : Nat} : ∀ (f : Nat) (l : List (List Nat)), (∀ x, x ∈ l → ∃ T, (∀ b, b ∈ T → b ∈ S) ∧ x = inter m T) → ∀ x, x ∈ Ph02.meet S f l → ∃ T, (∀ b, b ∈ T → b ∈ S) ∧ x = inter m T
  | 0, l, h => h
  | f + 1, l, h => by
    unfold Ph02.meet
    dsimp only
    rw [foldSet_gsort]
    split
    · exact h
    · refine meet_sound f _ fun x hx => ?_
      rcases (meet_step x).mp hx with q | ⟨a, ha, b, hb, rfl⟩
      · exact h x q
      · obtain ⟨T, hT, rfl⟩ := h a ha
        refine ⟨b :: T, fun c hc => ?_, common_inter m T b⟩
        rcases List.mem_cons.mp hc with e | e
        · rw [e]; exact hb
        · exact hT c e

theorem meet_whole {S : List (List Nat)} : ∀ (f : Nat) (l : List (List Nat)), SB l → ∀ (T : List (List Nat)) (x : List Nat), x ∈ l → (∀ b, b ∈ T → b ∈ S) → T.length ≤ f → T.foldl Ph02.common x ∈ Ph02.meet S f l
  | 0, l, _, T, x, hx, _, hT => by
    have : T = [] := List.length_eq_zero_iff.mp (by omega)
    subst this
    exact hx
  | f + 1, l, hl, T, x, hx, hTS, hT => by
    unfold Ph02.meet
    dsimp only
    rw [foldSet_gsort]
    split
    case isTrue e =>
      have cl := (gsort_len_ge hl).2 e
      have step : ∀ (T : List (List Nat)) (x : List Nat), x ∈ l → (∀ b, b ∈ T → b ∈ S) → T.foldl Ph02.common x ∈ l := by
        intro T
        induction T with
        | nil => intro x hx _; exact hx
        | cons b T ih =>
          intro x hx hT
          rw [List.foldl_cons]
          refine ih _ (cl _ (List.mem_flatMap.mpr ⟨x, hx, List.mem_map_of_mem (hT b (List.mem_cons_self ..))⟩)) fun c hc => hT c (List.mem_cons_of_mem _ hc)
      exact step T x hx hTS
    case isFalse e =>
      have hs : SB (gsort Ph02.sizeBefore l (l.flatMap fun (a : List Nat) => S.map (Ph02.common a))) := gsort_sorted size_ord (fun _ _ => trivial) (fun _ _ => trivial) hl
      match T, hTS, hT with
      | [], hTS, hT => exact meet_whole f _ hs [] x ((meet_step x).mpr (.inl hx)) hTS (Nat.zero_le _)
      | b :: T, hTS, hT =>
        rw [List.foldl_cons]
        exact meet_whole f _ hs T _ ((meet_step _).mpr (.inr ⟨x, hx, b, hTS b (List.mem_cons_self ..), rfl⟩)) (fun c hc => hTS c (List.mem_cons_of_mem _ hc)) (by simpa using hT)

theorem meet_iff {S : List (List Nat)} {m : Nat} (hm : m ≤ 40) (x : List Nat) : x ∈ Ph02.meet S 40 [List.range m] ↔ ∃ T, (∀ b, b ∈ T → b ∈ S) ∧ x = inter m T := by
  constructor
  · refine meet_sound 40 _ (fun y hy => ⟨[], by simp, ?_⟩) x
    rw [List.mem_singleton.mp hy, inter_nil]
  · rintro ⟨T, hT, rfl⟩
    obtain ⟨U, h1, h2, h3⟩ := few_common T (List.range m)
    rw [List.length_range] at h2
    have := meet_whole (S := S) 40 [List.range m] (List.pairwise_singleton _ _) U (List.range m) (List.mem_singleton.mpr rfl) (fun b hb => hT b (h1 b hb)) (by omega)
    rw [h3] at this
    have e : T.foldl Ph02.common (List.range m) = inter m T := by
      rw [← inter_nil, foldl_inter, List.append_nil]
      exact inter_congr fun b => List.mem_reverse
    rw [e] at this
    exact this

/-! ### the program's faces -/
def put (k : List Nat) (l : List (List Nat)) : List (List Nat) := if l.contains k then l else l ++ [k]
def shareT (bs : List (List Nat)) : List (List Nat) := bs.foldl (fun acc b => put b ((acc.map fun f => Ph02.common f b).foldl (fun a f => put f a) acc)) []
def sharedT (bs : List (List Nat)) : List (List Nat) := gsort Ph02.sizeBefore [] (shareT bs)

theorem put_mem (k x : List Nat) (l : List (List Nat)) : x ∈ put k l ↔ x = k ∨ x ∈ l := by
  unfold put
  split
  case isTrue h =>
    have := List.contains_iff_mem.mp h
    constructor
    · exact .inr
    · rintro (rfl | h)
      · exact this
      · exact h
  · rw [List.mem_append, List.mem_singleton]; exact Or.comm
theorem puts_mem (x : List Nat) : ∀ (k l : List (List Nat)), x ∈ k.foldl (fun a f => put f a) l ↔ x ∈ l ∨ x ∈ k
  | [], l => by simp
  | a :: k, l => by
    rw [List.foldl_cons, puts_mem x k, put_mem, List.mem_cons]
    constructor
    · rintro ((h | h) | h) <;> simp [h]
    · rintro (h | h | h) <;> simp [h]

theorem shareT_iff {m : Nat} (bs : List (List Nat)) (hb : ∀ b, b ∈ bs → b = inter m [b]) (x : List Nat) : x ∈ shareT bs ↔ ∃ T, T ≠ [] ∧ (∀ b, b ∈ T → b ∈ bs) ∧ x = inter m T := by
  suffices H : ∀ (bs acc : List (List Nat)) (done : List (List Nat)), (∀ b, b ∈ bs → b = inter m [b]) → (∀ b, b ∈ done → b = inter m [b]) → (∀ x, x ∈ acc ↔ ∃ T, T ≠ [] ∧ (∀ b, b ∈ T → b ∈ done) ∧ x = inter m T) →
      ∀ x, x ∈ bs.foldl (fun acc b => put b ((acc.map fun f => Ph02.common f b).foldl (fun a f => put f a) acc)) acc ↔ ∃ T, T ≠ [] ∧ (∀ b, b ∈ T → b ∈ done ∨ b ∈ bs) ∧ x = inter m T by
    have := H bs [] [] hb (by simp) (fun x => by
      constructor
      · intro h; cases h
      · rintro ⟨T, ne, hT, _⟩
        obtain ⟨b, h⟩ := List.exists_mem_of_ne_nil T ne
        exact absurd (hT b h) (by simp)) x
    unfold shareT
    rw [this]
    simp
  intro bs
  induction bs with
  | nil => intro acc done _ _ h x; rw [List.foldl_nil, h]; simp
  | cons b bs ih =>
    intro acc done hb hd h x
    rw [List.foldl_cons]
    have hb0 := hb b (List.mem_cons_self ..)
    rw [ih _ (b :: done) (fun c hc => hb c (List.mem_cons_of_mem _ hc)) (fun c hc => by
      rcases List.mem_cons.mp hc with e | e
      · rw [e]; exact hb0
      · exact hd c e) (fun y => ?_) x]
    · constructor
      · rintro ⟨T, ne, hT, e⟩
        refine ⟨T, ne, fun c hc => ?_, e⟩
        rcases hT c hc with q | q
        · rcases List.mem_cons.mp q with w | w
          · rw [w]; exact .inr (List.mem_cons_self ..)
          · exact .inl w
        · exact .inr (List.mem_cons_of_mem _ q)
      · rintro ⟨T, ne, hT, e⟩
        refine ⟨T, ne, fun c hc => ?_, e⟩
        rcases hT c hc with q | q
        · exact .inl (List.mem_cons_of_mem _ q)
        · rcases List.mem_cons.mp q with w | w
          · rw [w]; exact .inl (List.mem_cons_self ..)
          · exact .inr w
    · rw [put_mem, puts_mem, List.mem_map]
      constructor
      · rintro (rfl | hy | ⟨f, hf, rfl⟩)
        · exact ⟨[y], by simp, by simp, hb0⟩
        · obtain ⟨T, ne, hT, e⟩ := (h y).mp hy
          exact ⟨T, ne, fun c hc => List.mem_cons_of_mem _ (hT c hc), e⟩
        · obtain ⟨T, ne, hT, rfl⟩ := (h f).mp hf
          refine ⟨b :: T, by simp, fun c hc => ?_, common_inter m T b⟩
          rcases List.mem_cons.mp hc with e | e
          · rw [e]; exact List.mem_cons_self ..
          · exact List.mem_cons_of_mem _ (hT c e)
      · rintro ⟨T, ne, hT, e⟩
        by_cases hbT : b ∈ T
        · let T' := T.filter fun c => decide (c ≠ b)
          have eT : inter m T = inter m (b :: T') := inter_congr fun c => by
            rw [List.mem_cons, List.mem_filter]
            constructor
            · intro hc
              by_cases q : c = b
              · exact .inl q
              · exact .inr ⟨hc, decide_eq_true q⟩
            · rintro (q | q)
              · rw [q]; exact hbT
              · exact q.1
          by_cases n' : T' = []
          · left
            rw [e, eT, n']; exact hb0.symm
          · right; right
            refine ⟨inter m T', (h _).mpr ⟨T', n', fun c hc => ?_, rfl⟩, by rw [common_inter, e, eT]⟩
            obtain ⟨c1, c2⟩ := List.mem_filter.mp hc
            rcases List.mem_cons.mp (hT c c1) with q | q
            · exact absurd q (of_decide_eq_true c2)
            · exact q
        · right; left
          refine (h y).mpr ⟨T, ne, fun c hc => ?_, e⟩
          rcases List.mem_cons.mp (hT c hc) with q | q
          · exact absurd (q ▸ hc) hbT
          · exact q

theorem sharedT_sorted (bs : List (List Nat)) : SB (sharedT bs) := gsort_sorted size_ord (fun _ _ => trivial) (fun _ _ => trivial) .nil
theorem sharedT_mem (bs : List (List Nat)) (x : List Nat) : x ∈ sharedT bs ↔ x ∈ shareT bs := by unfold sharedT; rw [gsort_mem]; simp

def bndT (sides corners : List (List Int)) : List (List Nat) := sides.map fun t => (List.range corners.length).filter fun i => tightT t (corners.getD i [])
def dimsT : List (List Int) → Int
  | [] => -1
  | p :: r => (hmf r.length (r.map (dirn p)) : Int)

theorem iv_dirn {n : Nat} {p q : List Int} (hp : p.length = n) (hq : q.length = n) : iv (dirn p q) = minus (iv q) (iv p) := by
  refine tv_ext (n := n) (by rw [iv_len, dirn_len hp hq]) (minus_len (by rw [iv_len, hq]) (by rw [iv_len, hp])) fun i _ => ?_
  rw [tv_minus (by rw [iv_len, iv_len, hp, hq])]
  exact vv_dirn (by rw [hp, hq]) i

theorem dims_eq {n : Nat} {l : List (List Int)} (h : ∀ q, q ∈ l → q.length = n) : Ph01.toldDim (Ph01.dim n (l.map iv)) = dimsT l := by
  match l, h with
  | [], _ => rfl
  | p :: r, h =>
    have hp := h p (List.mem_cons_self ..)
    have hr : ∀ q, q ∈ r → q.length = n := fun q hq => h q (List.mem_cons_of_mem _ hq)
    have e : ((r.map iv).map fun (q : Pt) => minus q (iv p)) = (r.map (dirn p)).map iv := by
      rw [List.map_map, List.map_map]
      exact List.map_congr_left fun q hq => (iv_dirn hp (hr q hq)).symm
    have dl : ∀ q, q ∈ r.map (dirn p) → q.length = n := fun q hq => by
      obtain ⟨s, hs, rfl⟩ := List.mem_map.mp hq
      exact dirn_len hp (hr s hs)
    show ((rank n ((r.map iv).map fun (q : Pt) => minus q (iv p)) : Nat) : Int) = ((hmf r.length (r.map (dirn p)) : Nat) : Int)
    rw [e, rank_eq (fun q hq => by
      obtain ⟨s, hs, rfl⟩ := List.mem_map.mp hq
      rw [iv_len]; exact dl s hs), iv_tv, hmf_rk (n := n) _ _ (by simp) dl]

theorem dims_rk {n : Nat} {p : List Int} {r : List (List Int)} (h : ∀ q, q ∈ p :: r → q.length = n) : dimsT (p :: r) + 1 = (rkL (n + 1) (((p :: r).map vv).map hm) : Int) := by
  have hp := h p (List.mem_cons_self ..)
  have hr : ∀ q, q ∈ r → q.length = n := fun q hq => h q (List.mem_cons_of_mem _ hq)
  have dl : ∀ q, q ∈ r.map (dirn p) → q.length = n := fun q hq => by
    obtain ⟨s, hs, rfl⟩ := List.mem_map.mp hq
    exact dirn_len hp (hr s hs)
  rw [List.map_map]
  show ((hmf r.length (r.map (dirn p)) : Nat) : Int) + 1 = ((rkL (n + 1) ((p :: r).map fun q => hm (vv q)) : Nat) : Int)
  rw [few_rk hp hr, hmf_rk (n := n) _ _ (by simp) dl]
  rfl

theorem dims_full {n : Nat} {pts : List (List Int)} (H : Pts n pts) : dimsT pts = n := by
  match pts, H with
  | [], H =>
    have := H.full
    simp [rkL_nil] at this
  | p :: r, H =>
    have := dims_rk H.len
    rw [H.full] at this
    omega

theorem pts_of_dims {n : Nat} (h2 : 2 ≤ n) (h4 : n ≤ 4) {pts : List (List Int)} (h : ∀ q, q ∈ pts → q.length = n) (d : (n : Int) ≤ dimsT pts) : Pts n pts := by
  refine ⟨h2, h4, h, ?_⟩
  match pts, h, d with
  | [], _, d =>
    have d : (n : Int) ≤ -1 := d
    omega
  | p :: r, h, d =>
    have := dims_rk h
    have := rk_le (n + 1) (Orth (n + 1) (((p :: r).map vv).map hm))
    unfold rkL at *
    omega

/-! ### the specification's body -/
structure Same (n : Nat) (pts : List (List Int)) (b : Ph02.Body) : Prop where
  nn : b.n = n
  c : b.corners = (cornersT n pts).map iv
  s : b.sides = (sidesT n (srt pts)).map hf

theorem same_body {n : Nat} {pts : List (List Int)} (H : Pts n pts) : Same n pts (Ph02.bodyOf n (pts.map iv)) := by
  have e := corners_eq H
  exact ⟨rfl, e, by show sides n (Ph01.cornersOf n (pts.map iv)) = _; rw [e]; exact sides_eq H⟩

def bounds (n : Nat) (pts : List (List Int)) : List (List Nat) := bndT (sidesT n (srt pts)) (cornersT n pts)

theorem getD_iv (l : List (List Int)) (i : Nat) : (l.map iv).getD i [] = iv (l.getD i []) := by
  by_cases h : i < l.length
  · simp [List.getD_eq_getElem?_getD, h]
  · simp [List.getD_eq_getElem?_getD, List.getElem?_eq_none (Nat.le_of_not_lt h), iv]

theorem getD_mem {α : Type} {l : List α} {i : Nat} (h : i < l.length) (z : α) : l.getD i z ∈ l := by
  simp [List.getD_eq_getElem?_getD, h]

theorem tight_at {n : Nat} {pts : List (List Int)} (H : Pts n pts) {t : List Int} (ht : t ∈ sidesT n (srt pts)) {i : Nat} (hi : i < (cornersT n pts).length) :
    tight (hf t) (((cornersT n pts).map iv).getD i []) = tightT t ((cornersT n pts).getD i []) := by
  rw [getD_iv]
  exact tight_hf (sidesT_len H.srt t ht) (cornersT_len H _ (getD_mem hi _))

theorem bounds_eq {n : Nat} {pts : List (List Int)} (H : Pts n pts) {b : Ph02.Body} (B : Same n pts b) : b.sides.map (Ph02.onSide b) = bounds n pts := by
  unfold bounds bndT
  rw [B.s, List.map_map]
  apply List.map_congr_left
  intro t ht
  show Ph02.onSide b (hf t) = _
  unfold Ph02.onSide
  rw [B.c, List.length_map]
  apply List.filter_congr
  intro i hi
  exact tight_at H ht (List.mem_range.mp hi)

theorem bounds_inter {n : Nat} {pts : List (List Int)} {b : List Nat} (h : b ∈ bounds n pts) : b = inter (cornersT n pts).length [b] := by
  obtain ⟨t, _, rfl⟩ := List.mem_map.mp h
  unfold inter
  apply List.filter_congr
  intro i hi
  rw [Bool.eq_iff_iff, List.all_cons, List.all_nil, Bool.and_true, List.contains_iff_mem, List.mem_filter]
  exact ⟨fun q => ⟨hi, q⟩, fun q => q.2⟩

theorem faces_mem {n : Nat} {pts : List (List Int)} (H : Pts n pts) {b : Ph02.Body} (B : Same n pts b) (h10 : (cornersT n pts).length ≤ 40) (x : List Nat) :
    x ∈ Ph02.faces b ↔ x = [] ∨ ∃ T, (∀ c, c ∈ T → c ∈ bounds n pts) ∧ x = inter (cornersT n pts).length T := by
  unfold Ph02.faces
  rw [foldSet_gsort, gsort_mem, List.mem_singleton, bounds_eq H B, B.c, List.length_map, meet_iff h10]
theorem faces_sorted (b : Ph02.Body) : SB (Ph02.faces b) := by
  unfold Ph02.faces
  rw [foldSet_gsort]
  exact gsort_sorted size_ord (fun _ _ => trivial) (fun _ _ => trivial) (List.pairwise_singleton _ _)

theorem faceDim_eq {n : Nat} {pts : List (List Int)} (H : Pts n pts) {b : Ph02.Body} (B : Same n pts b) {f : List Nat} (hf : ∀ i, i ∈ f → i < (cornersT n pts).length) : Ph02.faceDim b f = dimsT (f.map fun i => (cornersT n pts).getD i []) := by
  unfold Ph02.faceDim
  rw [B.nn, B.c]
  have e : (f.map fun (i : Nat) => ((cornersT n pts).map iv).getD i []) = (f.map fun i => (cornersT n pts).getD i []).map iv := by
    rw [List.map_map]
    exact List.map_congr_left fun i _ => getD_iv _ i
  rw [e]
  refine dims_eq (n := n) fun q hq => ?_
  obtain ⟨i, hi, rfl⟩ := List.mem_map.mp hq
  exact cornersT_len H _ (getD_mem (hf i hi) _)

theorem inter_lt {m : Nat} {T : List (List Nat)} {i : Nat} (h : i ∈ inter m T) : i < m := List.mem_range.mp (List.mem_filter.mp h).1

/-- the rows of one dimension -/
def rowsT (n : Nat) (pts : List (List Int)) (d : Int) : List (List Nat) := (sharedT (bounds n pts)).filter fun f => decide (dimsT (f.map fun i => (cornersT n pts).getD i []) = d)

theorem ofDim_eq {n : Nat} {pts : List (List Int)} (H : Pts n pts) {b : Ph02.Body} (B : Same n pts b) (h10 : (cornersT n pts).length ≤ 40) {d : Int} (d0 : 0 ≤ d) (dn : d < n) : Ph02.ofDim b d = rowsT n pts d := by
  unfold Ph02.ofDim rowsT
  refine ord_ext size_ord ((faces_sorted b).filter _) ((sharedT_sorted _).filter _) fun x => ?_
  rw [List.mem_filter, List.mem_filter, faces_mem H B h10, sharedT_mem, shareT_iff (m := (cornersT n pts).length) _ (fun c hc => bounds_inter hc), decide_eq_true_iff, decide_eq_true_iff]
  constructor
  · rintro ⟨rfl | ⟨T, hT, rfl⟩, hd⟩
    · rw [faceDim_eq H B (by simp)] at hd
      exact absurd hd (by show ¬ (-1 : Int) = d; omega)
    · rw [faceDim_eq H B fun i hi => inter_lt hi] at hd
      refine ⟨⟨T, ?_, hT, rfl⟩, hd⟩
      intro e
      rw [e, inter_nil, range_getD, dims_full H.corners] at hd
      omega
  · rintro ⟨⟨T, ne, hT, rfl⟩, hd⟩
    exact ⟨.inr ⟨T, hT, rfl⟩, by rw [faceDim_eq H B fun i hi => inter_lt hi]; exact hd⟩

/-- a face that is no body has fewer dimensions -/
theorem shared_dim {n : Nat} {pts : List (List Int)} (H : Pts n pts) {f : List Nat} (h : f ∈ sharedT (bounds n pts)) : dimsT (f.map fun i => (cornersT n pts).getD i []) < n := by
  rw [sharedT_mem, shareT_iff (m := (cornersT n pts).length) _ (fun c hc => bounds_inter hc)] at h
  obtain ⟨T, ne, hT, rfl⟩ := h
  obtain ⟨c, hc⟩ := List.exists_mem_of_ne_nil T ne
  obtain ⟨t, ht, rfl⟩ := List.mem_map.mp (hT c hc)
  have P := (sidesT_mem H.srt).mp ht
  have tl := P.len
  have mem : ∀ i, i ∈ inter (cornersT n pts).length T → i < (cornersT n pts).length ∧ tightT t ((cornersT n pts).getD i []) = true := by
    intro i hi
    have h1 := inter_lt hi
    have h2 := (List.mem_filter.mp hi).2
    rw [List.all_eq_true] at h2
    have := List.contains_iff_mem.mp (h2 _ hc)
    exact ⟨h1, (List.mem_filter.mp this).2⟩
  generalize inter (cornersT n pts).length T = f at mem
  match f, mem with
  | [], _ => show (-1 : Int) < n; omega
  | i :: f, mem =>
    have len : ∀ q, q ∈ ((i :: f).map fun i => (cornersT n pts).getD i []) → q.length = n := fun q hq => by
      obtain ⟨j, hj, rfl⟩ := List.mem_map.mp hq
      exact cornersT_len H _ (getD_mem (mem j hj).1 _)
    have dr := dims_rk (p := (cornersT n pts).getD i []) (r := f.map fun i => (cornersT n pts).getD i []) len
    have le := rk_le (n + 1) (Orth (n + 1) (((((cornersT n pts).getD i []) :: f.map fun i => (cornersT n pts).getD i []).map vv).map hm))
    have ne : rkL (n + 1) (((((cornersT n pts).getD i []) :: f.map fun i => (cornersT n pts).getD i []).map vv).map hm) ≠ n + 1 := by
      intro q
      have := rkL_full.mp q (hb (vv t) (vv t n)) (orth_map.mpr fun v hv => by
        obtain ⟨p, hp, rfl⟩ := List.mem_map.mp hv
        have hp : p ∈ ((i :: f).map fun i => (cornersT n pts).getD i []) := hp
        obtain ⟨j, hj, rfl⟩ := List.mem_map.mp hp
        rw [dt_hb, (tightT_iff tl (len _ hp)).mp (mem j hj).2]; grind)
      exact P.nz fun k hk => this (k + 1) (by omega)
    show dimsT ((cornersT n pts).getD i [] :: f.map fun i => (cornersT n pts).getD i []) < n
    unfold rkL at *
    omega

def simpleT (n : Nat) (pts : List (List Int)) : Bool := (List.range (cornersT n pts).length).all fun i => ((bounds n pts).filter fun b => b.contains i).length == n
def simplicialT (n : Nat) (pts : List (List Int)) : Bool := (bounds n pts).all fun b => b.length == n

theorem simple_eq {n : Nat} {pts : List (List Int)} (H : Pts n pts) {b : Ph02.Body} (B : Same n pts b) : Ph02.simple b = simpleT n pts := by
  unfold Ph02.simple simpleT
  rw [B.c, List.length_map, B.nn, Bool.eq_iff_iff, List.all_eq_true, List.all_eq_true]
  have : ∀ i, i < (cornersT n pts).length → (b.sides.filter fun (h : Half) => tight h (((cornersT n pts).map iv).getD i [])).length = ((bounds n pts).filter fun b => b.contains i).length := by
    intro i hi
    rw [B.s, List.filter_map, List.length_map]
    unfold bounds bndT
    rw [List.filter_map, List.length_map]
    congr 1
    apply List.filter_congr
    intro t ht
    show tight (hf t) _ = List.contains _ i
    rw [tight_at H ht hi, Bool.eq_iff_iff, List.contains_iff_mem, List.mem_filter, List.mem_range]
    exact ⟨fun q => ⟨hi, q⟩, fun q => q.2⟩
  constructor
  · intro h i hi
    rw [← this i (List.mem_range.mp hi)]; exact h i hi
  · intro h i hi
    rw [this i (List.mem_range.mp hi)]; exact h i hi

theorem simplicial_eq {n : Nat} {pts : List (List Int)} (H : Pts n pts) {b : Ph02.Body} (B : Same n pts b) : Ph02.simplicial b = simplicialT n pts := by
  unfold Ph02.simplicial simplicialT
  rw [← bounds_eq H B, B.nn, List.all_map]
  rfl

/-! ### what is handed in -/
def isPt (n : Int) (r : List Int) : Bool := decide ((r.length : Int) = n) && r.all fun z => decide (-100 ≤ z) && decide (z ≤ 100)
def refT (n : Int) (pts : List (List Int)) : Int :=
  if n < 2 ∨ 4 < n then -3 else if pts.length < 1 ∨ 10 < pts.length then -2 else if pts.all (isPt n) = false then -1 else if dimsT pts < n then -5 else 0

theorem mapM_pts {n : Nat} : ∀ (pts : List (List Int)), pts.mapM (Ph01.pointOf n) = if pts.all (isPt n) = true then some (pts.map iv) else none
  | [] => rfl
  | p :: r => by
    have e : Ph01.pointOf n p = if isPt n p = true then some (iv p) else none := by
      unfold Ph01.pointOf isPt
      have sm : ∀ z : Int, Ph01.small 100 z = (decide (-100 ≤ z) && decide (z ≤ 100)) := fun z => by
        unfold Ph01.small
        rw [Bool.eq_iff_iff, Bool.and_eq_true, decide_eq_true_iff, decide_eq_true_iff, decide_eq_true_iff]
        omega
      have : p.all (Ph01.small 100) = p.all fun z => decide (-100 ≤ z) && decide (z ≤ 100) := by
        rw [Bool.eq_iff_iff, List.all_eq_true, List.all_eq_true]
        simp only [sm]
      rw [this]
      by_cases q : p.length = n ∧ (p.all fun z => decide (-100 ≤ z) && decide (z ≤ 100)) = true
      · rw [if_pos q, if_pos (by rw [Bool.and_eq_true, decide_eq_true_iff]; exact ⟨by rw [q.1], q.2⟩)]; rfl
      · rw [if_neg q, if_neg (by rw [Bool.and_eq_true, decide_eq_true_iff]; exact fun w => q ⟨Int.ofNat_inj.mp w.1, w.2⟩)]
    rw [List.mapM_cons, e, mapM_pts r, List.all_cons]
    cases h1 : isPt n p
    · simp
    · cases h2 : r.all (isPt n) <;> simp

theorem solid_eq (n : Int) (pts : List (List Int)) (go : Ph02.Body → List Int) :
    Ph02.solid n pts go = if refT n pts < 0 then [refT n pts] else go (Ph02.bodyOf n.toNat (pts.map iv)) := by
  unfold Ph02.solid Ph01.points refT
  by_cases h1 : n < 2 ∨ 4 < n
  · simp [h1]
  rw [if_neg h1, if_neg h1]
  by_cases h2 : pts.length < 1 ∨ 10 < pts.length
  · have : pts = [] ∨ Ph01.POINTS < pts.length := by
      rcases h2 with h | h
      · exact .inl (List.length_eq_zero_iff.mp (by omega))
      · exact .inr h
    rw [if_pos this, if_pos h2]; rfl
  · have : ¬ (pts = [] ∨ Ph01.POINTS < pts.length) := by
      rintro (h | h)
      · rw [h] at h2; simp at h2
      · exact h2 (.inr h)
    rw [if_neg this, if_neg h2, mapM_pts]
    have nn : ((n.toNat : Nat) : Int) = n := by omega
    rw [nn]
    cases h3 : pts.all (isPt n)
    · simp
    · rw [if_pos rfl]
      dsimp only
      have len : ∀ q, q ∈ pts → q.length = n.toNat := fun q hq => by
        have := List.all_eq_true.mp h3 q hq
        unfold isPt at this
        rw [Bool.and_eq_true, decide_eq_true_iff] at this
        omega
      have de := dims_eq len
      have ne : pts ≠ [] := fun q => h2 (by rw [q]; exact .inl (by decide))
      have key : Ph01.dim n.toNat (pts.map iv) = some n.toNat ↔ ¬ dimsT pts < n := by
        rw [← de]
        cases hd : Ph01.dim n.toNat (pts.map iv) with
        | none =>
          exfalso
          match pts, ne with
          | p :: r, _ => cases hd
        | some k =>
          show some k = some n.toNat ↔ ¬ ((k : Nat) : Int) < n
          rw [hd] at de
          have de : ((k : Nat) : Int) = dimsT pts := de
          constructor
          · intro q; cases q; omega
          · intro q
            have P := pts_of_dims (n := n.toNat) (by omega) (by omega) len (by omega)
            have := dims_full P
            congr 1; omega
      by_cases h4 : dimsT pts < n
      · rw [if_neg (fun q => key.mp q h4)]
        rw [if_neg (show ¬ true = false by decide), if_pos h4]; rfl
      · rw [if_pos (key.mpr h4)]
        rw [if_neg (show ¬ true = false by decide), if_neg h4]; rfl

theorem ref_ok {n : Int} {pts : List (List Int)} (h : ¬ refT n pts < 0) : Pts n.toNat pts ∧ ((n.toNat : Nat) : Int) = n ∧ pts.length ≤ 10 ∧ 1 ≤ pts.length ∧ (∀ q, q ∈ pts → q.length = n.toNat ∧ ∀ z, z ∈ q → -100 ≤ z ∧ z ≤ 100) := by
  unfold refT at h
  by_cases h1 : n < 2 ∨ 4 < n
  · rw [if_pos h1] at h; exact absurd (by decide) h
  rw [if_neg h1] at h
  by_cases h2 : pts.length < 1 ∨ 10 < pts.length
  · rw [if_pos h2] at h; exact absurd (by decide) h
  rw [if_neg h2] at h
  cases h3 : pts.all (isPt n)
  · rw [h3, if_pos rfl] at h; exact absurd (by decide) h
  rw [h3, if_neg (by decide)] at h
  by_cases h4 : dimsT pts < n
  · rw [if_pos h4] at h; exact absurd (by decide) h
  have each : ∀ q, q ∈ pts → q.length = n.toNat ∧ ∀ z, z ∈ q → -100 ≤ z ∧ z ≤ 100 := fun q hq => by
    have := List.all_eq_true.mp h3 q hq
    unfold isPt at this
    rw [Bool.and_eq_true, decide_eq_true_iff, List.all_eq_true] at this
    refine ⟨by omega, fun z hz => ?_⟩
    have := this.2 z hz
    rw [Bool.and_eq_true, decide_eq_true_iff, decide_eq_true_iff] at this
    exact this
  exact ⟨pts_of_dims (n := n.toNat) (by omega) (by omega) (fun q hq => (each q hq).1) (by omega), by omega, by omega, by omega, each⟩

theorem gins_len_le {α : Type} [DecidableEq α] (lt : α → α → Bool) (a : α) : ∀ l : List α, (gins lt a l).length ≤ l.length + 1
  | [] => by simp [gins]
  | b :: l => by
    unfold gins
    have := gins_len_le lt a l
    split
    · simp
    · split
      · simp
      · simp; omega
theorem srt_len (l : List (List Int)) : (srt l).length ≤ l.length := by
  have : ∀ (l s : List (List Int)), (gsort lexI s l).length ≤ s.length + l.length := by
    intro l
    induction l with
    | nil => intro s; exact Nat.le_refl _
    | cons a l ih =>
      intro s
      have h1 := ih (gins lexI a s)
      have h2 := gins_len_le lexI a s
      show (gsort lexI (gins lexI a s) l).length ≤ _
      simp only [List.length_cons]; omega
  have := this l []
  rw [List.length_nil, Nat.zero_add] at this
  exact this
theorem cornersT_count (n : Nat) (pts : List (List Int)) : (cornersT n pts).length ≤ pts.length := Nat.le_trans (List.length_filter_le _ _) (srt_len pts)

def toldT (f : List Nat) : List Int := (f.length : Int) :: f.map fun (i : Nat) => (i : Int)
def facesT (n : Int) (pts : List (List Int)) : List Int :=
  if refT n pts < 0 then [refT n pts] else
  ((List.range n.toNat).map fun (d : Nat) => ((rowsT n.toNat pts (d : Int)).length : Int)) ++ [if simpleT n.toNat pts = true then 1 else 0, if simplicialT n.toNat pts = true then 1 else 0]
def faceT (n d i : Int) (pts : List (List Int)) : List Int :=
  if refT n pts < 0 then [refT n pts] else if d < 0 ∨ n ≤ d then [-4] else
  if i < 0 ∨ ((rowsT n.toNat pts d).length : Int) ≤ i then [-4] else toldT ((rowsT n.toNat pts d).getD i.toNat [])

theorem call0 (n : Int) (r : List (List Int)) : Ph02.callOf ([0, n] :: r) = some (.faces n r) := by simp [Ph02.callOf]
theorem call1 (n d i : Int) (r : List (List Int)) : Ph02.callOf ([1, n, d, i] :: r) = some (.face n d i r) := by simp [Ph02.callOf]
theorem call2 (n : Int) (f : List Int) (r : List (List Int)) : Ph02.callOf ((2 :: n :: f) :: r) = some (.on n f r) := by simp [Ph02.callOf]
theorem call3 (n : Int) (f : List Int) (r : List (List Int)) : Ph02.callOf ((3 :: n :: f) :: r) = some (.over n f r) := by simp [Ph02.callOf]
theorem call4 (n k : Int) (r : List (List Int)) : Ph02.callOf ([4, n, k] :: r) = some (.alike n k r) := by simp [Ph02.callOf]
theorem call5 (n : Int) (r : List (List Int)) : Ph02.callOf ([5, n] :: r) = some (.ways n r) := by simp [Ph02.callOf]
theorem call6 (n : Int) (f : List Int) (r : List (List Int)) : Ph02.callOf ((6 :: n :: f) :: r) = some (.dual n f r) := by simp [Ph02.callOf]
theorem due0 (n : Int) (pts : List (List Int)) : PyPh02.faces n pts = Ph02.answer (.faces n pts) := by
  unfold PyPh02.faces Ph02Neutral.f
  show (match Ph02.callOf ([0, n] :: pts) with | some x => Ph02.answer x | none => []) = _
  rw [call0]
theorem due1 (n d i : Int) (pts : List (List Int)) : PyPh02.face n d i pts = Ph02.answer (.face n d i pts) := by
  unfold PyPh02.face Ph02Neutral.f
  show (match Ph02.callOf ([1, n, d, i] :: pts) with | some x => Ph02.answer x | none => []) = _
  rw [call1]

/-- **what is due of faces, in whole numbers** -/
theorem faces_due (n : Int) (pts : List (List Int)) : PyPh02.faces n pts = facesT n pts := by
  rw [due0]
  unfold Ph02.answer
  dsimp only
  rw [solid_eq]
  unfold facesT
  by_cases h : refT n pts < 0
  · rw [if_pos h, if_pos h]
  rw [if_neg h, if_neg h]
  obtain ⟨P, nn, l10, _, _⟩ := ref_ok h
  have B := same_body P
  have h40 : (cornersT n.toNat pts).length ≤ 40 := by have := cornersT_count n.toNat pts; omega
  rw [simple_eq P B, simplicial_eq P B]
  show List.map _ (List.range n.toNat) ++ _ = _
  congr 1
  apply List.map_congr_left
  intro d hd
  rw [List.mem_range] at hd
  rw [ofDim_eq P B h40 (by omega) (by omega)]
  rfl

theorem face_due (n d i : Int) (pts : List (List Int)) : PyPh02.face n d i pts = faceT n d i pts := by
  rw [due1]
  unfold Ph02.answer
  dsimp only
  rw [solid_eq]
  unfold faceT
  by_cases h : refT n pts < 0
  · rw [if_pos h, if_pos h]
  rw [if_neg h, if_neg h]
  obtain ⟨P, nn, l10, _, _⟩ := ref_ok h
  have B := same_body P
  have h40 : (cornersT n.toNat pts).length ≤ 40 := by have := cornersT_count n.toNat pts; omega
  by_cases h1 : d < 0 ∨ n ≤ d
  · rw [if_pos h1, if_pos (by omega)]
  rw [if_neg h1]
  by_cases h2 : i < 0
  · rw [if_pos (by omega), if_pos (by omega)]
  rw [if_neg (by omega), ofDim_eq P B h40 (by omega) (by omega)]
  by_cases h3 : ((rowsT n.toNat pts d).length : Int) ≤ i
  · rw [if_pos (.inr h3), List.getElem?_eq_none (by omega)]
  · rw [if_neg (by omega), List.getElem?_eq_getElem (by omega)]
    show Ph02.toldRow _ = _
    rw [List.getD_eq_getElem?_getD, List.getElem?_eq_getElem (by omega)]
    rfl
end AB

set_option Elab.async false
set_option linter.all false
set_option maxRecDepth 100000
set_option maxHeartbeats 2000000
namespace AB
open PhBase
/-! # on and over, in whole numbers -/
def risT : List Int → Bool
  | a :: b :: l => decide (a < b) && risT (b :: l)
  | _ => true
theorem ris_eq : ∀ l : List Int, Ph02.rising l = risT l
  | [] => rfl
  | [_] => rfl
  | a :: b :: l => by
    unfold Ph02.rising risT
    rw [ris_eq (b :: l)]
/-- are these corners' numbers, rising? -/
def rowOk (m : Nat) (f : List Int) : Bool := risT f && f.all fun z => decide (0 ≤ z) && decide (z < (m : Int))
theorem row_eq {n : Nat} {pts : List (List Int)} {b : Ph02.Body} (B : Same n pts b) (f : List Int) : Ph02.rowOf b f = if rowOk (cornersT n pts).length f = true then some (f.map Int.toNat) else none := by
  unfold Ph02.rowOf rowOk
  rw [B.c, List.length_map, ris_eq]
  by_cases h : risT f = true
  · rw [h, Bool.true_and]
    by_cases g : (f.all fun z => decide (0 ≤ z) && decide (z < ((cornersT n pts).length : Int))) = true
    · rw [if_pos ⟨rfl, g⟩, if_pos g]
    · rw [if_neg (fun q => g q.2), if_neg g]
  · have h' : risT f = false := by simpa using h
    rw [h', Bool.false_and, if_neg (fun q => by cases q.1), if_neg (by simp)]
/-- the least face that has some corners: all that are on each bound that these are on -/
def leastT (m : Nat) (bs : List (List Nat)) (r : List Nat) : List Nat := (List.range m).filter fun i => bs.all fun b => !(r.all fun j => b.contains j) || b.contains i
theorem least_eq {n : Nat} {pts : List (List Int)} (H : Pts n pts) {b : Ph02.Body} (B : Same n pts b) {r : List Nat} (hr : ∀ i, i ∈ r → i < (cornersT n pts).length) : Ph02.hullOf b r = leastT (cornersT n pts).length (bounds n pts) r := by
  unfold Ph02.hullOf leastT
  rw [← bounds_eq H B, B.c, List.length_map]
  apply List.filter_congr
  intro i hi
  rw [List.all_map, Bool.eq_iff_iff, List.all_eq_true, List.all_eq_true]
  have at_ : ∀ h, h ∈ b.sides → ∀ j, j < (cornersT n pts).length → (Ph02.onSide b h).contains j = tight h (((cornersT n pts).map iv).getD j []) := by
    intro h _ j hj
    unfold Ph02.onSide
    rw [Bool.eq_iff_iff, List.contains_iff_mem, List.mem_filter, List.mem_range, B.c, List.length_map]
    exact ⟨fun q => q.2, fun q => ⟨hj, q⟩⟩
  have e : ∀ h, h ∈ b.sides → (!(r.all fun j => tight h (((cornersT n pts).map iv).getD j [])) || tight h (((cornersT n pts).map iv).getD i [])) = (!(r.all fun j => (Ph02.onSide b h).contains j) || (Ph02.onSide b h).contains i) := by
    intro h hh
    rw [at_ h hh i (List.mem_range.mp hi)]
    congr 2
    rw [Bool.eq_iff_iff, List.all_eq_true, List.all_eq_true]
    exact ⟨fun q j hj => by rw [at_ h hh j (hr j hj)]; exact q j hj, fun q j hj => by rw [← at_ h hh j (hr j hj)]; exact q j hj⟩
  exact ⟨fun q h hh => by
    have := q h hh
    show (!(r.all fun j => (Ph02.onSide b h).contains j) || (Ph02.onSide b h).contains i) = true
    rw [← e h hh]; exact this, fun q h hh => by
    have : (!(r.all fun j => (Ph02.onSide b h).contains j) || (Ph02.onSide b h).contains i) = true := q h hh
    show (!(r.all fun j => tight h (((cornersT n pts).map iv).getD j [])) || tight h (((cornersT n pts).map iv).getD i [])) = true
    rw [e h hh]; exact this⟩
theorem least_lt {m : Nat} {bs : List (List Nat)} {r : List Nat} {i : Nat} (h : i ∈ leastT m bs r) : i < m := List.mem_range.mp (List.mem_filter.mp h).1
theorem rowOk_lt {m : Nat} {f : List Int} (h : rowOk m f = true) : ∀ i, i ∈ f.map Int.toNat → i < m := by
  unfold rowOk at h
  rw [Bool.and_eq_true, List.all_eq_true] at h
  intro i hi
  obtain ⟨z, hz, rfl⟩ := List.mem_map.mp hi
  have := h.2 z hz
  rw [Bool.and_eq_true] at this
  have h1 := of_decide_eq_true this.1
  have h2 := of_decide_eq_true this.2
  omega
def dimR (n : Nat) (pts : List (List Int)) (f : List Nat) : Int := dimsT (f.map fun i => (cornersT n pts).getD i [])
def onT (n : Int) (f : List Int) (pts : List (List Int)) : List Int :=
  if refT n pts < 0 then [refT n pts] else if rowOk (cornersT n.toNat pts).length f = false then [-4] else
  (if leastT (cornersT n.toNat pts).length (bounds n.toNat pts) (f.map Int.toNat) = f.map Int.toNat then 1 else 0) :: dimR n.toNat pts (leastT (cornersT n.toNat pts).length (bounds n.toNat pts) (f.map Int.toNat)) :: toldT (leastT (cornersT n.toNat pts).length (bounds n.toNat pts) (f.map Int.toNat))
theorem due2 (n : Int) (f : List Int) (pts : List (List Int)) : PyPh02.on n f pts = Ph02.answer (.on n f pts) := by
  unfold PyPh02.on Ph02Neutral.f
  show (match Ph02.callOf ((2 :: n :: f) :: pts) with | some x => Ph02.answer x | none => []) = _
  rw [call2]
theorem due3 (n : Int) (f : List Int) (pts : List (List Int)) : PyPh02.over n f pts = Ph02.answer (.over n f pts) := by
  unfold PyPh02.over Ph02Neutral.f
  show (match Ph02.callOf ((3 :: n :: f) :: pts) with | some x => Ph02.answer x | none => []) = _
  rw [call3]
/-- **what is due of on, in whole numbers** -/
theorem on_due (n : Int) (f : List Int) (pts : List (List Int)) : PyPh02.on n f pts = onT n f pts := by
  rw [due2]
  unfold Ph02.answer
  dsimp only
  rw [solid_eq]
  unfold onT
  by_cases h : refT n pts < 0
  · rw [if_pos h, if_pos h]
  rw [if_neg h, if_neg h]
  obtain ⟨P, nn, l10, _, _⟩ := ref_ok h
  have B := same_body P
  rw [row_eq B]
  by_cases g : rowOk (cornersT n.toNat pts).length f = true
  · rw [if_pos g, if_neg (by rw [g]; exact fun q => by cases q)]
    dsimp only
    rw [least_eq P B (rowOk_lt g), faceDim_eq P B fun i hi => least_lt hi]
    rfl
  · rw [if_neg g, if_pos (by simpa using g)]
end AB

set_option Elab.async false
set_option linter.all false
set_option maxRecDepth 100000
set_option maxHeartbeats 2000000
namespace AB
open PhBase
/-- the rows of any dimension, the whole body too -/
def allRows (n : Nat) (pts : List (List Int)) (d : Int) : List (List Nat) := if d = n then [List.range (cornersT n pts).length] else if d < n then rowsT n pts d else []
theorem dim_range {n : Nat} {pts : List (List Int)} (H : Pts n pts) : dimsT ((List.range (cornersT n pts).length).map fun i => (cornersT n pts).getD i []) = n := by
  rw [range_getD, dims_full H.corners]
theorem ofDim_all {n : Nat} {pts : List (List Int)} (H : Pts n pts) {b : Ph02.Body} (B : Same n pts b) (h10 : (cornersT n pts).length ≤ 40) {d : Int} (d0 : 0 ≤ d) : Ph02.ofDim b d = allRows n pts d := by
  unfold allRows
  by_cases c : d < n
  · rw [if_neg (by omega), if_pos c]
    exact ofDim_eq H B h10 d0 c
  have key : ∀ x, x ∈ Ph02.ofDim b d ↔ x = List.range (cornersT n pts).length ∧ d = n := by
    intro x
    unfold Ph02.ofDim
    rw [List.mem_filter, faces_mem H B h10, decide_eq_true_iff]
    constructor
    · rintro ⟨rfl | ⟨T, hT, rfl⟩, hd⟩
      · rw [faceDim_eq H B (by simp)] at hd
        exact absurd hd (by show ¬ (-1 : Int) = d; omega)
      · rw [faceDim_eq H B fun i hi => inter_lt hi] at hd
        by_cases e : T = []
        · subst e
          rw [inter_nil] at hd ⊢
          rw [dim_range H] at hd
          exact ⟨rfl, hd.symm⟩
        · have := shared_dim H (f := inter (cornersT n pts).length T) (by rw [sharedT_mem, shareT_iff (m := (cornersT n pts).length) _ (fun c hc => bounds_inter hc)]; exact ⟨T, e, hT, rfl⟩)
          omega
    · rintro ⟨rfl, rfl⟩
      refine ⟨.inr ⟨[], fun _ h => (by cases h), (inter_nil _).symm⟩, ?_⟩
      rw [faceDim_eq H B fun i hi => List.mem_range.mp hi, dim_range H]
  have srt : SB (Ph02.ofDim b d) := (faces_sorted b).filter _
  by_cases e : d = n
  · rw [if_pos e]
    refine ord_ext size_ord srt (List.pairwise_singleton _ _) fun x => ?_
    rw [key, List.mem_singleton]
    exact ⟨fun q => q.1, fun q => ⟨q, e⟩⟩
  · rw [if_neg e, if_neg c]
    refine List.eq_nil_iff_forall_not_mem.mpr fun x hx => e ((key x).mp hx).2
/-- is it a face? -/
def isFace (n : Nat) (pts : List (List Int)) (r : List Nat) : Bool := decide (r = []) || decide (r = List.range (cornersT n pts).length) || (sharedT (bounds n pts)).contains r
theorem face_iff {n : Nat} {pts : List (List Int)} (H : Pts n pts) {b : Ph02.Body} (B : Same n pts b) (h10 : (cornersT n pts).length ≤ 40) (r : List Nat) : (Ph02.faces b).contains r = isFace n pts r := by
  unfold isFace
  rw [Bool.eq_iff_iff, List.contains_iff_mem, faces_mem H B h10, Bool.or_eq_true, Bool.or_eq_true, decide_eq_true_iff, decide_eq_true_iff, List.contains_iff_mem, sharedT_mem, shareT_iff (m := (cornersT n pts).length) _ (fun c hc => bounds_inter hc)]
  constructor
  · rintro (h | ⟨T, hT, h⟩)
    · exact .inl (.inl h)
    · by_cases e : T = []
      · subst e
        rw [inter_nil] at h
        exact .inl (.inr h)
      · exact .inr ⟨T, e, hT, h⟩
  · rintro ((h | h) | ⟨T, _, hT, h⟩)
    · exact .inl h
    · exact .inr ⟨[], fun _ h => (by cases h), by rw [inter_nil]; exact h⟩
    · exact .inr ⟨T, hT, h⟩
theorem dim_ge (n : Nat) (pts : List (List Int)) (r : List Nat) : -1 ≤ dimR n pts r := by
  unfold dimR
  cases r with
  | nil => exact Int.le_refl _
  | cons i r => show (-1 : Int) ≤ ((hmf _ _ : Nat) : Int); omega
/-- what is over it -/
def upT (n : Nat) (pts : List (List Int)) (r : List Nat) : List (List Nat) := (allRows n pts (dimR n pts r + 1)).filter fun g => r.all g.contains
def overT (n : Int) (f : List Int) (pts : List (List Int)) : List Int :=
  if refT n pts < 0 then [refT n pts] else if rowOk (cornersT n.toNat pts).length f = false then [-4] else
  if isFace n.toNat pts (f.map Int.toNat) = false then [-6] else
  ((upT n.toNat pts (f.map Int.toNat)).length : Int) :: (upT n.toNat pts (f.map Int.toNat)).flatMap toldT
/-- **what is due of over, in whole numbers** -/
theorem over_due (n : Int) (f : List Int) (pts : List (List Int)) : PyPh02.over n f pts = overT n f pts := by
  rw [due3]
  unfold Ph02.answer
  dsimp only
  rw [solid_eq]
  unfold overT
  by_cases h : refT n pts < 0
  · rw [if_pos h, if_pos h]
  rw [if_neg h, if_neg h]
  obtain ⟨P, nn, l10, _, _⟩ := ref_ok h
  have B := same_body P
  have h40 : (cornersT n.toNat pts).length ≤ 40 := by have := cornersT_count n.toNat pts; omega
  rw [row_eq B]
  by_cases g : rowOk (cornersT n.toNat pts).length f = true
  · rw [if_pos g, if_neg (by rw [g]; exact fun q => by cases q)]
    dsimp only
    rw [face_iff P B h40]
    by_cases c : isFace n.toNat pts (f.map Int.toNat) = false
    · rw [if_pos c, if_pos c]
    · rw [if_neg c, if_neg c, faceDim_eq P B (rowOk_lt g)]
      rw [ofDim_all P B h40 (by have := dim_ge n.toNat pts (f.map Int.toNat); unfold dimR at this; omega)]
      rfl
  · rw [if_neg g, if_pos (by simpa using g)]
/-! ### a face is its own least face -/
/-- no corner is on all bounds -/
theorem no_common {n : Nat} {pts : List (List Int)} (H : Pts n pts) {i : Nat} (hi : i < (cornersT n pts).length) : ∃ b, b ∈ bounds n pts ∧ b.contains i = false := by
  apply Classical.byContradiction
  intro c
  have hb : ∀ b, b ∈ bounds n pts → b.contains i = true := fun b hb => Classical.byContradiction fun d => c ⟨b, hb, by simpa using d⟩
  obtain ⟨p, hpe⟩ : ∃ p, p = (cornersT n pts).getD i [] := ⟨_, rfl⟩
  have hp : p ∈ cornersT n pts := by rw [hpe]; exact getD_mem hi []
  have pl := cornersT_len H p hp
  have ht : ∀ t, t ∈ sidesT n (srt pts) → tightT t p = true := fun t h => by
    have := hb _ (List.mem_map_of_mem (f := fun t => (List.range (cornersT n pts).length).filter fun i => tightT t ((cornersT n pts).getD i [])) h)
    rw [List.contains_iff_mem, List.mem_filter, ← hpe] at this
    exact this.2
  have all : ∀ q, q ∈ cornersT n pts → q = p := fun q hq => by
    have ql := cornersT_len H q hq
    have hqs := cornersT_sub hq
    have hc := (cornT_iff H.srt hqs).mp (List.mem_filter.mp hq).2
    have hn := (corner_iff H.srt.sides (List.mem_map_of_mem hqs)).mp hc (lin (vv q) (-1) (vv p)) fun f hf he => by
      obtain ⟨t, htm, rfl⟩ := List.mem_map.mp hf
      have tl := sidesT_len H.srt t htm
      have h1 := (tightT_iff tl pl).mp (ht t htm)
      have he : dt n (vv q) (vv t) = vv t n := he
      show dt n (lin (vv q) (-1) (vv p)) (vv t) = 0
      rw [dt_lin', he, h1]; grind
    refine (eqn_iv ql pl).mp fun j hj => ?_
    have := hn j hj
    rw [lin_at] at this
    grind
  have nd : (cornersT n pts).Nodup := by
    have h1 : (srt pts).Nodup := (srt_sorted H.len).imp fun {a b} h e => by
      subst e
      rw [(lexI_ord 0).irr] at h
      cases h
    exact h1.sublist List.filter_sublist
  have h1 : (cornersT n pts).length ≤ 1 := by
    have := List.Nodup.length_le_of_subset nd (l₂ := [p]) fun q hq => List.mem_singleton.mpr (all q hq)
    simpa using this
  have hd := dims_full H.corners
  have n2 := H.n2
  cases hcs : cornersT n pts with
  | nil => rw [hcs] at hi; cases hi
  | cons a r =>
    rw [hcs] at h1 hd
    have : r = [] := by
      cases r with
      | nil => rfl
      | cons _ _ => simp at h1
    subst this
    have hd : ((hmf 0 [] : Nat) : Int) = n := hd
    have : hmf 0 [] = 0 := rfl
    rw [this] at hd
    omega
theorem least_inter (m : Nat) (bs : List (List Nat)) (r : List Nat) : leastT m bs r = inter m (bs.filter fun b => r.all fun j => b.contains j) := by
  unfold leastT inter
  apply List.filter_congr
  intro i _
  rw [List.all_filter]
theorem rise_ext : ∀ {a b : List Nat}, a.Pairwise (· < ·) → b.Pairwise (· < ·) → (∀ x, x ∈ a ↔ x ∈ b) → a = b := fun {a b} ha hb h =>
  ord_ext (lt := fun x y => decide (x < y)) (D := fun _ => True) ⟨fun a => by simp, fun a b h => by simp at h ⊢; omega, fun a b _ _ ne h => by simp at h ⊢; omega, fun a b c _ _ _ h h' => by simp at h h' ⊢; omega⟩ (ha.imp fun h => decide_eq_true h) (hb.imp fun h => decide_eq_true h) h
theorem face_least {n : Nat} {pts : List (List Int)} (H : Pts n pts) {r : List Nat} (hr : r.Pairwise (· < ·)) (hm : ∀ i, i ∈ r → i < (cornersT n pts).length) : isFace n pts r = decide (leastT (cornersT n pts).length (bounds n pts) r = r) := by
  have hin : ∀ i, i ∈ r → i ∈ leastT (cornersT n pts).length (bounds n pts) r := fun i hi => by
    unfold leastT
    rw [List.mem_filter, List.mem_range]
    refine ⟨hm i hi, List.all_eq_true.mpr fun b _ => ?_⟩
    cases c : r.all fun j => b.contains j with
    | false => rfl
    | true => exact List.all_eq_true.mp c i hi
  have hl : (leastT (cornersT n pts).length (bounds n pts) r).Pairwise (· < ·) := List.pairwise_lt_range.sublist List.filter_sublist
  rw [Bool.eq_iff_iff, decide_eq_true_iff]
  unfold isFace
  rw [Bool.or_eq_true, Bool.or_eq_true, decide_eq_true_iff, decide_eq_true_iff, List.contains_iff_mem, sharedT_mem, shareT_iff (m := (cornersT n pts).length) _ (fun c hc => bounds_inter hc)]
  constructor
  · rintro ((h | h) | ⟨T, _, hT, h⟩)
    · subst h
      refine List.eq_nil_iff_forall_not_mem.mpr fun i hi => ?_
      have hi' := least_lt hi
      obtain ⟨b, hb, hc⟩ := no_common H hi'
      have := List.all_eq_true.mp (List.mem_filter.mp hi).2 b hb
      rw [hc] at this
      simp at this
    · refine rise_ext hl hr fun i => ⟨fun hi => ?_, hin i⟩
      rw [h, List.mem_range]; exact least_lt hi
    · refine rise_ext hl hr fun i => ⟨fun hi => ?_, hin i⟩
      have hi1 := List.mem_filter.mp hi
      have key : i ∈ inter (cornersT n pts).length T := List.mem_filter.mpr ⟨hi1.1, List.all_eq_true.mpr fun b hb => by
        have := List.all_eq_true.mp hi1.2 b (hT b hb)
        have hall : (r.all fun j => b.contains j) = true := List.all_eq_true.mpr fun j hj => by
          rw [h] at hj
          exact List.all_eq_true.mp (List.mem_filter.mp hj).2 b hb
        rw [hall] at this
        simpa using this⟩
      rw [h]; exact key
  · intro h
    rw [least_inter] at h
    by_cases e : (bounds n pts).filter (fun b => r.all fun j => b.contains j) = []
    · rw [e, inter_nil] at h
      exact .inl (.inr h.symm)
    · exact .inr ⟨_, e, fun b hb => (List.mem_filter.mp hb).1, h.symm⟩
end AB

set_option Elab.async false
set_option linter.all false
set_option maxRecDepth 100000
set_option maxHeartbeats 2000000
namespace AB
open PhBase
/-! # alike and ways, in whole numbers -/
/-- in which ways two bodies are built alike: rows that tell where each corner goes -/
def alikeR (n : Nat) (a b : List (List Int)) : List (List Nat) :=
  if (cornersT n a).length ≠ (cornersT n b).length ∨ (bounds n a).length ≠ (bounds n b).length then [] else
  Ph02.ways (bounds n a) (bounds n b) (cornersT n a).length [] (List.range (cornersT n b).length)
theorem bounds_len {n : Nat} {pts : List (List Int)} {b : Ph02.Body} (B : Same n pts b) : b.sides.length = (bounds n pts).length := by
  unfold bounds bndT
  rw [B.s, List.length_map, List.length_map]
theorem alike_eq {n : Nat} {p q : List (List Int)} (P : Pts n p) (Q : Pts n q) {a b : Ph02.Body} (A : Same n p a) (B : Same n q b) : Ph02.alike a b = alikeR n p q := by
  unfold Ph02.alike alikeR
  rw [bounds_eq P A, bounds_eq Q B, bounds_len A, bounds_len B, A.c, B.c, List.length_map, List.length_map, A.nn, B.nn]
  by_cases c : (cornersT n p).length ≠ (cornersT n q).length ∨ (bounds n p).length ≠ (bounds n q).length
  · rw [if_pos c, if_pos (c.elim .inl fun c => .inr (.inl c))]
  · rw [if_neg c, if_neg (by rintro (d | d | d); exact c (.inl d); exact c (.inr d); exact d rfl)]
def alikeT (n k : Int) (pts : List (List Int)) : List Int :=
  if k < 0 ∨ pts.length < k.toNat then [-4] else if refT n (pts.take k.toNat) < 0 then [refT n (pts.take k.toNat)] else if refT n (pts.drop k.toNat) < 0 then [refT n (pts.drop k.toNat)] else
  match alikeR n.toNat (pts.take k.toNat) (pts.drop k.toNat) with
  | [] => [0]
  | m :: r => ((r.length + 1 : Nat) : Int) :: m.map fun (i : Nat) => (i : Int)
def waysT (n : Int) (pts : List (List Int)) : List Int := if refT n pts < 0 then [refT n pts] else [((alikeR n.toNat pts pts).length : Int)]
theorem due4 (n k : Int) (pts : List (List Int)) : PyPh02.alike n k pts = Ph02.answer (.alike n k pts) := by
  unfold PyPh02.alike Ph02Neutral.f
  show (match Ph02.callOf ([4, n, k] :: pts) with | some x => Ph02.answer x | none => []) = _
  rw [call4]
theorem due5 (n : Int) (pts : List (List Int)) : PyPh02.ways n pts = Ph02.answer (.ways n pts) := by
  unfold PyPh02.ways Ph02Neutral.f
  show (match Ph02.callOf ([5, n] :: pts) with | some x => Ph02.answer x | none => []) = _
  rw [call5]
/-- **what is due of alike, of ways, in whole numbers** -/
theorem alike_due (n k : Int) (pts : List (List Int)) : PyPh02.alike n k pts = alikeT n k pts := by
  rw [due4]
  unfold Ph02.answer alikeT
  dsimp only
  by_cases c : k < 0 ∨ pts.length < k.toNat
  · rw [if_pos c, if_pos c]
  rw [if_neg c, if_neg c, solid_eq]
  by_cases h : refT n (pts.take k.toNat) < 0
  · rw [if_pos h, if_pos h]
  rw [if_neg h, if_neg h, solid_eq]
  by_cases g : refT n (pts.drop k.toNat) < 0
  · rw [if_pos g, if_pos g]
  rw [if_neg g, if_neg g]
  obtain ⟨P, _⟩ := ref_ok h
  obtain ⟨Q, _⟩ := ref_ok g
  rw [alike_eq P Q (same_body P) (same_body Q)]
  cases alikeR n.toNat (pts.take k.toNat) (pts.drop k.toNat) with
  | nil => rfl
  | cons m r => rfl
theorem ways_due (n : Int) (pts : List (List Int)) : PyPh02.ways n pts = waysT n pts := by
  rw [due5]
  unfold Ph02.answer waysT
  dsimp only
  rw [solid_eq]
  by_cases h : refT n pts < 0
  · rw [if_pos h, if_pos h]
  rw [if_neg h, if_neg h]
  obtain ⟨P, _⟩ := ref_ok h
  rw [alike_eq P P (same_body P) (same_body P)]
  rfl
end AB

set_option Elab.async false
set_option linter.all false
set_option maxRecDepth 100000
set_option maxHeartbeats 2000000
namespace AB
open PhBase
/-! # ways: rows made longer, corner by corner -/
/-- all that come of a row with k corners more, in order, each of what goes on being as P says -/
def ext (P : List Nat → Bool) (m : Nat) : Nat → List Nat → List (List Nat)
  | 0, r => [r]
  | k + 1, r => ((List.range m).filter fun j => !r.contains j).flatMap fun j => if P (r ++ [j]) = true then ext P m k (r ++ [j]) else []
theorem ways_ext (a b : List (List Nat)) (m : Nat) : ∀ (k : Nat) (r : List Nat), Ph02.ways a b k r ((List.range m).filter fun j => !r.contains j) = ext (Ph02.fits a b) m k r
  | 0, r => rfl
  | k + 1, r => by
    unfold Ph02.ways ext
    congr 1
    funext j
    by_cases c : Ph02.fits a b (r ++ [j]) = true
    · rw [if_pos c, if_pos c, ← ways_ext a b m k (r ++ [j])]
      congr 1
      rw [List.Nodup.erase_eq_filter (List.Nodup.sublist List.filter_sublist List.nodup_range), List.filter_filter]
      apply List.filter_congr
      intro x _
      rw [Bool.eq_iff_iff]
      simp only [List.contains_eq_mem, List.mem_append, List.mem_singleton, Bool.and_eq_true, bne_iff_ne, Bool.not_eq_true', decide_eq_false_iff_not, not_or]
      exact ⟨fun h => ⟨h.2, h.1⟩, fun h => ⟨h.2, h.1⟩⟩
    · rw [if_neg c, if_neg c]
theorem ext_mem (P : List Nat → Bool) (m : Nat) : ∀ (k : Nat) (r x : List Nat), x ∈ ext P m k r → x.take r.length = r ∧ x.length = r.length + k ∧ (r.Nodup → x.Nodup) ∧ ((∀ a, a ∈ r → a < m) → ∀ a, a ∈ x → a < m)
  | 0, r, x, h => by
    cases List.mem_singleton.mp h
    exact ⟨List.take_length, rfl, id, id⟩
  | k + 1, r, x, h => by
    obtain ⟨j, hj, hx⟩ := List.mem_flatMap.mp h
    split at hx
    · obtain ⟨h1, h2, h3, h4⟩ := ext_mem P m k _ _ hx
      rw [List.length_append, List.length_singleton] at h1 h2
      obtain ⟨j1, j2⟩ := List.mem_filter.mp hj
      have j3 : j ∉ r := by simpa using j2
      refine ⟨?_, by omega, fun nd => h3 ?_, fun lt => h4 fun a ha => ?_⟩
      · have := congrArg (List.take r.length) h1
        rwa [List.take_take, Nat.min_eq_left (by omega), List.take_append_of_le_length (Nat.le_refl _), List.take_length] at this
      · rw [List.nodup_append]
        refine ⟨nd, (by simp), fun a ha b hb => ?_⟩
        rw [List.mem_singleton.mp hb]
        exact fun e => j3 (e ▸ ha)
      · rcases List.mem_append.mp ha with w | w
        · exact lt a w
        · rw [List.mem_singleton.mp w]; exact List.mem_range.mp j1
    · cases hx
def top : List Nat → Bool := fun _ => true
theorem ext_good (P : List Nat → Bool) (G : List Nat → Bool) (m : Nat) : ∀ (k : Nat) (r : List Nat),
    (∀ x, x ∈ ext top m k r → G x = true → ∀ i, r.length < i → i ≤ r.length + k → P (x.take i) = true) →
    (∀ x, x ∈ ext top m k r → (∀ i, r.length < i → i ≤ r.length + k → P (x.take i) = true) → G x = true) →
    ext P m k r = (ext top m k r).filter G
  | 0, r, _, h2 => by
    have : G r = true := h2 r (List.mem_singleton.mpr rfl) fun i a b => by omega
    unfold ext
    rw [List.filter_cons_of_pos this]; rfl
  | k + 1, r, h1, h2 => by
    unfold ext
    rw [List.filter_flatMap]
    refine congrArg List.flatten (List.map_congr_left fun j hj => ?_)
    rw [if_pos (show top (r ++ [j]) = true from rfl)]
    have mem : ∀ x, x ∈ ext top m k (r ++ [j]) → x ∈ ext top m (k + 1) r := fun x hx => List.mem_flatMap.mpr ⟨j, hj, by rw [if_pos (show top (r ++ [j]) = true from rfl)]; exact hx⟩
    have tk : ∀ x, x ∈ ext top m k (r ++ [j]) → x.take (r.length + 1) = r ++ [j] := fun x hx => by
      have := (ext_mem top m k _ _ hx).1
      rwa [List.length_append, List.length_singleton] at this
    by_cases c : P (r ++ [j]) = true
    · rw [if_pos c]
      refine ext_good P G m k (r ++ [j]) (fun x hx g i a b => ?_) (fun x hx g => ?_)
      · rw [List.length_append, List.length_singleton] at a b
        exact h1 x (mem x hx) g i (by omega) (by omega)
      · refine h2 x (mem x hx) fun i a b => ?_
        by_cases e : i = r.length + 1
        · rw [e, tk x hx]; exact c
        · exact g i (by rw [List.length_append, List.length_singleton]; omega) (by rw [List.length_append, List.length_singleton]; omega)
    · rw [if_neg c]
      symm
      refine List.filter_eq_nil_iff.mpr fun x hx g => c ?_
      have := h1 x (mem x hx) g (r.length + 1) (by omega) (by omega)
      rwa [tk x hx] at this
/-! ### the program's way: all rows at once, corner by corner -/
def stepT (P : List Nat → Bool) (m : Nat) (r : List Nat) : List (List Nat) := (((List.range m).filter fun j => !r.contains j).map fun j => r ++ [j]).filter P
def rowsAt (P : List Nat → Bool) (m : Nat) : Nat → List (List Nat)
  | 0 => [[]]
  | i + 1 => (rowsAt P m i).flatMap (stepT P m)
theorem filter_flat {α β : Type} (f : α → β) (P : β → Bool) {γ : Type} (g : β → List γ) : ∀ l : List α, (l.flatMap fun j => if P (f j) = true then g (f j) else []) = ((l.map f).filter P).flatMap g
  | [] => rfl
  | a :: l => by
    rw [List.flatMap_cons, List.map_cons, filter_flat f P g l]
    by_cases c : P (f a) = true
    · rw [if_pos c, List.filter_cons_of_pos c, List.flatMap_cons]
    · rw [if_neg c, List.filter_cons_of_neg c, List.nil_append]
theorem ext_step (P : List Nat → Bool) (m k : Nat) (r : List Nat) : ext P m (k + 1) r = (stepT P m r).flatMap (ext P m k) := by
  unfold stepT
  rw [← filter_flat]
  rfl
theorem rows_ext (P : List Nat → Bool) (m : Nat) : ∀ i k, i + k = m → (rowsAt P m i).flatMap (ext P m k) = ext P m m []
  | 0, k, h => by
    rw [show k = m by omega]
    show [[]].flatMap (ext P m m) = _
    rw [List.flatMap_cons, List.flatMap_nil, List.append_nil]
  | i + 1, k, h => by
    rw [← rows_ext P m i (k + 1) (by omega)]
    show ((rowsAt P m i).flatMap (stepT P m)).flatMap _ = _
    rw [List.flatMap_assoc]
    congr 1
    funext r
    exact (ext_step P m k r).symm
theorem rows_all (P : List Nat → Bool) (m : Nat) : rowsAt P m m = ext P m m [] := by
  rw [← rows_ext P m m 0 (by omega)]
  show rowsAt P m m = (rowsAt P m m).flatMap fun r => [r]
  rw [List.flatMap_singleton' ]
/-! ### how many -/
def fct : Nat → Nat
  | 0 => 1
  | k + 1 => (k + 1) * fct k
theorem fct_pos : ∀ k, 0 < fct k
  | 0 => by decide
  | k + 1 => Nat.mul_pos (by omega) (fct_pos k)
theorem fct_le : ∀ {j k : Nat}, j ≤ k → fct j ≤ fct k := by
  intro j k h
  induction h with
  | refl => exact Nat.le_refl _
  | @step k _ ih => exact Nat.le_trans ih (by show fct k ≤ (k + 1) * fct k; exact Nat.le_mul_of_pos_left _ (Nat.succ_pos k))
structure RowIn (m i : Nat) (r : List Nat) : Prop where
  len : r.length = i
  nd : r.Nodup
  lt : ∀ a, a ∈ r → a < m
theorem part_len {α : Type} (p : α → Bool) : ∀ l : List α, (l.filter p).length + (l.filter fun x => !p x).length = l.length
  | [] => rfl
  | a :: l => by
    have ih := part_len p l
    cases c : p a with
    | true => rw [List.filter_cons_of_pos c, List.filter_cons_of_neg (by rw [c]; decide), List.length_cons, List.length_cons]; omega
    | false => rw [List.filter_cons_of_neg (by rw [c]; decide), List.filter_cons_of_pos (by rw [c]; rfl), List.length_cons, List.length_cons]; omega
theorem free_len {m i : Nat} {r : List Nat} (R : RowIn m i r) : ((List.range m).filter fun j => !r.contains j).length + i = m := by
  have h1 : ((List.range m).filter fun j => r.contains j).length = i := by
    rw [← R.len]
    apply Nat.le_antisymm
    · exact List.Nodup.length_le_of_subset (List.Nodup.sublist List.filter_sublist List.nodup_range) fun a ha => by
        have := (List.mem_filter.mp ha).2
        exact List.contains_iff_mem.mp this
    · exact List.Nodup.length_le_of_subset R.nd fun a ha => List.mem_filter.mpr ⟨List.mem_range.mpr (R.lt a ha), List.contains_iff_mem.mpr ha⟩
  have h2 := part_len (fun j => r.contains j) (List.range m)
  rw [List.length_range] at h2
  omega
theorem step_in {P : List Nat → Bool} {m i : Nat} {r x : List Nat} (R : RowIn m i r) (h : x ∈ stepT P m r) : RowIn m (i + 1) x := by
  obtain ⟨h1, _⟩ := List.mem_filter.mp h
  obtain ⟨j, hj, rfl⟩ := List.mem_map.mp h1
  obtain ⟨j1, j2⟩ := List.mem_filter.mp hj
  have j3 : j ∉ r := by simpa using j2
  refine ⟨by rw [List.length_append, List.length_singleton, R.len], ?_, fun a ha => ?_⟩
  · rw [List.nodup_append]
    refine ⟨R.nd, (by simp), fun a ha b hb => ?_⟩
    rw [List.mem_singleton.mp hb]
    exact fun e => j3 (e ▸ ha)
  · rcases List.mem_append.mp ha with w | w
    · exact R.lt a w
    · rw [List.mem_singleton.mp w]; exact List.mem_range.mp j1
theorem rows_in {P : List Nat → Bool} {m : Nat} : ∀ i x, x ∈ rowsAt P m i → RowIn m i x
  | 0, x, h => by
    cases List.mem_singleton.mp h
    exact ⟨rfl, .nil, fun a ha => by cases ha⟩
  | i + 1, x, h => by
    obtain ⟨r, hr, hx⟩ := List.mem_flatMap.mp h
    exact step_in (rows_in i r hr) hx
theorem flat_le {α β : Type} {f : α → List β} {c : Nat} : ∀ l : List α, (∀ a, a ∈ l → (f a).length ≤ c) → (l.flatMap f).length ≤ l.length * c
  | [], _ => by simp
  | a :: l, h => by
    have h1 := h a (List.mem_cons_self ..)
    have h2 := flat_le l fun b hb => h b (List.mem_cons_of_mem _ hb)
    rw [List.flatMap_cons, List.length_append, List.length_cons, Nat.succ_mul]
    omega
theorem step_le {P : List Nat → Bool} {m i : Nat} {r : List Nat} (R : RowIn m i r) : (stepT P m r).length ≤ m - i := by
  have := free_len R
  refine Nat.le_trans (List.length_filter_le _ _) ?_
  rw [List.length_map]
  omega
theorem rows_few {P : List Nat → Bool} {m : Nat} : ∀ i, i ≤ m → (rowsAt P m i).length * fct (m - i) ≤ fct m
  | 0, _ => by show 1 * fct m ≤ fct m; omega
  | i + 1, h => by
    have ih := rows_few (P := P) (m := m) i (by omega)
    have h1 : (rowsAt P m (i + 1)).length ≤ (rowsAt P m i).length * (m - i) := flat_le _ fun r hr => step_le (rows_in i r hr)
    have e : fct (m - i) = (m - i) * fct (m - (i + 1)) := by
      obtain ⟨k, hk⟩ : ∃ k, m - i = k + 1 := ⟨m - i - 1, by omega⟩
      rw [hk, show m - (i + 1) = k by omega]; rfl
    rw [e, ← Nat.mul_assoc] at ih
    exact Nat.le_trans (Nat.mul_le_mul_right _ h1) ih
theorem rows_max {P : List Nat → Bool} {m i : Nat} (hi : i ≤ m) (hm : m ≤ 10) : (rowsAt P m i).length ≤ 3628800 := by
  have h1 := rows_few (P := P) i hi
  have h2 : fct m ≤ fct 10 := fct_le hm
  have h3 : fct 10 = 3628800 := by decide
  have h4 := Nat.le_mul_of_pos_right (rowsAt P m i).length (fct_pos (m - i))
  omega
end AB

set_option Elab.async false
set_option linter.all false
set_option maxRecDepth 100000
set_option maxHeartbeats 2000000
namespace AB
open PhBase
/-! # what a row that isn't whole tells -/
def le2 (a b : Nat) : Bool := decide (a ≤ b)
def srtN (l : List Nat) : List Nat := l.mergeSort le2
theorem srtN_perm (l : List Nat) : (srtN l).Perm l := List.mergeSort_perm l le2
theorem srtN_pair (l : List Nat) : (srtN l).Pairwise fun a b => a ≤ b :=
  (List.pairwise_mergeSort (le := le2) (fun a b c h1 h2 => decide_eq_true (Nat.le_trans (of_decide_eq_true h1) (of_decide_eq_true h2))) (fun a b => by
    unfold le2
    rcases Nat.le_total a b with h | h
    · rw [decide_eq_true h]; rfl
    · rw [decide_eq_true h, Bool.or_true]) l).imp fun h => of_decide_eq_true h
theorem srtN_rise {l : List Nat} (nd : l.Nodup) : (srtN l).Pairwise fun a b => a < b := by
  have h1 := srtN_pair l
  have h2 : (srtN l).Nodup := (srtN_perm l).nodup_iff.mpr nd
  have h3 := List.Pairwise.and h1 h2
  exact h3.imp fun h => Nat.lt_of_le_of_ne h.1 h.2
def goneT (A : List (List Nat)) (r : List Nat) : List (List Nat) := A.map fun f => srtN ((f.filter fun i => decide (i < r.length)).map fun i => r.getD i 0)
def metT (B : List (List Nat)) (r : List Nat) : List (List Nat) := B.map fun g => g.filter fun i => r.contains i
def goesT (A B : List (List Nat)) (r : List Nat) : Bool := (goneT A r).isPerm (metT B r)
theorem perm_same {α : Type} [DecidableEq α] {a b : List α} (na : a.Nodup) (nb : b.Nodup) (sub : ∀ x, x ∈ a → x ∈ b) (le : b.length ≤ a.length) : a.Perm b := by
  rw [List.perm_ext_iff_of_nodup na nb]
  intro x
  refine ⟨sub x, fun hx => Classical.byContradiction fun hn => ?_⟩
  have : (x :: a).Nodup := List.nodup_cons.mpr ⟨hn, na⟩
  have := List.Nodup.length_le_of_subset this (l₂ := b) fun y hy => by
    rcases List.mem_cons.mp hy with e | e
    · rw [e]; exact hx
    · exact sub y e
  rw [List.length_cons] at this
  omega
/-- rows of numbers of m corners, each rising, each once -/
structure Bnds (m : Nat) (A : List (List Nat)) : Prop where
  nd : A.Nodup
  ris : ∀ f, f ∈ A → f.Pairwise (· < ·)
  lt : ∀ f, f ∈ A → ∀ i, i ∈ f → i < m
theorem ris_nd {f : List Nat} (h : f.Pairwise (· < ·)) : f.Nodup := h.imp fun h => Nat.ne_of_lt h
theorem getD_inj {x : List Nat} (nd : x.Nodup) {i j : Nat} (hi : i < x.length) (hj : j < x.length) (e : x.getD i 0 = x.getD j 0) : i = j := by
  rw [List.getD_eq_getElem?_getD, List.getD_eq_getElem?_getD, List.getElem?_eq_getElem hi, List.getElem?_eq_getElem hj] at e
  exact (List.getElem_inj nd).mp e
theorem img_nd {x f : List Nat} (nd : x.Nodup) (hf : f.Nodup) (lt : ∀ i, i ∈ f → i < x.length) : (f.map fun i => x.getD i 0).Nodup := by
  unfold List.Nodup
  rw [List.pairwise_map]
  exact List.Pairwise.imp_of_mem (fun {a b} ha hb h e => h (getD_inj nd (lt a ha) (lt b hb) e)) hf
theorem mem_take {x : List Nat} {i : Nat} {y : Nat} : y ∈ x.take i ↔ ∃ a, a < i ∧ a < x.length ∧ x.getD a 0 = y := by
  constructor
  · intro h
    obtain ⟨a, ha, e⟩ := List.mem_iff_getElem.mp h
    rw [List.length_take] at ha
    refine ⟨a, by omega, by omega, ?_⟩
    rw [List.getElem_take] at e
    rw [List.getD_eq_getElem?_getD, List.getElem?_eq_getElem (by omega)]
    exact e
  · rintro ⟨a, h1, h2, e⟩
    rw [List.getD_eq_getElem?_getD, List.getElem?_eq_getElem h2] at e
    refine List.mem_iff_getElem.mpr ⟨a, by rw [List.length_take]; omega, ?_⟩
    rw [List.getElem_take]
    exact e
theorem take_getD {x : List Nat} {i a : Nat} (h : a < i) : (x.take i).getD a 0 = x.getD a 0 := by
  rw [List.getD_eq_getElem?_getD, List.getD_eq_getElem?_getD, List.getElem?_take_of_lt h]
theorem fits_iff (A B : List (List Nat)) (x : List Nat) : Ph02.fits A B x = true ↔ ∀ f, f ∈ A → (∀ i, i ∈ f → i < x.length) → ∃ g, g ∈ B ∧ g.length = f.length ∧ ∀ i, i ∈ f → x.getD i 0 ∈ g := by
  unfold Ph02.fits
  rw [List.all_eq_true]
  refine forall_congr' fun f => forall_congr' fun hf => ?_
  simp only [Bool.or_eq_true, Bool.not_eq_true', List.any_eq_true, Bool.and_eq_true, beq_iff_eq, List.all_eq_true, List.contains_iff_mem]
  constructor
  · rintro (h | ⟨g, h1, h2, h3⟩) lt
    · exfalso
      rw [← Bool.not_eq_true, List.all_eq_true] at h
      exact h fun i hi => decide_eq_true (lt i hi)
    · exact ⟨g, h1, h2, h3⟩
  · intro h
    by_cases c : ∀ i, i ∈ f → i < x.length
    · exact .inr (h c)
    · left
      rw [← Bool.not_eq_true, List.all_eq_true]
      exact fun w => c fun i hi => of_decide_eq_true (w i hi)
theorem fits_take {A B : List (List Nat)} {x : List Nat} {i : Nat} (h : Ph02.fits A B x = true) : Ph02.fits A B (x.take i) = true := by
  rw [fits_iff] at h ⊢
  intro f hf lt
  rw [List.length_take] at lt
  obtain ⟨g, h1, h2, h3⟩ := h f hf fun i hi => by have := lt i hi; omega
  refine ⟨g, h1, h2, fun j hj => ?_⟩
  rw [take_getD (by have := lt j hj; omega)]
  exact h3 j hj
/-- where the corners of a side go -/
def img (x f : List Nat) : List Nat := srtN (f.map fun i => x.getD i 0)
section
variable {m : Nat} {A B : List (List Nat)} {x : List Nat}
theorem img_ris (R : RowIn m m x) (hA : Bnds m A) {f : List Nat} (hf : f ∈ A) : (img x f).Pairwise (· < ·) :=
  srtN_rise (img_nd R.nd (ris_nd (hA.ris f hf)) fun i hi => by rw [R.len]; exact hA.lt f hf i hi)
theorem img_mem {f : List Nat} {y : Nat} : y ∈ img x f ↔ ∃ i, i ∈ f ∧ x.getD i 0 = y := by
  unfold img
  rw [(srtN_perm _).mem_iff, List.mem_map]
theorem img_inj (R : RowIn m m x) (hA : Bnds m A) {f g : List Nat} (hf : f ∈ A) (hg : g ∈ A) (e : img x f = img x g) : f = g := by
  refine rise_ext (hA.ris f hf) (hA.ris g hg) fun i => ?_
  have key : ∀ f g, f ∈ A → g ∈ A → img x f = img x g → i ∈ f → i ∈ g := fun f g hf hg e hi => by
    have : x.getD i 0 ∈ img x g := by rw [← e]; exact img_mem.mpr ⟨i, hi, rfl⟩
    obtain ⟨j, hj, ej⟩ := img_mem.mp this
    rw [← getD_inj R.nd (by rw [R.len]; exact hA.lt g hg j hj) (by rw [R.len]; exact hA.lt f hf i hi) ej]
    exact hj
  exact ⟨key f g hf hg e, key g f hg hf e.symm⟩
theorem imgs_nd (R : RowIn m m x) (hA : Bnds m A) : (A.map (img x)).Nodup := by
  unfold List.Nodup
  rw [List.pairwise_map]
  exact List.Pairwise.imp_of_mem (fun {a b} ha hb h e => h (img_inj R hA ha hb e)) hA.nd
theorem imgs_perm (R : RowIn m m x) (hA : Bnds m A) (hB : Bnds m B) (hl : A.length = B.length) (h : Ph02.fits A B x = true) : (A.map (img x)).Perm B := by
  refine perm_same (imgs_nd R hA) hB.nd (fun y hy => ?_) (by rw [List.length_map, hl]; exact Nat.le_refl _)
  obtain ⟨f, hf, rfl⟩ := List.mem_map.mp hy
  obtain ⟨g, h1, h2, h3⟩ := (fits_iff A B x).mp h f hf fun i hi => by rw [R.len]; exact hA.lt f hf i hi
  have : img x f = g := by
    refine rise_ext (img_ris R hA hf) (hB.ris g h1) fun y => ?_
    have p : (img x f).Perm g := perm_same (ris_nd (img_ris R hA hf)) (ris_nd (hB.ris g h1)) (fun y hy => by
      obtain ⟨i, hi, e⟩ := img_mem.mp hy
      rw [← e]; exact h3 i hi) (by unfold img; rw [(srtN_perm _).length_eq, List.length_map, h2]; exact Nat.le_refl _)
    exact p.mem_iff
  rw [this]; exact h1
theorem gone_take (R : RowIn m m x) (hA : Bnds m A) {i : Nat} (hi : i ≤ m) : goneT A (x.take i) = (A.map (img x)).map fun g => g.filter fun y => (x.take i).contains y := by
  unfold goneT
  rw [List.map_map]
  have hl : (x.take i).length = i := by rw [List.length_take, R.len]; omega
  refine List.map_congr_left fun f hf => ?_
  have lt : ∀ j, j ∈ f → j < x.length := fun j hj => by rw [R.len]; exact hA.lt f hf j hj
  have e : ((f.filter fun j => decide (j < (x.take i).length)).map fun j => (x.take i).getD j 0) = (f.filter fun j => decide (j < i)).map fun j => x.getD j 0 := by
    rw [hl]
    exact List.map_congr_left fun j hj => take_getD (of_decide_eq_true (List.mem_filter.mp hj).2)
  rw [e]
  have sub : ∀ j, j ∈ f.filter (fun j => decide (j < i)) → j < x.length := fun j hj => lt j (List.mem_filter.mp hj).1
  have r1 : (srtN ((f.filter fun j => decide (j < i)).map fun j => x.getD j 0)).Pairwise (· < ·) := srtN_rise (img_nd R.nd (List.Nodup.sublist List.filter_sublist (ris_nd (hA.ris f hf))) sub)
  have r2 : ((img x f).filter fun y => (x.take i).contains y).Pairwise (· < ·) := (img_ris R hA hf).sublist List.filter_sublist
  refine rise_ext r1 r2 fun y => ?_
  show y ∈ _ ↔ y ∈ (img x f).filter fun y => (x.take i).contains y
  rw [(srtN_perm _).mem_iff, List.mem_map, List.mem_filter, img_mem, List.contains_iff_mem, mem_take]
  constructor
  · rintro ⟨j, hj, rfl⟩
    obtain ⟨j1, j2⟩ := List.mem_filter.mp hj
    exact ⟨⟨j, j1, rfl⟩, j, of_decide_eq_true j2, lt j j1, rfl⟩
  · rintro ⟨⟨j, hj, rfl⟩, a, a1, a2, a3⟩
    have := getD_inj R.nd a2 (lt j hj) a3
    subst this
    exact ⟨a, List.mem_filter.mpr ⟨hj, decide_eq_true a1⟩, rfl⟩
theorem row_whole (R : RowIn m m x) : ∀ i, i < m → i ∈ x := fun i hi => by
  have : x.Perm (List.range m) := perm_same R.nd List.nodup_range (fun a ha => List.mem_range.mpr (R.lt a ha)) (by rw [List.length_range, R.len]; exact Nat.le_refl _)
  exact this.mem_iff.mpr (List.mem_range.mpr hi)
theorem met_whole (R : RowIn m m x) (hB : Bnds m B) : metT B x = B := by
  unfold metT
  conv => rhs; rw [← List.map_id B]
  refine List.map_congr_left fun g hg => ?_
  exact List.filter_eq_self.mpr fun i hi => List.contains_iff_mem.mpr (row_whole R i (hB.lt g hg i hi))
theorem filter_yes {α : Type} {p : α → Bool} {l : List α} (h : ∀ a, a ∈ l → p a = true) : l.filter p = l := List.filter_eq_self.mpr h
theorem goes_take (R : RowIn m m x) (hA : Bnds m A) (hB : Bnds m B) (hl : A.length = B.length) (h : Ph02.fits A B x = true) {i : Nat} (hi : i ≤ m) : goesT A B (x.take i) = true := by
  unfold goesT
  rw [List.isPerm_iff, gone_take R hA hi]
  exact (imgs_perm R hA hB hl h).map _
theorem goes_whole (R : RowIn m m x) (hA : Bnds m A) (hB : Bnds m B) (h : goesT A B x = true) : A.length = B.length ∧ Ph02.fits A B x = true := by
  unfold goesT at h
  have e := gone_take R hA (Nat.le_refl m)
  have tk : x.take m = x := by rw [← R.len]; exact List.take_length
  rw [tk] at e
  have e2 : ((A.map (img x)).map fun g => g.filter fun y => x.contains y) = A.map (img x) := by
    conv => rhs; rw [← List.map_id (A.map (img x))]
    refine List.map_congr_left fun g hg => ?_
    obtain ⟨f, hf, rfl⟩ := List.mem_map.mp hg
    refine filter_yes fun y hy => ?_
    obtain ⟨j, hj, rfl⟩ := img_mem.mp hy
    have := hA.lt f hf j hj
    rw [List.contains_iff_mem, List.getD_eq_getElem?_getD, List.getElem?_eq_getElem (by rw [R.len]; exact this)]
    exact List.getElem_mem _
  rw [List.isPerm_iff, e, e2, met_whole R hB] at h
  have hl := h.length_eq
  rw [List.length_map] at hl
  refine ⟨hl, (fits_iff A B x).mpr fun f hf _ => ⟨img x f, h.mem_iff.mp (List.mem_map_of_mem hf), ?_, fun i hi => img_mem.mpr ⟨i, hi, rfl⟩⟩⟩
  unfold img
  rw [(srtN_perm _).length_eq, List.length_map]
theorem top_in {k : Nat} (h : x ∈ ext top m m []) : RowIn m m x := by
  obtain ⟨_, h2, h3, h4⟩ := ext_mem top m m [] x h
  exact ⟨by rw [h2, List.length_nil]; omega, h3 .nil, h4 fun a ha => by cases ha⟩
/-- **the program's way tells what is due** -/
theorem rows_due (hm : 0 < m) (hA : Bnds m A) (hB : Bnds m B) : rowsAt (goesT A B) m m = if A.length ≠ B.length then [] else Ph02.ways A B m [] (List.range m) := by
  rw [rows_all]
  have tk : ∀ {x : List Nat}, RowIn m m x → x.take m = x := fun R => by rw [← R.len]; exact List.take_length
  by_cases c : A.length ≠ B.length
  · rw [if_pos c, ext_good (goesT A B) (fun _ => false) m m [] (fun x _ g => by cases g) (fun x hx g => ?_)]
    · exact List.filter_eq_nil_iff.mpr fun x _ g => by cases g
    · have R := top_in (k := 0) hx
      have := g m (by simpa using hm) (by simp)
      rw [tk R] at this
      exact absurd (goes_whole R hA hB this).1 c
  · have c := Classical.not_not.mp c
    rw [if_neg (fun w => w c)]
    have e : Ph02.ways A B m [] (List.range m) = ext (Ph02.fits A B) m m [] := by
      rw [← ways_ext]
      congr 1
      symm
      exact filter_yes fun _ _ => rfl
    rw [e, ext_good (goesT A B) (Ph02.fits A B) m m [] (fun x hx g i a b => ?_) (fun x hx g => ?_), ext_good (Ph02.fits A B) (Ph02.fits A B) m m [] (fun x hx g i a b => fits_take g) (fun x hx g => ?_)]
    · have R := top_in (k := 0) hx
      have := g m (by simpa using hm) (by simp)
      rwa [tk R] at this
    · exact goes_take (top_in (k := 0) hx) hA hB c g (by simpa using b)
    · have R := top_in (k := 0) hx
      have := g m (by simpa using hm) (by simp)
      rw [tk R] at this
      exact (goes_whole R hA hB this).2
end
/-! ### the bounds of a body -/
theorem side_bnd {n : Nat} {pts : List (List Int)} (H : Pts n pts) {t : List Int} (ht : t ∈ sidesT n (srt pts)) : PS n ((cornersT n pts).map vv) t := (PS.crn (crn H)).mpr ((sidesT_mem H.srt).mp ht)
theorem side_eq {n : Nat} {l : List V} (full : rkL (n + 1) (l.map hm) = n + 1) {t u : List Int} (T : PS n l t) (U : PS n l u) (h : ∀ p, p ∈ l → dt n p (vv t) = vv t n → dt n p (vv u) = vv u n) : t = u := by
  have o1 : Orth (n + 1) ((tights n l (hb (vv t) (vv t n))).map hm) (hb (vv t) (vv t n)) := orth_map.mpr fun p hp => (mem_tights.mp hp).2
  have o2 : Orth (n + 1) ((tights n l (hb (vv t) (vv t n))).map hm) (hb (vv u) (vv u n)) := orth_map.mpr fun p hp => by
    obtain ⟨h1, h2⟩ := mem_tights'.mp hp
    rw [dt_hb, h p h1 h2]; grind
  have nz : ¬ Nil (n + 1) (hb (vv t) (vv t n)) := fun q => T.nz fun i hi => q (i + 1) (by omega)
  obtain ⟨s, hs⟩ := orth_one (show rkL (n + 1) ((tights n l (hb (vv t) (vv t n))).map hm) + 1 = n + 1 by rw [T.fac.2]) o1 nz o2
  have ha : ∀ i, i < n → vv u i = s * vv t i := fun i hi => hs (i + 1) (by omega)
  have hn : vv u n = s * vv t n := by
    have := hs 0 (by omega)
    simp only [hb] at this
    grind
  -- some point isn't on the bound
  have hp : ∃ p, p ∈ l ∧ dt n p (vv t) ≠ vv t n := Classical.byContradiction fun q => by
    have all : ∀ p, p ∈ l → dt n p (vv t) = vv t n := fun p hp => Classical.byContradiction fun w => q ⟨p, hp, w⟩
    have : Nil (n + 1) (hb (vv t) (vv t n)) := rkL_full.mp full _ (orth_map.mpr fun p hp => by rw [dt_hb, all p hp]; grind)
    exact nz this
  obtain ⟨p, p1, p2⟩ := hp
  have e : dt n p (vv u) = s * dt n p (vv t) := by
    have : dt n p (vv u) = dt n p (lin zv s (vv t)) := dt_congr (fun _ _ => rfl) fun i hi => by rw [ha i hi, lin_at]; simp only [zv]; grind
    rw [this, dt_lin, dt_zero n p zv fun _ _ => rfl]; grind
  have l1 := T.fac.1 p p1
  have l2 := U.fac.1 p p1
  rw [e, hn] at l2
  have lt : 0 < vv t n - dt n p (vv t) := by grind
  have s0 : 0 ≤ s := by
    apply Classical.byContradiction
    intro q
    have q : s < 0 := by grind
    have : 0 < (-s) * (vv t n - dt n p (vv t)) := Rat.mul_pos (by grind) lt
    grind
  have s1 : s ≠ 0 := fun q => U.nz fun i hi => by rw [ha i hi, q]; grind
  exact PS.uniq T U (show 0 < s by grind) ha hn
theorem bounds_ok {n : Nat} {pts : List (List Int)} (H : Pts n pts) : Bnds (cornersT n pts).length (bounds n pts) := by
  refine ⟨?_, fun f hf => ?_, fun f hf i hi => ?_⟩
  · unfold bounds bndT List.Nodup
    rw [List.pairwise_map]
    have nd : (sidesT n (srt pts)).Nodup := (sidesT_sorted H.srt).imp fun {a b} h e => by
      subst e
      have hlex : ∀ a : List Int, lexI a a = false := fun a => by rw [lexI_before a a rfl]; exact before_irr _
      rw [hlex] at h; cases h
    refine List.Pairwise.imp_of_mem (fun {t u} ht hu h e => h ?_) nd
    have T := side_bnd H ht
    have U := side_bnd H hu
    refine side_eq H.corners.full T U fun p hp hpt => ?_
    obtain ⟨q, hq, rfl⟩ := List.mem_map.mp hp
    obtain ⟨i, hi, rfl⟩ := List.mem_iff_getElem.mp hq
    have hg : (cornersT n pts).getD i [] = (cornersT n pts)[i] := by rw [List.getD_eq_getElem?_getD, List.getElem?_eq_getElem hi]; rfl
    have hl := cornersT_len H _ hq
    have : i ∈ (List.range (cornersT n pts).length).filter fun i => tightT t ((cornersT n pts).getD i []) := List.mem_filter.mpr ⟨List.mem_range.mpr hi, by rw [hg]; exact (tightT_iff T.len hl).mpr hpt⟩
    rw [e] at this
    have := (List.mem_filter.mp this).2
    rw [hg] at this
    exact (tightT_iff U.len hl).mp this
  · unfold bounds bndT at hf
    obtain ⟨t, _, rfl⟩ := List.mem_map.mp hf
    exact List.Pairwise.sublist List.filter_sublist List.pairwise_lt_range
  · unfold bounds bndT at hf
    obtain ⟨t, _, rfl⟩ := List.mem_map.mp hf
    exact List.mem_range.mp (List.mem_filter.mp hi).1
theorem corners_some {n : Nat} {pts : List (List Int)} (H : Pts n pts) : 0 < (cornersT n pts).length := by
  apply Classical.byContradiction
  intro q
  have : cornersT n pts = [] := List.eq_nil_of_length_eq_zero (by omega)
  have f := H.corners.full
  rw [this, List.map_nil, List.map_nil, rkL_nil] at f
  omega
/-- **all ways, as the program finds them** -/
def waysR (n : Nat) (p q : List (List Int)) : List (List Nat) := if (cornersT n p).length ≠ (cornersT n q).length then [] else rowsAt (goesT (bounds n p) (bounds n q)) (cornersT n q).length (cornersT n p).length
theorem waysR_due {n : Nat} {p q : List (List Int)} (P : Pts n p) (Q : Pts n q) : alikeR n p q = waysR n p q := by
  unfold alikeR waysR
  by_cases c : (cornersT n p).length ≠ (cornersT n q).length
  · rw [if_pos c, if_pos (.inl c)]
  · rw [if_neg c]
    have c := Classical.not_not.mp c
    have hA := bounds_ok P
    rw [c] at hA ⊢
    rw [rows_due (corners_some Q) hA (bounds_ok Q)]
    by_cases d : (bounds n p).length ≠ (bounds n q).length
    · rw [if_pos (.inr d), if_pos d]
    · rw [if_neg d, if_neg (by rintro (w | w); exact w rfl; exact d w)]
end AB

set_option Elab.async false
set_option linter.all false
set_option maxRecDepth 100000
set_option maxHeartbeats 2000000
namespace AB
open PhBase
/-! # the dual: its sides are the corners -/
/-- a, divided by b less a times the place -/
def dv (n : Nat) (p : V) (f : V × Rat) : V := fun i => (1 / (f.2 - dt n p f.1)) * f.1 i
theorem dt_scaled {n : Nat} {a b : V} {s : Rat} (h : ∀ i, i < n → b i = s * a i) (x : V) : dt n x b = s * dt n x a := by
  have : dt n x b = dt n x (lin zv s a) := dt_congr (fun _ _ => rfl) fun i hi => by rw [h i hi, lin_at]; simp only [zv]; grind
  rw [this, dt_lin, dt_zero n x zv fun _ _ => rfl]; grind
theorem dt_dv (n : Nat) (p : V) (f : V × Rat) (x : V) : dt n (dv n p f) x = dt n x f.1 / (f.2 - dt n p f.1) := by
  rw [dt_comm, dt_scaled (a := f.1) (b := dv n p f) (s := 1 / (f.2 - dt n p f.1)) (fun i _ => rfl) x]
  rw [Rat.div_def, Rat.div_def]; grind
theorem div_le_one {a b : Rat} (hb : 0 < b) : a / b ≤ 1 ↔ a ≤ b := by
  have e : a / b * b = a := Rat.div_mul_cancel (by grind)
  constructor
  · intro h
    have := Rat.mul_le_mul_of_nonneg_right h (by grind : 0 ≤ b)
    rw [e] at this
    grind
  · intro h
    refine Rat.le_of_mul_le_mul_right ?_ hb
    rw [e]; grind
theorem div_eq_one {a b : Rat} (hb : 0 < b) : a / b = 1 ↔ a = b := by
  have e : a / b * b = a := Rat.div_mul_cancel (by grind)
  constructor
  · intro h
    rw [h] at e
    grind
  · intro h
    rw [h, Rat.div_def]; exact Rat.mul_inv_cancel b (by grind)
/-- what is told of the dual's corners: they are of the sides, about a place within -/
structure Dul (n : Nat) (K : List V) (F : List (V × Rat)) (p : V) (L : List V) : Prop where
  H : Sides n K F
  w : ∀ f, f ∈ F → dt n p f.1 < f.2
  sub : ∀ q, q ∈ L → ∃ f, f ∈ F ∧ Eqn n q (dv n p f)
  all : ∀ f, f ∈ F → ∃ q, q ∈ L ∧ Eqn n q (dv n p f)
theorem rk_line {n : Nat} {l : List V} {a : V} (ha : Orth n l a) (na : ¬ Nil n a) (h : ∀ d, Orth n l d → ∃ s : Rat, ∀ i, i < n → d i = s * a i) : rkL n l + 1 = n := by
  have aa : dt n a a ≠ 0 := fun e => na (dt_self_zero n a e)
  rw [← rkL_cons_new (a := a) ⟨a, ha, aa⟩]
  refine rkL_full.mpr fun d hd => ?_
  obtain ⟨h1, h2⟩ := orth_cons.mp hd
  obtain ⟨s, hs⟩ := h d h1
  rw [dt_scaled hs a] at h2
  rcases Rat.mul_eq_zero.mp h2 with e | e
  · intro i hi; rw [hs i hi, e]; grind
  · exact absurd e aa
section
variable {n : Nat} {K : List V} {F : List (V × Rat)} {p : V} {L : List V}
theorem Dul.pos (D : Dul n K F p L) {f : V × Rat} (hf : f ∈ F) : 0 < f.2 - dt n p f.1 := by have := D.w f hf; grind
theorem Dul.dt (D : Dul n K F p L) {q : V} {f : V × Rat} (e : Eqn n q (dv n p f)) (x : V) : AB.dt n q x = AB.dt n x f.1 / (f.2 - AB.dt n p f.1) := by
  rw [dt_congr e fun _ _ => rfl, dt_dv]
/-- a corner makes a side -/
theorem Dul.side (D : Dul n K F p L) {v : V} (hv : ∀ f, f ∈ F → AB.dt n v f.1 ≤ f.2) (full : ∀ d, (∀ f, f ∈ F → AB.dt n v f.1 = f.2 → AB.dt n d f.1 = 0) → Nil n d) : Fac n L (lin v (-1) p) 1 := by
  have val : ∀ q f, f ∈ F → Eqn n q (dv n p f) → AB.dt n q (lin v (-1) p) = (AB.dt n v f.1 - AB.dt n p f.1) / (f.2 - AB.dt n p f.1) := fun q f hf e => by
    rw [D.dt e, dt_lin']
    congr 1; grind
  have tig : ∀ q f, f ∈ F → Eqn n q (dv n p f) → (AB.dt n q (lin v (-1) p) = 1 ↔ AB.dt n v f.1 = f.2) := fun q f hf e => by
    rw [val q f hf e, div_eq_one (D.pos hf)]
    constructor <;> intro h <;> grind
  refine ⟨fun q hq => ?_, ?_⟩
  · obtain ⟨f, hf, e⟩ := D.sub q hq
    rw [val q f hf e, div_le_one (D.pos hf)]
    have := hv f hf
    grind
  · have o : Orth (n + 1) ((tights n L (hb (lin v (-1) p) 1)).map hm) (hb (lin v (-1) p) 1) := orth_map.mpr fun q hq => (mem_tights.mp hq).2
    have nz : ¬ Nil (n + 1) (hb (lin v (-1) p) 1) := fun q => by
      have := q 0 (by omega)
      simp only [hb] at this
      grind
    have := rk_line o nz fun e he => ⟨- e 0, ?_⟩
    · omega
    · have he := orth_map.mp he
      -- e 0 times a and what is behind: square to all that are tight
      have z : Nil n (lin (sh e) (e 0) (lin v (-1) p)) := full _ fun f hf ht => by
        obtain ⟨q, hq, eq⟩ := D.all f hf
        have h1 := (tig q f hf eq).mpr ht
        have h2 := he q (mem_tights'.mpr ⟨hq, h1⟩)
        rw [dt_hm] at h2
        have h3 : AB.dt n q (lin (sh e) (e 0) (lin v (-1) p)) = 0 := by rw [dt_lin, h1]; grind
        rw [D.dt eq] at h3
        have c : AB.dt n (lin (sh e) (e 0) (lin v (-1) p)) f.1 / (f.2 - AB.dt n p f.1) * (f.2 - AB.dt n p f.1) = AB.dt n (lin (sh e) (e 0) (lin v (-1) p)) f.1 := Rat.div_mul_cancel (by have := D.pos hf; grind)
        rw [h3] at c
        grind
      intro i hi
      match i with
      | 0 => simp only [hb]; grind
      | i + 1 =>
        have := z i (by omega)
        rw [lin_at] at this
        show e (i + 1) = -e 0 * lin v (-1) p i
        have s : sh e i = e (i + 1) := rfl
        rw [s] at this
        grind
theorem bounded (n : Nat) (u : V) : ∀ K : List V, ∃ M : Rat, ∀ q, q ∈ K → AB.dt n q u ≤ M
  | [] => ⟨0, fun q h => by cases h⟩
  | k :: K => by
    obtain ⟨M, hM⟩ := bounded n u K
    by_cases c : AB.dt n k u ≤ M
    · exact ⟨M, fun q hq => by rcases List.mem_cons.mp hq with e | e; (rw [e]; exact c); exact hM q e⟩
    · exact ⟨AB.dt n k u, fun q hq => by rcases List.mem_cons.mp hq with e | e; (rw [e]; exact Rat.le_refl); have := hM q e; grind⟩
/-- a side comes of a corner -/
theorem Dul.corner (D : Dul n K F p L) {u : V} {b : Rat} (nz : ¬ Nil n u) (fac : Fac n L u b) : 0 < b ∧ ∃ v, v ∈ K ∧ (∀ i, i < n → u i = b * (v i - p i)) ∧ ∀ d, (∀ f, f ∈ F → AB.dt n v f.1 = f.2 → AB.dt n d f.1 = 0) → Nil n d := by
  have le : ∀ f, f ∈ F → AB.dt n u f.1 / (f.2 - AB.dt n p f.1) ≤ b := fun f hf => by
    obtain ⟨q, hq, e⟩ := D.all f hf
    have := fac.1 q hq
    rwa [D.dt e] at this
  have le2 : ∀ f, f ∈ F → AB.dt n u f.1 ≤ b * (f.2 - AB.dt n p f.1) := fun f hf => by
    have c : AB.dt n u f.1 / (f.2 - AB.dt n p f.1) * (f.2 - AB.dt n p f.1) = AB.dt n u f.1 := Rat.div_mul_cancel (by have := D.pos hf; grind)
    rw [← c]
    exact Rat.mul_le_mul_of_nonneg_right (le f hf) (by have := D.pos hf; grind)
  have b0 : 0 < b := by
    apply Classical.byContradiction
    intro nb
    obtain ⟨M, hM⟩ := bounded n u K
    have uu : 0 < AB.dt n u u := by
      have h1 := dt_self_nonneg n u
      have h2 : AB.dt n u u ≠ 0 := fun e => nz (dt_self_zero n u e)
      grind
    have far : ∀ t : Rat, 0 ≤ t → AB.dt n (lin p t u) u ≤ M := fun t ht => by
      refine (D.H.no (lin p t u) fun f hf => ?_).dual hM
      rw [dt_lin']
      have h1 := le2 f hf
      have h2 := D.pos hf
      have h3 : b * (f.2 - AB.dt n p f.1) ≤ 0 := by
        have := Rat.mul_nonneg (by grind : 0 ≤ -b) (by grind : 0 ≤ f.2 - AB.dt n p f.1)
        grind
      have h4 := Rat.mul_nonneg ht (by grind : 0 ≤ - AB.dt n u f.1)
      grind
    have m0 := far 0 (by grind)
    have h := far ((M - AB.dt n p u) / AB.dt n u u + 1) (by
      have := div_nn (a := M - AB.dt n p u) (b := AB.dt n u u) (by rw [dt_lin'] at m0; grind) uu
      grind)
    rw [dt_lin'] at h
    have c : (M - AB.dt n p u) / AB.dt n u u * AB.dt n u u = M - AB.dt n p u := Rat.div_mul_cancel (by grind)
    grind
  refine ⟨b0, ?_⟩
  have inv : b * (1 / b) = 1 := by rw [Rat.div_def, Rat.one_mul]; exact Rat.mul_inv_cancel b (by grind)
  have wle : ∀ f, f ∈ F → AB.dt n (lin p (1 / b) u) f.1 ≤ f.2 := fun f hf => by
    rw [dt_lin']
    have h1 := Rat.mul_le_mul_of_nonneg_left (le2 f hf) (div_nn (by grind) b0 : 0 ≤ 1 / b)
    rw [← Rat.mul_assoc, Rat.mul_comm (1 / b) b, inv, Rat.one_mul] at h1
    grind
  have wt : ∀ q f, f ∈ F → Eqn n q (dv n p f) → AB.dt n q u = b → AB.dt n (lin p (1 / b) u) f.1 = f.2 := fun q f hf e ht => by
    rw [D.dt e] at ht
    have c : AB.dt n u f.1 / (f.2 - AB.dt n p f.1) * (f.2 - AB.dt n p f.1) = AB.dt n u f.1 := Rat.div_mul_cancel (by have := D.pos hf; grind)
    rw [ht] at c
    rw [dt_lin', ← c]; grind
  have full : ∀ d, (∀ f, f ∈ F → AB.dt n (lin p (1 / b) u) f.1 = f.2 → AB.dt n d f.1 = 0) → Nil n d := fun d hd => by
    have o : Orth (n + 1) ((tights n L (hb u b)).map hm) (hb u b) := orth_map.mpr fun q hq => (mem_tights.mp hq).2
    have nzb : ¬ Nil (n + 1) (hb u b) := fun q => by
      have := q 0 (by omega)
      simp only [hb] at this
      grind
    let e : V := fun i => match i with
      | 0 => 0
      | i + 1 => d i
    have oe : Orth (n + 1) ((tights n L (hb u b)).map hm) e := orth_map.mpr fun q hq => by
      obtain ⟨h1, h2⟩ := mem_tights'.mp hq
      obtain ⟨f, hf, eq⟩ := D.sub q h1
      have h3 := hd f hf (wt q f hf eq h2)
      rw [dt_hm]
      have h4 : AB.dt n q (sh e) = AB.dt n q d := dt_congr (fun _ _ => rfl) fun i _ => rfl
      rw [h4, D.dt eq, h3]
      show (0 : Rat) + 0 / _ = 0
      rw [Rat.div_def]; grind
    obtain ⟨s, hs⟩ := orth_one (by rw [fac.2]) o nzb oe
    have s0 := hs 0 (by omega)
    have s0 : (0 : Rat) = s * (-b) := s0
    have sz : s = 0 := by
      rcases Rat.mul_eq_zero.mp s0.symm with w | w
      · exact w
      · grind
    intro i hi
    have := hs (i + 1) (by omega)
    have : d i = s * u i := this
    rw [this, sz]; grind
  have cv := conv_tights F (D.H.no _ wle) fun f hf q hq => D.H.all f hf q hq
  have ex : ∃ v, v ∈ K ∧ ∀ f, f ∈ F → AB.dt n (lin p (1 / b) u) f.1 = f.2 → AB.dt n v f.1 = f.2 := Classical.byContradiction fun w => conv_empty cv fun v hv => w ⟨v, hv⟩
  obtain ⟨v, v1, v2⟩ := ex
  have ve : ∀ i, i < n → lin v (-1) (lin p (1 / b) u) i = 0 := full _ fun f hf ht => by rw [dt_lin', v2 f hf ht, ht]; grind
  have vi : ∀ i, i < n → v i = lin p (1 / b) u i := fun i hi => by
    have := ve i hi
    rw [lin_at] at this
    grind
  refine ⟨v, v1, fun i hi => ?_, fun d hd => full d fun f hf ht => hd f hf (by rw [dt_congr vi fun _ _ => rfl]; exact ht)⟩
  have := vi i hi
  rw [lin_at] at this
  rw [this]; grind
end
end AB

set_option Elab.async false
set_option linter.all false
set_option maxRecDepth 100000
set_option maxHeartbeats 2000000
namespace AB
open PhBase
/-! # the dual in whole numbers -/
def lst (t : List Int) : Int := t.getD (t.length - 1) 0
def hd (t : List Int) : List Int := t.take (t.length - 1)
def evs : List Int → List Int
  | a :: _ :: r => a :: evs r
  | [a] => [a]
  | [] => []
def ods : List Int → List Int
  | _ :: b :: r => b :: ods r
  | _ => []
def cmul (l : List Int) : Int := l.foldl (fun (m x : Int) => m * Int.fdiv x (gcdL [m, x] : Int)) 1
def plcT (p : List Int) : List Int := ((evs p).zip (ods p)).map (fun (x : Int × Int) => x.1 * Int.fdiv (cmul (ods p)) x.2) ++ [cmul (ods p)]
def depthT (t P : List Int) : Int := lst t * lst P - tog (hd t) (hd P)
def fracT (a b : Int) : List Int := [Int.fdiv a (gcdL [a, b] : Int), Int.fdiv b (gcdL [a, b] : Int)]
def placeOk (n : Nat) (p : List Int) : Bool := decide (p.length = 2 * n) && ((evs p).all (fun z => decide (-100000 ≤ z) && decide (z ≤ 100000)) && (ods p).all fun z => decide (1 ≤ z) && decide (z ≤ 1000))
def withinT (S : List (List Int)) (P : List Int) : Bool := S.all fun t => decide (0 < depthT t P)
def dptT (P t : List Int) : Pt := (hd t).map fun z => ((z * lst P : Int) : Rat) / ((depthT t P : Int) : Rat)
def dcorT (n : Nat) (pts : List (List Int)) (P : List Int) : List (List Int) := (sorted ((sidesT n (srt pts)).map (dptT P))).map toldPt
def aheadD (P v : List Int) : List Int := ((v.zip (hd P)).map fun (x : Int × Int) => x.1 * lst P - x.2) ++ [lst P]
def dsideT (P v : List Int) : List Int := (aheadD P v).map fun z => Int.fdiv z (gcdL (aheadD P v) : Int)
def dsidT (n : Nat) (pts : List (List Int)) (P : List Int) : List (List Int) := srt ((cornersT n pts).map (dsideT P))
def dualT (n : Int) (p : List Int) (pts : List (List Int)) : List Int :=
  if refT n pts < 0 then [refT n pts] else if placeOk n.toNat p = false then [-4] else if withinT (sidesT n.toNat (srt pts)) (plcT p) = false then [-6] else
  ((dcorT n.toNat pts (plcT p)).length : Int) :: (dcorT n.toNat pts (plcT p)).flatten ++ ((dsidT n.toNat pts (plcT p)).length : Int) :: (dsidT n.toNat pts (plcT p)).flatten

/-! ### the least number that all divide (some such) -/
theorem gcd2 (m x : Int) : gcdL [m, x] = Nat.gcd m.natAbs x.natAbs := by
  show Nat.gcd (Nat.gcd 0 m.natAbs) x.natAbs = _
  rw [Nat.gcd_zero_left]
theorem cm_step {m x : Int} (hm : 0 < m) (hx : 0 < x) : 0 < m * Int.fdiv x (gcdL [m, x] : Int) ∧ m ∣ m * Int.fdiv x (gcdL [m, x] : Int) ∧ x ∣ m * Int.fdiv x (gcdL [m, x] : Int) := by
  have gp : 0 < gcdL [m, x] := gcdL_pos (x := m) (List.mem_cons_self ..) (by omega)
  have gx : (gcdL [m, x] : Int) ∣ x := gcdL_dvd (by simp)
  have gm : (gcdL [m, x] : Int) ∣ m := gcdL_dvd (by simp)
  have e := Int.mul_fdiv_cancel' gx
  obtain ⟨c, hc⟩ := gm
  have gp' : (0 : Int) < (gcdL [m, x] : Int) := by omega
  have fp : 0 < Int.fdiv x (gcdL [m, x] : Int) := by
    apply Classical.byContradiction
    intro q
    have : (gcdL [m, x] : Int) * Int.fdiv x (gcdL [m, x] : Int) ≤ 0 := Int.mul_nonpos_of_nonneg_of_nonpos (by omega) (by omega)
    omega
  refine ⟨Int.mul_pos hm fp, ⟨_, rfl⟩, c, ?_⟩
  generalize Int.fdiv x (gcdL [m, x] : Int) = y at *
  generalize (gcdL [m, x] : Int) = g at *
  rw [hc, ← e]
  grind
theorem cm_from : ∀ (l : List Int) (m : Int), 0 < m → (∀ x, x ∈ l → 0 < x) → 0 < l.foldl (fun (m x : Int) => m * Int.fdiv x (gcdL [m, x] : Int)) m ∧ m ∣ l.foldl (fun (m x : Int) => m * Int.fdiv x (gcdL [m, x] : Int)) m ∧ ∀ x, x ∈ l → x ∣ l.foldl (fun (m x : Int) => m * Int.fdiv x (gcdL [m, x] : Int)) m
  | [], m, hm, _ => ⟨hm, Int.dvd_refl _, fun x h => by cases h⟩
  | y :: l, m, hm, h => by
    rw [List.foldl_cons]
    obtain ⟨a, b, c⟩ := cm_step hm (h y (List.mem_cons_self ..))
    obtain ⟨h1, h2, h3⟩ := cm_from l _ a fun x hx => h x (List.mem_cons_of_mem _ hx)
    refine ⟨h1, Int.dvd_trans b h2, fun x hx => ?_⟩
    rcases List.mem_cons.mp hx with e | e
    · rw [e]; exact Int.dvd_trans c h2
    · exact h3 x e
theorem cmul_ok {l : List Int} (h : ∀ x, x ∈ l → 0 < x) : 0 < cmul l ∧ ∀ x, x ∈ l → x ∣ cmul l := by
  obtain ⟨h1, _, h3⟩ := cm_from l 1 (by decide) h
  exact ⟨h1, h3⟩
/-! ### a fraction told -/
theorem told_frac {a b : Int} (hb : 0 < b) : told ((a : Rat) / (b : Rat)) = fracT a b := by
  have gp : 0 < gcdL [a, b] := gcdL_pos (x := b) (by simp) (by omega)
  have e : b.gcd a = gcdL [a, b] := by rw [gcd2]; exact Nat.gcd_comm _ _
  unfold told fracT
  rw [← Rat.divInt_eq_div, Rat.num_divInt, Rat.den_divInt, if_neg (by omega), e, Int.sign_eq_one_of_pos hb, Int.one_mul]
  rw [Int.fdiv_eq_ediv_of_nonneg _ (by omega), Int.fdiv_eq_ediv_of_nonneg _ (by omega)]
  congr 2
  rw [Int.natCast_ediv, Int.natAbs_of_nonneg (by omega)]
/-! ### the place -/
theorem place_eq : ∀ (n : Nat) (p : List Int), Ph01.placeOf n p = if placeOk n p = true then some (((evs p).zip (ods p)).map fun (x : Int × Int) => (x.1 : Rat) / (x.2 : Rat)) else none
  | 0, [] => by
    have : placeOk 0 [] = true := by decide
    rw [if_pos this]; rfl
  | 0, a :: p => by
    have : placeOk 0 (a :: p) = false := by unfold placeOk; rw [decide_eq_false (by simp), Bool.false_and]
    rw [this]; rfl
  | n + 1, [] => by
    have : placeOk (n + 1) [] = false := by unfold placeOk; rw [decide_eq_false (by simp), Bool.false_and]
    rw [this]; rfl
  | n + 1, [a] => by
    have : placeOk (n + 1) [a] = false := by unfold placeOk; rw [decide_eq_false (by simp; omega), Bool.false_and]
    rw [this]; rfl
  | n + 1, a :: b :: p => by
    have ih := place_eq n p
    have sm : Ph01.small 100000 a = (decide (-100000 ≤ a) && decide (a ≤ 100000)) := by
      unfold Ph01.small
      rw [Bool.eq_iff_iff, Bool.and_eq_true, decide_eq_true_iff, decide_eq_true_iff, decide_eq_true_iff]
      omega
    have e : placeOk (n + 1) (a :: b :: p) = ((Ph01.small 100000 a && (decide (1 ≤ b) && decide (b ≤ 1000))) && placeOk n p) := by
      unfold placeOk
      rw [sm]
      simp only [evs, ods, List.all_cons, List.length_cons]
      have : decide (p.length + 1 + 1 = 2 * (n + 1)) = decide (p.length = 2 * n) := by
        rw [Bool.eq_iff_iff, decide_eq_true_iff, decide_eq_true_iff]; omega
      rw [this]
      cases decide (p.length = 2 * n) <;> cases decide (-100000 ≤ a) <;> cases decide (a ≤ 100000) <;> cases decide (1 ≤ b) <;> cases decide (b ≤ 1000) <;> simp
    show (if Ph01.small 100000 a = true ∧ 1 ≤ b ∧ b ≤ 1000 then (Ph01.placeOf n p).map fun (q : Pt) => ((a : Rat) / (b : Rat)) :: q else none) = _
    rw [ih, e]
    by_cases c : Ph01.small 100000 a = true ∧ 1 ≤ b ∧ b ≤ 1000
    · rw [if_pos c, c.1, decide_eq_true c.2.1, decide_eq_true c.2.2]
      show Option.map _ (if placeOk n p = true then _ else none) = if placeOk n p = true then _ else none
      by_cases d : placeOk n p = true
      · rw [if_pos d, if_pos d]; rfl
      · rw [if_neg d, if_neg d]; rfl
    · rw [if_neg c, if_neg]
      intro h
      rw [Bool.and_eq_true, Bool.and_eq_true, Bool.and_eq_true] at h
      exact c ⟨h.1.1, of_decide_eq_true h.1.2.1, of_decide_eq_true h.1.2.2⟩
theorem evs_len : ∀ (n : Nat) (p : List Int), p.length = 2 * n → (evs p).length = n ∧ (ods p).length = n
  | 0, [], _ => ⟨rfl, rfl⟩
  | 0, _ :: _, h => by simp at h
  | n + 1, [], h => by simp at h
  | n + 1, [a], h => by simp at h; omega
  | n + 1, a :: b :: p, h => by
    obtain ⟨h1, h2⟩ := evs_len n p (by simp at h; omega)
    simp [evs, ods, h1, h2]
/-- the place as it is told, and as the program holds it -/
structure Plc (n : Nat) (P : List Int) (q : Pt) : Prop where
  len : P.length = n + 1
  qlen : q.length = n
  pos : 0 < lst P
  eq : ∀ i, i < n → vv P i = vv P n * tv q i
theorem plc_ok {n : Nat} {p : List Int} (h : placeOk n p = true) : Plc n (plcT p) (((evs p).zip (ods p)).map fun (x : Int × Int) => (x.1 : Rat) / (x.2 : Rat)) := by
  unfold placeOk at h
  rw [Bool.and_eq_true, Bool.and_eq_true] at h
  obtain ⟨h1, h2, h3⟩ := h
  obtain ⟨l1, l2⟩ := evs_len n p (of_decide_eq_true h1)
  have hp : ∀ x, x ∈ ods p → 0 < x := fun x hx => by
    have := List.all_eq_true.mp h3 x hx
    rw [Bool.and_eq_true] at this
    have := of_decide_eq_true this.1
    omega
  obtain ⟨c1, c2⟩ := cmul_ok hp
  have zl : ((evs p).zip (ods p)).length = n := by rw [List.length_zip, l1, l2, Nat.min_self]
  have fl : (((evs p).zip (ods p)).map (fun (x : Int × Int) => x.1 * Int.fdiv (cmul (ods p)) x.2)).length = n := by rw [List.length_map, zl]
  obtain ⟨v1, v2⟩ := vv_snoc (b := cmul (ods p)) fl
  have pl : (plcT p).length = n + 1 := by unfold plcT; rw [List.length_append, fl]; rfl
  refine ⟨pl, by rw [List.length_map, zl], ?_, fun i hi => ?_⟩
  · have := last_vv pl
    unfold plcT at this
    rw [v2] at this
    have := Rat.intCast_inj.mp this
    show 0 < (plcT p).getD ((plcT p).length - 1) 0
    unfold plcT
    rw [this]; exact c1
  · unfold plcT
    rw [v1 i hi, v2, vv_at]
    have hz : i < ((evs p).zip (ods p)).length := by omega
    have e1 : (((evs p).zip (ods p)).map (fun (x : Int × Int) => x.1 * Int.fdiv (cmul (ods p)) x.2)).getD i 0 = ((evs p).zip (ods p))[i].1 * Int.fdiv (cmul (ods p)) ((evs p).zip (ods p))[i].2 := by
      rw [List.getD_eq_getElem?_getD, List.getElem?_map, List.getElem?_eq_getElem hz]; rfl
    have e2 : tv (((evs p).zip (ods p)).map fun (x : Int × Int) => (x.1 : Rat) / (x.2 : Rat)) i = (((evs p).zip (ods p))[i].1 : Rat) / (((evs p).zip (ods p))[i].2 : Rat) := by
      show (((evs p).zip (ods p)).map fun (x : Int × Int) => (x.1 : Rat) / (x.2 : Rat)).getD i 0 = _
      rw [List.getD_eq_getElem?_getD, List.getElem?_map, List.getElem?_eq_getElem hz]; rfl
    rw [e1, e2]
    have mem := (List.of_mem_zip (a := ((evs p).zip (ods p))[i].1) (b := ((evs p).zip (ods p))[i].2) (List.getElem_mem hz)).2
    generalize ((evs p).zip (ods p))[i].1 = a at *
    generalize ((evs p).zip (ods p))[i].2 = b at *
    have hb := hp b mem
    have := Int.mul_fdiv_cancel' (c2 b mem)
    generalize cmul (ods p) = c at *
    have hbr : (b : Rat) ≠ 0 := fun q => by have := int_zero q; omega
    have hc : (c : Rat) = (b : Rat) * (Int.fdiv c b : Int) := by rw [← Rat.intCast_mul, this]
    have ab : (a : Rat) / (b : Rat) * (b : Rat) = a := Rat.div_mul_cancel hbr
    rw [Rat.intCast_mul, hc]
    grind
/-! ### how deep -/
section
variable {n : Nat} {P : List Int} {q : Pt}
theorem lst_vv {t : List Int} (h : t.length = n + 1) : ((lst t : Int) : Rat) = vv t n := last_vv h
theorem hd_len {t : List Int} (h : t.length = n + 1) : (hd t).length = n := by unfold hd; rw [List.length_take, h]; omega
theorem depth_vv (C : Plc n P q) {t : List Int} (ht : t.length = n + 1) : ((depthT t P : Int) : Rat) = vv P n * (vv t n - dt n (tv q) (vv t)) := by
  unfold depthT
  rw [Rat.intCast_sub, Rat.intCast_mul, lst_vv ht, lst_vv C.len, tog_eq (hd_len ht) (hd_len C.len)]
  have e1 : dt n (vv (hd t)) (vv (hd P)) = dt n (vv t) (vv P) := dt_congr (fun i hi => take_vv ht hi) fun i hi => take_vv C.len hi
  rw [e1, dt_scaled (a := tv q) (b := vv P) (s := vv P n) (fun i hi => C.eq i hi) (vv t), dt_comm n (vv t) (tv q)]
  grind
theorem Plc.posR (C : Plc n P q) : 0 < vv P n := by
  rw [← lst_vv C.len]
  exact Rat.intCast_lt_intCast.mpr C.pos
theorem depth_pos (C : Plc n P q) {t : List Int} (ht : t.length = n + 1) : 0 < depthT t P ↔ dt n (tv q) (vv t) < vv t n := by
  have e := depth_vv C ht
  have h0 := C.posR
  constructor
  · intro h
    have h : (0 : Rat) < ((depthT t P : Int) : Rat) := Rat.intCast_lt_intCast.mpr h
    rw [e] at h
    apply Classical.byContradiction
    intro w
    have := Rat.mul_nonneg (by grind : 0 ≤ vv P n) (by grind : 0 ≤ -(vv t n - dt n (tv q) (vv t)))
    grind
  · intro h
    have := Rat.mul_pos h0 (by grind : 0 < vv t n - dt n (tv q) (vv t))
    rw [← e] at this
    exact Rat.intCast_lt_intCast.mp this
theorem hf_dot (C : Plc n P q) {t : List Int} (ht : t.length = n + 1) : dot (hf t).a q = dt n (tv q) (vv t) ∧ (hf t).b = vv t n := by
  constructor
  · show dot (iv (t.take (t.length - 1))) q = _
    have := hd_len ht
    unfold hd at this
    rw [dot_eq (n := n) (by rw [iv_len, this]) C.qlen, dt_comm]
    exact dt_congr (fun _ _ => rfl) fun i hi => take_vv ht hi
  · exact last_vv ht
theorem inside_eq (C : Plc n P q) {S : List (List Int)} (hS : ∀ t, t ∈ S → t.length = n + 1) {b : Ph02.Body} (hb : b.sides = S.map hf) : Ph02.inside b q = withinT S P := by
  unfold Ph02.inside withinT
  rw [hb, List.all_map, Bool.eq_iff_iff, List.all_eq_true, List.all_eq_true]
  refine forall_congr' fun t => forall_congr' fun ht => ?_
  obtain ⟨e1, e2⟩ := hf_dot C (hS t ht)
  show decide (dot (hf t).a q < (hf t).b) = true ↔ _
  rw [decide_eq_true_iff, decide_eq_true_iff, depth_pos C (hS t ht), e1, e2]
theorem dual_pt (C : Plc n P q) {t : List Int} (ht : t.length = n + 1) (hp : 0 < depthT t P) : scale (1 / ((hf t).b - dot (hf t).a q)) (hf t).a = dptT P t := by
  obtain ⟨e1, e2⟩ := hf_dot C ht
  have e := depth_vv C ht
  have hl := lst_vv C.len
  rw [e1, e2]
  show scale _ (iv (hd t)) = _
  unfold scale dptT iv
  rw [List.map_map]
  refine List.map_congr_left fun z _ => ?_
  show 1 / (vv t n - dt n (tv q) (vv t)) * (z : Rat) = ((z * lst P : Int) : Rat) / ((depthT t P : Int) : Rat)
  rw [Rat.intCast_mul, e, hl]
  have h1 := (depth_pos C ht).mp hp
  have h0 := C.posR
  rw [Rat.div_def, Rat.div_def, Rat.inv_mul_rev]
  have i1 : vv P n * (vv P n)⁻¹ = 1 := Rat.mul_inv_cancel _ (by grind)
  grind
theorem dpt_at (C : Plc n P q) {t : List Int} (ht : t.length = n + 1) (hp : 0 < depthT t P) : Eqn n (tv (dptT P t)) (dv n (tv q) (vv t, vv t n)) := fun i hi => by
  rw [← dual_pt C ht hp, tv_scale]
  obtain ⟨e1, e2⟩ := hf_dot C ht
  rw [e1, e2]
  show _ * vv (t.take (t.length - 1)) i = _ * vv t i
  rw [take_vv ht hi]
theorem dpt_len (t : List Int) (ht : t.length = n + 1) : (dptT P t).length = n := by unfold dptT; rw [List.length_map]; exact hd_len ht
end
end AB

set_option Elab.async false
set_option linter.all false
set_option maxRecDepth 100000
set_option maxHeartbeats 2000000
namespace AB
open PhBase
/-! # what is due of dual, in whole numbers -/
section
variable {n : Nat} {pts : List (List Int)} {P : List Int} {q : Pt}
/-- the dual's corners, among points -/
theorem dul_ok (H : Pts n pts) (C : Plc n P q) (W : ∀ t, t ∈ sidesT n (srt pts) → 0 < depthT t P) : Dul n ((srt pts).map vv) ((sidesT n (srt pts)).map fun t => (vv t, vv t n)) (tv q) ((sorted ((sidesT n (srt pts)).map (dptT P))).map tv) := by
  have sl := sidesT_len H.srt
  refine ⟨H.srt.sides, fun f hf => ?_, fun x hx => ?_, fun f hf => ?_⟩
  · obtain ⟨t, ht, rfl⟩ := List.mem_map.mp hf
    exact (depth_pos C (sl t ht)).mp (W t ht)
  · obtain ⟨c, hc, rfl⟩ := List.mem_map.mp hx
    rw [sorted_gsort, gsort_mem] at hc
    rcases hc with hc | hc
    · cases hc
    · obtain ⟨t, ht, rfl⟩ := List.mem_map.mp hc
      exact ⟨_, List.mem_map_of_mem (f := fun t => (vv t, vv t n)) ht, dpt_at C (sl t ht) (W t ht)⟩
  · obtain ⟨t, ht, rfl⟩ := List.mem_map.mp hf
    refine ⟨tv (dptT P t), List.mem_map_of_mem ?_, dpt_at C (sl t ht) (W t ht)⟩
    rw [sorted_gsort, gsort_mem]
    exact .inr (List.mem_map_of_mem ht)
theorem ahead_len (C : Plc n P q) {v : List Int} (hv : v.length = n) : (aheadD P v).length = n + 1 := by
  unfold aheadD
  rw [List.length_append, List.length_map, List.length_zip, hv, hd_len C.len, Nat.min_self]; rfl
theorem ahead_vv (C : Plc n P q) {v : List Int} (hv : v.length = n) : (∀ i, i < n → vv (aheadD P v) i = vv P n * (vv v i - tv q i)) ∧ vv (aheadD P v) n = vv P n := by
  have zl : (v.zip (hd P)).length = n := by rw [List.length_zip, hv, hd_len C.len, Nat.min_self]
  have fl : ((v.zip (hd P)).map fun (x : Int × Int) => x.1 * lst P - x.2).length = n := by rw [List.length_map, zl]
  obtain ⟨v1, v2⟩ := vv_snoc (b := lst P) fl
  refine ⟨fun i hi => ?_, by unfold aheadD; rw [v2, lst_vv C.len]⟩
  unfold aheadD
  rw [v1 i hi, vv_at, List.getD_eq_getElem?_getD, List.getElem?_map, List.getElem?_eq_getElem (by omega)]
  show ((((v.zip (hd P))[i]).1 * lst P - ((v.zip (hd P))[i]).2 : Int) : Rat) = _
  rw [List.getElem_zip]
  have e1 : vv v i = ((v[i]'(by omega) : Int) : Rat) := by rw [vv_at, List.getD_eq_getElem?_getD, List.getElem?_eq_getElem (by omega)]; rfl
  have e2 : vv P i = (((hd P)[i]'(by rw [hd_len C.len]; exact hi) : Int) : Rat) := by
    rw [← take_vv C.len hi, vv_at, List.getD_eq_getElem?_getD]
    show (((hd P)[i]?.getD 0 : Int) : Rat) = _
    rw [List.getElem?_eq_getElem (by rw [hd_len C.len]; exact hi)]; rfl
  have e3 := C.eq i hi
  rw [Rat.intCast_sub, Rat.intCast_mul, ← e1, ← e2, lst_vv C.len, e3]
  grind
/-- a corner's side of the dual -/
theorem dside_ok (C : Plc n P q) {v : List Int} (hv : v.length = n) : (dsideT P v).length = n + 1 ∧ Prim (dsideT P v) ∧ ∃ s : Rat, 0 < s ∧ (∀ i, i < n → vv (dsideT P v) i = s * (vv v i - tv q i)) ∧ vv (dsideT P v) n = s := by
  have al := ahead_len C hv
  obtain ⟨a1, a2⟩ := ahead_vv C hv
  have dm : lst P ∈ aheadD P v := by unfold aheadD; simp
  have gp : 0 < gcdL (aheadD P v) := gcdL_pos dm (by have := C.pos; omega)
  have dl : (dsideT P v).length = n + 1 := by unfold dsideT; rw [List.length_map, al]
  have rel : ∀ i, i < n + 1 → (aheadD P v).getD i 0 = (gcdL (aheadD P v) : Int) * (dsideT P v).getD i 0 := fun i hi => by
    unfold dsideT
    rw [List.getD_eq_getElem?_getD, List.getD_eq_getElem?_getD, List.getElem?_map, List.getElem?_eq_getElem (by omega)]
    exact (Int.mul_fdiv_cancel' (gcdL_dvd (List.getElem_mem _))).symm
  have rel2 : ∀ i, i < n + 1 → vv (aheadD P v) i = ((gcdL (aheadD P v) : Int) : Rat) * vv (dsideT P v) i := fun i hi => by
    rw [vv_at, vv_at, rel i hi, Rat.intCast_mul]
  have g0 : (0 : Rat) < ((gcdL (aheadD P v) : Int) : Rat) := Rat.intCast_lt_intCast.mpr (show (0 : Int) < (gcdL (aheadD P v) : Int) by omega)
  generalize ((gcdL (aheadD P v) : Int) : Rat) = g at *
  have gi : g * g⁻¹ = 1 := Rat.mul_inv_cancel g (by grind)
  refine ⟨dl, prim_div gp (.inl rfl) (by rw [dl, al]) (fun i hi => rel i (by omega)), vv P n * g⁻¹, ?_, fun i hi => ?_, ?_⟩
  · have := div_pos C.posR g0
    rwa [Rat.div_def] at this
  · have h := rel2 i (by omega)
    rw [a1 i hi] at h
    have : vv (dsideT P v) i = g⁻¹ * (g * vv (dsideT P v) i) := by grind
    rw [this, ← h]; grind
  · have h := rel2 n (by omega)
    rw [a2] at h
    have : vv (dsideT P v) n = g⁻¹ * (g * vv (dsideT P v) n) := by grind
    rw [this, ← h]; grind
theorem corner_full (H : Pts n pts) {v : List Int} (hv : v ∈ cornersT n pts) : vv v ∈ (srt pts).map vv ∧ ∀ d, (∀ f, f ∈ ((sidesT n (srt pts)).map fun t => (vv t, vv t n)) → dt n (vv v) f.1 = f.2 → dt n d f.1 = 0) → Nil n d := by
  obtain ⟨h1, h2⟩ := List.mem_filter.mp hv
  have hm := List.mem_map_of_mem (f := vv) h1
  exact ⟨hm, (corner_iff H.srt.sides hm).mp ((cornT_iff H.srt h1).mp h2)⟩
theorem dside_PS (H : Pts n pts) (C : Plc n P q) (W : ∀ t, t ∈ sidesT n (srt pts) → 0 < depthT t P) {v : List Int} (hv : v ∈ cornersT n pts) : PS n ((sorted ((sidesT n (srt pts)).map (dptT P))).map tv) (dsideT P v) := by
  have D := dul_ok H C W
  obtain ⟨h1, h2⟩ := corner_full H hv
  obtain ⟨l, pr, s, s0, s1, s2⟩ := dside_ok C (cornersT_len H v hv)
  have fac := D.side (v := vv v) (fun f hf => H.srt.sides.all f hf _ h1) h2
  have e : ∀ i, i < n → vv (dsideT P v) i = s * lin (vv v) (-1) (tv q) i := fun i hi => by rw [s1 i hi, lin_at]; grind
  have fac2 := fac.scale s0 e
  have : vv (dsideT P v) n = s * 1 := by rw [s2]; grind
  rw [← this] at fac2
  refine ⟨l, pr, fun z => ?_, fac2⟩
  -- the corner would be the place
  have same : ∀ i, i < n → vv v i = tv q i := fun i hi => by
    have := s1 i hi
    rw [z i hi] at this
    rcases Rat.mul_eq_zero.mp this.symm with w | w <;> grind
  have h2' : 2 ≤ n := H.n2
  have := h2 (ev 0) (fun f hf ht => by
    exfalso
    have := D.w f hf
    rw [dt_congr same fun _ _ => rfl] at ht
    grind) 0 (by omega)
  simp [ev] at this
theorem dside_mem (H : Pts n pts) (C : Plc n P q) (W : ∀ t, t ∈ sidesT n (srt pts) → 0 < depthT t P) (t : List Int) : t ∈ dsidT n pts P ↔ PS n ((sorted ((sidesT n (srt pts)).map (dptT P))).map tv) t := by
  unfold dsidT
  rw [srt_mem, List.mem_map]
  constructor
  · rintro ⟨v, hv, rfl⟩
    exact dside_PS H C W hv
  · intro T
    have D := dul_ok H C W
    obtain ⟨b0, v, v1, v2, v3⟩ := D.corner T.nz T.fac
    obtain ⟨w, w1, rfl⟩ := List.mem_map.mp v1
    have cr : w ∈ cornersT n pts := List.mem_filter.mpr ⟨w1, (cornT_iff H.srt w1).mpr ((corner_iff H.srt.sides v1).mpr v3)⟩
    refine ⟨w, cr, ?_⟩
    have U := dside_PS H C W cr
    obtain ⟨l, pr, s, s0, s1, s2⟩ := dside_ok C (cornersT_len H w cr)
    have bi : vv t n * (vv t n)⁻¹ = 1 := Rat.mul_inv_cancel _ (by grind)
    refine (PS.uniq T U (s := s * (vv t n)⁻¹) ?_ (fun i hi => ?_) ?_).symm
    · have := div_pos s0 b0
      rwa [Rat.div_def] at this
    · rw [s1 i hi, v2 i hi]; grind
    · rw [s2]; grind
theorem dside_all (H : Pts n pts) (C : Plc n P q) : ∀ t, t ∈ dsidT n pts P → t.length = n + 1 := fun t ht => by
  unfold dsidT at ht
  rw [srt_mem, List.mem_map] at ht
  obtain ⟨v, hv, rfl⟩ := ht
  exact (dside_ok C (cornersT_len H v hv)).1
/-- **the dual's sides** -/
theorem dsides_eq (H : Pts n pts) (C : Plc n P q) (W : ∀ t, t ∈ sidesT n (srt pts) → 0 < depthT t P) : sides n (sorted ((sidesT n (srt pts)).map (dptT P))) = (dsidT n pts P).map hf := by
  unfold PhBase.sides
  rw [sortedHalves_gsort]
  have hC : ∀ x, x ∈ sorted ((sidesT n (srt pts)).map (dptT P)) → x.length = n := fun x hx => by
    rw [sorted_gsort, gsort_mem] at hx
    rcases hx with hx | hx
    · cases hx
    · obtain ⟨t, ht, rfl⟩ := List.mem_map.mp hx
      exact dpt_len t (sidesT_len H.srt t ht)
  have mem : ∀ h, h ∈ (choices n (sorted ((sidesT n (srt pts)).map (dptT P)))).flatMap (through n (sorted ((sidesT n (srt pts)).map (dptT P)))) ↔ h ∈ (dsidT n pts P).map hf := by
    intro h
    rw [through_iff (by have := H.n2; omega) hC, List.mem_map]
    constructor
    · rintro ⟨t, T, rfl⟩
      exact ⟨t, (dside_mem H C W t).mpr T, rfl⟩
    · rintro ⟨t, T, rfl⟩
      exact ⟨t, (dside_mem H C W t).mp T, rfl⟩
  have al : ∀ h, h ∈ (dsidT n pts P).map hf → h.a.length = n := fun h hh => by
    obtain ⟨t, T, rfl⟩ := List.mem_map.mp hh
    have := dside_all H C t T
    show (iv (t.take (t.length - 1))).length = n
    rw [iv_len, List.length_take]; omega
  refine ord_ext (half_ord n) (gsort_sorted (half_ord n) (fun x hx => al x ((mem x).mp hx)) (fun x hx => by cases hx) .nil) ?_ fun x => ?_
  · rw [List.pairwise_map]
    have ds : (dsidT n pts P).Pairwise (fun x y => lexI x y = true) := srt_sorted (n := n + 1) fun t ht => dside_all H C t (by unfold dsidT; rw [srt_mem]; exact ht)
    refine ds.imp_of_mem fun {t u} ht hu w => ?_
    rw [hf_before (dside_all H C t ht) (dside_all H C u hu)]; exact w
  · rw [gsort_mem, mem]; simp
theorem told_hf {t : List Int} (h : t.length = n + 1) : ((hf t).a ++ [(hf t).b]).map (fun (x : Rat) => x.num) = t := by
  have e : (hf t).a ++ [(hf t).b] = iv t := by
    have := take_last h
    show iv (t.take (t.length - 1)) ++ [((t.getD (t.length - 1) 0 : Int) : Rat)] = iv t
    rw [h, Nat.add_sub_cancel]
    have w : iv (t.take n) ++ [((t.getD n 0 : Int) : Rat)] = iv (t.take n ++ [t.getD n 0]) := by simp [iv]
    rw [w, this]
  rw [e]
  unfold iv
  rw [List.map_map]
  conv => rhs; rw [← List.map_id t]
  exact List.map_congr_left fun z _ => rfl
theorem told_sides : ∀ l : List (List Int), (∀ t, t ∈ l → t.length = n + 1) → Ph01.toldSides (l.map hf) = (l.length : Int) :: l.flatten := fun l h => by
  unfold Ph01.toldSides
  rw [List.length_map, List.flatMap_map]
  show (l.length : Int) :: _ = _
  congr 1
  rw [List.flatMap_def]
  congr 1
  conv => rhs; rw [← List.map_id l]
  exact List.map_congr_left fun t ht => told_hf (h t ht)
end
theorem due6 (n : Int) (p : List Int) (pts : List (List Int)) : PyPh02.dual n p pts = Ph02.answer (.dual n p pts) := by
  unfold PyPh02.dual Ph02Neutral.f
  show (match Ph02.callOf ((6 :: n :: p) :: pts) with | some x => Ph02.answer x | none => []) = _
  rw [call6]
/-- **what is due of dual, in whole numbers** -/
theorem dual_due (n : Int) (p : List Int) (pts : List (List Int)) : PyPh02.dual n p pts = dualT n p pts := by
  rw [due6]
  unfold Ph02.answer dualT
  dsimp only
  rw [solid_eq]
  by_cases h : refT n pts < 0
  · rw [if_pos h, if_pos h]
  rw [if_neg h, if_neg h]
  obtain ⟨H, _⟩ := ref_ok h
  have B := same_body H
  generalize Ph02.bodyOf n.toNat (pts.map iv) = b at *
  have bn := B.nn
  rw [bn, place_eq]
  by_cases c : placeOk n.toNat p = true
  · rw [if_pos c, if_neg (by rw [c]; decide)]
    dsimp only
    have C := plc_ok c
    generalize ((evs p).zip (ods p)).map (fun (x : Int × Int) => (x.1 : Rat) / (x.2 : Rat)) = q at *
    have sl := sidesT_len H.srt
    rw [inside_eq C sl B.s]
    by_cases w : withinT (sidesT n.toNat (srt pts)) (plcT p) = false
    · rw [if_pos w, if_pos w]
    · rw [if_neg w, if_neg w]
      have W : ∀ t, t ∈ sidesT n.toNat (srt pts) → 0 < depthT t (plcT p) := fun t ht => by
        have w : withinT (sidesT n.toNat (srt pts)) (plcT p) = true := by simpa using w
        unfold withinT at w
        exact of_decide_eq_true (List.all_eq_true.mp w t ht)
      have ed : Ph02.dual b q = (sidesT n.toNat (srt pts)).map (dptT (plcT p)) := by
        unfold Ph02.dual
        rw [B.s, List.map_map]
        exact List.map_congr_left fun t ht => dual_pt C (sl t ht) (W t ht)
      rw [ed, dsides_eq H C W, told_sides (n := n.toNat) _ (dside_all H C)]
      unfold dcorT
      rw [List.length_map]
      show _ ++ _ = _ ++ _
      congr 1
  · rw [if_neg c, if_pos (by simpa using c)]
end AB

set_option Elab.async false
set_option linter.all false
set_option maxRecDepth 100000
set_option maxHeartbeats 2000000
namespace AB
open PhBase
/-! # the dual's corners in their order, as the program has them; how many, how great -/
def keyT (L : Int) (P t : List Int) : List Int := (hd t).map fun z => z * Int.fdiv L (depthT t P)
def dcT (P t : List Int) : List Int := (hd t).flatMap fun z => fracT (z * lst P) (depthT t P)
theorem dcT_told {P t : List Int} (hp : 0 < depthT t P) : toldPt (dptT P t) = dcT P t := by
  unfold toldPt dptT dcT
  rw [List.flatMap_map, List.flatMap_def, List.flatMap_def]
  congr 1
  exact List.map_congr_left fun z _ => told_frac hp
theorem before_scale {c : Rat} (hc : 0 < c) : ∀ a b : List Rat, before (scale c a) (scale c b) = before a b
  | [], b => by cases b <;> rfl
  | _ :: _, [] => rfl
  | x :: a, y :: b => by
    have ih := before_scale hc a b
    show (decide (c * x < c * y) || (decide (c * x = c * y) && before (scale c a) (scale c b))) = (decide (x < y) || (decide (x = y) && before a b))
    have ci : c * c⁻¹ = 1 := Rat.mul_inv_cancel c (by grind)
    have e1 : decide (c * x < c * y) = decide (x < y) := by
      rw [Bool.eq_iff_iff, decide_eq_true_iff, decide_eq_true_iff]
      exact Rat.mul_lt_mul_left hc
    have e2 : decide (c * x = c * y) = decide (x = y) := by
      rw [Bool.eq_iff_iff, decide_eq_true_iff, decide_eq_true_iff]
      constructor
      · intro h
        have : x = c⁻¹ * (c * x) := by grind
        rw [this, h]; grind
      · intro h; rw [h]
    rw [ih, e1, e2]
section
variable {n : Nat} {pts : List (List Int)} {P : List Int} {q : Pt}
theorem key_scale {L : Int} {t : List Int} (hP : 0 < lst P) (hp : 0 < depthT t P) (hL : depthT t P ∣ L) : iv (keyT L P t) = scale ((L : Rat) / ((lst P : Int) : Rat)) (dptT P t) := by
  unfold iv keyT scale dptT
  rw [List.map_map, List.map_map]
  refine List.map_congr_left fun z _ => ?_
  show ((z * Int.fdiv L (depthT t P) : Int) : Rat) = (L : Rat) / ((lst P : Int) : Rat) * (((z * lst P : Int) : Rat) / ((depthT t P : Int) : Rat))
  have e := Int.mul_fdiv_cancel' hL
  have e2 : (L : Rat) = ((depthT t P : Int) : Rat) * (Int.fdiv L (depthT t P) : Int) := by rw [← Rat.intCast_mul, e]
  have h1 : ((lst P : Int) : Rat) ≠ 0 := fun w => by have := int_zero w; omega
  have h2 : ((depthT t P : Int) : Rat) ≠ 0 := fun w => by have := int_zero w; omega
  rw [Rat.intCast_mul, Rat.intCast_mul, e2, Rat.div_def, Rat.div_def]
  have i1 := Rat.mul_inv_cancel _ h1
  have i2 := Rat.mul_inv_cancel _ h2
  grind
theorem key_before {L : Int} (hL0 : 0 < L) {t u : List Int} (hP : 0 < lst P) (ht : t.length = n + 1) (hu : u.length = n + 1) (pt : 0 < depthT t P) (pu : 0 < depthT u P) (dt : depthT t P ∣ L) (du : depthT u P ∣ L) : lexI (keyT L P t) (keyT L P u) = before (dptT P t) (dptT P u) := by
  have l1 : (keyT L P t).length = n := by unfold keyT; rw [List.length_map, hd_len ht]
  have l2 : (keyT L P u).length = n := by unfold keyT; rw [List.length_map, hd_len hu]
  rw [lexI_before _ _ (l1.trans l2.symm), key_scale hP pt dt, key_scale hP pu du]
  exact before_scale (div_pos (Rat.intCast_lt_intCast.mpr hL0) (Rat.intCast_lt_intCast.mpr hP)) _ _
theorem dpt_inj (H : Pts n pts) (C : Plc n P q) (W : ∀ t, t ∈ sidesT n (srt pts) → 0 < depthT t P) {t u : List Int} (ht : t ∈ sidesT n (srt pts)) (hu : u ∈ sidesT n (srt pts)) (e : dptT P t = dptT P u) : t = u := by
  have lt := sidesT_len H.srt t ht
  have lu := sidesT_len H.srt u hu
  have T := (sidesT_mem H.srt).mp ht
  have U := (sidesT_mem H.srt).mp hu
  have at_ := dpt_at C lt (W t ht)
  have au := dpt_at C lu (W u hu)
  have pt := (depth_pos C lt).mp (W t ht)
  have pu := (depth_pos C lu).mp (W u hu)
  have same : ∀ i, i < n → dv n (tv q) (vv t, vv t n) i = dv n (tv q) (vv u, vv u n) i := fun i hi => by rw [← at_ i hi, ← au i hi, e]
  have a0 : 0 < vv t n - dt n (tv q) (vv t) := by grind
  have b0 : 0 < vv u n - dt n (tv q) (vv u) := by grind
  generalize hA : vv t n - dt n (tv q) (vv t) = A at *
  generalize hB : vv u n - dt n (tv q) (vv u) = B at *
  have ai : A * A⁻¹ = 1 := Rat.mul_inv_cancel A (by grind)
  have bi : B * B⁻¹ = 1 := Rat.mul_inv_cancel B (by grind)
  have rel : ∀ i, i < n → vv u i = (B * A⁻¹) * vv t i := fun i hi => by
    have h : (1 / (vv t n - dt n (tv q) (vv t))) * vv t i = (1 / (vv u n - dt n (tv q) (vv u))) * vv u i := same i hi
    rw [hA, hB, Rat.div_def, Rat.div_def] at h
    have : vv u i = B * (1 * B⁻¹ * vv u i) := by grind
    rw [this, ← h]; grind
  have s0 : 0 < B * A⁻¹ := by
    have := div_pos b0 a0
    rwa [Rat.div_def] at this
  refine PS.uniq T U s0 rel ?_
  have e2 := dt_scaled rel (tv q)
  have h1 : vv u n = B + dt n (tv q) (vv u) := by grind
  have h2 : vv t n = A + dt n (tv q) (vv t) := by grind
  rw [h1, h2, e2]; grind
theorem sides_nd (H : Pts n pts) : (sidesT n (srt pts)).Nodup := (sidesT_sorted H.srt).imp fun {a b} h e => by
  subst e
  rw [(lexI_ord 0).irr] at h
  cases h
/-- **the dual's corners**, however the sides are put in order by their keys -/
theorem dcor_eq (H : Pts n pts) (C : Plc n P q) (W : ∀ t, t ∈ sidesT n (srt pts) → 0 < depthT t P) {L : Int} (hL0 : 0 < L) (hL : ∀ t, t ∈ sidesT n (srt pts) → depthT t P ∣ L) {s : List (List Int)} (hs : s.Perm (sidesT n (srt pts))) (hp : s.Pairwise fun t u => lexI (keyT L P u) (keyT L P t) = false) : s.map (dcT P) = dcorT n pts P := by
  have sl := sidesT_len H.srt
  have mem : ∀ t, t ∈ s → t ∈ sidesT n (srt pts) := fun t ht => hs.mem_iff.mp ht
  have e1 : s.map (dcT P) = (s.map (dptT P)).map toldPt := by
    rw [List.map_map]
    exact List.map_congr_left fun t ht => (dcT_told (W t (mem t ht))).symm
  unfold dcorT
  rw [e1]
  congr 1
  rw [sorted_gsort]
  have dl : ∀ t, t ∈ sidesT n (srt pts) → (dptT P t).length = n := fun t ht => dpt_len t (sl t ht)
  refine ord_ext (before_ord n) ?_ (gsort_sorted (before_ord n) (fun x hx => by
    obtain ⟨t, ht, rfl⟩ := List.mem_map.mp hx
    exact dl t ht) (fun x hx => by cases hx) .nil) fun x => ?_
  · rw [List.pairwise_map]
    have nd : s.Nodup := hs.nodup_iff.mpr (sides_nd H)
    refine List.Pairwise.imp_of_mem (fun {t u} ht hu h => ?_) (List.Pairwise.and hp nd)
    have mt := mem t ht
    have mu := mem u hu
    rw [key_before hL0 C.pos (sl u mu) (sl t mt) (W u mu) (W t mt) (hL u mu) (hL t mt)] at h
    exact before_tri _ _ ((dl u mu).trans (dl t mt).symm) (fun e => h.2 (dpt_inj H C W mt mu e.symm)) h.1
  · rw [gsort_mem, List.mem_map, List.mem_map]
    constructor
    · rintro ⟨t, ht, rfl⟩
      exact .inr ⟨t, mem t ht, rfl⟩
    · rintro (h | ⟨t, ht, rfl⟩)
      · cases h
      · exact ⟨t, hs.mem_iff.mpr ht, rfl⟩
theorem perm_srt {k : Nat} {l m : List (List Int)} (hl : ∀ x, x ∈ l → x.length = k) (nd : l.Nodup) (hm : m.Perm l) (hp : m.Pairwise fun x y => lexI y x = false) : m = srt l := by
  refine ord_ext (lexI_ord k) ?_ (srt_sorted hl) fun x => ?_
  · refine List.Pairwise.imp_of_mem (fun {x y} hx hy h => ?_) (List.Pairwise.and hp (hm.nodup_iff.mpr nd))
    exact (lexI_ord k).tri y x (hl y (hm.mem_iff.mp hy)) (hl x (hm.mem_iff.mp hx)) (fun e => h.2 e.symm) h.1
  · rw [hm.mem_iff, srt_mem]
theorem dside_inj (C : Plc n P q) {v w : List Int} (hv : v.length = n) (hw : w.length = n) (e : dsideT P v = dsideT P w) : v = w := by
  obtain ⟨_, _, s, s0, s1, s2⟩ := dside_ok C hv
  obtain ⟨_, _, r, r0, r1, r2⟩ := dside_ok C hw
  refine (eqn_iv hv hw).mp fun i hi => ?_
  have sr : s = r := by rw [← s2, ← r2, e]
  have h := s1 i hi
  rw [e, r1 i hi, sr] at h
  have ri : r * r⁻¹ = 1 := Rat.mul_inv_cancel r (by grind)
  have : vv v i = r⁻¹ * (r * (vv v i - tv q i)) + tv q i := by grind
  rw [this, ← h]; grind
theorem corners_nd (H : Pts n pts) : (cornersT n pts).Nodup := by
  have : (srt pts).Nodup := (srt_sorted H.len).imp fun {a b} h e => by
    subst e
    rw [(lexI_ord 0).irr] at h
    cases h
  exact this.sublist List.filter_sublist
/-- **the dual's sides**, however they are put in order -/
theorem dsid_eq (H : Pts n pts) (C : Plc n P q) {s : List (List Int)} (hs : s.Perm ((cornersT n pts).map (dsideT P))) (hp : s.Pairwise fun x y => lexI y x = false) : s = dsidT n pts P := by
  unfold dsidT
  refine perm_srt (k := n + 1) (fun x hx => ?_) ?_ hs hp
  · obtain ⟨v, hv, rfl⟩ := List.mem_map.mp hx
    exact (dside_ok C (cornersT_len H v hv)).1
  · unfold List.Nodup
    rw [List.pairwise_map]
    exact List.Pairwise.imp_of_mem (fun {v w} hv hw h e => h (dside_inj C (cornersT_len H v hv) (cornersT_len H w hw) e)) (corners_nd H)
end
/-! ### how many sides -/
def bin : Nat → Nat → Nat
  | 0, _ => 1
  | _ + 1, 0 => 0
  | k + 1, m + 1 => bin k m + bin (k + 1) m
theorem choices_len {α : Type} : ∀ (k : Nat) (l : List α), (choices k l).length = bin k l.length
  | 0, l => by cases l <;> rfl
  | k + 1, [] => rfl
  | k + 1, a :: l => by
    show ((choices k l).map _ ++ choices (k + 1) l).length = _
    rw [List.length_append, List.length_map, choices_len k l, choices_len (k + 1) l]; rfl
theorem bin_few : ∀ m, m ≤ 10 → ∀ n, n ≤ 4 → bin n m ≤ 210 := by decide
theorem sides_few {n : Nat} (hn : n ≤ 4) {pts : List (List Int)} (hp : pts.length ≤ 10) : (sidesT n (srt pts)).length ≤ 210 := by
  unfold sidesT
  refine Nat.le_trans (srt_len _) (Nat.le_trans (List.length_filter_le _ _) ?_)
  rw [List.length_map, choices_len]
  exact bin_few _ (Nat.le_trans (srt_len pts) hp) n hn
theorem dcor_len {n : Nat} {pts : List (List Int)} {P : List Int} (hn : n ≤ 4) (hp : pts.length ≤ 10) : (dcorT n pts P).length ≤ 210 := by
  unfold dcorT
  rw [List.length_map, sorted_gsort]
  have h1 : ∀ (l s : List Pt), (gsort before s l).length ≤ s.length + l.length := by
    intro l
    induction l with
    | nil => intro s; exact Nat.le_refl _
    | cons a l ih =>
      intro s
      have := ih (gins before a s)
      have := gins_len_le before a s
      show (gsort before (gins before a s) l).length ≤ _
      rw [List.length_cons]; omega
  have := h1 ((sidesT n (srt pts)).map (dptT P)) []
  rw [List.length_map, List.length_nil] at this
  have := sides_few hn hp
  omega
/-! ### how great -/
theorem fdiv_le' {x e : Int} (h : e ∣ x) (e0 : e ≠ 0) : (Int.fdiv x e).natAbs ≤ x.natAbs := by
  obtain ⟨k, rfl⟩ := h
  rw [Int.mul_fdiv_cancel_left _ e0, Int.natAbs_mul]
  exact Nat.le_mul_of_pos_left _ (Int.natAbs_pos.mpr e0)
theorem cm_great {a : Nat} : ∀ (l : List Int) (m : Int) (b : Nat), (∀ x, x ∈ l → 0 < x ∧ x.natAbs < 2 ^ a) → 0 < m → m.natAbs < 2 ^ b → (l.foldl (fun (m x : Int) => m * Int.fdiv x (gcdL [m, x] : Int)) m).natAbs < 2 ^ (b + l.length * a)
  | [], m, b, _, _, hm => by simpa using hm
  | x :: l, m, b, h, m0, hm => by
    obtain ⟨x0, xs⟩ := h x (List.mem_cons_self ..)
    rw [List.foldl_cons]
    have gp : 0 < gcdL [m, x] := gcdL_pos (x := x) (by simp) (by omega)
    have gx : (gcdL [m, x] : Int) ∣ x := gcdL_dvd (by simp)
    have hf := fdiv_le' gx (by omega)
    have h2 : (m * Int.fdiv x (gcdL [m, x] : Int)).natAbs < 2 ^ (b + a) := by
      rw [Int.natAbs_mul, Nat.pow_add]
      exact Nat.mul_lt_mul'' hm (Nat.lt_of_le_of_lt hf xs)
    have := cm_great l (m * Int.fdiv x (gcdL [m, x] : Int)) (b + a) (fun y hy => h y (List.mem_cons_of_mem _ hy)) (cm_step m0 x0).1 h2
    have e : b + (l.length + 1) * a = b + a + l.length * a := by rw [Nat.succ_mul]; omega
    rw [List.length_cons, e]; exact this
theorem cmul_great {a : Nat} {l : List Int} (h : ∀ x, x ∈ l → 0 < x ∧ x.natAbs < 2 ^ a) : (cmul l).natAbs < 2 ^ (1 + l.length * a) := cm_great l 1 1 h (by decide) (by decide)
end AB

set_option Elab.async false
set_option linter.all false
set_option maxRecDepth 100000
set_option maxHeartbeats 2000000
/-! What the layer lacks: zip and enumerate over lists and tuples alike. -/
namespace Ab
open PySem PySem.Spec PyProof.Rows L2

/-! ### a list (true) or a tuple (false) that is read -/
def Sq (k : Bool) (K : PySem.W.Frag) (H : Hp) (a : Addr) (xs : List V) : Prop := match k with
  | true => SqL K H a xs
  | false => SqT K H a xs
def sqIter (k : Bool) (h : Heap) (it l : Addr) (i : Nat) : Prop := match k with
  | true => h.IsListIter it l i
  | false => h.IsTupleIter it l i
def sqAt (k : Bool) (h : Heap) (l : Addr) (its : Array Value) : Prop := match k with
  | true => h.IsList l its
  | false => h.IsTuple l its

theorem sq_draws {P : Program} {w : World} {A : Around} (hh : A.handled = none) (k : Bool) (it l : Addr) (ne : l ≠ it) (its : Array Value) :
    Draws P w A it [it, l] its.size (fun i v => its[i]? = some v) (fun i h => sqIter k h it l i ∧ sqAt k h l its) := by
  cases k
  · exact Draws.tuple hh it l ne its
  · exact Draws.list hh it l ne its
theorem sq_begins (k : Bool) (l : Addr) (its : Array Value) : ∃ o : Obj, Begins (.ref l) o (fun h => sqAt k h l its) ∧ ∀ (h : Heap) (it : Addr), h.get? it = some o → sqIter k h it l 0 := by
  cases k
  · exact ⟨_, begins_tuple l its, fun h it e => ⟨_, e, rfl, rfl⟩⟩
  · exact ⟨_, begins_list l its, fun h it e => ⟨_, e, rfl, rfl⟩⟩
theorem sqIter_keep {k : Bool} {h h' : Heap} {it l : Addr} {i : Nat} (x : sqIter k h it l i) (q : ∀ o, h.get? it = some o → h'.get? it = some o) : sqIter k h' it l i := by
  cases k
  · obtain ⟨o, e, r⟩ := x; exact ⟨o, q o e, r⟩
  · obtain ⟨o, e, r⟩ := x; exact ⟨o, q o e, r⟩
theorem sqIter_obj {k : Bool} {h : Heap} {it l : Addr} {i : Nat} (x : sqIter k h it l i) : ∃ o, h.get? it = some o ∧ ∀ v, o.data ≠ .cell v := by
  cases k
  · obtain ⟨o, e, _, d⟩ := x; exact ⟨o, e, fun v z => by rw [d] at z; cases z⟩
  · obtain ⟨o, e, _, d⟩ := x; exact ⟨o, e, fun v z => by rw [d] at z; cases z⟩
section
variable {X : Cx} {pins : List (Addr × Obj)} {σ : L2.St} {H : Hp} {s : Shared}
theorem sq_inv {k : Bool} {a : Addr} {xs : List V} (I : Inv X pins σ H s) (h : Sq k X.K H a xs) : ∃ its : List Value, Vals xs its ∧ sqAt k s.heap a its.toArray ∧ a < s.heap.objs.size := by
  cases k
  · obtain ⟨us, r, p, _⟩ := I.tuple h
    obtain ⟨o, e, c⟩ := id p
    exact ⟨us, r, p, Heap.lt_size e⟩
  · obtain ⟨us, r, p, _⟩ := I.list h
    exact ⟨us, r, p.isList, p.lt⟩
theorem sq_inj {k : Bool} {a : Addr} {xs ys : List V} (I : Inv X pins σ H s) (h : Sq k X.K H a xs) (h' : Sq k X.K H a ys) : xs = ys := by
  cases k
  · exact I.tuple_inj h h'
  · exact I.list_inj h h'
theorem sq_len {k : Bool} {a : Addr} {xs : List V} (I : Inv X pins σ H s) (h : Sq k X.K H a xs) : xs.length ≤ sizeLine := by
  cases k
  · obtain ⟨_, _, _, z⟩ := I.tuple h; exact z
  · obtain ⟨_, _, _, z⟩ := I.list h; exact z
end
theorem sq_same {k : Bool} {K : PySem.W.Frag} {H H' : Hp} {a : Addr} {xs : List V} (e : Same H H') (h : Sq k K H a xs) : Sq k K H' a xs := by
  cases k
  · rcases h with (h | ⟨o, h⟩) | h
    · exact .inl (.inl (e _ _ h))
    · exact .inl (.inr ⟨o, e _ _ h⟩)
    · exact .inr h
  · exact Same.seq e h

/-! ### zip of two -/
/-- the two as they stand at each turn, the items in new pairs -/
def Iz (k1 k2 : Bool) (K : PySem.W.Frag) (a b : Addr) : It :=
  ⟨fun i H => ∃ (xs ys : List V) (x y : V), Sq k1 K H a xs ∧ Sq k2 K H b ys ∧ xs[i]? = some x ∧ ys[i]? = some y,
    fun i H v H' => ∃ T x y, v = .ref T ∧ H T = none ∧ H' = upd H T (.tup [x, y]) ∧ (∀ xs, Sq k1 K H a xs → xs[i]? = some x) ∧ ∀ ys, Sq k2 K H b ys → ys[i]? = some y,
    fun i H => ∃ xs ys : List V, Sq k1 K H a xs ∧ Sq k2 K H b ys ∧ i = min xs.length ys.length⟩
theorem turn_z {P : Program} {w : World} {K : PySem.W.Frag} {elts : List Expr} {kk : Nat} {tpos : Pos} (k1 k2 : Bool) {a b N : Addr} (ha : a < N) (hb : b < N) :
    Turn P w K (.Tuple elts kk tpos) (Iz k1 k2 K a b) [N + 4, N + 2, N + 3, N, N + 1] (N + 4)
      (fun i h => IsZip h (N + 4) (N + 2) (N + 3) .none ∧ IsTupOf2 h (N + 2) (.ref N) (.ref (N + 1)) ∧ (∃ u v, IsTupOf2 h (N + 3) u v) ∧ sqIter k1 h N a i ∧ sqIter k2 h (N + 1) b i) where
  mem := List.mem_cons_self ..
  obj := fun i h st c hc => by
    obtain ⟨z, t1, ⟨u, v, t2⟩, q1, q2⟩ := st
    simp only [List.mem_cons, List.not_mem_nil, or_false] at hc
    rcases hc with e | e | e | e | e <;> subst e
    · exact ⟨_, z, fun v q => nomatch q⟩
    · exact ⟨_, t1, fun v q => nomatch q⟩
    · exact ⟨_, t2, fun v q => nomatch q⟩
    · exact sqIter_obj q1
    · exact sqIter_obj q2
  keep := fun i h h' st kp => by
    obtain ⟨z, t1, ⟨u, v, t2⟩, q1, q2⟩ := st
    exact ⟨kp _ (by simp) _ z, kp _ (by simp) _ t1, ⟨u, v, kp _ (by simp) _ t2⟩, sqIter_keep q1 (kp N (by simp)), sqIter_keep q2 (kp (N + 1) (by simp))⟩
  item := by
    intro X eP ew eK hcalm i pins s σ H E I fresh st go
    subst eP ew eK
    obtain ⟨z, t1, t2, q1, q2⟩ := st
    obtain ⟨xs, ys, x, y, sx, sy, hx, hy⟩ := go
    obtain ⟨us, ru, au, _⟩ := sq_inv I sx
    obtain ⟨vs, rv, av, _⟩ := sq_inv I sy
    have hd : X.A.in1.handled = none := I.ok.hd hcalm
    have W := WalksT.zipD2 (A := X.A) (zip_sep2 (N := N) (fp1 := [a]) (fp2 := [b]) (by simp [ha]) (by simp [hb])) (sq_draws (P := X.prog) (w := X.w) hd k1 N a (Nat.ne_of_lt ha) us.toArray) (sq_draws (P := X.prog) (w := X.w) hd k2 (N + 1) b (Nat.ne_of_lt (Nat.lt_succ_of_lt hb)) vs.toArray)
    obtain ⟨i1, e1⟩ := List.getElem?_eq_some_iff.mp hx
    obtain ⟨i2, e2⟩ := List.getElem?_eq_some_iff.mp hy
    have l1 := ru.length
    have l2 := rv.length
    refine W.item i s _ _ (by simp; omega) ⟨z, t1, t2, ⟨q1, au⟩, q2, av⟩ fun T vals h1 tk hv hT at1 mid kp1 => ⟨.ref T, rfl, W.go elts kk tpos i T _ _ _ mid fun h2 st2 kp2 => ?_⟩
    obtain ⟨p, q, hp, hq, rfl⟩ := hv
    obtain ⟨p', hp', rp⟩ := ru.get hx
    obtain ⟨q', hq', rq⟩ := rv.get hy
    have ep : p = p' := by
      have hp : us.toArray[i]? = some p := hp
      rw [List.getElem?_toArray] at hp
      exact Option.some.inj (hp.symm.trans hp')
    have eq : q = q' := by
      have hq : vs.toArray[i]? = some q := hq
      rw [List.getElem?_toArray] at hq
      exact Option.some.inj (hq.symm.trans hq')
    subst ep eq
    have nT := W.apart i T h1 mid
    obtain ⟨oT, eT, cT, nn, dT⟩ := at1
    have eT2 := kp2 T oT nT eT
    have wr : ∀ c, c ∉ ([N + 4, N + 2, N + 3, N, N + 1] : List Addr) → c ∉ ([N + 4, N + 3, N, N + 1] : List Addr) := fun c hc hm => hc (by
      simp only [List.mem_cons, List.not_mem_nil, or_false] at hm ⊢
      rcases hm with e | e | e | e <;> simp [e])
    have I2 : Inv X pins σ (upd H T (.tup [x, y])) { s with heap := h2, toks := tk } :=
      I.turnedNew (ch := [N + 4, N + 2, N + 3, N, N + 1]) (fun c o hc e => kp2 c o (wr c hc) (kp1 c o (wr c hc) e)) fresh hT ⟨by show 2 ≤ sizeLine; decide, [p, q], .cons rp (.cons rq .nil), oT, eT2, cT, nn, dT⟩
    obtain ⟨z', t1', t2', ⟨q1', _⟩, q2', _⟩ := st2
    refine ⟨.ref T, _, I2, rfl, ⟨T, x, y, rfl, I.hok.fresh hT, rfl, fun zs hz => by rw [sq_inj I hz sx]; exact hx, fun zs hz => by rw [sq_inj I hz sy]; exact hy⟩, ⟨z', t1', t2', q1', q2'⟩, fun c hc => ?_⟩
    have hcT : c ≠ T := fun e => by
      subst e
      have := (fresh c hc)
      -- c stood ahead, T is new
      have old : c < s.heap.objs.size := by
        simp only [List.mem_cons, List.not_mem_nil, or_false] at hc
        rcases hc with e | e | e | e | e
        · rw [e]; exact Heap.lt_size z
        · rw [e]; exact Heap.lt_size t1
        · obtain ⟨u, v, t2⟩ := t2; rw [e]; exact Heap.lt_size t2
        · obtain ⟨o, q, _⟩ := sqIter_obj q1; rw [e]; exact Heap.lt_size q
        · obtain ⟨o, q, _⟩ := sqIter_obj q2; rw [e]; exact Heap.lt_size q
      exact absurd (Nat.lt_of_lt_of_le old hT) (Nat.lt_irrefl _)
    rw [upd_ne hcT]
    exact (fresh c hc).1
  done := by
    intro X eP ew eK hcalm i pins s σ H E I fresh st stop
    subst eP ew eK
    obtain ⟨z, t1, t2, q1, q2⟩ := st
    obtain ⟨xs, ys, sx, sy, hi⟩ := stop
    obtain ⟨us, ru, au, _⟩ := sq_inv I sx
    obtain ⟨vs, rv, av, _⟩ := sq_inv I sy
    have hd : X.A.in1.handled = none := I.ok.hd hcalm
    have W := WalksT.zipD2 (A := X.A) (zip_sep2 (N := N) (fp1 := [a]) (fp2 := [b]) (by simp [ha]) (by simp [hb])) (sq_draws (P := X.prog) (w := X.w) hd k1 N a (Nat.ne_of_lt ha) us.toArray) (sq_draws (P := X.prog) (w := X.w) hd k2 (N + 1) b (Nat.ne_of_lt (Nat.lt_succ_of_lt hb)) vs.toArray)
    have hi' : i = min us.toArray.size vs.toArray.size := by rw [hi, ru.length, rv.length]; simp
    subst hi'
    refine W.done s _ _ ⟨z, t1, t2, ⟨q1, au⟩, q2, av⟩ fun h' tk kp => ⟨rfl, I.turnedL (ch := [N + 4, N + 2, N + 3, N, N + 1]) (fun c o hc e => kp c o (fun hm => hc ?_) e) fresh⟩
    simp only [List.mem_cons, List.not_mem_nil, or_false] at hm ⊢
    rcases hm with e | e | e | e <;> simp [e]
  self := fun A i s Q E st h => wpAny_pyIter_zip st.1 h
def iZ (k1 k2 : Bool) (K : PySem.W.Frag) (ta : TA) : TI := fun σ H R => ta σ H fun vs H1 => ∃ a b xs ys, vs = [.ref a, .ref b] ∧ Sq k1 K H1 a xs ∧ Sq k2 K H1 b ys ∧ R (Iz k1 k2 K a b) H1
/-- which of both are lists is told by the heap, at each call -/
def iZz (K : PySem.W.Frag) (ta : TA) : TI := fun σ H R => ta σ H fun vs H1 => ∃ k1 k2 a b xs ys, vs = [.ref a, .ref b] ∧ Sq k1 K H1 a xs ∧ Sq k2 K H1 b ys ∧ R (Iz k1 k2 K a b) H1
theorem pi_z {X : Cx} {e e2 : Expr} {ta : TA} {p pos tpos : Pos} {elts : List Expr} {kk : Nat} (hg : Gl X "zip") (hm : X.mg "zip" = none) (ha : PA X [e, e2] ta)
    (hs : starEach [e, e2] X.env = (false, eval e X.env) :: starEach [e2] X.env := by rfl) (hpl : (backTo pos (starEach [e2] X.env)).any (·.1) = false := by rfl) :
    PI X (.Tuple elts kk tpos) (.Call (.Name "zip" p) [e, e2] [] pos) (iZz X.K ta) := by
  constructor
  intro pins s σ H R I h
  refine Call_ (ld_blt I hg hm PyProof.Rows.boot_zip (PyProof.Rows.callWith_type1 (thn (ha.run pos pins s σ H _ I h) fun us s1 got => ?_) hs hpl))
  obtain ⟨ws, H1, I1, r1, k1, k2, a, b, xs, ys, rfl, sx, sy, q⟩ := got
  obtain ⟨u1, u2, rfl, rfl, rfl⟩ : ∃ u1 u2, us = [u1, u2] ∧ u1 = Value.ref a ∧ u2 = Value.ref b := by
    cases r1 with
    | cons r rr =>
      cases rr with
      | cons r' rr =>
        cases rr
        exact ⟨_, _, rfl, r, r'⟩
  obtain ⟨vs1, rv1, at1, lt1⟩ := sq_inv I1 sx
  obtain ⟨vs2, rv2, at2, lt2⟩ := sq_inv I1 sy
  obtain ⟨o1, B1, it1⟩ := sq_begins k1 a vs1.toArray
  obtain ⟨o2, B2, it2⟩ := sq_begins k2 b vs2.toArray
  refine zip_begins2 B1 B2 at1 at2 fun h' z t1 t2 g1 g2 hsz kp => wpAny_pyIter_zip z ?_
  have I2 : Inv X pins σ H1 { s1 with heap := h' } := I1.kept (t' := s1.toks) kp
  refine ⟨s1.heap.objs.size + 4, _, _, _, H1, rfl, I2, turn_z k1 k2 lt1 lt2, ⟨z, t1, ⟨_, _, t2⟩, it1 _ _ g1, it2 _ _ g2⟩, fun c hc => ?_, q⟩
  have le : s1.heap.objs.size ≤ c := by
    simp only [List.mem_cons, List.not_mem_nil, or_false] at hc
    rcases hc with e | e | e | e | e
    · rw [e]; exact Nat.le_add_right ..
    · rw [e]; exact Nat.le_add_right ..
    · rw [e]; exact Nat.le_add_right ..
    · rw [e]; exact Nat.le_refl _
    · rw [e]; exact Nat.le_add_right ..
  exact I1.fpOk le (I1.hok.fresh le)
theorem walk_z {k1 k2 : Bool} {K : PySem.W.Frag} {a b : Addr} {xs ys : List V} : Walk (Iz k1 k2 K a b) (min xs.length ys.length) (fun H => Sq k1 K H a xs ∧ Sq k2 K H b ys) (YPair (fun i => xs[i]?) (fun i => ys[i]?)) := by
  refine ⟨fun i H hi g => ?_, fun H g => ⟨xs, ys, g.1, g.2, rfl⟩, fun i H v H' hi g y => ?_⟩
  · have h1 : i < xs.length := by omega
    have h2 : i < ys.length := by omega
    exact ⟨xs, ys, xs[i], ys[i], g.1, g.2, List.getElem?_eq_getElem h1, List.getElem?_eq_getElem h2⟩
  · obtain ⟨T, x, z, c1, c2, c3, c4, c5⟩ := y
    exact ⟨T, x, z, c1, c2, c3, c4 xs g.1, c5 ys g.2⟩

theorem above_two {a N : Addr} (ha : a < N) : N + 1 ∉ ([N, a] : List Addr) := fun q => by
  rcases List.mem_cons.mp q with e | e
  · exact Nat.succ_ne_self N e
  · exact absurd (List.mem_singleton.mp e) (Nat.ne_of_gt (Nat.lt_succ_of_lt ha))
/-! ### enumerate of a list or a tuple -/
def Ien (k : Bool) (K : PySem.W.Frag) (a : Addr) : It :=
  ⟨fun i H => ∃ (xs : List V) (x : V), Sq k K H a xs ∧ xs[i]? = some x, fun i H v H' => ∃ T x, v = .ref T ∧ H T = none ∧ H' = upd H T (.tup [.int (i : Nat), x]) ∧ ∀ xs, Sq k K H a xs → xs[i]? = some x, fun i H => ∃ xs : List V, Sq k K H a xs ∧ i = xs.length⟩
theorem meets_enum1 {k : Bool} {l : Addr} {its : Array Value} {o : Obj} (B : Begins (.ref l) o fun h => sqAt k h l its) :
    Meets (Builtin.«enumerate.__new__» ⟨[.type "enumerate", .ref l], []⟩) (fun _ R s => sqAt k s.heap l its ∧
      R (.ok (.ret (.ref (s.heap.push o).objs.size))) { s with heap := (s.heap.push o).push { cls := .type "enumerate", data := .fields #[.none, .bool false, .ref s.heap.objs.size, rawInt 0, .none, .none] } }) :=
  .of_wp fun prog w A R s h => by
    obtain ⟨hp, g, d, tk, os⟩ := s; obtain ⟨h1, h⟩ := h
    have hsub := sub_enumerate
    have q1 : ∀ {A' : Around} {E : Value → Shared → Prop} {Q : Value → Shared → Prop}, Q (.ref hp.objs.size) ⟨hp.push o, g, d, tk, os⟩ → wpAny (model prog w) A' (pyIter (.ref l)) Q E ⟨hp, g, d, tk, os⟩ :=
      fun q => B.iter prog w _ _ ⟨hp, g, d, tk, os⟩ _ h1 q
    wp_walk using q1
    refine wpAny_stack_any fun st => wpAny_pure ?_
    split
    · rename_i c _ _ _ _ _
      cases (c == Value.type "enumerate")
      · wp_walk using q1
        exact ⟨_, rfl, h⟩
      · wp_walk using q1
        exact ⟨_, rfl, h⟩
    · wp_walk using q1
      exact ⟨_, rfl, h⟩
theorem call_enum1 {P : Program} {w : World} {A : Around} {E : Value → Shared → Prop} {s : Shared} {k : Bool} {l : Addr} {its : Array Value} {o : Obj} {Q : Value → Shared → Prop} (B : Begins (.ref l) o fun h => sqAt k h l its) (h1 : sqAt k s.heap l its)
    (h : ∀ h', IsEnum h' (s.heap.objs.size + 1) s.heap.objs.size 0 .none → h'.get? s.heap.objs.size = some o → (∀ b o, s.heap.get? b = some o → h'.get? b = some o) → Q (.ref (s.heap.objs.size + 1)) { s with heap := h' }) :
    wpAny (model P w) A (call (.type "enumerate") [.ref l]) Q E s := by
  refine callType_new F.called_enumerate (by decide) (F.typeCall_enumerate_1 _) (F.newCall_enumerate_1 _) (fun obj => F.args_object_init_2 obj _) F.entry_enumerate_new (meets_enum1 B) ⟨h1, ?_⟩
  have hz : (s.heap.push o).objs.size = s.heap.objs.size + 1 := Heap.size_push ..
  show _ ∧ _
  rw [hz]
  have he : IsEnum ((s.heap.push o).push { cls := .type "enumerate", data := .fields #[.none, .bool false, .ref s.heap.objs.size, rawInt 0, .none, .none] }) (s.heap.objs.size + 1) s.heap.objs.size 0 .none := by
    have q := Heap.get?_push_size (s.heap.push o) (o := { cls := .type "enumerate", data := .fields #[.none, .bool false, .ref s.heap.objs.size, rawInt 0, .none, .none] }) rfl
    rw [hz] at q; exact q
  exact ⟨⟨_, he, rfl⟩, h _ he (Heap.get?_push_of_some _ (Heap.get?_push_size _ B.free)) fun b o x => Heap.get?_push_of_some _ (Heap.get?_push_of_some _ x)⟩
theorem turn_en {P : Program} {w : World} {K : PySem.W.Frag} {elts : List Expr} {kk : Nat} {tpos : Pos} (k : Bool) {a N : Addr} (ha : a < N) :
    Turn P w K (.Tuple elts kk tpos) (Ien k K a) [N + 1, N] (N + 1) (fun i h => (∃ old, IsEnum h (N + 1) N (0 + (i : Int)) old) ∧ sqIter k h N a i) where
  mem := List.mem_cons_self ..
  obj := fun i h st c hc => by
    obtain ⟨⟨old, z⟩, q⟩ := st
    simp only [List.mem_cons, List.not_mem_nil, or_false] at hc
    rcases hc with e | e <;> subst e
    · exact ⟨_, z, fun v q => nomatch q⟩
    · exact sqIter_obj q
  keep := fun i h h' st kp => by
    obtain ⟨⟨old, z⟩, q⟩ := st
    exact ⟨⟨old, kp _ (by simp) _ z⟩, sqIter_keep q (kp N (by simp))⟩
  item := by
    intro X eP ew eK hcalm i pins s σ H E I fresh st go
    subst eP ew eK
    obtain ⟨z, q1⟩ := st
    obtain ⟨xs, x, sx, hx⟩ := go
    obtain ⟨us, ru, au, _⟩ := sq_inv I sx
    have hd : X.A.in1.handled = none := I.ok.hd hcalm
    have W := WalksT.enumFrom (A := X.A) 0 (sq_draws (P := X.prog) (w := X.w) hd k N a (Nat.ne_of_lt ha) us.toArray) (N + 1) (Nat.succ_ne_self N) (above_two ha) (by simp)
    obtain ⟨i1, e1⟩ := List.getElem?_eq_some_iff.mp hx
    have l1 := ru.length
    refine W.item i s _ _ (by simp; omega) ⟨z, q1, au⟩ fun T vals h1 tk hv hT at1 mid kp1 => ⟨.ref T, rfl, W.go elts kk tpos i T _ _ _ mid fun h2 st2 kp2 => ?_⟩
    obtain ⟨tt, p, hp, rfl⟩ := hv
    obtain ⟨p', hp', rp⟩ := ru.get hx
    have ep : p = p' := by
      have hp : us.toArray[i]? = some p := hp
      rw [List.getElem?_toArray] at hp
      exact Option.some.inj (hp.symm.trans hp')
    subst ep
    have nT := W.apart i T h1 mid
    obtain ⟨oT, eT, cT, nn, dT⟩ := at1
    have eT2 := kp2 T oT nT eT
    have i0 : (0 + (i : Int)) = ((i : Nat) : Int) := Int.zero_add _
    have I2 : Inv X pins σ (upd H T (.tup [.int (i : Nat), x])) { s with heap := h2, toks := tk } :=
      I.turnedNew (ch := [N + 1, N]) (fun c o hc e => kp2 c o hc (kp1 c o hc e)) fresh hT ⟨by show 2 ≤ sizeLine; decide, _, .cons ⟨tt, by rw [i0]⟩ (.cons rp .nil), oT, eT2, cT, nn, dT⟩
    obtain ⟨z', q1', _⟩ := st2
    refine ⟨.ref T, _, I2, rfl, ⟨T, x, rfl, I.hok.fresh hT, rfl, fun zs hz => by rw [sq_inj I hz sx]; exact hx⟩, ⟨z', q1'⟩, fun c hc => ?_⟩
    have hcT : c ≠ T := fun e => by
      subst e
      have old : c < s.heap.objs.size := by
        simp only [List.mem_cons, List.not_mem_nil, or_false] at hc
        rcases hc with e | e
        · obtain ⟨old, z⟩ := z; rw [e]; exact Heap.lt_size z
        · obtain ⟨o, q, _⟩ := sqIter_obj q1; rw [e]; exact Heap.lt_size q
      exact absurd (Nat.lt_of_lt_of_le old hT) (Nat.lt_irrefl _)
    rw [upd_ne hcT]
    exact (fresh c hc).1
  done := by
    intro X eP ew eK hcalm i pins s σ H E I fresh st stop
    subst eP ew eK
    obtain ⟨z, q1⟩ := st
    obtain ⟨xs, sx, hi⟩ := stop
    obtain ⟨us, ru, au, _⟩ := sq_inv I sx
    have hd : X.A.in1.handled = none := I.ok.hd hcalm
    have W := WalksT.enumFrom (A := X.A) 0 (sq_draws (P := X.prog) (w := X.w) hd k N a (Nat.ne_of_lt ha) us.toArray) (N + 1) (Nat.succ_ne_self N) (above_two ha) (by simp)
    have hi' : i = us.toArray.size := by rw [hi, ru.length]; simp
    subst hi'
    exact W.done s _ _ ⟨z, q1, au⟩ fun h' tk kp => ⟨rfl, I.turnedL (ch := [N + 1, N]) (fun c o hc e => kp c o hc e) fresh⟩
  self := fun A i s Q E st h => let ⟨⟨_, z⟩, _⟩ := st; wpAny_pyIter_enum z h
def iEn (K : PySem.W.Frag) (ta : TA) : TI := fun σ H R => ta σ H fun vs H1 => ∃ k a xs, vs = [.ref a] ∧ Sq k K H1 a xs ∧ R (Ien k K a) H1
theorem pi_en {X : Cx} {e : Expr} {ta : TA} {p pos tpos : Pos} {elts : List Expr} {kk : Nat} (hg : Gl X "enumerate") (hm : X.mg "enumerate" = none) (ha : PA X [e] ta) (hs : starEach [e] X.env = [(false, eval e X.env)] := by rfl) :
    PI X (.Tuple elts kk tpos) (.Call (.Name "enumerate" p) [e] [] pos) (iEn X.K ta) := by
  constructor
  intro pins s σ H R I h
  refine Call_ (ld_blt I hg hm boot_enumerate (PyProof.Rows.callWith_type1 (thn (ha.run pos pins s σ H _ I h) fun us s1 got => ?_) hs rfl))
  obtain ⟨ws, H1, I1, r1, k, a, xs, rfl, sx, q⟩ := got
  obtain ⟨u1, rfl, rfl⟩ : ∃ u1, us = [u1] ∧ u1 = Value.ref a := by
    cases r1 with
    | cons r rr =>
      cases rr
      exact ⟨_, rfl, r⟩
  obtain ⟨vs1, rv1, at1, lt1⟩ := sq_inv I1 sx
  obtain ⟨o1, B1, it1⟩ := sq_begins k a vs1.toArray
  refine call_enum1 B1 at1 fun h' z g1 kp => wpAny_pyIter_enum z ?_
  have I2 : Inv X pins σ H1 { s1 with heap := h' } := I1.kept (t' := s1.toks) kp
  refine ⟨s1.heap.objs.size + 1, _, _, _, H1, rfl, I2, turn_en k lt1, ⟨⟨_, z⟩, it1 _ _ g1⟩, fun c hc => ?_, q⟩
  have le : s1.heap.objs.size ≤ c := by
    simp only [List.mem_cons, List.not_mem_nil, or_false] at hc
    rcases hc with e | e
    · rw [e]; exact Nat.le_add_right ..
    · rw [e]; exact Nat.le_refl _
  exact I1.fpOk le (I1.hok.fresh le)
theorem walk_en {k : Bool} {K : PySem.W.Frag} {a : Addr} {xs : List V} : Walk (Ien k K a) xs.length (fun H => Sq k K H a xs) (YPair (fun i => some (.int (i : Nat))) (fun i => xs[i]?)) := by
  refine ⟨fun i H hi g => ⟨xs, xs[i], g, List.getElem?_eq_getElem hi⟩, fun H g => ⟨xs, g, rfl⟩, fun i H v H' hi g y => ?_⟩
  obtain ⟨T, x, c1, c2, c3, c4⟩ := y
  exact ⟨T, .int (i : Nat), x, c1, c2, c3, rfl, c4 xs g⟩
end Ab

set_option Elab.async false
set_option linter.all false
set_option maxRecDepth 100000
set_option maxHeartbeats 2000000
/-! What an expression gives, over what is known of the heap. -/
namespace Ab
open PySem PySem.Spec PyProof.Rows L2

/-! ### views: what is known (H), and what is new since H1, as it stands in H2 -/
def vis (H H1 H2 : Hp) : Hp := fun b => if (H b).isSome = true ∨ (H1 b).isNone = true then H2 b else none
theorem vis_at {H H1 H2 : Hp} {b : Addr} (h : (H b).isSome = true ∨ (H1 b).isNone = true) : vis H H1 H2 b = H2 b := if_pos h
theorem vis_le (H H1 H2 : Hp) : Same (vis H H1 H2) H2 := fun b o e => by
  unfold vis at e
  split at e
  · exact e
  · cases e
theorem some_of {H : Hp} {b : Addr} {o : HO} (e : H b = some o) : (H b).isSome = true := by rw [e]; rfl
theorem vis_base {H H1 H2 : Hp} (e : Same H H2) : Same H (vis H H1 H2) := fun b o q => by
  rw [vis_at (.inl (some_of q))]; exact e b o q
theorem vis_mono {H H1 H2 H3 : Hp} (e : Same H2 H3) : Same (vis H H1 H2) (vis H H1 H3) := fun b o q => by
  unfold vis at q ⊢
  split at q
  · rename_i h; rw [if_pos h]; exact e b o q
  · cases q
theorem none_back {H1 H2 : Hp} (e : Same H1 H2) {b : Addr} (h : (H2 b).isNone = true) : (H1 b).isNone = true := by
  cases q : H1 b with
  | none => rfl
  | some o => rw [e b o q] at h; cases h
/-- from a later start -/
theorem vis_late {H H1 H2 H3 : Hp} (e : Same H1 H2) : Same (vis H H2 H3) (vis H H1 H3) := fun b o q => by
  unfold vis at q ⊢
  split at q
  · rename_i h
    rw [if_pos (h.imp id (none_back e))]; exact q
  · cases q
/-- known: a view -/
theorem vis_vis {H H1 H3 H4 : Hp} (e : Same H1 H3) : Same (vis (vis H H1 H3) H3 H4) (vis H H1 H4) := fun b o q => by
  have c : (H b).isSome = true ∨ (H1 b).isNone = true := by
    apply Classical.byContradiction
    intro w
    have h1 : ¬ (H b).isSome = true := fun z => w (.inl z)
    have h2 : ¬ (H1 b).isNone = true := fun z => w (.inr z)
    have hv : vis H H1 H3 b = none := if_neg w
    have h3 : ¬ (H3 b).isNone = true := fun z => h2 (none_back e z)
    have : vis (vis H H1 H3) H3 H4 b = none := by
      show (if (vis H H1 H3 b).isSome = true ∨ (H3 b).isNone = true then H4 b else none) = none
      rw [hv]
      exact if_neg (by rintro (z | z); cases z; exact h3 z)
    rw [this] at q; cases q
  rw [vis_at c]
  exact vis_le _ _ _ b o q
theorem vis_self (H H1 : Hp) (e : Same H H1) : vis H H1 H1 = H := by
  funext b
  unfold vis
  by_cases h : (H b).isSome = true
  · rw [if_pos (.inl h)]
    obtain ⟨o, ho⟩ := Option.isSome_iff_exists.mp h
    rw [ho, e b o ho]
  · by_cases h1 : (H1 b).isNone = true
    · rw [if_pos (.inr h1), Option.isNone_iff_eq_none.mp h1]
      cases q : H b with
      | none => rfl
      | some o => rw [q] at h; exact absurd rfl h
    · rw [if_neg (by rintro (z | z); exact h z; exact h1 z)]
      cases q : H b with
      | none => rfl
      | some o => rw [q] at h; exact absurd rfl h
/-- a new object stands in the view -/
theorem vis_new {H H1 : Hp} {p : Addr} {o : HO} (h : H1 p = none) : vis H H1 (upd H1 p o) p = some o := by
  rw [vis_at (.inr (by rw [h]; rfl))]; exact upd_same
theorem same_new {H : Hp} {p : Addr} {o : HO} (h : H p = none) : Same H (upd H p o) := fun b u e => by
  rw [upd_ne (ne_of_none e h)]; exact e

/-! ### what is said of a value and a heap, and stays -/
abbrev Rel := V → Hp → Prop
def Mono (R : Rel) : Prop := ∀ v H H', Same H H' → R v H → R v H'
def Is (v : V) : Rel := fun x _ => x = v
theorem Is.mono (v : V) : Mono (Is v) := fun _ _ _ _ h => h

/-- te gives something of which R is said, over what is known; the heap only grows -/
def Gv (te : TE) (σ : L2.St) (H : Hp) (R : Rel) : Prop := ∀ H1, Same H H1 → ∀ Q : VK, (∀ v H2, Same H1 H2 → R v (vis H H1 H2) → Q v H2) → te σ H1 Q
/-- a two-place operation; a call by values -/
def Op2 (r : R2) (x y : V) (H : Hp) (R : Rel) : Prop := ∀ H1, Same H H1 → ∀ Q : VK, (∀ v H2, Same H1 H2 → R v (vis H H1 H2) → Q v H2) → r x y H1 Q
def OpC (r : List V → Hp → VK → Prop) (xs : List V) (H : Hp) (R : Rel) : Prop := ∀ H1, Same H H1 → ∀ Q : VK, (∀ v H2, Same H1 H2 → R v (vis H H1 H2) → Q v H2) → r xs H1 Q
def OpS (sp : Sp) (xs : List V) (H : Hp) (R : Rel) : Prop := ∀ H1, Same H H1 → ∀ Q : VK, (∀ v H2, Same H1 H2 → R v (vis H H1 H2) → Q v H2) → ∀ E, sp xs H1 Q E
/-- arguments -/
def GvA (ta : TA) (σ : L2.St) (H : Hp) (R : List V → Hp → Prop) : Prop := ∀ H1, Same H H1 → ∀ Q : List V → Hp → Prop, (∀ vs H2, Same H1 H2 → R vs (vis H H1 H2) → Q vs H2) → ta σ H1 Q
def GvT (tt : TT) (σ : L2.St) (H : Hp) (b : Bool) : Prop := ∀ H1, Same H H1 → ∀ Q : Bool → Hp → Prop, (∀ H2, Same H1 H2 → Q b H2) → tt σ H1 Q
/-- of a value that is made of nothing new -/
theorem op2_val {r : R2} {x y z : V} {H : Hp} (h : ∀ H1, Same H H1 → ∀ Q : VK, Q z H1 → r x y H1 Q) : Op2 r x y H (Is z) := fun H1 e Q q => h H1 e Q (q z H1 (Same.refl H1) rfl)
theorem opC_val {r : List V → Hp → VK → Prop} {xs : List V} {z : V} {H : Hp} (h : ∀ H1, Same H H1 → ∀ Q : VK, Q z H1 → r xs H1 Q) : OpC r xs H (Is z) := fun H1 e Q q => h H1 e Q (q z H1 (Same.refl H1) rfl)
/-- of a new object -/
theorem new_ok {H H1 : Hp} {R : Rel} {Q : VK} (e : Same H H1) {o : HO} (hR : ∀ p H', Same H H' → H' p = some o → R (.ref p) H') (q : ∀ v H2, Same H1 H2 → R v (vis H H1 H2) → Q v H2) : ∀ p, H1 p = none → Q (.ref p) (upd H1 p o) := fun p hp =>
  q _ _ (same_new hp) (hR p _ (vis_base (Same.trans e (same_new hp))) (vis_new hp))

section
variable {K : PySem.W.Frag} {σ : L2.St} {H H' : Hp} {ta tb tc te : TE} {x y z v : V} {R RA RB : Rel}
theorem Gv.imp {R' : Rel} (h : Gv te σ H R) (k : ∀ v H', Same H H' → R v H' → R' v H') : Gv te σ H R' := fun H1 e Q q => h H1 e Q fun v H2 e2 r => q v H2 e2 (k v _ (vis_base (Same.trans e e2)) r)
theorem Gv.up (e : Same H H') (mR : Mono R) (h : Gv te σ H R) : Gv te σ H' R := fun H1 e1 Q q => h H1 (Same.trans e e1) Q fun v H2 e2 r => q v H2 e2 (mR _ _ _ (fun b o z => by
  unfold vis at z ⊢
  split at z
  · rename_i w
    rw [if_pos (w.imp (fun w => by obtain ⟨u, hu⟩ := Option.isSome_iff_exists.mp w; exact some_of (e b u hu)) id)]; exact z
  · cases z) r)
theorem gv_var {i : Nat} (h : σ[i]? = some (some v)) (mR : Mono R) (r : R v H) : Gv (tVar i) σ H R := fun H1 e Q q => ⟨v, h, q v H1 (Same.refl H1) (mR _ _ _ (vis_base e) r)⟩
theorem gv_v {i : Nat} (h : σ[i]? = some (some v)) : Gv (tVar i) σ H (Is v) := gv_var h (Is.mono v) rfl
theorem gv_c : Gv (tC v) σ H (Is v) := fun H1 e Q q => q v H1 (Same.refl H1) rfl
theorem gv_op {r : R2} (ha : Gv ta σ H RA) (mA : Mono RA) (hb : Gv tb σ H RB) (mB : Mono RB) (hr : ∀ x y H', Same H H' → RA x H' → RB y H' → Op2 r x y H' R) (mR : Mono R) : Gv (tOp r ta tb) σ H R := fun H1 e Q q =>
  ha H1 e _ fun x H2 e2 r2 => hb H2 (Same.trans e e2) _ fun y H3 e3 r3 =>
    hr x y (vis H H1 H3) (vis_base (Same.trans e (Same.trans e2 e3))) (mA _ _ _ (vis_mono e3) r2) (mB _ _ _ (vis_late e2) r3) H3 (vis_le _ _ _) Q fun v H4 e4 r4 => q v H4 (Same.trans e2 (Same.trans e3 e4)) (mR _ _ _ (vis_vis (Same.trans e2 e3)) r4)
theorem gv_c1 {r : List V → Hp → VK → Prop} (ha : Gv ta σ H RA) (hr : ∀ x H', Same H H' → RA x H' → OpC r [x] H' R) (mR : Mono R) : Gv (tCB r (tCons ta tNil)) σ H R := fun H1 e Q q =>
  ha H1 e _ fun x H2 e2 r2 => hr x (vis H H1 H2) (vis_base (Same.trans e e2)) r2 H2 (vis_le _ _ _) Q fun v H3 e3 r3 => q v H3 (Same.trans e2 e3) (mR _ _ _ (vis_vis e2) r3)
/-- arguments of a call -/
def R1 (RA : Rel) : List V → Hp → Prop := fun vs H => ∃ x, vs = [x] ∧ RA x H
def R2' (RA RB : Rel) : List V → Hp → Prop := fun vs H => ∃ x y, vs = [x, y] ∧ RA x H ∧ RB y H
theorem gva_1 (ha : Gv ta σ H RA) : GvA (tCons ta tNil) σ H (R1 RA) := fun H1 e Q q => ha H1 e _ fun x H2 e2 r2 => q [x] H2 e2 ⟨x, rfl, r2⟩
theorem gva_2 (ha : Gv ta σ H RA) (mA : Mono RA) (hb : Gv tb σ H RB) (mB : Mono RB) : GvA (tCons ta (tCons tb tNil)) σ H (R2' RA RB) := fun H1 e Q q =>
  ha H1 e _ fun x H2 e2 r2 => hb H2 (Same.trans e e2) _ fun y H3 e3 r3 => q [x, y] H3 (Same.trans e2 e3) ⟨x, y, rfl, mA _ _ _ (vis_mono e3) r2, mB _ _ _ (vis_late e2) r3⟩
def R3 (RA RB RC : Rel) : List V → Hp → Prop := fun vs H => ∃ x y z, vs = [x, y, z] ∧ RA x H ∧ RB y H ∧ RC z H
theorem gva_3 {RC : Rel} (ha : Gv ta σ H RA) (mA : Mono RA) (hb : Gv tb σ H RB) (mB : Mono RB) (hc : Gv tc σ H RC) (mC : Mono RC) : GvA (tCons ta (tCons tb (tCons tc tNil))) σ H (R3 RA RB RC) := fun H1 e Q q =>
  ha H1 e _ fun x H2 e2 r2 => hb H2 (Same.trans e e2) _ fun y H3 e3 r3 => hc H3 (Same.trans e (Same.trans e2 e3)) _ fun z H4 e4 r4 =>
    q [x, y, z] H4 (Same.trans e2 (Same.trans e3 e4)) ⟨x, y, z, rfl, mA _ _ _ (vis_mono (Same.trans e3 e4)) r2, mB _ _ _ (fun b o w => vis_mono e4 b o (vis_late e2 b o w)) r3, mC _ _ _ (vis_late (Same.trans e2 e3)) r4⟩
theorem gv_cb {r : List V → Hp → VK → Prop} {t : TA} {RL : List V → Hp → Prop} (ha : GvA t σ H RL) (hr : ∀ vs H', Same H H' → RL vs H' → OpC r vs H' R) (mR : Mono R) : Gv (tCB r t) σ H R := fun H1 e Q q =>
  ha H1 e _ fun vs H2 e2 r2 => hr vs (vis H H1 H2) (vis_base (Same.trans e e2)) r2 H2 (vis_le _ _ _) Q fun v H3 e3 r3 => q v H3 (Same.trans e2 e3) (mR _ _ _ (vis_vis e2) r3)
theorem gv_call {sp : Sp} {E : XK} {t : TA} {RL : List V → Hp → Prop} (ha : GvA t σ H RL) (hr : ∀ vs H', Same H H' → RL vs H' → OpS sp vs H' R) (mR : Mono R) : Gv (tCall sp [] E t) σ H R := fun H1 e Q q =>
  ha H1 e _ fun vs H2 e2 r2 => by
    rw [List.append_nil]
    exact hr vs (vis H H1 H2) (vis_base (Same.trans e e2)) r2 H2 (vis_le _ _ _) Q (fun v H3 e3 r3 => q v H3 (Same.trans e2 e3) (mR _ _ _ (vis_vis e2) r3)) E
theorem gv_lst0 (hR : ∀ p H', Same H H' → H' p = some (.lst []) → R (.ref p) H') : Gv (tLst tNil) σ H R := fun H1 e Q q => ⟨Nat.zero_le _, new_ok e hR q⟩
theorem gv_tup0 (hR : ∀ p H', Same H H' → H' p = some (.tup []) → R (.ref p) H') : Gv (tTup tNil) σ H R := fun H1 e Q q => ⟨Nat.zero_le _, new_ok e hR q⟩
theorem gv_lst {t : TA} {RL : List V → Hp → Prop} (ha : GvA t σ H RL) (hl : ∀ vs H', RL vs H' → vs.length ≤ sizeLine) (hR : ∀ vs p H' H'', Same H H' → RL vs H' → Same H' H'' → H'' p = some (.lst vs) → R (.ref p) H'') (mR : Mono R) : Gv (tLst t) σ H R := fun H1 e Q q =>
  ha H1 e _ fun vs H2 e2 r2 => ⟨hl vs _ r2, fun p hp => q _ _ (Same.trans e2 (same_new hp)) (by
    have hn : H1 p = none := Option.isNone_iff_eq_none.mp (none_back e2 (by rw [hp]; rfl))
    exact hR vs p (vis H H1 H2) (vis H H1 (upd H2 p (.lst vs))) (vis_base (Same.trans e e2)) r2 (vis_mono (same_new hp)) (by rw [vis_at (.inr (by rw [hn]; rfl))]; exact upd_same))⟩
theorem gv_tup {t : TA} {RL : List V → Hp → Prop} (ha : GvA t σ H RL) (hl : ∀ vs H', RL vs H' → vs.length ≤ sizeLine) (hR : ∀ vs p H' H'', Same H H' → RL vs H' → Same H' H'' → H'' p = some (.tup vs) → R (.ref p) H'') (mR : Mono R) : Gv (tTup t) σ H R := fun H1 e Q q =>
  ha H1 e _ fun vs H2 e2 r2 => ⟨hl vs _ r2, fun p hp => q _ _ (Same.trans e2 (same_new hp)) (by
    have hn : H1 p = none := Option.isNone_iff_eq_none.mp (none_back e2 (by rw [hp]; rfl))
    exact hR vs p (vis H H1 H2) (vis H H1 (upd H2 p (.tup vs))) (vis_base (Same.trans e e2)) r2 (vis_mono (same_new hp)) (by rw [vis_at (.inr (by rw [hn]; rfl))]; exact upd_same))⟩
theorem gv_sl {r : V → Option Int → Option Int → Hp → VK → Prop} {tl th : TO} {lo hi : Option Int} (ha : Gv ta σ H RA) (hl : ∀ H1, ∀ Q : Option Int → Hp → Prop, Same H H1 → Q lo H1 → tl σ H1 Q) (hh : ∀ H1, ∀ Q : Option Int → Hp → Prop, Same H H1 → Q hi H1 → th σ H1 Q)
    (hr : ∀ x H', Same H H' → RA x H' → ∀ H1, Same H' H1 → ∀ Q : VK, (∀ v H2, Same H1 H2 → R v (vis H' H1 H2) → Q v H2) → r x lo hi H1 Q) (mR : Mono R) : Gv (tSl r ta tl th) σ H R := fun H1 e Q q =>
  ha H1 e _ fun x H2 e2 r2 => hl H2 _ (Same.trans e e2) (hh H2 _ (Same.trans e e2) (hr x (vis H H1 H2) (vis_base (Same.trans e e2)) r2 H2 (vis_le _ _ _) Q fun v H3 e3 r3 => q v H3 (Same.trans e2 e3) (mR _ _ _ (vis_vis e2) r3)))
theorem part_none {Q : Option Int → Hp → Prop} (h : Q none H) : tNoPart σ H Q := h
theorem part_int {i : Int} {Q : Option Int → Hp → Prop} (h : Q (some i) H) : tPart (tC (.int i)) σ H Q := ⟨i, rfl, h⟩
theorem gvt_B {b : Bool} (h : Gv te σ H (Is (.bl b))) : GvT (tB te) σ H b := fun H1 e Q q => h H1 e _ fun v H2 e2 r => by
  cases r
  exact ⟨b, rfl, q H2 e2⟩
theorem gvt_test {b : Bool} (h : Gv te σ H (Is (.bl b))) : GvT (tTest te) σ H b := fun H1 e Q q => h H1 e _ fun v H2 e2 r => by
  cases r
  exact ⟨b, rfl, q H2 e2⟩
theorem gvt_truth {b : Bool} (h : Gv te σ H R) (hk : ∀ v H', Same H H' → R v H' → ∀ H1, Same H' H1 → TruV K v H1 b) : GvT (fun σ H Q => te σ H fun x H' => ∃ k, TruV K x H' k ∧ Q k H') σ H b := fun H1 e Q q => h H1 e _ fun v H2 e2 r =>
  ⟨b, hk v (vis H H1 H2) (vis_base (Same.trans e e2)) r H2 (vis_le _ _ _), q H2 e2⟩
theorem gvt_and {t u : TT} {a b : Bool} (h1 : GvT t σ H a) (h2 : a = true → GvT u σ H b) : GvT (tAnd t u) σ H (a && b) := fun H1 e Q q => h1 H1 e _ fun H2 e2 => by
  cases a with
  | true => exact h2 rfl H2 (Same.trans e e2) Q fun H3 e3 => q H3 (Same.trans e2 e3)
  | false => exact q H2 e2
theorem gvt_or {t u : TT} {a b : Bool} (h1 : GvT t σ H a) (h2 : a = false → GvT u σ H b) : GvT (tOr t u) σ H (a || b) := fun H1 e Q q => h1 H1 e _ fun H2 e2 => by
  cases a with
  | true => exact q H2 e2
  | false => exact h2 rfl H2 (Same.trans e e2) Q fun H3 e3 => q H3 (Same.trans e2 e3)
theorem gvt_not {t : TT} {a : Bool} (h1 : GvT t σ H a) : GvT (tNot t) σ H (!a) := fun H1 e Q q => h1 H1 e _ fun H2 e2 => q H2 e2
theorem gv_andV {a b : Bool} (h1 : Gv ta σ H (Is (.bl a))) (h2 : a = true → Gv tb σ H (Is (.bl b))) : Gv (tAndV ta tb) σ H (Is (.bl (a && b))) := fun H1 e Q q => h1 H1 e _ fun v H2 e2 r => by
  cases r
  refine ⟨a, rfl, ?_⟩
  cases a with
  | true => exact h2 rfl H2 (Same.trans e e2) Q fun w H3 e3 r3 => q w H3 (Same.trans e2 e3) r3
  | false => exact q _ H2 e2 rfl
theorem gv_if {t : TT} {b : Bool} (h : GvT t σ H b) (h1 : b = true → Gv ta σ H R) (h2 : b = false → Gv tb σ H R) (mR : Mono R) : Gv (tIf t ta tb) σ H R := fun H1 e Q q => h H1 e _ fun H2 e2 => by
  cases b with
  | true => exact h1 rfl H2 (Same.trans e e2) Q fun w H3 e3 r3 => q w H3 (Same.trans e2 e3) (mR _ _ _ (vis_late e2) r3)
  | false => exact h2 rfl H2 (Same.trans e e2) Q fun w H3 e3 r3 => q w H3 (Same.trans e2 e3) (mR _ _ _ (vis_late e2) r3)
theorem gv_chain {r r' : R2} {a b : Bool} (ha : Gv ta σ H (Is x)) (hb : Gv tb σ H (Is y)) (hc : Gv tc σ H (Is z)) (h1 : Op2 r x y H (Is (.bl a))) (h2 : Op2 r' y z H (Is (.bl b))) : Gv (tChain r r' ta tb tc) σ H (Is (.bl (a && b))) := fun H1 e Q q =>
  ha H1 e _ fun x' H2 e2 r2 => hb H2 (Same.trans e e2) _ fun y' H3 e3 r3 => by
    cases r2
    cases r3
    refine h1 H3 (Same.trans e (Same.trans e2 e3)) _ fun v H4 e4 r4 => ?_
    cases r4
    refine ⟨a, rfl, ?_⟩
    cases a with
    | true =>
      refine hc H4 (Same.trans e (Same.trans e2 (Same.trans e3 e4))) _ fun z' H5 e5 r5 => ?_
      cases r5
      exact h2 H5 (Same.trans e (Same.trans e2 (Same.trans e3 (Same.trans e4 e5)))) Q fun w H6 e6 r6 => q w H6 (Same.trans e2 (Same.trans e3 (Same.trans e4 (Same.trans e5 e6)))) r6
    | false => exact q _ H4 (Same.trans e2 (Same.trans e3 e4)) rfl

/-! ### whole numbers -/
theorem i0 {g : Int → Int → V} {i j : Int} : Op2 (rI0 g) (.int i) (.int j) H (Is (g i j)) := op2_val fun H1 _ Q q => ⟨i, j, rfl, rfl, q⟩
theorem iC {C : Int → Int → Prop} {g : Int → Int → V} {i j : Int} (hc : C i j) : Op2 (rI C g) (.int i) (.int j) H (Is (g i j)) := op2_val fun H1 _ Q q => ⟨i, j, rfl, rfl, hc, q⟩
theorem oEq (h : scal x y = true) : Op2 rEq x y H (Is (.bl (decide (x = y)))) := op2_val fun H1 _ Q q => ⟨h, q⟩
theorem oNe (h : scal x y = true) : Op2 rNe x y H (Is (.bl (!decide (x = y)))) := op2_val fun H1 _ Q q => ⟨h, q⟩
theorem gv_ii {r : R2} {i j : Int} {w : V} (ha : Gv ta σ H (Is (.int i))) (hb : Gv tb σ H (Is (.int j))) (hr : ∀ H', Op2 r (.int i) (.int j) H' (Is w)) : Gv (tOp r ta tb) σ H (Is w) :=
  gv_op ha (Is.mono _) hb (Is.mono _) (fun x y H' _ hx hy => by cases hx; cases hy; exact hr H') (Is.mono _)

/-! ### statements: H0 what is known at the entry, H1 the heap then; what is known now: the view -/
variable {D : Ends} {tu tw : TS} {H0 H1 : Hp}
theorem st_asg {i : Nat} (h : Gv te σ (vis H0 H1 H) R) (k : ∀ v H2, Same H H2 → R v (vis (vis H0 H1 H) H H2) → D.nx (σ.set i (some v)) H2) : tAsg te (gName i) D σ H := h H (vis_le _ _ _) _ k
theorem st_ret (h : Gv te σ (vis H0 H1 H) R) (k : ∀ v H2, Same H H2 → R v (vis (vis H0 H1 H) H H2) → D.rt v H2) : tRet te D σ H := h H (vis_le _ _ _) _ k
theorem st_if {t : TT} {b : Bool} (h : GvT t σ (vis H0 H1 H) b) (k1 : b = true → ∀ H2, Same H H2 → tu D σ H2) (k2 : b = false → ∀ H2, Same H H2 → tw D σ H2) : tIfS t tu tw D σ H := h H (vis_le _ _ _) _ fun H2 e => by
  cases b with
  | true => exact k1 rfl H2 e
  | false => exact k2 rfl H2 e
end
end Ab

set_option Elab.async false
set_option linter.all false
set_option maxRecDepth 100000
set_option maxHeartbeats 2000000
/-! What is walked; comprehensions; rows of numbers, lists of rows. -/
namespace Ab
open PySem PySem.Spec PyProof.Rows L2

theorem vis_some {H H1 H2 : Hp} {b : Addr} {u : HO} (z : vis H H1 H2 b = some u) : ((H b).isSome = true ∨ (H1 b).isNone = true) ∧ H2 b = some u := by
  by_cases c : (H b).isSome = true ∨ (H1 b).isNone = true
  · rw [vis_at c] at z; exact ⟨c, z⟩
  · have : vis H H1 H2 b = none := if_neg c
    rw [this] at z; cases z
theorem vis_isSome {H H1 H2 : Hp} {b : Addr} (z : (vis H H1 H2 b).isSome = true) : ((H b).isSome = true ∨ (H1 b).isNone = true) ∧ (H2 b).isSome = true := by
  obtain ⟨u, hu⟩ := Option.isSome_iff_exists.mp z
  obtain ⟨c, d⟩ := vis_some hu
  exact ⟨c, some_of d⟩
theorem not_isNone {H : Hp} {b : Addr} {u : HO} (e : H b = some u) (h : (H b).isNone = true) : False := by rw [e] at h; cases h
theorem none_isSome {H : Hp} {b : Addr} (e : H b = none) (h : (H b).isSome = true) : False := by rw [e] at h; cases h
def mask (D : Addr) (H : Hp) : Hp := fun b => if b = D then none else H b
theorem mask_le (D : Addr) (H : Hp) : Same (mask D H) H := fun b o e => by
  unfold mask at e
  split at e
  · cases e
  · exact e
theorem mask_at {D : Addr} {H : Hp} {b : Addr} (h : b ≠ D) : mask D H b = H b := if_neg h

/-! ### values in lists and tuples -/
/-- a list (k = true) or tuple whose items are as told -/
def SeqR (k : Bool) (K : PySem.W.Frag) {α : Type} (RI : α → Rel) (as : List α) : Rel := fun v H => ∃ p ys, v = .ref p ∧ Sq k K H p ys ∧ Paired (fun a y => RI a y H) as ys
theorem Paired.imp {α β : Type} {F G : α → β → Prop} (h : ∀ a b, F a b → G a b) : ∀ {l : List α} {m : List β}, Paired F l m → Paired G l m
  | _, _, .nil => .nil
  | _, _, .cons r t => .cons (h _ _ r) (Paired.imp h t)
theorem Paired.at {α β : Type} {F : α → β → Prop} : ∀ {l : List α} {m : List β} {i : Nat} {y : β}, Paired F l m → m[i]? = some y → ∃ a, l[i]? = some a ∧ F a y
  | _, _, _, _, .nil, h => by simp at h
  | _, _, 0, y, .cons (a := a) r _, h => ⟨a, rfl, by cases h; exact r⟩
  | _, _, i + 1, y, .cons _ t, h => by simpa using Paired.at t (by simpa using h)
theorem Paired.at' {α β : Type} {F : α → β → Prop} : ∀ {l : List α} {m : List β} {i : Nat} {a : α}, Paired F l m → l[i]? = some a → ∃ y, m[i]? = some y ∧ F a y
  | _, _, _, _, .nil, h => by simp at h
  | _, _, 0, y, .cons (b := b) r _, h => ⟨b, rfl, by cases h; exact r⟩
  | _, _, i + 1, y, .cons _ t, h => by simpa using Paired.at' t (by simpa using h)
theorem Paired.app {α β : Type} {F : α → β → Prop} : ∀ {l l' : List α} {m m' : List β}, Paired F l m → Paired F l' m' → Paired F (l ++ l') (m ++ m')
  | _, _, _, _, .nil, h => h
  | _, _, _, _, .cons r t, h => .cons r (Paired.app t h)
theorem Paired.map_is {α : Type} {f : α → V} {H : Hp} : ∀ {l : List α} {m : List V}, Paired (fun a y => Is (f a) y H) l m → m = l.map f
  | _, _, .nil => rfl
  | _, _, .cons r t => by rw [List.map_cons, ← Paired.map_is t, show _ = f _ from r]
theorem Paired.of_map {α : Type} {f : α → V} {H : Hp} : ∀ (l : List α), Paired (fun a y => Is (f a) y H) l (l.map f)
  | [] => .nil
  | a :: l => .cons rfl (Paired.of_map l)
theorem SeqR.mono {k : Bool} {K : PySem.W.Frag} {α : Type} {RI : α → Rel} (mI : ∀ a, Mono (RI a)) (as : List α) : Mono (SeqR k K RI as) := by
  rintro v H H' e ⟨p, ys, rfl, h, q⟩
  exact ⟨p, ys, rfl, sq_same e h, Paired.imp (fun a y r => mI a y H H' e r) q⟩
/-- a row of whole numbers; of a list, of a tuple -/
def RowK (k : Bool) (K : PySem.W.Frag) (ns : List Int) : Rel := fun v H => ∃ p, v = .ref p ∧ Sq k K H p (ns.map V.int)
def Row (K : PySem.W.Frag) (ns : List Int) : Rel := fun v H => ∃ k, RowK k K ns v H
theorem RowK.mono {k : Bool} {K : PySem.W.Frag} (ns : List Int) : Mono (RowK k K ns) := by
  rintro v H H' e ⟨p, rfl, h⟩
  exact ⟨p, rfl, sq_same e h⟩
theorem Row.mono {K : PySem.W.Frag} (ns : List Int) : Mono (Row K ns) := fun v H H' e ⟨k, h⟩ => ⟨k, RowK.mono ns v H H' e h⟩
theorem RowK.seq {k : Bool} {K : PySem.W.Frag} {ns : List Int} {v : V} {H : Hp} (h : RowK k K ns v H) : SeqR k K (fun n : Int => Is (.int n)) ns v H := by
  obtain ⟨p, rfl, h⟩ := h
  exact ⟨p, _, rfl, h, Paired.of_map ns⟩
theorem RowK.of_seq {k : Bool} {K : PySem.W.Frag} {ns : List Int} {v : V} {H : Hp} (h : SeqR k K (fun n : Int => Is (.int n)) ns v H) : RowK k K ns v H := by
  obtain ⟨p, ys, rfl, h, q⟩ := h
  rw [Paired.map_is q] at h
  exact ⟨p, rfl, h⟩

/-! ### what is walked -/
/-- n items; of the i-th Y is said, over what is known and new -/
def Src (wi : TI) (σ : L2.St) (H : Hp) (n : Nat) (Y : Nat → Rel) : Prop := ∀ H1, Same H H1 → ∀ R : It → Hp → Prop,
  (∀ (J : It) (H2 : Hp), Same H1 H2 → (∃ (G : Hp → Prop) (YY : Nat → Hp → V → Hp → Prop), Walk J n G YY ∧ (∀ H3, Same (vis H H1 H2) H3 → G H3) ∧
      ∀ i H3 x H4, i < n → YY i H3 x H4 → Same H3 H4 ∧ (Same (vis H H1 H2) H3 → Y i x (vis (vis H H1 H2) H3 H4))) → R J H2) → wi σ H1 R
/-- a target's binding changes no heap -/
def Tg (g : TG) (σ : L2.St) (H : Hp) (x : V) (σ2 : L2.St) : Prop := ∀ H1, Same H H1 → ∀ Q : L2.St → Hp → Prop, Q σ2 H1 → g x σ H1 Q

section
variable {K : PySem.W.Frag} {σ : L2.St} {H : Hp}
theorem tg_name {i : Nat} {x : V} : Tg (gName i) σ H x (σ.set i (some x)) := fun H1 _ Q q => q
theorem tg_pair {i j : Nat} {T : Addr} {x y : V} (h : H T = some (.tup [x, y])) : Tg (gTup K 2 (gCons (gName i) (gCons (gName j) gNil))) σ H (.ref T) ((σ.set i (some x)).set j (some y)) := fun H1 e Q q =>
  ⟨T, [x, y], rfl, .inl (.inl (e _ _ h)), rfl, x, [y], rfl, y, [], rfl, rfl, q⟩

theorem src_seqL {α : Type} {RI : α → Rel} {as : List α} {tl : TE} (h : Gv tl σ H (SeqR true K RI as)) (mI : ∀ a, Mono (RI a)) : Src (iList K tl) σ H as.length (fun i x H' => ∃ a, as[i]? = some a ∧ RI a x H') := fun H1 e R q =>
  h H1 e _ fun v H2 e2 r => by
    obtain ⟨p, ys, rfl, hs, hp⟩ := r
    have hl : as.length = ys.length := Paired.length hp
    refine ⟨p, rfl, ⟨ys, sq_same (k := true) (vis_le _ _ _) hs⟩, q _ H2 e2 ⟨_, _, by rw [hl]; exact walk_list (xs := ys), fun H3 e3 => sq_same (k := true) e3 hs, fun i H3 x H4 hi y => ?_⟩⟩
    obtain ⟨rfl, hx⟩ := y
    refine ⟨Same.refl _, fun e3 => ?_⟩
    obtain ⟨a, ha, ra⟩ := Paired.at hp hx
    exact ⟨a, ha, mI a _ _ _ (vis_base e3) ra⟩
theorem src_seqT {α : Type} {RI : α → Rel} {as : List α} {tl : TE} (h : Gv tl σ H (SeqR false K RI as)) (mI : ∀ a, Mono (RI a)) : Src (iTup K tl) σ H as.length (fun i x H' => ∃ a, as[i]? = some a ∧ RI a x H') := fun H1 e R q =>
  h H1 e _ fun v H2 e2 r => by
    obtain ⟨p, ys, rfl, hs, hp⟩ := r
    have hl : as.length = ys.length := Paired.length hp
    refine ⟨p, rfl, ⟨ys, sq_same (k := false) (vis_le _ _ _) hs⟩, q _ H2 e2 ⟨_, _, by rw [hl]; exact walk_tup (xs := ys), fun H3 e3 => sq_same (k := false) e3 hs, fun i H3 x H4 hi y => ?_⟩⟩
    obtain ⟨rfl, hx⟩ := y
    refine ⟨Same.refl _, fun e3 => ?_⟩
    obtain ⟨a, ha, ra⟩ := Paired.at hp hx
    exact ⟨a, ha, mI a _ _ _ (vis_base e3) ra⟩
theorem src_r1 {ta : TA} {j : Int} (h : GvA ta σ H (fun vs _ => vs = [.int j])) (b : -(2 ^ 62) ≤ j ∧ j < 2 ^ 62) : Src (iRng1 ta) σ H j.toNat (fun i x _ => x = .int (i : Nat)) := fun H1 e R q =>
  h H1 e _ fun vs H2 e2 r => by
    subst r
    refine ⟨j, rfl, b.1, b.2, q _ H2 e2 ⟨_, _, walk_range (lo := 0) (n := j.toNat), fun _ _ => trivial, fun i H3 x H4 hi y => ?_⟩⟩
    obtain ⟨rfl, rfl⟩ := y
    exact ⟨Same.refl _, fun _ => by show V.int (0 + (i : Int)) = V.int (i : Int); rw [Int.zero_add]⟩
theorem src_r2 {ta : TA} {i0 j : Int} (h : GvA ta σ H (fun vs _ => vs = [.int i0, .int j])) (b : -(2 ^ 62) ≤ i0 ∧ i0 < 2 ^ 62 ∧ -(2 ^ 62) ≤ j ∧ j < 2 ^ 62) : Src (iRng2 ta) σ H (j - i0).toNat (fun i x _ => x = .int (i0 + (i : Nat))) := fun H1 e R q =>
  h H1 e _ fun vs H2 e2 r => by
    subst r
    refine ⟨i0, j, rfl, b, q _ H2 e2 ⟨_, _, walk_range (lo := i0) (n := (j - i0).toNat), fun _ _ => trivial, fun i H3 x H4 hi y => ?_⟩⟩
    obtain ⟨rfl, rfl⟩ := y
    exact ⟨Same.refl _, fun _ => rfl⟩
/-- what a pair of a zip, of an enumerate tells -/
def PairR (RA RB : Rel) : Rel := fun v H => ∃ T x y, v = .ref T ∧ H T = some (.tup [x, y]) ∧ RA x H ∧ RB y H
theorem ypair {xs ys : Nat → Option V} {i : Nat} {H3 : Hp} {v : V} {H4 : Hp} (y : YPair xs ys i H3 v H4) : Same H3 H4 ∧ ∃ T a b, v = .ref T ∧ xs i = some a ∧ ys i = some b ∧ ∀ H, vis H H3 H4 T = some (.tup [a, b]) := by
  obtain ⟨T, a, b, rfl, hT, rfl, h1, h2⟩ := y
  exact ⟨same_new hT, T, a, b, rfl, h1, h2, fun H => vis_new hT⟩
theorem src_z {α β : Type} {RA : α → Rel} {RB : β → Rel} {as : List α} {bs : List β} {ta : TA} (h : GvA ta σ H (fun vs H' => ∃ k1 k2 x y, vs = [x, y] ∧ SeqR k1 K RA as x H' ∧ SeqR k2 K RB bs y H')) (mA : ∀ a, Mono (RA a)) (mB : ∀ b, Mono (RB b)) :
    Src (iZz K ta) σ H (min as.length bs.length) (fun i x H' => ∃ a b, as[i]? = some a ∧ bs[i]? = some b ∧ PairR (RA a) (RB b) x H') := fun H1 e R q =>
  h H1 e _ fun vs H2 e2 r => by
    obtain ⟨k1, k2, x, y, rfl, ⟨p1, ys1, rfl, hs1, hp1⟩, ⟨p2, ys2, rfl, hs2, hp2⟩⟩ := r
    have hl1 : as.length = ys1.length := Paired.length hp1
    have hl2 : bs.length = ys2.length := Paired.length hp2
    refine ⟨k1, k2, p1, p2, ys1, ys2, rfl, sq_same (vis_le _ _ _) hs1, sq_same (vis_le _ _ _) hs2, q _ H2 e2 ⟨fun H => Sq k1 K H p1 ys1 ∧ Sq k2 K H p2 ys2, _, by rw [hl1, hl2]; exact walk_z (xs := ys1) (ys := ys2), fun H3 e3 => ⟨sq_same e3 hs1, sq_same e3 hs2⟩, fun i H3 x H4 hi y => ?_⟩⟩
    obtain ⟨e34, T, a', b', rfl, h1, h2, hv⟩ := ypair y
    refine ⟨e34, fun e3 => ?_⟩
    obtain ⟨a, ha, ra⟩ := Paired.at hp1 h1
    obtain ⟨b, hb, rb⟩ := Paired.at hp2 h2
    exact ⟨a, b, ha, hb, T, a', b', rfl, hv _, mA a _ _ _ (vis_base (Same.trans e3 e34)) ra, mB b _ _ _ (vis_base (Same.trans e3 e34)) rb⟩
theorem src_en {α : Type} {RA : α → Rel} {as : List α} {ta : TA} (h : GvA ta σ H (fun vs H' => ∃ k x, vs = [x] ∧ SeqR k K RA as x H')) (mA : ∀ a, Mono (RA a)) :
    Src (iEn K ta) σ H as.length (fun i x H' => ∃ a, as[i]? = some a ∧ PairR (Is (.int (i : Nat))) (RA a) x H') := fun H1 e R q =>
  h H1 e _ fun vs H2 e2 r => by
    obtain ⟨k1, x, rfl, ⟨p1, ys1, rfl, hs1, hp1⟩⟩ := r
    have hl1 : as.length = ys1.length := Paired.length hp1
    refine ⟨k1, p1, ys1, rfl, sq_same (vis_le _ _ _) hs1, q _ H2 e2 ⟨_, _, by rw [hl1]; exact walk_en (xs := ys1), fun H3 e3 => sq_same e3 hs1, fun i H3 x H4 hi y => ?_⟩⟩
    obtain ⟨e34, T, a', b', rfl, h1, h2, hv⟩ := ypair y
    refine ⟨e34, fun e3 => ?_⟩
    obtain ⟨a, ha, ra⟩ := Paired.at hp1 h2
    cases h1
    exact ⟨a, ha, ⟨T, _, b', rfl, hv _, rfl, mA a _ _ _ (vis_base (Same.trans e3 e34)) ra⟩⟩

/-! ### a comprehension -/
theorem gv_lc {α : Type} {wi : TI} {g : TG} {tt : TT} {te : TE} {vs : List Nat} {R : Rel} (items : List α) (t : α → Bool) (RE : α → Rel) (mE : ∀ a, Mono (RE a)) {Y : Nat → Rel} (hn : items.length < sizeLine) (hs : Src wi σ H items.length Y)
    (turn : ∀ i a x H', items[i]? = some a → Same H H' → Y i x H' → ∃ σ2, Tg g (wipe σ vs) H' x σ2 ∧ wipe σ2 vs = wipe σ vs ∧ GvT tt σ2 H' (t a) ∧ (t a = true → Gv te σ2 H' (RE a)))
    (hR : ∀ p ys H', Same H H' → H p = none → H' p = some (.lst ys) → Paired (fun a y => RE a y (mask p H')) (items.filter t) ys → R (.ref p) H') : Gv (tLc wi g tt te vs) σ H R := fun H1 e Q q => by
  refine hs H1 e _ fun J H2 e2 hw D hD => ?_
  obtain ⟨G, YY, w, hG, hY⟩ := hw
  have hV2 : Same (vis H H1 H2) H2 := vis_le _ _ _
  refine lc_it w (fun i H' => Same H2 H' ∧ ∃ ys, H' D = some (.lst ys) ∧ ys.length ≤ i ∧ Paired (fun a y => RE a y (mask D (vis H H1 H'))) ((items.take i).filter t) ys)
    ⟨same_new hD, [], upd_same, Nat.zero_le _, .nil⟩ (fun i H' _ p => hG H' (Same.trans hV2 p.1)) (fun i x H' H'' hi p y => ?_) (fun H' p => ?_)
  · obtain ⟨p1, ys, p2, p3, p4⟩ := p
    obtain ⟨e12, hYi⟩ := hY i H' x H'' hi y
    have hYi := hYi (Same.trans hV2 p1)
    have hia : items[i]? = some items[i] := List.getElem?_eq_getElem hi
    have base : Same H (vis (vis H H1 H2) H' H'') := fun b o z => vis_base (Same.trans (Same.trans hV2 p1) e12) b o (vis_base (Same.trans e e2) b o z)
    obtain ⟨σ2, tg, hwipe, ht, he⟩ := turn i items[i] x _ hia base hYi
    refine tg H'' (vis_le _ _ _) _ ⟨hwipe, ht H'' (vis_le _ _ _) _ fun H3 e3 => ?_⟩
    have eD : H3 D = some (.lst ys) := e3 _ _ (e12 _ _ p2)
    have tk : (items.take (i + 1)).filter t = (items.take i).filter t ++ (if t items[i] = true then [items[i]] else []) := by
      rw [List.take_add_one, hia, List.filter_append]
      congr 1
      show List.filter t [items[i]] = _
      by_cases z : t items[i] = true
      · rw [List.filter_cons_of_pos z, if_pos z]; rfl
      · rw [List.filter_cons_of_neg z, if_neg z]; rfl
    have old : ∀ H4, Same H3 H4 → ∀ o, Paired (fun a y => RE a y (mask D (vis H H1 (upd H4 D o)))) ((items.take i).filter t) ys := fun H4 e4 o => Paired.imp (fun a y r => mE a y _ _ (fun b u z => by
      by_cases hb : b = D
      · subst hb; unfold mask at z; rw [if_pos rfl] at z; cases z
      · rw [mask_at hb] at z ⊢
        obtain ⟨c, z⟩ := vis_some z
        rw [vis_at c, upd_ne hb]; exact e4 _ _ (e3 _ _ (e12 _ _ z))) r) p4
    by_cases ct : t items[i] = true
    · rw [ct, if_pos rfl]
      refine he ct H3 (Same.trans (vis_le _ _ _) e3) _ fun v H4 e4 r4 => ⟨ys, e4 _ _ eD, by omega, fun b o z => ?_, ys ++ [v], upd_same, by rw [List.length_append, List.length_singleton]; omega, ?_⟩
      · by_cases hb : b = D
        · subst hb; rw [hD] at z; cases z
        · rw [upd_ne hb]; exact e4 _ _ (e3 _ _ (e12 _ _ (p1 _ _ z)))
      · rw [tk, if_pos ct]
        refine Paired.app (old H4 e4 _) (.cons (mE _ _ _ _ (fun b u z => ?_) r4) .nil)
        -- what the item is seen by
        obtain ⟨c3, z4⟩ := vis_some z
        have hb : b ≠ D := fun hb => by
          subst hb
          rcases c3 with c | c
          · rcases (vis_isSome c).1 with c2 | c2
            · exact none_isSome hD (vis_isSome c2).2
            · exact not_isNone p2 c2
          · exact not_isNone eD c
        rw [mask_at hb]
        have cb : (H b).isSome = true ∨ (H1 b).isNone = true := by
          rcases c3 with c | c
          · rcases (vis_isSome c).1 with c2 | c2
            · exact (vis_isSome c2).1
            · exact .inr (none_back (Same.trans e2 p1) c2)
          · exact .inr (none_back (Same.trans e2 (Same.trans p1 (Same.trans e12 e3))) c)
        rw [vis_at cb, upd_ne hb]; exact z4
    · have cf : t items[i] = false := by simpa using ct
      rw [cf, if_neg Bool.false_ne_true]
      refine ⟨Same.trans p1 (Same.trans e12 e3), ys, eD, by omega, ?_⟩
      rw [tk, cf, if_neg Bool.false_ne_true, List.append_nil]
      refine Paired.imp (fun a y r => mE a y _ _ (fun b u z => ?_) r) p4
      by_cases hb : b = D
      · subst hb; unfold mask at z; rw [if_pos rfl] at z; cases z
      · rw [mask_at hb] at z ⊢
        exact vis_mono (Same.trans e12 e3) b u z
  · obtain ⟨p1, ys, p2, p3, p4⟩ := p
    refine q _ H' (Same.trans e2 p1) ?_
    rw [List.take_length] at p4
    refine hR D ys _ (vis_base (Same.trans e (Same.trans e2 p1))) (Option.isNone_iff_eq_none.mp (none_back (Same.trans e e2) (by rw [hD]; rfl))) ?_ p4
    rw [vis_at (.inr (none_back e2 (by rw [hD]; rfl)))]; exact p2
/-! ### a for -/
theorem for_src {wi : TI} {g : TG} {tb : TS} {D : Ends} {Hk H1 : Hp} {n : Nat} {Y : Nat → Rel} (hs : Src wi σ Hk n Y) (e : Same Hk H1) (Pv : Hp → Nat → L2.St → Hp → Prop)
    (h0 : ∀ H2, Same H1 H2 → Pv (vis Hk H1 H2) 0 σ H2) (hk : ∀ V2 i σ' H', Pv V2 i σ' H' → Same V2 H')
    (turn : ∀ V2 i x σ' H' H'', Same Hk V2 → i < n → Pv V2 i σ' H' → Same H' H'' → Y i x (vis V2 H' H'') → g x σ' H'' fun σ2 H2 => tb { D with nx := Pv V2 (i + 1), ct := Pv V2 (i + 1), bk := D.nx } σ2 H2)
    (done : ∀ V2 σ' H', Same Hk V2 → Pv V2 n σ' H' → D.nx σ' H') : tFor wi g tb D σ H1 := hs H1 e _ fun J H2 e2 ⟨G, YY, w, hG, hY⟩ =>
  for_it w (fun i σ' H' => Pv (vis Hk H1 H2) i σ' H') (h0 H2 e2) (fun i σ' H' _ p => hG H' (hk _ _ _ _ p)) (fun i x σ' H' H'' hi p y => by
    obtain ⟨e12, hYi⟩ := hY i H' x H'' hi y
    exact turn _ i x σ' H' H'' (vis_base (Same.trans e e2)) hi p e12 (hYi (hk _ _ _ _ p))) fun σ' H' p => done _ σ' H' (vis_base (Same.trans e e2)) p
end
theorem Paired.map_left {α β γ : Type} {F : γ → β → Prop} {g : α → γ} : ∀ {l : List α} {m : List β}, Paired (fun a y => F (g a) y) l m → Paired F (l.map g) m
  | _, _, .nil => .nil
  | _, _, .cons r t => .cons r (Paired.map_left t)
/-- what a part knows, and makes anew, is known or new to the whole -/
theorem vis_up {M Hk H H3 H4 : Hp} (e : Same H H3) (h : ∀ b, (M b).isSome = true → (Hk b).isSome = true ∨ (H b).isNone = true) : Same (vis M H3 H4) (vis Hk H H4) := fun b o z => by
  obtain ⟨c, z⟩ := vis_some z
  rw [vis_at (c.elim (h b) fun c => .inr (none_back e c))]; exact z
theorem vis_dom {Hk H H3 : Hp} {b : Addr} (z : (vis Hk H H3 b).isSome = true) : (Hk b).isSome = true ∨ (H b).isNone = true := (vis_isSome z).1
theorem mask_dom {D : Addr} {H : Hp} {b : Addr} (z : (mask D H b).isSome = true) : (H b).isSome = true := by
  obtain ⟨u, hu⟩ := Option.isSome_iff_exists.mp z
  exact some_of (mask_le _ _ _ _ hu)
theorem mask_self {D : Addr} {H : Hp} : mask D H D = none := if_pos rfl
theorem mask_upd {D : Addr} {H : Hp} {o : HO} : mask D (upd H D o) = mask D H := by
  funext b
  by_cases hb : b = D
  · subst hb; rw [mask_self, mask_self]
  · rw [mask_at hb, mask_at hb, upd_ne hb]
theorem vis_upd {Hk H H' : Hp} {l : Addr} {o : HO} : mask l (vis Hk H (upd H' l o)) = mask l (vis Hk H H') := by
  funext b
  by_cases hb : b = l
  · subst hb; rw [mask_self, mask_self]
  · rw [mask_at hb, mask_at hb]
    unfold vis
    rw [upd_ne hb]
/-! ### lists of one's own -/
theorem mask_mono {D : Addr} {H H' : Hp} (e : Same H H') : Same (mask D H) (mask D H') := fun b o z => by
  by_cases hb : b = D
  · subst hb; unfold mask at z; rw [if_pos rfl] at z; cases z
  · rw [mask_at hb] at z ⊢; exact e b o z
/-- a list that nobody else knows, its items elsewhere -/
def LstN {α : Type} (RI : α → Rel) (as : List α) : Rel := fun v H => ∃ p ys, v = .ref p ∧ H p = some (.lst ys) ∧ Paired (fun a y => RI a y (mask p H)) as ys
theorem LstN.mono {α : Type} {RI : α → Rel} (mI : ∀ a, Mono (RI a)) (as : List α) : Mono (LstN RI as) := by
  rintro v H H' e ⟨p, ys, rfl, h, q⟩
  exact ⟨p, ys, rfl, e _ _ h, Paired.imp (fun a y r => mI a y _ _ (mask_mono e) r) q⟩
theorem LstN.seq {K : PySem.W.Frag} {α : Type} {RI : α → Rel} (mI : ∀ a, Mono (RI a)) {as : List α} {v : V} {H : Hp} (h : LstN RI as v H) : SeqR true K RI as v H := by
  obtain ⟨p, ys, rfl, h, q⟩ := h
  exact ⟨p, ys, rfl, .inl (.inl h), Paired.imp (fun a y r => mI a y _ _ (mask_le _ _) r) q⟩
end Ab

set_option Elab.async false
set_option linter.all false
set_option maxRecDepth 100000
set_option maxHeartbeats 2000000
/-! The program: which row holds which def. -/
namespace Ab
open PySem PySem.Spec PyProof.Rows L2
def prg : Program := PySem.Challenge.pw_alikebodies_s07_dual
def topS (i : Nat) : Stmt := PySem.Challenge.pw_alikebodies_s07_dual.main.body.getD i (.Pass ⟨0, 0, 0, 0⟩)
abbrev sTog : Stmt := topS 2
abbrev sDir : Stmt := topS 3
abbrev sFnz : Stmt := topS 4
abbrev sClr : Stmt := topS 5
abbrev sHmf : Stmt := topS 6
abbrev sDims : Stmt := topS 7
abbrev sDet : Stmt := topS 8
abbrev sCrs : Stmt := topS 9
abbrev sCd : Stmt := topS 10
def sCm : Stmt := topS 11
def sPlt : Stmt := topS 13
def sDep : Stmt := topS 14
def sWi : Stmt := topS 15
def sCod : Stmt := topS 16
def sSod : Stmt := topS 17
def sFrt : Stmt := topS 18
def sSides : Stmt := topS 21
def sRc : Stmt := topS 22
def sSide : Stmt := topS 23
def sOb : Stmt := topS 24
def sNo : Stmt := topS 25
def sCor : Stmt := topS 26
def sDual : Stmt := topS 28
def sRef : Stmt := topS 29
def sPt : Stmt := topS 30
def sIpl : Stmt := topS 31
def sInit : Stmt := inClass (topS 20) 0
end Ab

set_option Elab.async false
set_option linter.all false
set_option maxRecDepth 100000
set_option maxHeartbeats 2000000
/-! The program's text; directions. -/
namespace Ab
open PySem PySem.Spec PyProof.Rows L2

theorem scTog : FnScope ["numbers", "point", "a", "x"] ["numbers", "point"] (defScope sTog) := ⟨rfl, rfl, rfl, by decide +kernel, rfl, by decide +kernel, by decide +kernel⟩
theorem scDir : FnScope ["start", "end", "x", "y"] ["start", "end"] (defScope sDir) := ⟨rfl, rfl, rfl, by decide +kernel, rfl, by decide +kernel, by decide +kernel⟩
theorem scFnz : FnScope ["numbers", "place", "number"] ["numbers"] (defScope sFnz) := ⟨rfl, rfl, rfl, by decide +kernel, rfl, by decide +kernel, by decide +kernel⟩
theorem scClr : FnScope ["row", "lead", "place", "x", "y"] ["row", "lead", "place"] (defScope sClr) := ⟨rfl, rfl, rfl, by decide +kernel, rfl, by decide +kernel, by decide +kernel⟩

/-! ### promises -/
/-- what a def promises: where pre stands of what is known, it gives what R says -/
def spG {α : Type} (pre : α → List V → Hp → Prop) (R : α → Rel) : Sp := fun vs H Q _ => ∃ (Hk : Hp) (g : α), Same Hk H ∧ pre g vs Hk ∧ ∀ v H2, Same H H2 → R g v (vis Hk H H2) → Q v H2
theorem ops_of {α : Type} {pre : α → List V → Hp → Prop} {R : α → Rel} {vs : List V} {H : Hp} (g : α) (h : pre g vs H) : OpS (spG pre R) vs H (R g) := fun H1 e Q q E => ⟨H, g, e, h, q⟩
theorem gvt_yes {σ : L2.St} {H : Hp} : GvT tYes σ H true := fun H1 e Q q => q H1 (Same.refl H1)
theorem pairs_zip {α β : Type} {l : List α} {m : List β} {i : Nat} {a : α} {b : β} {p : α × β} (h : (l.zip m)[i]? = some p) (ha : l[i]? = some a) (hb : m[i]? = some b) : p = (a, b) := by
  have := List.getElem?_zip_eq_some (z := (a, b)) |>.mpr ⟨ha, hb⟩
  rw [this] at h
  exact (Option.some.inj h).symm
theorem row_lst {K : PySem.W.Frag} {α : Type} {f : α → Int} {items : List α} {p : Addr} {ys : List V} {H : Hp} (h : H p = some (.lst ys)) (q : Paired (fun a y => Is (.int (f a)) y H) items ys) : RowK true K (items.map f) (.ref p) H := by
  refine ⟨p, rfl, .inl (.inl ?_)⟩
  rw [h, Paired.map_is (f := fun a => V.int (f a)) q, List.map_map]; rfl
theorem filter_true {α : Type} (l : List α) : l.filter (fun _ => true) = l := List.filter_eq_self.mpr fun _ _ => rfl
abbrev IsI : Int → Rel := fun n => Is (.int n)
theorem src_zip {K : PySem.W.Frag} {σ : L2.St} {H : Hp} {α β : Type} {RA : α → Rel} {RB : β → Rel} {as : List α} {bs : List β} {ta : TA} (h : GvA ta σ H (fun vs H' => ∃ k1 k2 x y, vs = [x, y] ∧ SeqR k1 K RA as x H' ∧ SeqR k2 K RB bs y H')) (mA : ∀ a, Mono (RA a)) (mB : ∀ b, Mono (RB b)) :
    Src (iZz K ta) σ H (as.zip bs).length (fun i x H' => ∃ a b, as[i]? = some a ∧ bs[i]? = some b ∧ PairR (RA a) (RB b) x H') := by
  rw [List.length_zip]; exact src_z h mA mB
theorem gva_rows {K : PySem.W.Frag} {σ : L2.St} {H : Hp} {ta tb : TE} {ns ms : List Int} (ha : Gv ta σ H (Row K ns)) (hb : Gv tb σ H (Row K ms)) :
    GvA (tCons ta (tCons tb tNil)) σ H (fun vs H' => ∃ k1 k2 x y, vs = [x, y] ∧ SeqR k1 K IsI ns x H' ∧ SeqR k2 K IsI ms y H') := fun H1 e Q q =>
  gva_2 ha (Row.mono _) hb (Row.mono _) H1 e Q fun vs H2 e2 ⟨x, y, h1, ⟨k1, h2⟩, ⟨k2, h3⟩⟩ => q vs H2 e2 ⟨k1, k2, x, y, h1, h2.seq, h3.seq⟩
/-- small enough for any arithmetic here -/
def Sm (n : Nat) (x : Int) : Prop := x.natAbs < 2 ^ n
theorem sm_mul {a b : Nat} {x y : Int} (hx : Sm a x) (hy : Sm b y) (h0 : 0 < a) (h1 : 0 < b) (h : a + b ≤ 100000) : CMulW x y := wide_mul hx hy h0 h1 (by omega)

section
variable {P : Program} {w : World} {K : PySem.W.Frag} {mg : Str → Option Value} {base : Heap}
/-! ### together -/
def spTog (K : PySem.W.Frag) : Sp := spG (fun (g : List Int × List Int) vs H => ∃ x y, vs = [x, y] ∧ Row K g.1 x H ∧ Row K g.2 y H ∧ g.1.length = g.2.length ∧ g.1.length < 1000 ∧ (∀ z, z ∈ g.1 → Sm 1000 z) ∧ ∀ z, z ∈ g.2 → Sm 1000 z) fun g => Is (.int (AB.tog g.1 g.2))
theorem ok_tog {f : Addr} {fd : FuncData} {k : Nat} (F : Fun K "together" "together" sTog f fd) (mz : mg "zip" = none) (ms : mg "sum" = none) : FnOk P w K mg base CX0 (k + 1) f fd ["numbers", "point"] (spTog K) := by
  refine F.ok scTog (fun vs H Q E h => ?_) (fun cdv A outer s H vs Q E hr h => ?_)
  · obtain ⟨_, _, _, ⟨x, y, rfl, _⟩, _⟩ := h; rfl
  · obtain ⟨Hk, ⟨ns, m⟩, e, ⟨x, y, rfl, rx, ry, hl, hz, b1, b2⟩, q⟩ := h
    refine ⟨_, pss_one (ps_ret (pe_callB (cr_sum rfl) (by rfl) ms (by decide +kernel) (pa_cons
      (pe_lc (own := [("a", 2), ("x", 3)]) (g := gTup K 2 (gCons (gName 2) (gCons (gName 3) gNil))) (tt := tYes) rfl scTog.nd (pi_z (by rfl) mz (pa_cons (pv 0) (pa_cons (pv 1) pa_nil))) (blkOk_by (own := [("a", 2), ("x", 3)]) (N := ["numbers", "point", "a", "x"]) (sc := defScope sTog) (by decide +kernel))
        (fun _ _ _ _ _ => pg_tup rfl (pgs_cons (pg_name (i := 2) scTog.nd rfl (Or.inl rfl) (Or.inr rfl)) (pgs_cons (pg_name (i := 3) scTog.nd rfl (Or.inl rfl) (Or.inr rfl)) pgs_nil)))
        (fun _ _ _ _ _ => pts_nil) (fun _ _ _ _ _ => pe_op op_mulW (pv 2) (pv 3))) pa_nil))), ?_⟩
    refine gv_c1 (RA := RowK true K ((ns.zip m).map fun p => p.1 * p.2)) (R := Is (.int (AB.tog ns m))) ?_ (fun v H' _ hv => ?_) (Is.mono _) H e Q q
    · refine gv_lc (ns.zip m) (fun _ => true) (fun p => Is (.int (p.1 * p.2))) (fun _ => Is.mono _) (by rw [List.length_zip]; exact Nat.lt_of_le_of_lt (Nat.min_le_left _ _) (Nat.lt_trans hz (by decide)))
        (src_zip (RA := IsI) (RB := IsI) (gva_rows (gv_var rfl (Row.mono _) rx) (gv_var rfl (Row.mono _) ry)) (fun _ => Is.mono _) (fun _ => Is.mono _)) (fun i p x H' hp e' y => ?_) (fun p ys H' e' _ hp hq => ?_)
      · obtain ⟨a, b, ha, hb, T, x1, y1, rfl, hT, h1, h2⟩ := y
        cases h1
        cases h2
        rw [pairs_zip hp ha hb]
        refine ⟨_, tg_pair hT, rfl, gvt_yes, fun _ => gv_ii (gv_v rfl) (gv_v rfl) fun H'' => iC ?_⟩
        exact sm_mul (b1 a (List.mem_of_getElem? ha)) (b2 b (List.mem_of_getElem? hb)) (by decide) (by decide) (by decide)
      · rw [filter_true] at hq
        exact row_lst hp hq
    · obtain ⟨p, rfl, hp⟩ := hv
      exact opC_val fun H1 e1 Q1 q1 => ⟨p, _, rfl, sq_same (k := true) e1 hp, q1⟩

/-! ### direction -/
def spDir (K : PySem.W.Frag) : Sp := spG (fun (g : List Int × List Int) vs H => ∃ x y, vs = [x, y] ∧ Row K g.1 x H ∧ Row K g.2 y H ∧ g.1.length < 1000) fun g => RowK true K (AB.dirn g.1 g.2)
theorem ok_dir {f : Addr} {fd : FuncData} {k : Nat} (F : Fun K "direction" "direction" sDir f fd) (mz : mg "zip" = none) : FnOk P w K mg base CX0 (k + 1) f fd ["start", "end"] (spDir K) := by
  refine F.ok scDir (fun vs H Q E h => ?_) (fun cdv A outer s H vs Q E hr h => ?_)
  · obtain ⟨_, _, _, ⟨x, y, rfl, _⟩, _⟩ := h; rfl
  · obtain ⟨Hk, ⟨ns, m⟩, e, ⟨x, y, rfl, rx, ry, hz⟩, q⟩ := h
    refine ⟨_, pss_one (ps_ret (pe_lc (own := [("x", 2), ("y", 3)]) (g := gTup K 2 (gCons (gName 2) (gCons (gName 3) gNil))) (tt := tYes) rfl scDir.nd (pi_z (by rfl) mz (pa_cons (pv 0) (pa_cons (pv 1) pa_nil))) (blkOk_by (own := [("x", 2), ("y", 3)]) (N := ["start", "end", "x", "y"]) (sc := defScope sDir) (by decide +kernel))
        (fun _ _ _ _ _ => pg_tup rfl (pgs_cons (pg_name (i := 2) scDir.nd rfl (Or.inl rfl) (Or.inr rfl)) (pgs_cons (pg_name (i := 3) scDir.nd rfl (Or.inl rfl) (Or.inr rfl)) pgs_nil)))
        (fun _ _ _ _ _ => pts_nil) (fun _ _ _ _ _ => pe_op op_sub (pv 3) (pv 2)))), ?_⟩
    refine gv_lc (R := RowK true K (AB.dirn ns m)) (ns.zip m) (fun _ => true) (fun p => Is (.int (p.2 - p.1))) (fun _ => Is.mono _) (by rw [List.length_zip]; exact Nat.lt_of_le_of_lt (Nat.min_le_left _ _) (Nat.lt_trans hz (by decide)))
        (src_zip (RA := IsI) (RB := IsI) (gva_rows (gv_var rfl (Row.mono _) rx) (gv_var rfl (Row.mono _) ry)) (fun _ => Is.mono _) (fun _ => Is.mono _)) (fun i p x H' hp e' y => ?_) (fun p ys H' e' _ hp hq => ?_) H e Q q
    · obtain ⟨a, b, ha, hb, T, x1, y1, rfl, hT, h1, h2⟩ := y
      cases h1
      cases h2
      rw [pairs_zip hp ha hb]
      exact ⟨_, tg_pair hT, rfl, gvt_yes, fun _ => gv_ii (gv_v rfl) (gv_v rfl) fun H'' => i0⟩
    · rw [filter_true] at hq
      exact row_lst hp hq
end
end Ab

set_option Elab.async false
set_option linter.all false
set_option maxRecDepth 100000
set_option maxHeartbeats 2000000
namespace Ab
open PySem PySem.Spec PyProof.Rows L2
section
variable {P : Program} {w : World} {K : PySem.W.Frag} {mg : Str → Option Value} {base : Heap}
/-! ### first_not_zero -/
def fnzV (o : Option Nat) : Int := match o with
  | none => -1
  | some j => (j : Int)
theorem fnz_here {ns : List Int} {i : Nat} {z : Int} (h : ∀ j, j < i → ns[j]? = some 0) (hi : ns[i]? = some z) (nz : z ≠ 0) : AB.fnz ns = some i := by
  unfold AB.fnz
  rw [List.findIdx?_eq_some_iff_getElem]
  obtain ⟨h1, h2⟩ := List.getElem?_eq_some_iff.mp hi
  refine ⟨h1, by rw [h2]; exact decide_eq_true nz, fun j hj => ?_⟩
  obtain ⟨h3, h4⟩ := List.getElem?_eq_some_iff.mp (h j hj)
  rw [h4]; simp
theorem fnz_none {ns : List Int} (h : ∀ j, j < ns.length → ns[j]? = some 0) : AB.fnz ns = none := by
  unfold AB.fnz
  rw [List.findIdx?_eq_none_iff]
  intro x hx
  obtain ⟨j, hj, rfl⟩ := List.mem_iff_getElem.mp hx
  obtain ⟨h3, h4⟩ := List.getElem?_eq_some_iff.mp (h j hj)
  rw [h4]; simp
def spFnz (K : PySem.W.Frag) : Sp := spG (fun (g : List Int) vs H => ∃ x, vs = [x] ∧ Row K g x H) fun g => Is (.int (fnzV (AB.fnz g)))
theorem ok_fnz {f : Addr} {fd : FuncData} {k : Nat} (F : Fun K "first_not_zero" "first_not_zero" sFnz f fd) (me : mg "enumerate" = none) : FnOk P w K mg base CX0 (k + 1) f fd ["numbers"] (spFnz K) := by
  refine F.ok scFnz (fun vs H Q E h => ?_) (fun cdv A outer s H vs Q E hr h => ?_)
  · obtain ⟨_, _, _, ⟨x, rfl, _⟩, _⟩ := h; rfl
  · obtain ⟨Hk, ns, e, ⟨x, rfl, rx⟩, q⟩ := h
    refine ⟨_, pss_cons (ps_for PassesOwn.never rfl (pi_en (by rfl) me (pa_cons (pv 0) pa_nil))
        (pg_tup rfl (pgs_cons (pg_name (i := 1) scFnz.nd rfl (Or.inl rfl)) (pgs_cons (pg_name (i := 2) scFnz.nd rfl (Or.inl rfl)) pgs_nil)))
        (pss_one (ps_if (pt_cmpR op_ne (pv 2) pe_int (nomark _)) (pss_one (ps_ret (pv 1))) pss_nil)))
      (pss_one (ps_ret (pe_un un_neg pe_int))), ?_⟩
    refine for_src (src_en (RA := IsI) (as := ns) (fun H1 e1 Q1 q1 => gva_1 (gv_var rfl (Row.mono _) rx) H1 e1 Q1 fun vs H2 e2 ⟨x, h1, ⟨k1, h2⟩⟩ => q1 vs H2 e2 ⟨k1, x, h1, h2.seq⟩) fun _ => Is.mono _) e
      (fun V2 i σ' H' => (∃ y1 y2, σ' = [some x, y1, y2]) ∧ Same H H' ∧ Same V2 H' ∧ ∀ j, j < i → ns[j]? = some 0) (fun H2 e2 => ⟨⟨_, _, rfl⟩, e2, vis_le _ _ _, fun j hj => by omega⟩) (fun V2 i σ' H' p => p.2.2.1)
      (fun V2 i x' σ' H' H'' eV hi p e12 y => ?_) (fun V2 σ' H' eV p => ?_)
    · obtain ⟨⟨y1, y2, rfl⟩, p1, p2, p3⟩ := p
      obtain ⟨z, hz, T, a, b, rfl, hT, ha, hb⟩ := y
      cases ha
      cases hb
      refine tg_pair hT H'' (vis_le _ _ _) _ ?_
      refine gvt_test (b := !decide (V.int z = V.int 0)) (gv_ii (gv_v rfl) gv_c fun _ => oNe rfl) H'' (Same.refl _) _ fun H3 e3 => ?_
      by_cases hz0 : z = 0
      · subst hz0
        refine iteNS rfl ⟨⟨_, _, rfl⟩, Same.trans p1 (Same.trans e12 e3), Same.trans p2 (Same.trans e12 e3), fun j hj => ?_⟩
        by_cases hji : j = i
        · rw [hji]; exact hz
        · exact p3 j (by omega)
      · have hd : (!decide (V.int z = V.int 0)) = true := by
          rw [decide_eq_false (fun h => hz0 (V.int.inj h))]; rfl
        rw [hd]
        refine iteT ⟨_, rfl, q _ _ (Same.trans p1 (Same.trans e12 e3)) ?_⟩
        show V.int ((i : Nat) : Int) = V.int (fnzV (AB.fnz ns))
        rw [fnz_here p3 hz hz0]; rfl
    · obtain ⟨⟨y1, y2, rfl⟩, p1, p2, p3⟩ := p
      refine ⟨1, rfl, q _ _ p1 ?_⟩
      show V.int (-1) = V.int (fnzV (AB.fnz ns))
      rw [fnz_none p3]; rfl

/-! ### cleared -/
theorem row_ix {K : PySem.W.Frag} {ns : List Int} {j : Nat} (hj : j < ns.length) {v : V} {H : Hp} (h : Row K ns v H) : Op2 (rIx K) v (.int (j : Int)) H (Is (.int (ns.getD j 0))) := by
  obtain ⟨k, p, rfl, h⟩ := h
  have hg : (ns.map V.int)[j]? = some (V.int (ns.getD j 0)) := by
    rw [List.getElem?_map, List.getD_eq_getElem?_getD, List.getElem?_eq_getElem hj]; rfl
  refine op2_val fun H1 e Q q => ?_
  cases k
  · exact .inr (.inl ⟨p, _, _, _, rfl, rfl, sq_same (k := false) e h, atI_nat hg, q⟩)
  · exact .inl ⟨p, _, _, _, rfl, rfl, sq_same (k := true) e h, atI_nat hg, q⟩
theorem getD_in {ns : List Int} {j : Nat} (hj : j < ns.length) : ns.getD j 0 ∈ ns := AB.getD_mem hj 0
def spClr (K : PySem.W.Frag) : Sp := spG (fun (g : List Int × List Int × Nat) vs H => ∃ x y, vs = [x, y, .int (g.2.2 : Int)] ∧ Row K g.1 x H ∧ Row K g.2.1 y H ∧ g.1.length = g.2.1.length ∧ g.2.2 < g.1.length ∧ g.1.length < 1000 ∧ (∀ z, z ∈ g.1 → Sm 1000 z) ∧ ∀ z, z ∈ g.2.1 → Sm 1000 z) fun g => LstN IsI (AB.clr g.2.1 g.2.2 g.1)
theorem LstN.row {K : PySem.W.Frag} {ns : List Int} {v : V} {H : Hp} (h : LstN IsI ns v H) : RowK true K ns v H := .of_seq (h.seq fun _ => Is.mono _)
theorem lst_map {α : Type} {f : α → Int} {items : List α} {p : Addr} {ys : List V} {H : Hp} (h : H p = some (.lst ys)) (q : Paired (fun a y => Is (.int (f a)) y (mask p H)) items ys) : LstN IsI (items.map f) (.ref p) H := by
  refine ⟨p, ys, rfl, h, ?_⟩
  rw [Paired.map_is (f := fun a => V.int (f a)) q]
  have : ∀ l : List α, Paired (fun (a : Int) y => IsI a y (mask p H)) (l.map f) (l.map fun a => V.int (f a)) := by
    intro l
    induction l with
    | nil => exact .nil
    | cons a l ih => exact .cons rfl ih
  exact this items
theorem ok_clr {f : Addr} {fd : FuncData} {k : Nat} (F : Fun K "cleared" "cleared" sClr f fd) (mz : mg "zip" = none) : FnOk P w K mg base CX0 (k + 1) f fd ["row", "lead", "place"] (spClr K) := by
  refine F.ok scClr (fun vs H Q E h => ?_) (fun cdv A outer s H vs Q E hr h => ?_)
  · obtain ⟨_, _, _, ⟨x, y, rfl, _⟩, _⟩ := h; rfl
  · obtain ⟨Hk, ⟨ns, m, j⟩, e, ⟨x, y, rfl, rx, ry, hl, hj, hz, b1, b2⟩, q⟩ := h
    refine ⟨_, pss_one (ps_ret (pe_lc (own := [("x", 3), ("y", 4)]) (g := gTup K 2 (gCons (gName 3) (gCons (gName 4) gNil))) (tt := tYes) rfl scClr.nd (pi_z (by rfl) mz (pa_cons (pv 0) (pa_cons (pv 1) pa_nil)))
        (blkOk_by (own := [("x", 3), ("y", 4)]) (N := ["row", "lead", "place", "x", "y"]) (sc := defScope sClr) (by decide +kernel))
        (fun _ _ _ _ _ => pg_tup rfl (pgs_cons (pg_name (i := 3) scClr.nd rfl (Or.inl rfl) (Or.inr rfl)) (pgs_cons (pg_name (i := 4) scClr.nd rfl (Or.inl rfl) (Or.inr rfl)) pgs_nil)))
        (fun _ _ _ _ _ => pts_nil) (te := tOp (rI0 fun i j => .int (i - j)) (tOp (rI CMulW fun i j => .int (i * j)) (tVar 3) (tOp (rIx K) (tVar 1) (tVar 2))) (tOp (rI CMulW fun i j => .int (i * j)) (tVar 4) (tOp (rIx K) (tVar 0) (tVar 2))))
        (fun _ _ _ _ _ => pe_op op_sub (pe_op op_mulW (pv 3) (pe_ix ix_seq (pv 1) (pv 2) (fun _ _ => rfl))) (pe_op op_mulW (pv 4) (pe_ix ix_seq (pv 0) (pv 2) (fun _ _ => rfl)))))), ?_⟩
    refine gv_lc (R := LstN IsI (AB.clr m j ns)) (ns.zip m) (fun _ => true) (fun p => Is (.int (p.1 * m.getD j 0 - p.2 * ns.getD j 0))) (fun _ => Is.mono _) (by rw [List.length_zip]; exact Nat.lt_of_le_of_lt (Nat.min_le_left _ _) (Nat.lt_trans hz (by decide)))
        (src_zip (RA := IsI) (RB := IsI) (gva_rows (gv_var rfl (Row.mono _) rx) (gv_var rfl (Row.mono _) ry)) (fun _ => Is.mono _) (fun _ => Is.mono _)) (fun i p x H' hp e' y => ?_) (fun p ys H' e' _ hp hq => ?_) H e Q q
    · obtain ⟨a, b, ha, hb, T, x1, y1, rfl, hT, h1, h2⟩ := y
      cases h1
      cases h2
      rw [pairs_zip hp ha hb]
      have hj' : j < m.length := by rw [← hl]; exact hj
      refine ⟨_, tg_pair hT, rfl, gvt_yes, fun _ => gv_ii (gv_ii (gv_v rfl) (gv_op (gv_var rfl (Row.mono _) (Row.mono _ _ _ _ e' ry)) (Row.mono _) (gv_v rfl) (Is.mono _) (fun u v H'' _ hu hv => by cases hv; exact row_ix hj' hu) (Is.mono _)) fun H'' => iC ?_)
        (gv_ii (gv_v rfl) (gv_op (gv_var rfl (Row.mono _) (Row.mono _ _ _ _ e' rx)) (Row.mono _) (gv_v rfl) (Is.mono _) (fun u v H'' _ hu hv => by cases hv; exact row_ix hj hu) (Is.mono _)) fun H'' => iC ?_) fun H'' => i0⟩
      · exact sm_mul (b1 a (List.mem_of_getElem? ha)) (b2 _ (getD_in hj')) (by decide) (by decide) (by decide)
      · exact sm_mul (b2 b (List.mem_of_getElem? hb)) (b1 _ (getD_in hj)) (by decide) (by decide) (by decide)
    · rw [filter_true] at hq
      exact lst_map hp hq
end
end Ab

set_option Elab.async false
set_option linter.all false
set_option maxRecDepth 100000
set_option maxHeartbeats 2000000
namespace Ab
open PySem PySem.Spec PyProof.Rows L2
theorem scHmf : FnScope ["directions", "left", "free", "lead", "place", "row"] ["directions"] (defScope sHmf) := ⟨rfl, rfl, rfl, by decide +kernel, rfl, by decide +kernel, by decide +kernel⟩
theorem scDims : FnScope ["points", "point"] ["points"] (defScope sDims) := ⟨rfl, rfl, rfl, by decide +kernel, rfl, by decide +kernel, by decide +kernel⟩
/-- a list of rows -/
abbrev Rows (K : PySem.W.Frag) (rs : List (List Int)) : Rel := SeqR true K (Row K) rs
theorem Rows.mono {K : PySem.W.Frag} (rs : List (List Int)) : Mono (Rows K rs) := SeqR.mono (fun _ => Row.mono _) rs
/-- how great the numbers may have grown -/
def bt : Nat → Nat
  | 0 => 40
  | j + 1 => 2 * bt j + 1
theorem bt_le {j : Nat} (h : j ≤ 4) : bt j ≤ 655 ∧ 0 < bt j := by
  match j, h with
  | 0, _ => decide
  | 1, _ => decide
  | 2, _ => decide
  | 3, _ => decide
  | 4, _ => decide
theorem Sm.up {a b : Nat} {x : Int} (h : Sm a x) (q : a ≤ b) : Sm b x := Nat.lt_of_lt_of_le h (Nat.pow_le_pow_right (by decide) q)
theorem sm_two {a : Nat} {x y z u : Int} (h1 : Sm a x) (h2 : Sm a y) (h3 : Sm a z) (h4 : Sm a u) : Sm (2 * a + 1) (x * y - z * u) := by
  have m : ∀ {p q : Int}, Sm a p → Sm a q → (p * q).natAbs < 2 ^ (2 * a) := fun {p q} hp hq => by
    have := wide_lt hp hq
    rwa [show a + a = 2 * a by omega] at this
  have e1 := m h1 h2
  have e2 := m h3 h4
  have e3 : (2 : Nat) ^ (2 * a + 1) = 2 ^ (2 * a) + 2 ^ (2 * a) := by rw [Nat.pow_succ]; omega
  unfold Sm
  rw [e3]
  omega
theorem clr_sm {n a j : Nat} {lead row : List Int} (h1 : ∀ z, z ∈ lead → Sm a z) (h2 : ∀ z, z ∈ row → Sm a z) (hj : j < n) (l1 : lead.length = n) (l2 : row.length = n) : ∀ z, z ∈ AB.clr lead j row → Sm (2 * a + 1) z := by
  intro z hz
  unfold AB.clr at hz
  obtain ⟨p, hp, rfl⟩ := List.mem_map.mp hz
  obtain ⟨x, y⟩ := p
  have := List.of_mem_zip hp
  exact sm_two (h2 _ this.1) (h1 _ (getD_in (by omega))) (h1 _ this.2) (h2 _ (getD_in (by omega)))

section
variable {P : Program} {w : World} {K : PySem.W.Frag} {mg : Str → Option Value} {base : Heap}
def spHmf (K : PySem.W.Frag) : Sp := spG (fun (g : Nat × List (List Int)) vs H => ∃ x, vs = [x] ∧ Rows K g.2 x H ∧ g.1 ≤ 4 ∧ g.2.length < 20000 ∧ ∀ r, r ∈ g.2 → r.length = g.1 ∧ ∀ z, z ∈ r → Sm 40 z) fun g => Is (.int (AB.hmf g.2.length g.2 : Int))
/-- between two turns: l the list that is left -/
def HmfW (K : PySem.W.Frag) (Hk H : Hp) (n T : Nat) (dirs : V) (m : Nat) (σ : L2.St) (H' : Hp) : Prop := ∃ (l : Addr) (rows : List (List Int)) (fr : Nat) (y3 y4 y5 : Option V) (ys : List V), σ = [some dirs, some (.ref l), some (.int (fr : Int)), y3, y4, y5] ∧ H l = none ∧ Same H H' ∧ H' l = some (.lst ys) ∧
  Paired (fun a y => Row K a y (mask l (vis Hk H H'))) rows ys ∧ rows.length = m ∧ m < 20000 ∧ (∀ r, r ∈ rows → r.length = n ∧ ∀ z, z ∈ r → Sm (bt fr) z) ∧ AB.hmf m rows + fr = T
theorem asg_of {te : TE} {i : Nat} {D : Ends} {σ : L2.St} {H : Hp} (h : te σ H fun x H1 => D.nx (σ.set i (some x)) H1) : tAsg te (gName i) D σ H := h
theorem paired_last {α β : Type} {F : α → β → Prop} : ∀ {l : List α} {m : List β}, Paired F l m → l ≠ [] → ∃ a b, l.getLast? = some a ∧ m[m.length - 1]? = some b ∧ F a b ∧ Paired F l.dropLast m.dropLast := by
  intro l m h ne
  have hl := Paired.length h
  obtain ⟨l', a, rfl⟩ : ∃ l' a, l = l' ++ [a] := ⟨l.dropLast, l.getLast ne, (List.dropLast_concat_getLast ne).symm⟩
  have mne : m ≠ [] := by intro e; rw [e] at hl; simp at hl
  obtain ⟨m', b, rfl⟩ : ∃ m' b, m = m' ++ [b] := ⟨m.dropLast, m.getLast mne, (List.dropLast_concat_getLast mne).symm⟩
  have hl' : l'.length = m'.length := by simpa using hl
  have sp : ∀ {l' : List α} {m' : List β}, l'.length = m'.length → Paired F (l' ++ [a]) (m' ++ [b]) → Paired F l' m' ∧ F a b := by
    intro l'
    induction l' with
    | nil =>
      intro m' e h
      cases m' with
      | nil => cases h with | cons r t => exact ⟨.nil, r⟩
      | cons _ _ => simp at e
    | cons x l' ih =>
      intro m' e h
      cases m' with
      | nil => simp at e
      | cons y m' =>
        cases h with
        | cons r t =>
          obtain ⟨h1, h2⟩ := ih (by simpa using e) t
          exact ⟨.cons r h1, h2⟩
  obtain ⟨h1, h2⟩ := sp hl' h
  exact ⟨a, b, by simp, by simp, h2, by simpa using h1⟩
theorem ok_hmf {f fF fC : Addr} {fd fdF fdC : FuncData} (F : Fun K "how_many_free" "how_many_free" sHmf f fd) (FF : Fun K "first_not_zero" "first_not_zero" sFnz fF fdF) (bF : Binds K fdF ["numbers"] []) (gF : mg "first_not_zero" = some (.ref fF)) (FC : Fun K "cleared" "cleared" sClr fC fdC) (bC : Binds K fdC ["row", "lead", "place"] []) (gC : mg "cleared" = some (.ref fC))
    (ml : mg "list" = none) (mz : mg "zip" = none) (me : mg "enumerate" = none) : FnOk P w K mg base CX0 2 f fd ["directions"] (spHmf K) := by
  have GF : FnOk P w K mg base CX0 1 fF fdF ["numbers"] (spFnz K) := ok_fnz FF me
  have GC : FnOk P w K mg base CX0 1 fC fdC ["row", "lead", "place"] (spClr K) := ok_clr FC mz
  refine F.ok scHmf (fun vs H Q E h => ?_) (fun cdv A outer s H vs Q E hr h => ?_)
  · obtain ⟨_, _, _, ⟨x, rfl, _⟩, _⟩ := h; rfl
  · obtain ⟨Hk, ⟨n, dirs⟩, e, ⟨x, rfl, rx, hn4, hlen, hrows⟩, q⟩ := h
    refine ⟨_, pss_cons (ps_set (i := 1) scHmf.nd rfl (.inl rfl) (pe_callTy call_list_of (by rfl) ml (by decide +kernel) (pa_cons (pv 0) pa_nil)))
      (pss_cons (ps_set (i := 2) scHmf.nd rfl (.inl rfl) pe_int)
      (pss_cons (ps_while PassesOwn.never (pt_truth (pv 1) (by intro _; rfl))
        (pss_cons (ps_set (i := 3) scHmf.nd rfl (.inr rfl) (pe_bm0 PySem.F.plainAttrs_list PySem.F.slot_list_pop PySem.F.type_list_pop mt_pop (pv 1)))
        (pss_cons (ps_set (i := 4) scHmf.nd rfl (.inr rfl) (pe_call GF hr (by rfl) gF FF.kp bF .nil pass0 (pa_cons (pv 3) pa_nil)))
        (pss_one (ps_if (pt_cmpR op_ge (pv 4) pe_int (nomark _))
          (pss_cons (ps_set (i := 2) scHmf.nd rfl (.inl rfl) (pe_op op_add (pv 2) pe_int))
          (pss_one (ps_setLc (i := 1) (own := [("row", 5)]) (g := gName 5) (tt := tYes) (te := tCall (spClr K) [] E0 (tCons (tVar 5) (tCons (tVar 3) (tCons (tVar 4) tNil)))) rfl scHmf.nd rfl rfl (sw_true rfl rfl rfl (by decide +kernel)) (pi_list (pv 1))
            (blkOk_by (own := [("row", 5)]) (N := ["directions", "left", "free", "lead", "place", "row"]) (sc := defScope sHmf) (by decide +kernel))
            (fun _ _ _ _ _ => pg_name (i := 5) scHmf.nd rfl (Or.inl rfl) (Or.inr rfl)) (fun _ _ _ _ _ => pts_nil)
            (fun _ _ _ _ _ => pe_call GC hr (by rfl) gC FC.kp bC .nil pass0 (pa_cons (pv 5) (pa_cons (pv 3) (pa_cons (pv 4) pa_nil))))))) pss_nil)))))
      (pss_one (ps_ret (pv 2))))), ?_⟩
    obtain ⟨p0, ys0, rfl, hs0, hp0⟩ := rx
    have hT : AB.hmf dirs.length dirs ≤ 4 := by
      rw [AB.hmf_rk (n := n) _ _ rfl fun r hr => (hrows r hr).1]
      exact Nat.le_trans (AB.rk_le n _) hn4
    refine ⟨_, rfl, p0, ys0, rfl, .inl (sq_same (k := true) e hs0), fun l0 hl0 => ?_⟩
    refine ⟨HmfW K Hk H n (AB.hmf dirs.length dirs) (.ref p0), ⟨dirs.length, l0, dirs, 0, none, none, none, ys0, rfl, hl0, same_new hl0, upd_same, Paired.imp (fun a y r => Row.mono _ _ _ _ (fun b o z => ?_) r) hp0, rfl, hlen, hrows, rfl⟩, fun m σ1 H1 hW => ?_⟩
    · have hb : b ≠ l0 := ne_of_none (e _ _ z) hl0
      rw [mask_at hb, vis_at (.inl (some_of z)), upd_ne hb]; exact e _ _ z
    obtain ⟨l, rows, fr, y3, y4, y5, ys, rfl, hln, sm, hl, hp, rfl, hmz, hr1, hT1⟩ := hW
    have hpl := Paired.length hp
    refine ⟨.ref l, rfl, !ys.isEmpty, .inl ⟨ys, .inl (.inl hl), rfl⟩, ?_⟩
    cases hrw : rows with
    | nil =>
      subst hrw
      have : ys = [] := List.length_eq_zero_iff.mp hpl.symm
      subst this
      refine iteF ⟨_, rfl, q _ _ sm ?_⟩
      show V.int _ = V.int _
      rw [← hT1]
      have : AB.hmf ([] : List (List Int)).length [] = 0 := rfl
      rw [this]; simp
    | cons r0 rs0 =>
      have ne : rows ≠ [] := by rw [hrw]; simp
      rw [← hrw]
      have hk : rows.length = rows.dropLast.length + 1 := by rw [List.length_dropLast]; have : 0 < rows.length := List.length_pos_iff.mpr ne; omega
      have hye : ys.isEmpty = false := by
        cases ys with
        | nil => rw [hrw] at hpl; simp at hpl
        | cons _ _ => rfl
      rw [hye]
      obtain ⟨lead, y, hlead, hy, hrow, hp'⟩ := paired_last hp ne
      have hml : lead ∈ rows := List.mem_of_getLast? hlead
      have hmd : ∀ r, r ∈ rows.dropLast → r ∈ rows := fun r hr => List.dropLast_subset _ hr
      refine iteT ⟨HmfW K Hk H n (AB.hmf dirs.length dirs) (.ref p0) rows.dropLast.length, fun σ' H' h => ⟨_, by omega, h⟩, ?_⟩
      refine ⟨.ref l, rfl, .inl ⟨rfl, ys, .inl (.inl hl)⟩, l, ys, y, rfl, rfl, hl, hy, ?_⟩
      have hM : Same (mask l (vis Hk H H1)) (upd H1 l (.lst ys.dropLast)) := fun b o z => by
        have hb : b ≠ l := fun hb => by subst hb; rw [mask_self] at z; cases z
        rw [upd_ne hb]; exact vis_le _ _ _ _ _ (mask_le _ _ _ _ z)
      refine gv_call (RL := R1 (Row K lead)) (R := Is (.int (fnzV (AB.fnz lead)))) (gva_1 (gv_var rfl (Row.mono _) hrow)) (fun vs H' _ ⟨x, hx, hr⟩ => ops_of (R := fun g : List Int => Is (.int (fnzV (AB.fnz g)))) lead ⟨x, hx, hr⟩) (Is.mono _) _ hM _ fun v H3 e3 hv => ?_
      cases hv
      refine gvt_test (b := decide ((0 : Int) ≤ fnzV (AB.fnz lead))) (gv_ii (gv_v rfl) gv_c fun _ => i0) H3 (Same.refl _) _ fun H4 e4 => ?_
      have sm4 : Same H H4 := fun b o z => e4 _ _ (e3 _ _ (by rw [upd_ne (ne_of_none z hln)]; exact sm _ _ z))
      have hl4 : H4 l = some (.lst ys.dropLast) := e4 _ _ (e3 _ _ upd_same)
      have up4 : Same (mask l (vis Hk H H1)) (mask l (vis Hk H H4)) := by
        rw [← vis_upd (o := .lst ys.dropLast)]
        exact mask_mono (vis_mono (Same.trans e3 e4))
      have hstep : AB.hmf rows.length rows = match AB.fnz lead with
          | none => AB.hmf rows.dropLast.length rows.dropLast
          | some j => AB.hmf rows.dropLast.length (rows.dropLast.map (AB.clr lead j)) + 1 := by
        rw [hk, AB.hmf, hlead] <;> rfl
      cases hf : AB.fnz lead with
      | none =>
        rw [hf] at hstep
        refine iteF ⟨l, rows.dropLast, fr, _, _, _, ys.dropLast, rfl, hln, sm4, hl4, Paired.imp (fun a y r => Row.mono _ _ _ _ up4 r) hp', rfl, by omega, fun r hr => hr1 r (hmd r hr), ?_⟩
        rw [← hT1, hstep]
      | some j =>
        rw [hf] at hstep
        have hstep : AB.hmf rows.length rows = AB.hmf rows.dropLast.length (rows.dropLast.map (AB.clr lead j)) + 1 := hstep
        have hjn : j < n := by
          unfold AB.fnz at hf
          rw [List.findIdx?_eq_some_iff_getElem] at hf
          obtain ⟨h1, _⟩ := hf
          rw [← (hr1 lead hml).1]; exact h1
        have hfr : fr + 1 ≤ 4 := by omega
        have hbt := bt_le (j := fr) (by omega)
        rw [show decide ((0 : Int) ≤ fnzV (some j)) = true from decide_eq_true (by show (0 : Int) ≤ (j : Int); omega)]
        refine iteT ⟨_, rfl, (fr : Int), 1, rfl, rfl, ?_⟩
        -- the others, cleared
        have hM2 : Same (upd (mask l (vis Hk H H4)) l (.lst ys.dropLast)) H4 := fun b o z => by
          by_cases hb : b = l
          · subst hb; rw [upd_same] at z; cases z; exact hl4
          · rw [upd_ne hb] at z; exact vis_le _ _ _ _ _ (mask_le _ _ _ _ z)
        have inM2 : Same (mask l (vis Hk H H4)) (upd (mask l (vis Hk H H4)) l (.lst ys.dropLast)) := same_new mask_self
        show tAsg (tLc (iList K (tVar 1)) (gName 5) tYes (tCall (spClr K) [] E0 (tCons (tVar 5) (tCons (tVar 3) (tCons (tVar 4) tNil)))) [5]) (gName 1) _ [some (V.ref p0), some (V.ref l), some (V.int ((fr : Int) + 1)), some y, some (V.int (fnzV (some j))), y5] H4
        refine asg_of ?_
        refine gv_lc (R := fun v H' => ∃ p zs, v = .ref p ∧ upd (mask l (vis Hk H H4)) l (.lst ys.dropLast) p = none ∧ H' p = some (.lst zs) ∧ Paired (fun a y => Row K (AB.clr lead j a) y (mask p H')) rows.dropLast zs) rows.dropLast (fun _ => true) (fun r => Row K (AB.clr lead j r)) (fun _ => Row.mono _) (Nat.lt_of_le_of_lt (by omega : rows.dropLast.length ≤ 20000) (by decide))
          (src_seqL (RI := Row K) (gv_var (σ := [some (V.ref p0), some (V.ref l), some (V.int ((fr : Int) + 1)), some y, some (V.int (fnzV (some j))), y5]) (i := 1) rfl (Rows.mono _) ⟨l, ys.dropLast, rfl, .inl (.inl upd_same), Paired.imp (fun a y r => Row.mono _ _ _ _ (Same.trans up4 inM2) r) hp'⟩) fun _ => Row.mono _) (fun i a x H' hi e' hy => ?_) (fun p zs H' e' hpn hpz hq => ?_) H4 hM2 _ fun v H5 e5 hv => ?_
        · obtain ⟨a', ha', hra⟩ := hy
          rw [hi] at ha'
          cases ha'
          have hma := List.mem_of_getElem? hi
          refine ⟨_, tg_name, rfl, gvt_yes, fun _ => ?_⟩
          refine gv_call (RL := R3 (Row K a) (Row K lead) (Is (.int (j : Int)))) (gva_3 (gv_var rfl (Row.mono _) hra) (Row.mono _) (gv_var rfl (Row.mono _) (Row.mono _ _ _ _ (Same.trans (Same.trans up4 inM2) e') hrow)) (Row.mono _) (gv_var (v := .int (j : Int)) rfl (Is.mono _) rfl) (Is.mono _)) (fun vs H'' _ hv => ?_) (Row.mono _)
          obtain ⟨u1, u2, u3, rfl, h1, h2, h3⟩ := hv
          cases h3
          have la := (hr1 a (hmd a hma)).1
          have ll := (hr1 lead hml).1
          refine fun H1 e1 Q q E => ops_of (pre := fun (g : List Int × List Int × Nat) vs H => ∃ x y, vs = [x, y, .int (g.2.2 : Int)] ∧ Row K g.1 x H ∧ Row K g.2.1 y H ∧ g.1.length = g.2.1.length ∧ g.2.2 < g.1.length ∧ g.1.length < 1000 ∧ (∀ z, z ∈ g.1 → Sm 1000 z) ∧ ∀ z, z ∈ g.2.1 → Sm 1000 z)
            (R := fun g => LstN IsI (AB.clr g.2.1 g.2.2 g.1)) (a, lead, j) ⟨u1, u2, rfl, h1, h2, la.trans ll.symm, by rw [la]; exact hjn, by rw [la]; omega, fun z hz => ((hr1 a (hmd a hma)).2 z hz).up (by omega), fun z hz => ((hr1 lead hml).2 z hz).up (by omega)⟩ H1 e1 Q (fun v H2 e2 hr => q v H2 e2 ⟨true, hr.row⟩) E
        · rw [filter_true] at hq
          exact ⟨p, zs, rfl, hpn, hpz, hq⟩
        · obtain ⟨p, zs, rfl, hpn, hpz, hq⟩ := hv
          have hp4 : (H4 p).isNone = true := by
            rcases (vis_some hpz).1 with c | c
            · rw [hpn] at c; cases c
            · exact c
          refine ⟨p, rows.dropLast.map (AB.clr lead j), fr + 1, some y, some (V.int (fnzV (some j))), y5, zs, (by rw [Int.natCast_add]; rfl), Option.isNone_iff_eq_none.mp (none_back sm4 hp4), Same.trans sm4 e5, vis_le _ _ _ _ _ hpz, ?_, by rw [List.length_map], by omega, fun r hr => ?_, ?_⟩
          · refine Paired.map_left (Paired.imp (fun a y r => Row.mono _ _ _ _ (mask_mono (vis_up sm4 fun b hb => ?_)) r) hq)
            by_cases hbl : b = l
            · subst hbl; exact .inr (by rw [hln]; rfl)
            · rw [upd_ne hbl] at hb; exact vis_dom (mask_dom hb)
          · obtain ⟨a, ha, rfl⟩ := List.mem_map.mp hr
            have la := (hr1 a (hmd a ha)).1
            have ll := (hr1 lead hml).1
            exact ⟨AB.clr_len la ll, clr_sm (hr1 lead hml).2 (hr1 a (hmd a ha)).2 hjn ll la⟩
          · omega
end
end Ab

set_option Elab.async false
set_option linter.all false
set_option maxRecDepth 100000
set_option maxHeartbeats 2000000
namespace Ab
open PySem PySem.Spec PyProof.Rows L2
/-! ### slices -/
def cutG {α : Type} (xs : List α) (lo hi : Option Int) : List α := (xs.drop (HT.sIx xs.length 0 lo)).take (HT.sIx xs.length xs.length hi - HT.sIx xs.length 0 lo)
theorem Paired.drop' {α β : Type} {F : α → β → Prop} : ∀ {l : List α} {m : List β} (n : Nat), Paired F l m → Paired F (l.drop n) (m.drop n)
  | _, _, 0, h => h
  | _, _, _ + 1, .nil => .nil
  | _, _, n + 1, .cons _ t => Paired.drop' n t
theorem Paired.take' {α β : Type} {F : α → β → Prop} : ∀ {l : List α} {m : List β} (n : Nat), Paired F l m → Paired F (l.take n) (m.take n)
  | _, _, 0, _ => .nil
  | _, _, _ + 1, .nil => .nil
  | _, _, n + 1, .cons r t => .cons r (Paired.take' n t)
theorem Paired.cut {α : Type} {F : α → V → Prop} {l : List α} {m : List V} (h : Paired F l m) (lo hi : Option Int) : Paired F (cutG l lo hi) (cutV m lo hi) := by
  have e := Paired.length h
  unfold cutG cutV
  rw [e]
  exact Paired.take' _ (Paired.drop' _ h)
theorem cut_from1 {α : Type} (xs : List α) : cutG xs (some 1) none = xs.tail := by
  unfold cutG
  rw [HT.sIx_none, show HT.sIx xs.length 0 (some 1) = min 1 xs.length from HT.sIx_nat xs.length 0 1]
  cases xs with
  | nil => rfl
  | cons x r =>
    have : min 1 (x :: r).length = 1 := by rw [List.length_cons]; omega
    rw [this]
    show List.take ((x :: r).length - 1) r = r
    exact List.take_of_length_le (by simp)
theorem cut_to {α : Type} (xs : List α) {j : Nat} (h : j ≤ xs.length) : cutG xs none (some (j : Int)) = xs.take j := by
  unfold cutG
  rw [HT.sIx_nat, show HT.sIx xs.length 0 none = 0 from rfl, Nat.min_eq_left h]
  simp
theorem cut_from {α : Type} (xs : List α) {j : Nat} (h : j ≤ xs.length) : cutG xs (some (j : Int)) none = xs.drop j := by
  unfold cutG
  rw [HT.sIx_nat, HT.sIx_none, Nat.min_eq_left h]
  exact List.take_of_length_le (by simp)
section
variable {K : PySem.W.Frag} {σ : L2.St} {H : Hp} {ta te : TE}
theorem gv_slL {α : Type} {RI : α → Rel} (mI : ∀ a, Mono (RI a)) {as : List α} {tl th : TO} {lo hi : Option Int} (ha : Gv ta σ H (SeqR true K RI as)) (hl : ∀ H1, ∀ Q : Option Int → Hp → Prop, Same H H1 → Q lo H1 → tl σ H1 Q) (hh : ∀ H1, ∀ Q : Option Int → Hp → Prop, Same H H1 → Q hi H1 → th σ H1 Q) :
    Gv (tSl (rSlL K) ta tl th) σ H (SeqR true K RI (cutG as lo hi)) :=
  gv_sl ha hl hh (fun x H' _ ⟨p, ys, ep, hs, hp⟩ H1 e1 Q q => ⟨p, ys, ep, sq_same (k := true) e1 hs, new_ok e1 (fun p2 H'' e2 h2 => ⟨p2, _, rfl, .inl (.inl h2), Paired.imp (fun a y r => mI a _ _ _ e2 r) (Paired.cut hp lo hi)⟩) q⟩) (SeqR.mono mI _)
theorem sl_none {Q : Option Int → Hp → Prop} {H1 : Hp} (h : Q none H1) : tNoPart σ H1 Q := h
theorem sl_int {i : Int} {Q : Option Int → Hp → Prop} {H1 : Hp} (h : Q (some i) H1) : tPart (tC (.int i)) σ H1 Q := ⟨i, rfl, h⟩
/-- an item of a list, a tuple -/
theorem seq_ix {k : Bool} {α : Type} {RI : α → Rel} (mI : ∀ a, Mono (RI a)) {as : List α} {j : Nat} {a : α} (hj : as[j]? = some a) {v : V} (h : SeqR k K RI as v H) : Op2 (rIx K) v (.int (j : Int)) H (RI a) := by
  obtain ⟨p, ys, rfl, hs, hp⟩ := h
  obtain ⟨y, hy, r⟩ := Paired.at' hp hj
  intro H1 e Q q
  have q' : Q y H1 := q y H1 (Same.refl H1) (mI a _ _ _ (vis_base e) r)
  cases k
  · exact .inr (.inl ⟨p, _, _, _, rfl, rfl, sq_same (k := false) e hs, atI_nat hy, q'⟩)
  · exact .inl ⟨p, _, _, _, rfl, rfl, sq_same (k := true) e hs, atI_nat hy, q'⟩
theorem gv_ix {k : Bool} {α : Type} {RI : α → Rel} (mI : ∀ a, Mono (RI a)) {as : List α} {j : Nat} {a : α} (hj : as[j]? = some a) {tb : TE} (ha : Gv ta σ H (SeqR k K RI as)) (hb : Gv tb σ H (Is (.int (j : Int)))) : Gv (tOp (rIx K) ta tb) σ H (RI a) :=
  gv_op ha (SeqR.mono mI _) hb (Is.mono _) (fun x y H' _ hx hy => by cases hy; exact seq_ix mI hj hx) (mI a)
/-- len -/
theorem gv_len {k : Bool} {α : Type} {RI : α → Rel} {as : List α} (ha : Gv ta σ H (SeqR k K RI as)) : Gv (tCB (fun xs H Q => ∃ x n, xs = [x] ∧ LenV K x H n ∧ Q (.int n) H) (tCons ta tNil)) σ H (Is (.int (as.length : Int))) :=
  gv_c1 ha (fun x H' _ hx => opC_val fun H1 e Q q => by
    obtain ⟨p, ys, rfl, hs, hp⟩ := hx
    refine ⟨_, ys.length, rfl, ?_, by rw [← Paired.length hp]; exact q⟩
    cases k
    · exact .inr ⟨ys, sq_same (k := false) e hs, rfl⟩
    · exact .inl ⟨ys, sq_same (k := true) e hs, rfl⟩) (Is.mono _)
theorem tru_seq {k : Bool} {α : Type} {RI : α → Rel} {as : List α} {v : V} {H' H1 : Hp} (h : SeqR k K RI as v H') (e : Same H' H1) : TruV K v H1 (!as.isEmpty) := by
  obtain ⟨p, ys, rfl, hs, hp⟩ := h
  have ee : as.isEmpty = ys.isEmpty := by
    cases hp with
    | nil => rfl
    | cons _ _ => rfl
  cases k
  · exact .inr (.inl ⟨ys, sq_same (k := false) e hs, by rw [ee]⟩)
  · exact .inl ⟨ys, sq_same (k := true) e hs, by rw [ee]⟩
/-- xs.append(e), xs at l one's own -/
theorem st_app {D : Ends} {i : Nat} {l : Addr} {xs : List V} {M H1 : Hp} {R : Rel} (hi : σ[i]? = some (some (.ref l))) (hl : H1 l = some (.lst xs)) (hz : xs.length < sizeLine) (hM : Same M H1) (h : Gv te σ M R) (k : ∀ v H2, Same H1 H2 → R v (vis M H1 H2) → D.nx σ (upd H2 l (.lst (xs ++ [v])))) :
    tDrop (tBM K "list" rAppend (tVar i) (tCons te tNil)) D σ H1 :=
  ⟨.ref l, hi, .inl ⟨rfl, xs, .inl (.inl hl)⟩, h H1 hM _ fun v H2 e2 r => ⟨l, xs, v, rfl, rfl, e2 _ _ hl, hz, k v H2 e2 r⟩⟩
end

theorem seq_of {t u : TS} {D : Ends} {σ : L2.St} {H : Hp} (h : t { D with nx := u D } σ H) : tSeq t u D σ H := h
theorem if_of {c : TT} {t u : TS} {D : Ends} {σ : L2.St} {Hk H : Hp} {b : Bool} (h : GvT c σ Hk b) (e : Same Hk H) (k1 : b = true → ∀ H2, Same H H2 → t D σ H2) (k2 : b = false → ∀ H2, Same H H2 → u D σ H2) : tIfS c t u D σ H := h H e _ fun H2 e2 => by
  cases b with
  | true => exact k1 rfl H2 e2
  | false => exact k2 rfl H2 e2
theorem next_of {D : Ends} {σ : L2.St} {H : Hp} (h : D.nx σ H) : tNext D σ H := h
theorem ret_of {te : TE} {D : Ends} {σ : L2.St} {Hk H : Hp} {R : Rel} (h : Gv te σ Hk R) (e : Same Hk H) (k : ∀ v H2, Same H H2 → R v (vis Hk H H2) → D.rt v H2) : tRet te D σ H := h H e _ k
theorem set_of {te : TE} {D : Ends} {σ : L2.St} {Hk H : Hp} {R : Rel} {i : Nat} (h : Gv te σ Hk R) (e : Same Hk H) (k : ∀ v H2, Same H H2 → R v (vis Hk H H2) → D.nx (σ.set i (some v)) H2) : tAsg te (gName i) D σ H := h H e _ k
section
variable {P : Program} {w : World} {K : PySem.W.Frag} {mg : Str → Option Value} {base : Heap}
/-! ### dimensions_of -/
def spDims (K : PySem.W.Frag) : Sp := spG (fun (g : Nat × List (List Int)) vs H => ∃ x, vs = [x] ∧ Rows K g.2 x H ∧ g.1 ≤ 4 ∧ g.2.length < 1000 ∧ ∀ r, r ∈ g.2 → r.length = g.1 ∧ ∀ z, z ∈ r → Sm 39 z) fun g => Is (.int (AB.dimsT g.2))
theorem dirn_sm {n : Nat} {p r : List Int} (h1 : ∀ z, z ∈ p → Sm n z) (h2 : ∀ z, z ∈ r → Sm n z) : ∀ z, z ∈ AB.dirn p r → Sm (n + 1) z := by
  intro z hz
  unfold AB.dirn at hz
  obtain ⟨⟨x, y⟩, hp, rfl⟩ := List.mem_map.mp hz
  have := List.of_mem_zip hp
  have e1 := h1 _ this.1
  have e2 := h2 _ this.2
  unfold Sm at *
  rw [Nat.pow_succ]
  show (y - x).natAbs < _
  omega
theorem ok_dims {f fD fH : Addr} {fd fdD fdH : FuncData} (F : Fun K "dimensions_of" "dimensions_of" sDims f fd) (FD : Fun K "direction" "direction" sDir fD fdD) (bD : Binds K fdD ["start", "end"] []) (gD : mg "direction" = some (.ref fD)) (FH : Fun K "how_many_free" "how_many_free" sHmf fH fdH) (bH : Binds K fdH ["directions"] []) (gH : mg "how_many_free" = some (.ref fH))
    (GH : FnOk P w K mg base CX0 2 fH fdH ["directions"] (spHmf K)) (mz : mg "zip" = none) : FnOk P w K mg base CX0 3 f fd ["points"] (spDims K) := by
  have GD : FnOk P w K mg base CX0 1 fD fdD ["start", "end"] (spDir K) := ok_dir FD mz
  refine F.ok scDims (fun vs H Q E h => ?_) (fun cdv A outer s H vs Q E hr h => ?_)
  · obtain ⟨_, _, _, ⟨x, rfl, _⟩, _⟩ := h; rfl
  · obtain ⟨Hk, ⟨n, pts⟩, e, ⟨x, rfl, rx, hn4, hlen, hrows⟩, q⟩ := h
    refine ⟨_, pss_cons (ps_if (pt_not (pt_truth (pv 0) (by intro _; rfl))) (pss_one (ps_ret (pe_un un_neg pe_int))) pss_nil)
      (pss_one (ps_ret (pe_call GH hr (by rfl) gH FH.kp bH .nil pass0 (pa_cons
        (pe_lc (own := [("point", 1)]) (g := gName 1) (tt := tYes) (te := tCall (spDir K) [] E0 (tCons (tOp (rIx K) (tVar 0) (tC (.int 0))) (tCons (tVar 1) tNil))) rfl scDims.nd (pi_list (pe_slice sl_list (pv 0) (po_some pe_int) po_none))
          (blkOk_by (own := [("point", 1)]) (N := ["points", "point"]) (sc := defScope sDims) (by decide +kernel))
          (fun _ _ _ _ _ => pg_name (i := 1) scDims.nd rfl (Or.inl rfl) (Or.inr rfl)) (fun _ _ _ _ _ => pts_nil)
          (fun _ _ _ _ _ => pe_call GD (hr.mono (by decide)) (by rfl) gD FD.kp bD .nil pass0 (pa_cons (pe_ix ix_seq (pv 0) pe_int (fun _ _ => rfl)) (pa_cons (pv 1) pa_nil)))) pa_nil)))), ?_⟩
    refine seq_of (if_of (gvt_not (a := !pts.isEmpty) (gvt_truth (gv_var rfl (Rows.mono _) rx) fun v H' _ h H1 e1 => tru_seq h e1)) e (fun hb H1 e1 => ?_) (fun hb H1 e1 => ?_))
    · cases pts with
      | nil => exact ⟨1, rfl, q _ _ e1 rfl⟩
      | cons p r => simp at hb
    cases hp : pts with
    | nil => rw [hp] at hb; simp at hb
    | cons p r =>
      subst hp
      have hp := hrows p (List.mem_cons_self ..)
      have hr' : ∀ s, s ∈ r → s.length = n ∧ ∀ z, z ∈ s → Sm 39 z := fun s hs => hrows s (List.mem_cons_of_mem _ hs)
      refine next_of ?_
      show tRet (tCall (spHmf K) [] E0 (tCons (tLc (iList K (tSl (rSlL K) (tVar 0) (tPart (tC (.int 1))) tNoPart)) (gName 1) tYes (tCall (spDir K) [] E0 (tCons (tOp (rIx K) (tVar 0) (tC (.int 0))) (tCons (tVar 1) tNil))) [1]) tNil)) _ (L2.start ["points", "point"] [x]) H1
      refine (ret_of (gv_call (RL := R1 (Rows K (r.map (AB.dirn p)))) (R := Is (.int (AB.dimsT (p :: r)))) (gva_1 (gv_lc r (fun _ => true) (fun s => Row K (AB.dirn p s)) (fun _ => Row.mono _) (Nat.lt_of_lt_of_le (Nat.lt_of_succ_lt hlen) (by decide)) (src_seqL (RI := Row K) (as := r) ?_ fun _ => Row.mono _) (fun i a x' H' hi e' hy => ?_) (fun p' zs H' e' _ hpz hq => ?_))) (fun vs H' _ ⟨u, hu, hR⟩ => ?_) (Is.mono _)) (Same.trans e e1) fun v H2 e2 hv => q v H2 (Same.trans e1 e2) hv)
      · have := gv_slL (lo := some 1) (hi := none) (fun a => Row.mono a) (gv_var (σ := L2.start ["points", "point"] [x]) (i := 0) rfl (Rows.mono _) rx) (tl := tPart (tC (.int 1))) (th := tNoPart) (fun H1 Q _ h => sl_int h) (fun H1 Q _ h => sl_none h)
        rw [cut_from1] at this
        exact this
      · obtain ⟨a', ha', hra⟩ := hy
        rw [hi] at ha'
        cases ha'
        have hma := List.mem_of_getElem? hi
        refine ⟨_, tg_name, rfl, gvt_yes, fun _ => ?_⟩
        refine gv_call (RL := R2' (Row K p) (Row K a)) (gva_2 (gv_ix (k := true) (RI := Row K) (as := p :: r) (j := 0) (fun _ => Row.mono _) rfl (gv_var rfl (Rows.mono _) (Rows.mono _ _ _ _ e' rx)) (gv_c (v := .int 0))) (Row.mono _) (gv_var rfl (Row.mono _) hra) (Row.mono _)) (fun vs H'' _ hv => ?_) (Row.mono _)
        obtain ⟨u1, u2, rfl, h1, h2⟩ := hv
        refine fun H1 e1 Q q E => ops_of (pre := fun (g : List Int × List Int) vs H => ∃ x y, vs = [x, y] ∧ Row K g.1 x H ∧ Row K g.2 y H ∧ g.1.length < 1000) (R := fun g => RowK true K (AB.dirn g.1 g.2)) (p, a) ⟨u1, u2, rfl, h1, h2, by rw [hp.1]; omega⟩ H1 e1 Q (fun v H2 e2 hr => q v H2 e2 ⟨true, hr⟩) E
      · rw [filter_true] at hq
        exact ⟨p', zs, rfl, .inl (.inl hpz), Paired.map_left (Paired.imp (fun a y r => Row.mono _ _ _ _ (mask_le _ _) r) hq)⟩
      · subst hu
        have := ops_of (pre := fun (g : Nat × List (List Int)) vs H => ∃ x, vs = [x] ∧ Rows K g.2 x H ∧ g.1 ≤ 4 ∧ g.2.length < 20000 ∧ ∀ r, r ∈ g.2 → r.length = g.1 ∧ ∀ z, z ∈ r → Sm 40 z) (R := fun g => Is (.int (AB.hmf g.2.length g.2 : Int))) (n, r.map (AB.dirn p)) ⟨u, rfl, hR, hn4, by rw [List.length_map]; have : r.length + 1 < 1000 := hlen; omega, fun s hs => by
          obtain ⟨t, ht, rfl⟩ := List.mem_map.mp hs
          exact ⟨AB.dirn_len hp.1 (hr' t ht).1, dirn_sm hp.2 (hr' t ht).2⟩⟩
        have e1 : ((AB.hmf (r.map (AB.dirn p)).length (r.map (AB.dirn p)) : Nat) : Int) = AB.dimsT (p :: r) := by rw [List.length_map]; rfl
        rw [← e1]
        exact this
end
end Ab

set_option Elab.async false
set_option linter.all false
set_option maxRecDepth 100000
set_option maxHeartbeats 2000000
namespace Ab
open PySem PySem.Spec PyProof.Rows L2
theorem scDet : FnScope ["rows"] ["rows"] (defScope sDet) := ⟨rfl, rfl, rfl, by decide +kernel, rfl, by decide +kernel, by decide +kernel⟩
theorem scCrs : FnScope ["rows", "answer", "sign", "place", "row"] ["rows"] (defScope sCrs) := ⟨rfl, rfl, rfl, by decide +kernel, rfl, by decide +kernel, by decide +kernel⟩

/-! ### one statement, then the rest -/
theorem seq_new {i : Nat} {u : TS} {D : Ends} {σ : L2.St} {H : Hp} (k : ∀ p, H p = none → u D (σ.set i (some (.ref p))) (upd H p (.lst []))) : tSeq (tAsg (tLst tNil) (gName i)) u D σ H := ⟨Nat.zero_le _, k⟩
theorem seq_c {i : Nat} {v : V} {u : TS} {D : Ends} {σ : L2.St} {H : Hp} (k : u D (σ.set i (some v)) H) : tSeq (tAsg (tC v) (gName i)) u D σ H := k
theorem seq_set {te : TE} {i : Nat} {u : TS} {D : Ends} {σ : L2.St} {Hk H : Hp} {R : Rel} (h : Gv te σ Hk R) (e : Same Hk H) (k : ∀ v H2, Same H H2 → R v (vis Hk H H2) → u D (σ.set i (some v)) H2) : tSeq (tAsg te (gName i)) u D σ H := h H e _ k
theorem seq_app {K : PySem.W.Frag} {te : TE} {u : TS} {D : Ends} {σ : L2.St} {i : Nat} {l : Addr} {xs : List V} {M H1 : Hp} {R : Rel} (hi : σ[i]? = some (some (.ref l))) (hl : H1 l = some (.lst xs)) (hz : xs.length < sizeLine) (hM : Same M H1) (h : Gv te σ M R) (k : ∀ v H2, Same H1 H2 → R v (vis M H1 H2) → u D σ (upd H2 l (.lst (xs ++ [v])))) :
    tSeq (tDrop (tBM K "list" rAppend (tVar i) (tCons te tNil))) u D σ H1 := seq_of (st_app hi hl hz hM h k)
theorem seq_for {wi : TI} {g : TG} {tb u : TS} {D : Ends} {σ : L2.St} {Hk H1 : Hp} {n : Nat} {Y : Nat → Rel} (hs : Src wi σ Hk n Y) (e : Same Hk H1) (Pv : Hp → Nat → L2.St → Hp → Prop)
    (h0 : ∀ H2, Same H1 H2 → Pv (vis Hk H1 H2) 0 σ H2) (hk : ∀ V2 i σ' H', Pv V2 i σ' H' → Same V2 H')
    (turn : ∀ V2 i x σ' H' H'', Same Hk V2 → i < n → Pv V2 i σ' H' → Same H' H'' → Y i x (vis V2 H' H'') → g x σ' H'' fun σ2 H2 => tb { D with nx := Pv V2 (i + 1), ct := Pv V2 (i + 1), bk := u D } σ2 H2)
    (done : ∀ V2 σ' H', Same Hk V2 → Pv V2 n σ' H' → u D σ' H') : tSeq (tFor wi g tb) u D σ H1 := seq_of (for_src hs e Pv h0 hk turn done)
theorem seq_if {c : TT} {t u : TS} {D : Ends} {σ : L2.St} {Hk H : Hp} {b : Bool} (h : GvT c σ Hk b) (e : Same Hk H) (k1 : b = true → ∀ H2, Same H H2 → t { D with nx := u D } σ H2) (k2 : b = false → ∀ H2, Same H H2 → u D σ H2) : tSeq (tIfS c t tNext) u D σ H := seq_of (if_of h e k1 k2)
theorem tgt_name {i : Nat} {x : V} {σ : L2.St} {H : Hp} {t : TS} {D : Ends} (k : t D (σ.set i (some x)) H) : gName i x σ H (fun σ2 H2 => t D σ2 H2) := k
theorem none_of {H H1 : Hp} {b : Addr} (e : Same H H1) (h : H1 b = none) : H b = none := Option.isNone_iff_eq_none.mp (none_back e (by rw [h]; rfl))
theorem vis_not {H H1 H2 : Hp} {b : Addr} {o : HO} (h : H b = none) (h1 : H1 b = some o) : vis H H1 H2 b = none := if_neg (by rw [h, h1]; rintro (z | z) <;> cases z)
/-! ### how great determinants are -/
def db : Nat → Nat
  | 0 => 1
  | m + 1 => (m + 1) * (200 * db m)
theorem sum_le (N : Nat) : ∀ l : List Int, (∀ z, z ∈ l → z.natAbs ≤ N) → l.sum.natAbs ≤ l.length * N
  | [], _ => by simp
  | a :: r, h => by
    have h1 := h a (List.mem_cons_self ..)
    have h2 := sum_le N r fun z hz => h z (List.mem_cons_of_mem _ hz)
    rw [List.sum_cons, List.length_cons, Nat.add_mul]
    omega
theorem tog_le {A B : Nat} {a p : List Int} (ha : ∀ z, z ∈ a → z.natAbs ≤ A) (hb : ∀ z, z ∈ p → z.natAbs ≤ B) : (AB.tog a p).natAbs ≤ a.length * (A * B) := by
  unfold AB.tog
  refine Nat.le_trans (sum_le (A * B) _ fun z hz => ?_) (Nat.mul_le_mul_right _ (by rw [List.length_map, List.length_zip]; exact Nat.min_le_left _ _))
  obtain ⟨⟨x, y⟩, hp, rfl⟩ := List.mem_map.mp hz
  have := List.of_mem_zip hp
  rw [Int.natAbs_mul]
  exact Nat.mul_le_mul (ha _ this.1) (hb _ this.2)
theorem sg_abs (j : Nat) : (AB.sg j).natAbs = 1 := by
  unfold AB.sg
  split <;> rfl
theorem sg_mul (j : Nat) (x : Int) : (AB.sg j * x).natAbs = x.natAbs := by rw [Int.natAbs_mul, sg_abs, Nat.one_mul]
theorem sg_succ (j : Nat) : AB.sg (j + 1) = -AB.sg j := by
  unfold AB.sg
  rcases Nat.mod_two_eq_zero_or_one j with h | h
  · rw [if_pos h, if_neg (show ¬ (j + 1) % 2 = 0 by omega)]
  · rw [if_neg (show ¬ j % 2 = 0 by omega), if_pos (show (j + 1) % 2 = 0 by omega)]; rfl
theorem erase_of {r : List Int} {j : Nat} {z : Int} (h : z ∈ r.eraseIdx j) : z ∈ r := List.mem_of_mem_eraseIdx h
theorem det_le : ∀ (m : Nat) (rows : List (List Int)), rows.length = m → (∀ r, r ∈ rows → r.length = m ∧ ∀ z, z ∈ r → z.natAbs ≤ 200) → (AB.detN m rows).natAbs ≤ db m
  | 0, _, _, _ => Nat.le_refl _
  | m + 1, r :: rows, hl, h => by
    have hl' : rows.length = m := by simpa using hl
    have h0 := h r (List.mem_cons_self ..)
    unfold AB.detN
    refine Nat.le_trans (tog_le (A := 200) (B := db m) h0.2 fun z hz => ?_) (by rw [List.headD_cons, h0.1]; exact Nat.le_refl _)
    obtain ⟨j, hj, rfl⟩ := List.mem_map.mp hz
    rw [sg_mul]
    refine det_le m _ (by simp [hl']) fun s hs => ?_
    obtain ⟨t, ht, rfl⟩ := List.mem_map.mp hs
    have h1 := h t (List.mem_cons_of_mem _ ht)
    exact ⟨by rw [List.length_eraseIdx, h1.1, if_pos (by simpa using hj)]; omega, fun z hz => h1.2 z (erase_of hz)⟩
theorem erase_row {m j : Nat} {rows : List (List Int)} (hj : j < m + 1) (h : ∀ r, r ∈ rows → r.length = m + 1 ∧ ∀ z, z ∈ r → z.natAbs ≤ 200) : ∀ s, s ∈ rows.map (fun r => r.eraseIdx j) → s.length = m ∧ ∀ z, z ∈ s → z.natAbs ≤ 200 := by
  intro s hs
  obtain ⟨t, ht, rfl⟩ := List.mem_map.mp hs
  have h1 := h t ht
  exact ⟨by rw [List.length_eraseIdx, h1.1, if_pos hj]; omega, fun z hz => h1.2 z (erase_of hz)⟩
theorem crs_le {m : Nat} {rows : List (List Int)} (hl : rows.length = m) (h : ∀ r, r ∈ rows → r.length = m + 1 ∧ ∀ z, z ∈ r → z.natAbs ≤ 200) : ∀ z, z ∈ AB.crs rows → z.natAbs ≤ db m := by
  intro z hz
  unfold AB.crs at hz
  obtain ⟨j, hj, rfl⟩ := List.mem_map.mp hz
  rw [sg_mul, hl]
  rw [hl] at hj
  exact det_le m _ (by simp [hl]) (erase_row (by simpa using hj) h)
theorem sm_of {z : Int} {N n : Nat} (h : z.natAbs ≤ N) (hn : N < 2 ^ n) : Sm n z := Nat.lt_of_le_of_lt h hn
theorem db_lt {m : Nat} (h : m ≤ 3) : db m < 2 ^ 30 := by
  match m, h with
  | 0, _ => decide
  | 1, _ => decide
  | 2, _ => decide
  | 3, _ => decide
/-- a list of whole numbers, tracked -/
def RowL (ns : List Int) : Rel := fun v H => ∃ p, v = .ref p ∧ H p = some (.lst (ns.map V.int))
theorem RowL.mono (ns : List Int) : Mono (RowL ns) := by
  rintro v H H' e ⟨p, rfl, h⟩
  exact ⟨p, rfl, e _ _ h⟩
theorem RowL.row {K : PySem.W.Frag} {ns : List Int} {v : V} {H : Hp} (h : RowL ns v H) : RowK true K ns v H := by
  obtain ⟨p, rfl, h⟩ := h
  exact ⟨p, rfl, .inl (.inl h)⟩
theorem LstN.rowL {ns : List Int} {v : V} {H : Hp} (h : LstN IsI ns v H) : RowL ns v H := by
  obtain ⟨p, ys, rfl, h, q⟩ := h
  refine ⟨p, rfl, ?_⟩
  rw [h]
  have : ys = ns.map V.int := by
    have : ∀ {l : List Int} {m : List V}, Paired (fun a y => IsI a y (mask p H)) l m → m = l.map V.int := by
      intro l m q
      induction q with
      | nil => rfl
      | cons r _ ih => rw [r, ih]; rfl
    exact this q
  rw [this]
abbrev RowsL (K : PySem.W.Frag) (rs : List (List Int)) : Rel := SeqR true K (RowK true K) rs
theorem RowsL.mono {K : PySem.W.Frag} (rs : List (List Int)) : Mono (RowsL K rs) := SeqR.mono (fun _ => RowK.mono _) rs
section
variable {K : PySem.W.Frag} {σ : L2.St} {H : Hp} {ta tb te : TE}
theorem gv_slR {as : List Int} {tl th : TO} {lo hi : Option Int} (ha : Gv ta σ H (RowK true K as)) (hl : ∀ H1, ∀ Q : Option Int → Hp → Prop, Same H H1 → Q lo H1 → tl σ H1 Q) (hh : ∀ H1, ∀ Q : Option Int → Hp → Prop, Same H H1 → Q hi H1 → th σ H1 Q) :
    Gv (tSl (rSlL K) ta tl th) σ H (RowL (cutG as lo hi)) :=
  gv_sl ha hl hh (fun x H' _ ⟨p, ep, hs⟩ H1 e1 Q q => ⟨p, _, ep, sq_same (k := true) e1 hs, new_ok e1 (fun p2 H'' e2 h2 => ⟨p2, rfl, by
    rw [h2]
    have : cutV (as.map V.int) lo hi = (cutG as lo hi).map V.int := by
      unfold cutV cutG
      simp [List.map_take, List.map_drop]
    rw [this]⟩) q⟩) (RowL.mono _)
theorem sl_val {i : Int} {Q : Option Int → Hp → Prop} {H1 : Hp} (h : Gv te σ H (Is (.int i))) (e : Same H H1) (k : ∀ H2, Same H1 H2 → Q (some i) H2) : tPart te σ H1 Q := h H1 e _ fun v H2 e2 r => by
  cases r
  exact ⟨i, rfl, k H2 e2⟩
theorem gv_cat {as bs : List Int} (ha : Gv ta σ H (RowL as)) (hb : Gv tb σ H (RowL bs)) (hn : as.length + bs.length ≤ sizeLine) : Gv (tOp rCat ta tb) σ H (RowL (as ++ bs)) :=
  gv_op ha (RowL.mono _) hb (RowL.mono _) (fun x y H' _ ⟨p, e1, h1⟩ ⟨p2, e2, h2⟩ H1 e Q q => ⟨p, p2, _, _, e1, e2, e _ _ h1, e _ _ h2, by simpa using hn, new_ok e (fun p3 H'' e3 h3 => ⟨p3, rfl, by rw [h3, List.map_append]⟩) q⟩) (RowL.mono _)
end
section
variable {P : Program} {w : World} {K : PySem.W.Frag} {mg : Str → Option Value} {base : Heap}
def spDet (K : PySem.W.Frag) (m : Nat) : Sp := spG (fun (g : List (List Int)) vs H => ∃ x, vs = [x] ∧ RowsL K g x H ∧ g.length = m ∧ m ≤ 3 ∧ ∀ r, r ∈ g → r.length = m ∧ ∀ z, z ∈ r → z.natAbs ≤ 200) fun g => Is (.int (AB.detN m g))
def spCrs (K : PySem.W.Frag) (m : Nat) : Sp := spG (fun (g : List (List Int)) vs H => ∃ x, vs = [x] ∧ RowsL K g x H ∧ g.length = m ∧ m ≤ 3 ∧ ∀ r, r ∈ g → r.length = m + 1 ∧ ∀ z, z ∈ r → z.natAbs ≤ 200) fun g => RowL (AB.crs g)
theorem ok_det {f fT fC : Addr} {fd fdT fdC : FuncData} (m : Nat) {k : Nat} {spX : Sp} (F : Fun K "determinant" "determinant" sDet f fd) (FT : Fun K "together" "together" sTog fT fdT) (bT : Binds K fdT ["numbers", "point"] []) (gT : mg "together" = some (.ref fT)) (FC : Fun K "crossing" "crossing" sCrs fC fdC) (bC : Binds K fdC ["rows"] []) (gC : mg "crossing" = some (.ref fC))
    (G : FnOk P w K mg base CX0 (k + 1) fC fdC ["rows"] spX) (hX : ∀ m', m = m' + 1 → spX = spCrs K m') (mz : mg "zip" = none) (ms : mg "sum" = none) : FnOk P w K mg base CX0 (k + 2) f fd ["rows"] (spDet K m) := by
  have GT : FnOk P w K mg base CX0 (k + 1) fT fdT ["numbers", "point"] (spTog K) := ok_tog FT mz ms
  refine F.ok scDet (fun vs H Q E h => ?_) (fun cdv A outer s H vs Q E hr h => ?_)
  · obtain ⟨_, _, _, ⟨x, rfl, _⟩, _⟩ := h; rfl
  · obtain ⟨Hk, rows, e, ⟨x, rfl, rx, hlen, hm, hrows⟩, q⟩ := h
    refine ⟨_, pss_cons (ps_if (pt_not (pt_truth (pv 0) (by intro _; rfl))) (pss_one (ps_ret pe_int)) pss_nil)
      (pss_one (ps_ret (pe_call GT hr (by rfl) gT FT.kp bT .nil pass0 (pa_cons (pe_ix ix_seq (pv 0) pe_int (fun _ _ => rfl)) (pa_cons (pe_call G hr (by rfl) gC FC.kp bC .nil pass0 (pa_cons (pe_slice sl_list (pv 0) (po_some pe_int) po_none) pa_nil)) pa_nil))))), ?_⟩
    refine seq_of (if_of (gvt_not (a := !rows.isEmpty) (gvt_truth (gv_var rfl (RowsL.mono _) rx) fun v H' _ h H1 e1 => tru_seq h e1)) e (fun hb H1 e1 => ?_) (fun hb H1 e1 => ?_))
    · cases rows with
      | nil =>
        have : m = 0 := hlen.symm
        subst this
        exact q _ _ e1 rfl
      | cons p r => simp at hb
    cases hp : rows with
    | nil => rw [hp] at hb; simp at hb
    | cons p r =>
      subst hp
      obtain ⟨m', rfl⟩ : ∃ m', m = m' + 1 := ⟨r.length, hlen.symm⟩
      have hX := hX m' rfl
      subst hX
      have hlr : r.length = m' := by simpa using hlen
      have hp := hrows p (List.mem_cons_self ..)
      have hr' : ∀ s, s ∈ r → s.length = m' + 1 ∧ ∀ z, z ∈ s → z.natAbs ≤ 200 := fun s hs => hrows s (List.mem_cons_of_mem _ hs)
      have hcl : (AB.crs r).length = m' + 1 := by rw [AB.crs_len, hlr]
      refine next_of ?_
      show tRet (tCall (spTog K) [] E0 (tCons (tOp (rIx K) (tVar 0) (tC (.int 0))) (tCons (tCall (spCrs K m') [] E0 (tCons (tSl (rSlL K) (tVar 0) (tPart (tC (.int 1))) tNoPart) tNil)) tNil))) _ (L2.start ["rows"] [x]) H1
      refine ret_of (gv_call (RL := R2' (Row K p) (RowL (AB.crs r))) (R := Is (.int (AB.detN (m' + 1) (p :: r)))) (gva_2 (gv_ix (k := true) (RI := RowK true K) (as := p :: r) (j := 0) (fun _ => RowK.mono _) rfl (gv_var rfl (RowsL.mono _) rx) (gv_c (v := .int 0)) |>.imp fun v H' _ h => ⟨true, h⟩) (Row.mono _)
        (gv_call (RL := R1 (RowsL K r)) (gva_1 ?_) (fun vs H'' _ hv => ?_) (RowL.mono _)) (RowL.mono _)) (fun vs H'' _ hv => ?_) (Is.mono _)) (Same.trans e e1) fun v H2 e2 hv => q v H2 (Same.trans e1 e2) hv
      · have := gv_slL (lo := some 1) (hi := none) (fun a => RowK.mono a) (gv_var (σ := L2.start ["rows"] [x]) (i := 0) rfl (RowsL.mono _) rx) (tl := tPart (tC (.int 1))) (th := tNoPart) (fun H1 Q _ h => sl_int h) (fun H1 Q _ h => sl_none h)
        rw [cut_from1] at this
        exact this
      · obtain ⟨u, hu, hR⟩ := hv
        exact ops_of (R := fun g : List (List Int) => RowL (AB.crs g)) r ⟨u, hu, hR, hlr, by omega, hr'⟩
      · obtain ⟨u1, u2, rfl, h1, h2⟩ := hv
        have := ops_of (pre := fun (g : List Int × List Int) vs H => ∃ x y, vs = [x, y] ∧ Row K g.1 x H ∧ Row K g.2 y H ∧ g.1.length = g.2.length ∧ g.1.length < 1000 ∧ (∀ z, z ∈ g.1 → Sm 1000 z) ∧ ∀ z, z ∈ g.2 → Sm 1000 z) (R := fun g => Is (.int (AB.tog g.1 g.2))) (vs := [u1, u2]) (H := H'') (p, AB.crs r)
          ⟨u1, u2, rfl, h1, ⟨true, h2.row⟩, by rw [hp.1, hcl], by rw [hp.1]; omega, fun z hz => (sm_of (n := 8) (hp.2 z hz) (by decide)).up (by decide), fun z hz => (sm_of (crs_le hlr hr' z hz) (db_lt (by omega))).up (by decide)⟩
        have e3 : AB.detN (m' + 1) (p :: r) = AB.tog p (AB.crs r) := by rw [← hlr]; exact AB.detN_cons p r
        rw [e3]
        exact this
theorem range_len (j : Int) : (j - 0).toNat = j.toNat := by rw [Int.sub_zero]
theorem take_step {α : Type} {l : List α} {i : Nat} {a : α} (h : l[i]? = some a) : l.take (i + 1) = l.take i ++ [a] := by
  rw [List.take_add_one, h]; rfl
theorem crs_at {rows : List (List Int)} {j : Nat} (hj : j < rows.length + 1) : (AB.crs rows)[j]? = some (AB.sg j * AB.detN rows.length (rows.map fun r => r.eraseIdx j)) := by
  unfold AB.crs
  rw [List.getElem?_map, List.getElem?_range hj]
  rfl
theorem ok_crs {f fD : Addr} {fd fdD : FuncData} (m : Nat) {k : Nat} (F : Fun K "crossing" "crossing" sCrs f fd) (FD : Fun K "determinant" "determinant" sDet fD fdD) (bD : Binds K fdD ["rows"] []) (gD : mg "determinant" = some (.ref fD))
    (G : FnOk P w K mg base CX0 k fD fdD ["rows"] (spDet K m)) (mr : mg "range" = none) (ml : mg "len" = none) : FnOk P w K mg base CX0 (k + 1) f fd ["rows"] (spCrs K m) := by
  refine F.ok scCrs (fun vs H Q E h => ?_) (fun cdv A outer s H vs Q E hr h => ?_)
  · obtain ⟨_, _, _, ⟨x, rfl, _⟩, _⟩ := h; rfl
  · obtain ⟨Hk, rows, e, ⟨x, rfl, rx, hlen, hm, hrows⟩, q⟩ := h
    refine ⟨_, pss_cons (ps_set (i := 1) scCrs.nd rfl (.inl rfl) (pe_lst pa_nil))
      (pss_cons (ps_set (i := 2) scCrs.nd rfl (.inl rfl) pe_int)
      (pss_cons (ps_for PassesOwn.never rfl (pi_range1 (by rfl) mr (pa_cons (pe_op op_add (pe_callB call_len (by rfl) ml (by decide +kernel) (pa_cons (pv 0) pa_nil)) pe_int) pa_nil))
        (pg_name (i := 3) scCrs.nd rfl (Or.inr rfl))
        (pss_cons (ps_expr (pe_bm PySem.F.plainAttrs_list PySem.F.slot_list_append PySem.F.type_list_append mt_append (pv 1) (pa_cons (pe_op op_mulW (pv 2)
            (pe_call G hr (by rfl) gD FD.kp bD .nil pass0 (pa_cons
              (pe_lc (own := [("row", 4)]) (g := gName 4) (tt := tYes) (te := tOp rCat (tSl (rSlL K) (tVar 4) tNoPart (tPart (tVar 3))) (tSl (rSlL K) (tVar 4) (tPart (tOp (rI0 fun i j => .int (i + j)) (tVar 3) (tC (.int 1)))) tNoPart)) rfl scCrs.nd (pi_list (pv 0))
                (blkOk_by (own := [("row", 4)]) (N := ["rows", "answer", "sign", "place", "row"]) (sc := defScope sCrs) (by decide +kernel))
                (fun _ _ _ _ _ => pg_name (i := 4) scCrs.nd rfl (Or.inl rfl) (Or.inr rfl)) (fun _ _ _ _ _ => pts_nil)
                (fun _ _ _ _ _ => pe_op op_cat (pe_slice sl_list (pv 4) po_none (po_some (pv 3))) (pe_slice sl_list (pv 4) (po_some (pe_op op_add (pv 3) pe_int)) po_none))) pa_nil))) pa_nil)))
          (pss_one (ps_set (i := 2) scCrs.nd rfl (.inl rfl) (pe_un un_neg (pv 2))))))
      (pss_one (ps_ret (pv 1))))), ?_⟩
    refine seq_new fun l hl => seq_c ?_
    refine (seq_for (n := rows.length + 1) (src_r1 (j := (rows.length : Int) + 1) (fun H1 e1 Q1 q1 => gva_1 (gv_ii (gv_len (gv_var rfl (RowsL.mono _) rx)) gv_c fun _ => i0) H1 e1 Q1 fun vs H2 e2 ⟨u, h1, h2⟩ => q1 vs H2 e2 (by subst h1; rw [h2])) (by have : rows.length ≤ 3 := (by omega); omega)) (Same.trans e (same_new hl))
      (fun V2 i σ' H' => (∃ y3 y4, σ' = [some x, some (.ref l), some (.int (AB.sg i)), y3, y4]) ∧ Same H H' ∧ Same V2 H' ∧ V2 l = none ∧ H' l = some (.lst (((AB.crs rows).take i).map V.int)))
      (fun H2 e2 => ⟨⟨_, _, rfl⟩, Same.trans (same_new hl) e2, vis_le _ _ _, vis_not (none_of e hl) upd_same, e2 _ _ upd_same⟩) (fun V2 i σ' H' p => p.2.2.1) (fun V2 i x' σ' H' H'' eV hi p e12 y => ?_) (fun V2 σ' H' eV p => ?_))
    · obtain ⟨⟨y3, y4, rfl⟩, p1, p2, pl, p3⟩ := p
      have y : x' = .int (i : Int) := y
      subst y
      have hi3 : i < m + 1 := by omega
      have hV : Same V2 H'' := Same.trans p2 e12
      have gd : Gv (tCall (spDet K m) [] E0 (tCons (tLc (iList K (tVar 0)) (gName 4) tYes (tOp rCat (tSl (rSlL K) (tVar 4) tNoPart (tPart (tVar 3))) (tSl (rSlL K) (tVar 4) (tPart (tOp (rI0 fun i j => .int (i + j)) (tVar 3) (tC (.int 1)))) tNoPart)) [4]) tNil))
          [some x, some (V.ref l), some (.int (AB.sg i)), some (V.int (i : Int)), y4] V2 (Is (.int (AB.detN m (rows.map fun r => r.eraseIdx i)))) := by
        refine gv_call (RL := R1 (RowsL K (rows.map fun r => r.eraseIdx i))) (gva_1 (gv_lc rows (fun _ => true) (fun r => RowL (r.eraseIdx i)) (fun _ => RowL.mono _) (Nat.lt_of_le_of_lt (by omega : rows.length ≤ 3) (by decide)) (src_seqL (RI := RowK true K) (as := rows) (gv_var rfl (RowsL.mono _) (RowsL.mono _ _ _ _ eV rx)) fun _ => RowK.mono _) (fun j a x' H' hj e' hy => ?_) (fun p' zs H' e' _ hpz hq => ?_))) (fun vs H3 _ hv => ?_) (Is.mono _)
        · obtain ⟨a', ha', hra⟩ := hy
          rw [hj] at ha'
          cases ha'
          have hla := (hrows a (List.mem_of_getElem? hj)).1
          refine ⟨_, tg_name, rfl, gvt_yes, fun _ => ?_⟩
          have e1 : a.eraseIdx i = cutG a none (some (i : Int)) ++ cutG a (some ((i + 1 : Nat) : Int)) none := by
            rw [cut_to a (by omega), cut_from a (by omega), List.eraseIdx_eq_take_drop_succ]
          show Gv _ _ _ (RowL (a.eraseIdx i))
          rw [e1]
          refine gv_cat (gv_slR (gv_var rfl (RowK.mono _) hra) (fun H1 Q _ h => sl_none h) (fun H1 Q e1 h => ?_)) (gv_slR (gv_var rfl (RowK.mono _) hra) (fun H1 Q e1 h => ?_) (fun H1 Q _ h => sl_none h)) ?_
          · exact ⟨_, rfl, _, rfl, h⟩
          · exact ⟨_, rfl, _, _, rfl, rfl, _, rfl, h⟩
          · rw [cut_to a (by omega), cut_from a (by omega), List.length_take, List.length_drop]
            exact Nat.le_trans (by omega : _ ≤ 10) (by decide)
        · rw [filter_true] at hq
          exact ⟨p', zs, rfl, .inl (.inl hpz), Paired.map_left (Paired.imp (fun a y r => (RowL.mono _ _ _ _ (mask_le _ _) r).row) hq)⟩
        · obtain ⟨u, hu, hR⟩ := hv
          exact ops_of (pre := fun (g : List (List Int)) vs H => ∃ x, vs = [x] ∧ RowsL K g x H ∧ g.length = m ∧ m ≤ 3 ∧ ∀ r, r ∈ g → r.length = m ∧ ∀ z, z ∈ r → z.natAbs ≤ 200) (R := fun g : List (List Int) => Is (.int (AB.detN m g))) (rows.map fun r => r.eraseIdx i) ⟨u, hu, hR, by rw [List.length_map]; exact hlen, hm, erase_row hi3 hrows⟩
      refine tgt_name (seq_app (R := Is (.int (AB.sg i * AB.detN m (rows.map fun r => r.eraseIdx i)))) rfl (e12 _ _ p3) ?_ hV (gv_ii (gv_v rfl) gd fun _ => iC ?_) fun v H3 e3 hv => ?_)
      · rw [List.length_map]
        exact Nat.lt_of_le_of_lt (Nat.le_trans (List.length_take_le _ _) (by omega : i ≤ 10)) (by decide)
      · have h1 := det_le m (rows.map fun r => r.eraseIdx i) (by rw [List.length_map]; exact hlen) (erase_row hi3 hrows)
        exact sm_mul (a := 1) (b := 30) (sm_of (N := 1) (Nat.le_of_eq (sg_abs i)) (by decide)) (sm_of h1 (db_lt hm)) (by decide) (by decide) (by decide)
      · cases hv
        refine ⟨_, rfl, _, rfl, ⟨some (V.int (i : Int)), y4, ?_⟩, ?_, ?_, pl, ?_⟩
        · show _ = [some x, some (V.ref l), some (V.int (AB.sg (i + 1))), some (V.int (i : Int)), y4]
          rw [sg_succ]; rfl
        · exact fun b o z => by
            rw [upd_ne (ne_of_none z hl)]
            exact e3 _ _ (e12 _ _ (p1 _ _ z))
        · exact fun b o z => by
            rw [upd_ne (ne_of_none z pl)]
            exact e3 _ _ (hV _ _ z)
        · rw [upd_same]
          have := crs_at (rows := rows) (j := i) hi
          rw [hlen] at this
          rw [take_step this, List.map_append]; rfl
    · obtain ⟨⟨y3, y4, rfl⟩, p1, p2, pl, p3⟩ := p
      refine ⟨_, rfl, q _ _ p1 ⟨l, rfl, ?_⟩⟩
      rw [vis_at (.inr (by rw [hl]; rfl)), p3, List.take_of_length_le (by rw [AB.crs_len]; omega)]
end
end Ab

set_option Elab.async false
set_option linter.all false
set_option maxRecDepth 100000
set_option maxHeartbeats 2000000
namespace Ab
open PySem PySem.Spec PyProof.Rows L2
theorem scCd : FnScope ["numbers", "divisor", "number", "rest", "over"] ["numbers"] (defScope sCd) := ⟨rfl, rfl, rfl, by decide +kernel, rfl, by decide +kernel, by decide +kernel⟩
def spCd (K : PySem.W.Frag) : Sp := spG (fun (g : List Int) vs H => ∃ x, vs = [x] ∧ RowK true K g x H) fun g => Is (.int (AB.gcdL g))
def gcdUp (l : List Int) (i : Nat) : Nat := AB.gcdL (l.take i)
theorem gcdUp_step {l : List Int} {i : Nat} {z : Int} (h : l[i]? = some z) : gcdUp l (i + 1) = Nat.gcd (gcdUp l i) z.natAbs := by
  unfold gcdUp AB.gcdL
  rw [take_step h, List.foldl_append]; rfl
theorem gcd_turn (d r : Nat) : Nat.gcd r (d % r) = Nat.gcd d r := by
  rw [Nat.gcd_comm d r, Nat.gcd_rec r d, Nat.gcd_comm]
theorem abs_of (z : Int) : (if z < 0 then -z else z) = ((z.natAbs : Nat) : Int) := by
  split <;> omega
section
variable {P : Program} {w : World} {K : PySem.W.Frag} {mg : Str → Option Value} {base : Heap}
theorem ok_cd {f : Addr} {fd : FuncData} {k : Nat} (F : Fun K "common_divisor" "common_divisor" sCd f fd) (ma : mg "abs" = none) : FnOk P w K mg base CX0 (k + 1) f fd ["numbers"] (spCd K) := by
  refine F.ok scCd (fun vs H Q E h => ?_) (fun cdv A outer s H vs Q E hr h => ?_)
  · obtain ⟨_, _, _, ⟨x, rfl, _⟩, _⟩ := h; rfl
  · obtain ⟨Hk, ns, e, ⟨x, rfl, rx⟩, q⟩ := h
    refine ⟨_, pss_cons (ps_set (i := 1) scCd.nd rfl (.inl rfl) pe_int)
      (pss_cons (ps_for PassesOwn.never rfl (pi_list (pv 0)) (pg_name (i := 2) scCd.nd rfl (Or.inl rfl))
        (pss_cons (ps_set (i := 3) scCd.nd rfl (.inl rfl) (pe_callB call_abs (by rfl) ma (by decide +kernel) (pa_cons (pv 2) pa_nil)))
          (pss_one (ps_while PassesOwn.never (pt_cmpR op_ne (pv 3) pe_int (nomark _))
            (pss_cons (ps_set (i := 4) scCd.nd rfl (.inl rfl) (pe_op op_mod (pv 1) (pv 3)))
            (pss_cons (ps_set (i := 1) scCd.nd rfl (.inl rfl) (pv 3))
            (pss_one (ps_set (i := 3) scCd.nd rfl (.inl rfl) (pv 4)))))))))
      (pss_one (ps_ret (pv 1)))), ?_⟩
    refine seq_c (seq_for (src_seqL (RI := IsI) (as := ns) (gv_var rfl (RowK.mono _) rx |>.imp fun v H' _ h => RowK.seq h) fun _ => Is.mono _) e
      (fun V2 i σ' H' => (∃ y2 y3 y4, σ' = [some x, some (.int (gcdUp ns i : Int)), y2, y3, y4]) ∧ Same H H' ∧ Same V2 H')
      (fun H2 e2 => ⟨⟨_, _, _, rfl⟩, e2, vis_le _ _ _⟩) (fun V2 i σ' H' p => p.2.2) (fun V2 i x' σ' H' H'' eV hi p e12 y => ?_) (fun V2 σ' H' eV p => ?_))
    · obtain ⟨⟨y2, y3, y4, rfl⟩, p1, p2⟩ := p
      obtain ⟨z, hz, hv⟩ := y
      cases hv
      refine tgt_name (seq_set (R := Is (.int (z.natAbs : Int))) (gv_c1 (RA := IsI z) (gv_v rfl) (fun v H' _ hv => by cases hv; exact opC_val fun H1 _ Q q => ⟨z, rfl, by rw [abs_of]; exact q⟩) (Is.mono _)) (vis_le V2 H' H'') fun v H3 e3 hv => ?_)
      cases hv
      have st : Same H'' H3 := e3
      refine ⟨fun m σ H' => ∃ d r : Nat, ∃ y4, σ = [some x, some (.int (d : Int)), some (.int z), some (.int (r : Int)), y4] ∧ Same H3 H' ∧ Nat.gcd d r = gcdUp ns (i + 1) ∧ r = m, ⟨_, _, z.natAbs, _, rfl, Same.refl _, (gcdUp_step hz).symm, rfl⟩, fun m σ1 H4 hW => ?_⟩
      obtain ⟨d, r, y4', rfl, e4, hg, rfl⟩ := hW
      refine gvt_test (b := !decide (V.int r = V.int 0)) (gv_ii (gv_v rfl) gv_c fun _ => oNe rfl) H4 (Same.refl _) _ fun H5 e5 => ?_
      have sm5 : Same H' H5 := Same.trans e12 (Same.trans e3 (Same.trans e4 e5))
      by_cases hr0 : r = 0
      · subst hr0
        refine iteNS rfl ⟨⟨some (.int z), some (.int ((0 : Nat) : Int)), y4', ?_⟩, Same.trans p1 sm5, Same.trans p2 sm5⟩
        rw [← hg, Nat.gcd_zero_right]
      · have hd : (!decide (V.int r = V.int 0)) = true := by
          rw [decide_eq_false (fun h => hr0 (by have := V.int.inj h; omega))]; rfl
        rw [hd]
        refine iteT ⟨_, fun σ' H' h => ⟨d % r, Nat.mod_lt _ (by omega), h⟩, ?_⟩
        refine seq_set (R := Is (.int ((d % r : Nat) : Int))) (gv_ii (gv_v rfl) (gv_v rfl) fun H'' => ?_) (Same.refl H5) fun v H6 e6 hv => ?_
        · exact iC (by omega)
        · cases hv
          refine ⟨_, rfl, _, rfl, r, d % r, some (.int ((d % r : Nat) : Int)), rfl, Same.trans e4 (Same.trans e5 e6), ?_, rfl⟩
          rw [gcd_turn]; exact hg
    · obtain ⟨⟨y2, y3, y4, rfl⟩, p1, p2⟩ := p
      refine ⟨_, rfl, q _ _ p1 ?_⟩
      show V.int _ = V.int _
      unfold gcdUp
      rw [List.take_of_length_le (Nat.le_refl _)]
end
end Ab

set_option Elab.async false
set_option linter.all false
set_option maxRecDepth 100000
set_option maxHeartbeats 2000000
namespace Ab
open PySem PySem.Spec PyProof.Rows L2
/-! ### any(xs) of whole numbers -/
def nz (ns : List Int) (i : Nat) : Bool := match ns[i]? with
  | some n => n != 0
  | none => false
theorem ints_at : ∀ {us : List Value} {ns : List Int} {i : Nat} {v : Value}, IntsAre us ns → us[i]? = some v → ∃ n t, ns[i]? = some n ∧ v = .int n t
  | _, _, 0, _, .cons n t _, h => by cases h; exact ⟨n, t, rfl, rfl⟩
  | _, _, i + 1, v, .cons n t r, h => by
    obtain ⟨n', t', h1, h2⟩ := ints_at (i := i) r (by simpa using h)
    exact ⟨n', t', by simpa using h1, h2⟩
theorem nz_truth {prog : Program} {w : World} {A : Around} {ns : List Int} {its : List Value} (e : IntsAre its ns) : TruthOf prog w A (fun i v => its.toArray[i]? = some v) (nz ns) := by
  intro i v s Q E hv q
  obtain ⟨n, t, h1, rfl⟩ := ints_at e (show its[i]? = some v by simpa using hv)
  have hq : Q (n != 0) s := by
    have : nz ns i = (n != 0) := by unfold nz; rw [h1]
    rw [← this]; exact q
  exact PySem.P.truthy_int hq
theorem nz_range (ns : List Int) : (List.range ns.length).any (nz ns) = ns.any (· != 0) := by
  rw [Bool.eq_iff_iff, List.any_eq_true, List.any_eq_true]
  constructor
  · rintro ⟨j, hj, h⟩
    have hj' := List.mem_range.mp hj
    have : nz ns j = (ns[j] != 0) := by unfold nz; rw [List.getElem?_eq_getElem hj']
    rw [this] at h
    exact ⟨ns[j], List.getElem_mem hj', h⟩
  · rintro ⟨b, hb, h⟩
    obtain ⟨j, hj, rfl⟩ := List.getElem_of_mem hb
    refine ⟨j, List.mem_range.mpr hj, ?_⟩
    unfold nz
    rw [List.getElem?_eq_getElem hj]; exact h
section
variable {X : Cx}
def rAnyI (K : PySem.W.Frag) : List V → Hp → VK → Prop := fun vs H Q => ∃ (a : Addr) (ns : List Int), vs = [V.ref a] ∧ SqL K H a (ns.map V.int) ∧ Q (.bl (ns.any (· != 0))) H
theorem cr_anyI (hc : X.calm = true) : CallR X (.builtin "any") (rAnyI X.K) := by
  rintro pins s σ H vs us Q I r ⟨a, ns, rfl, hs, q⟩
  obtain ⟨its, rv, hl, _⟩ := I.list hs
  rw [Vals.ref1 r]
  have hI := rv.ints
  have hlen : ns.length = its.toArray.size := by
    have := Paired.length rv
    rw [List.length_map] at this
    rw [List.size_toArray]; exact this
  refine call_any_walk (iter_any hl.isList fun s2 e2 st ne => ?_)
  subst e2
  refine ⟨_, _, _, _, _, _, _, rfl, Walks.list (A := X.A.in1) (I.ok.hd hc) _ a ne its.toArray, st, nz_truth hI, fun h' tk hk => ⟨.bl _, H, I.kept fun b o eo => hk b o (fun hm => ?_) (Heap.get?_push_of_some _ eo), ?_, q⟩⟩
  · rcases List.mem_cons.mp hm with e1 | hm
    · exact (Nat.lt_irrefl _ (e1 ▸ Heap.lt_size eo)).elim
    · cases hm
  · show Value.bool _ = Value.bool _
    rw [← nz_range, hlen]
end
section
variable {K : PySem.W.Frag} {σ : L2.St} {H : Hp} {ta tb te : TE}
theorem gv_anyI {ns : List Int} (ha : Gv ta σ H (RowK true K ns)) : Gv (tCB (rAnyI K) (tCons ta tNil)) σ H (Is (.bl (ns.any (· != 0)))) :=
  gv_c1 ha (fun x H' _ ⟨p, e, h⟩ => opC_val fun H1 e1 Q q => ⟨p, ns, by rw [e], sq_same (k := true) e1 h, q⟩) (Is.mono _)
/-- the least, the greatest of some whole numbers -/
def IsMin (ns : List Int) (m : Int) : Prop := m ∈ ns ∧ ∀ y, y ∈ ns → m ≤ y
def IsMax (ns : List Int) (m : Int) : Prop := m ∈ ns ∧ ∀ y, y ∈ ns → y ≤ m
def RMin (ns : List Int) : Rel := fun v _ => ∃ m, v = .int m ∧ IsMin ns m
def RMax (ns : List Int) : Rel := fun v _ => ∃ m, v = .int m ∧ IsMax ns m
theorem RMin.mono (ns : List Int) : Mono (RMin ns) := fun _ _ _ _ h => h
theorem RMax.mono (ns : List Int) : Mono (RMax ns) := fun _ _ _ _ h => h
theorem gv_min {ns : List Int} (hn : 0 < ns.length) (ha : Gv ta σ H (RowK true K ns)) : Gv (tCB (rMin K) (tCons ta tNil)) σ H (RMin ns) :=
  gv_c1 ha (fun x H' _ ⟨p, e, h⟩ H1 e1 Q q => ⟨p, ns, by rw [e], sq_same (k := true) e1 h, hn, fun m h1 h2 => q _ _ (Same.refl _) ⟨m, rfl, h1, h2⟩⟩) (RMin.mono _)
theorem gv_max {ns : List Int} (hn : 0 < ns.length) (ha : Gv ta σ H (RowK true K ns)) : Gv (tCB (rMax K) (tCons ta tNil)) σ H (RMax ns) :=
  gv_c1 ha (fun x H' _ ⟨p, e, h⟩ H1 e1 Q q => ⟨p, ns, by rw [e], sq_same (k := true) e1 h, hn, fun m h1 h2 => q _ _ (Same.refl _) ⟨m, rfl, h1, h2⟩⟩) (RMax.mono _)
theorem min_any {ns : List Int} {m : Int} (h : IsMin ns m) : decide (m < 0) = ns.any fun x => decide (x < 0) := by
  rw [Bool.eq_iff_iff, List.any_eq_true, decide_eq_true_iff]
  constructor
  · intro q; exact ⟨m, h.1, decide_eq_true q⟩
  · rintro ⟨x, hx, q⟩
    have := h.2 x hx
    have := of_decide_eq_true q
    omega
theorem max_any {ns : List Int} {m : Int} (h : IsMax ns m) : decide (0 < m) = ns.any fun x => decide (0 < x) := by
  rw [Bool.eq_iff_iff, List.any_eq_true, decide_eq_true_iff]
  constructor
  · intro q; exact ⟨m, h.1, decide_eq_true q⟩
  · rintro ⟨x, hx, q⟩
    have := h.2 x hx
    have := of_decide_eq_true q
    omega
end
/-! ### statements, over all that is known by now -/
section
variable {Hk H H1 : Hp} {σ : L2.St} {D : Ends} {u : TS} {te : TE} {R : Rel}
theorem sv_set {i : Nat} (e : Same H H1) (h : Gv te σ (vis Hk H H1) R) (mR : Mono R) (k : ∀ v H2, Same H1 H2 → R v (vis Hk H H2) → u D (σ.set i (some v)) H2) : tSeq (tAsg te (gName i)) u D σ H1 :=
  seq_set h (vis_le _ _ _) fun v H2 e2 r => k v H2 e2 (mR _ _ _ (vis_vis e) r)
theorem sv_if {c : TT} {t : TS} {b : Bool} (h : GvT c σ (vis Hk H H1) b) (k1 : b = true → ∀ H2, Same H1 H2 → t { D with nx := u D } σ H2) (k2 : b = false → ∀ H2, Same H1 H2 → u D σ H2) : tSeq (tIfS c t tNext) u D σ H1 := seq_if h (vis_le _ _ _) k1 k2
theorem sv_ret (e : Same H H1) (h : Gv te σ (vis Hk H H1) R) (mR : Mono R) (k : ∀ v H2, Same H1 H2 → R v (vis Hk H H2) → D.rt v H2) : tRet te D σ H1 := ret_of h (vis_le _ _ _) fun v H2 e2 r => k v H2 e2 (mR _ _ _ (vis_vis e) r)
theorem sv_asg {i : Nat} (e : Same H H1) (h : Gv te σ (vis Hk H H1) R) (mR : Mono R) (k : ∀ v H2, Same H1 H2 → R v (vis Hk H H2) → D.nx (σ.set i (some v)) H2) : tAsg te (gName i) D σ H1 :=
  asg_of (h H1 (vis_le _ _ _) _ fun v H2 e2 r => k v H2 e2 (mR _ _ _ (vis_vis e) r))
end
/-- a tuple of whole numbers, tracked -/
def RowT (ns : List Int) : Rel := fun v H => ∃ p, v = .ref p ∧ H p = some (.tup (ns.map V.int))
theorem RowT.mono (ns : List Int) : Mono (RowT ns) := by
  rintro v H H' e ⟨p, rfl, h⟩
  exact ⟨p, rfl, e _ _ h⟩
theorem RowT.row {K : PySem.W.Frag} {ns : List Int} {v : V} {H : Hp} (h : RowT ns v H) : Row K ns v H := by
  obtain ⟨p, rfl, h⟩ := h
  exact ⟨false, p, rfl, .inl (.inl h)⟩
/-- new knowledge -/
theorem up_know {Hk H H1 H2 : Hp} {R : Rel} (mR : Mono R) {v : V} (e : Same H1 H2) (r : R v (vis Hk H H1)) : R v (vis Hk H H2) := mR _ _ _ (vis_mono e) r
theorem scSide : FnScope ["few", "points", "ahead", "bound", "heights", "divisor", "point", "number"] ["few", "points"] (defScope sSide) := ⟨rfl, rfl, rfl, by decide +kernel, rfl, by decide +kernel, by decide +kernel⟩
def preSide (K : PySem.W.Frag) : Nat × List (List Int) × List (List Int) → List V → Hp → Prop := fun g vs H => ∃ x y, vs = [x, y] ∧ Rows K g.2.1 x H ∧ Rows K g.2.2 y H ∧ 1 ≤ g.1 ∧ g.1 ≤ 4 ∧ g.2.1.length = g.1 ∧ g.2.2 ≠ [] ∧ g.2.2.length < 1000 ∧
  (∀ r, r ∈ g.2.1 → r.length = g.1 ∧ ∀ z, z ∈ r → z.natAbs ≤ 100) ∧ ∀ r, r ∈ g.2.2 → r.length = g.1 ∧ ∀ z, z ∈ r → z.natAbs ≤ 100
def spSide (K : PySem.W.Frag) : Sp := spG (preSide K) fun g => RowT (AB.sideT g.2.1 g.2.2)
/-- crossing, for all sizes -/
def spCrsA (K : PySem.W.Frag) : Sp := fun vs H Q E => ∃ m, spCrs K m vs H Q E
def preTog (K : PySem.W.Frag) : List Int × List Int → List V → Hp → Prop := fun g vs H => ∃ x y, vs = [x, y] ∧ Row K g.1 x H ∧ Row K g.2 y H ∧ g.1.length = g.2.length ∧ g.1.length < 1000 ∧ (∀ z, z ∈ g.1 → Sm 1000 z) ∧ ∀ z, z ∈ g.2 → Sm 1000 z
theorem use_tog {K : PySem.W.Frag} {a b : List Int} {u v : V} {H : Hp} (ha : Row K a u H) (hb : Row K b v H) (hl : a.length = b.length) (h4 : a.length < 1000) (s1 : ∀ z, z ∈ a → Sm 1000 z) (s2 : ∀ z, z ∈ b → Sm 1000 z) : OpS (spTog K) [u, v] H (Is (.int (AB.tog a b))) :=
  ops_of (pre := preTog K) (R := fun g => Is (.int (AB.tog g.1 g.2))) (a, b) ⟨u, v, rfl, ha, hb, hl, h4, s1, s2⟩
theorem use_dir {K : PySem.W.Frag} {a b : List Int} {u v : V} {H : Hp} (ha : Row K a u H) (hb : Row K b v H) (h4 : a.length < 1000) : OpS (spDir K) [u, v] H (RowK true K (AB.dirn a b)) :=
  ops_of (pre := fun (g : List Int × List Int) vs H => ∃ x y, vs = [x, y] ∧ Row K g.1 x H ∧ Row K g.2 y H ∧ g.1.length < 1000) (R := fun g => RowK true K (AB.dirn g.1 g.2)) (a, b) ⟨u, v, rfl, ha, hb, h4⟩
theorem use_cd {K : PySem.W.Frag} {a : List Int} {u : V} {H : Hp} (ha : RowK true K a u H) : OpS (spCd K) [u] H (Is (.int (AB.gcdL a))) :=
  ops_of (pre := fun (g : List Int) vs H => ∃ x, vs = [x] ∧ RowK true K g x H) (R := fun g => Is (.int (AB.gcdL g))) a ⟨u, rfl, ha⟩
theorem use_crs {K : PySem.W.Frag} {m : Nat} {rows : List (List Int)} {u : V} {H : Hp} (h : RowsL K rows u H) (hl : rows.length = m) (hm : m ≤ 3) (hr : ∀ r, r ∈ rows → r.length = m + 1 ∧ ∀ z, z ∈ r → z.natAbs ≤ 200) : OpS (spCrsA K) [u] H (RowL (AB.crs rows)) :=
  fun H1 e Q q E => ⟨m, ops_of (pre := fun (g : List (List Int)) vs H => ∃ x, vs = [x] ∧ RowsL K g x H ∧ g.length = m ∧ m ≤ 3 ∧ ∀ r, r ∈ g → r.length = m + 1 ∧ ∀ z, z ∈ r → z.natAbs ≤ 200) (R := fun g => RowL (AB.crs g)) rows ⟨u, rfl, h, hl, hm, hr⟩ H1 e Q q E⟩
theorem gv_lst1 {K : PySem.W.Frag} {σ : L2.St} {H : Hp} {te : TE} {i : Int} (h : Gv te σ H (Is (.int i))) : Gv (tLst (tCons te tNil)) σ H (RowL [i]) :=
  gv_lst (gva_1 h) (fun vs H' ⟨u, h1, _⟩ => by subst h1; exact (by decide : 1 ≤ sizeLine)) (fun vs p H' H'' _ ⟨u, h1, h2⟩ _ hp => by subst h1; cases h2; exact ⟨p, rfl, hp⟩) (RowL.mono _)
theorem gv_tupL {K : PySem.W.Frag} {σ : L2.St} {H : Hp} {te : TE} {ns : List Int} (h : Gv te σ H (RowL ns)) : Gv (tCB (fun xs H Q => ∃ p ys, xs = [.ref p] ∧ ((SqL K H p ys ∧ ∀ l, H l = none → Q (.ref l) (upd H l (.tup ys))) ∨ (SqT K H p ys ∧ Q (.ref p) H))) (tCons te tNil)) σ H (RowT ns) :=
  gv_c1 h (fun x H' _ ⟨p, e, hp⟩ H1 e1 Q q => ⟨p, ns.map V.int, by rw [e], .inl ⟨.inl (.inl (e1 _ _ hp)), new_ok (R := RowT ns) e1 (fun p2 H'' _ h2 => ⟨p2, rfl, h2⟩) q⟩⟩) (RowT.mono _)
section
variable {P : Program} {w : World} {K : PySem.W.Frag} {mg : Str → Option Value} {base : Heap}
theorem ok_side {f fT fC fD fG : Addr} {fd fdT fdC fdD fdG : FuncData} {k : Nat} (F : Fun K "side_through" "side_through" sSide f fd) (FT : Fun K "together" "together" sTog fT fdT) (bT : Binds K fdT ["numbers", "point"] []) (gT : mg "together" = some (.ref fT))
    (FC : Fun K "crossing" "crossing" sCrs fC fdC) (bC : Binds K fdC ["rows"] []) (gC : mg "crossing" = some (.ref fC)) (FD : Fun K "direction" "direction" sDir fD fdD) (bD : Binds K fdD ["start", "end"] []) (gD : mg "direction" = some (.ref fD))
    (FG : Fun K "common_divisor" "common_divisor" sCd fG fdG) (bG : Binds K fdG ["numbers"] []) (gG : mg "common_divisor" = some (.ref fG))
    (GC : FnOk P w K mg base CX0 (k + 1) fC fdC ["rows"] (spCrsA K)) (mz : mg "zip" = none) (ms : mg "sum" = none) (ma : mg "abs" = none) (my : mg "any" = none) (mn : mg "min" = none) (mx : mg "max" = none) (mt : mg "tuple" = none) : FnOk P w K mg base CX0 (k + 2) f fd ["few", "points"] (spSide K) := by
  have GT : FnOk P w K mg base CX0 (k + 1) fT fdT ["numbers", "point"] (spTog K) := ok_tog FT mz ms
  have GD : FnOk P w K mg base CX0 (k + 1) fD fdD ["start", "end"] (spDir K) := ok_dir FD mz
  have GG : FnOk P w K mg base CX0 (k + 1) fG fdG ["numbers"] (spCd K) := ok_cd FG ma
  refine F.ok scSide (fun vs H Q E h => ?_) (fun cdv A outer s H vs Q E hr h => ?_)
  · obtain ⟨_, _, _, ⟨x, y, rfl, _⟩, _⟩ := h; rfl
  · obtain ⟨Hk, ⟨n, few, pts⟩, e, ⟨x, y, rfl, rx, ry, hn1, hn4, hlen, hne, hsz, hfew, hpts⟩, q⟩ := h
    refine ⟨_, pss_cons (ps_set (i := 2) scSide.nd rfl (.inr rfl) (pe_call GC hr (by rfl) gC FC.kp bC .nil pass0 (pa_cons
        (pe_lc (own := [("point", 6)]) (g := gName 6) (tt := tYes) (te := tCall (spDir K) [] E0 (tCons (tOp (rIx K) (tVar 0) (tC (.int 0))) (tCons (tVar 6) tNil))) rfl scSide.nd (pi_list (pe_slice sl_list (pv 0) (po_some pe_int) po_none))
          (blkOk_by (own := [("point", 6)]) (N := ["few", "points", "ahead", "bound", "heights", "divisor", "point", "number"]) (sc := defScope sSide) (by decide +kernel))
          (fun _ _ _ _ _ => pg_name (i := 6) scSide.nd rfl (Or.inl rfl) (Or.inr rfl)) (fun _ _ _ _ _ => pts_nil)
          (fun _ _ _ _ _ => pe_call GD hr (by rfl) gD FD.kp bD .nil pass0 (pa_cons (pe_ix ix_seq (pv 0) pe_int (fun _ _ => rfl)) (pa_cons (pv 6) pa_nil)))) pa_nil)))
      (pss_cons (ps_if (pt_not (pt_truth (pe_callB (cr_anyI rfl) (by rfl) my (by decide +kernel) (pa_cons (pv 2) pa_nil)) (by intro _; rfl))) (pss_one (ps_ret (pe_tup pa_nil))) pss_nil)
      (pss_cons (ps_set (i := 3) scSide.nd rfl (.inr rfl) (pe_call GT hr (by rfl) gT FT.kp bT .nil pass0 (pa_cons (pv 2) (pa_cons (pe_ix ix_seq (pv 0) pe_int (fun _ _ => rfl)) pa_nil))))
      (pss_cons (ps_setLc (i := 4) (own := [("point", 6)]) (g := gName 6) (tt := tYes) (te := tOp (rI0 fun i j => .int (i - j)) (tCall (spTog K) [] E0 (tCons (tVar 2) (tCons (tVar 6) tNil))) (tVar 3)) rfl scSide.nd rfl rfl (sw_true rfl rfl rfl (by decide +kernel)) (pi_list (pv 1))
          (blkOk_by (own := [("point", 6)]) (N := ["few", "points", "ahead", "bound", "heights", "divisor", "point", "number"]) (sc := defScope sSide) (by decide +kernel))
          (fun _ _ _ _ _ => pg_name (i := 6) scSide.nd rfl (Or.inl rfl) (Or.inr rfl)) (fun _ _ _ _ _ => pts_nil)
          (fun _ _ _ _ _ => pe_op op_sub (pe_call GT hr (by rfl) gT FT.kp bT .nil pass0 (pa_cons (pv 2) (pa_cons (pv 6) pa_nil))) (pv 3)))
      (pss_cons (ps_if (PW.pt (pw_and (pt_cmpR op_lt (pe_callB (cr_min rfl) (by rfl) mn (by decide +kernel) (pa_cons (pv 4) pa_nil)) pe_int (nomark _)) (pw_and1 (pt_cmpR op_gt (pe_callB (cr_max rfl) (by rfl) mx (by decide +kernel) (pa_cons (pv 4) pa_nil)) pe_int (nomark _))))) (pss_one (ps_ret (pe_tup pa_nil))) pss_nil)
      (pss_cons (ps_set (i := 5) scSide.nd rfl (.inr rfl) (pe_call GG hr (by rfl) gG FG.kp bG .nil pass0 (pa_cons (pe_op op_cat (pv 2) (pe_lst (pa_cons (pv 3) pa_nil))) pa_nil)))
      (pss_cons (ps_if (pt_cmpR op_gt (pe_callB (cr_max rfl) (by rfl) mx (by decide +kernel) (pa_cons (pv 4) pa_nil)) pe_int (nomark _)) (pss_one (ps_set (i := 5) scSide.nd rfl (.inr rfl) (pe_un un_neg (pv 5)))) pss_nil)
      (pss_one (ps_ret (pe_callTy call_tuple_of (by rfl) mt (by decide +kernel) (pa_cons
        (pe_lc (own := [("number", 7)]) (g := gName 7) (tt := tYes) (te := tOp (rI CDivN fun i j => .int (i.fdiv j)) (tVar 7) (tVar 5)) rfl scSide.nd (pi_list (pe_op op_cat (pv 2) (pe_lst (pa_cons (pv 3) pa_nil))))
          (blkOk_by (own := [("number", 7)]) (N := ["few", "points", "ahead", "bound", "heights", "divisor", "point", "number"]) (sc := defScope sSide) (by decide +kernel))
          (fun _ _ _ _ _ => pg_name (i := 7) scSide.nd rfl (Or.inl rfl) (Or.inr rfl)) (fun _ _ _ _ _ => pts_nil)
          (fun _ _ _ _ _ => pe_op op_fdivN (pv 7) (pv 5))) pa_nil)))))))))), ?_⟩
    have kx : ∀ H1, Same H H1 → Rows K few x (vis Hk H H1) := fun H1 e1 => Rows.mono _ _ _ _ (vis_base (Same.trans e e1)) rx
    have ky : ∀ H1, Same H H1 → Rows K pts y (vis Hk H H1) := fun H1 e1 => Rows.mono _ _ _ _ (vis_base (Same.trans e e1)) ry
    cases hf : few with
    | nil => rw [hf] at hlen; have : 0 = n := hlen; omega
    | cons p0 r =>
    subst hf
    have hlr : r.length = n - 1 := by have : r.length + 1 = n := hlen; omega
    have hp0 := hfew p0 (List.mem_cons_self ..)
    have hr' : ∀ s, s ∈ r → s.length = n ∧ ∀ z, z ∈ s → z.natAbs ≤ 100 := fun s hs => hfew s (List.mem_cons_of_mem _ hs)
    have hrows : ∀ s, s ∈ r.map (AB.dirn p0) → s.length = n - 1 + 1 ∧ ∀ z, z ∈ s → z.natAbs ≤ 200 := by
      intro s hs
      obtain ⟨t, ht, rfl⟩ := List.mem_map.mp hs
      refine ⟨by rw [AB.dirn_len hp0.1 (hr' t ht).1]; omega, fun z hz => ?_⟩
      unfold AB.dirn at hz
      obtain ⟨⟨u, v⟩, hp, rfl⟩ := List.mem_map.mp hz
      have := List.of_mem_zip hp
      have e1 := hp0.2 _ this.1
      have e2 := (hr' t ht).2 _ this.2
      show (v - u).natAbs ≤ 200
      omega
    obtain ⟨a, ha⟩ : ∃ a, AB.aheadT (p0 :: r) = a := ⟨_, rfl⟩
    have hac : AB.crs (r.map (AB.dirn p0)) = a := ha
    have hal : a.length = n := by rw [← hac, AB.crs_len, List.length_map]; omega
    have hab : ∀ z, z ∈ a → z.natAbs ≤ db (n - 1) := by rw [← hac]; exact crs_le (by rw [List.length_map]; exact hlr) hrows
    have hdb : db (n - 1) < 2 ^ 30 := db_lt (by omega)
    have has : ∀ z, z ∈ a → Sm 1000 z := fun z hz => (sm_of (hab z hz) hdb).up (by decide)
    have hps : ∀ p, p ∈ pts → p.length = n ∧ ∀ z, z ∈ p → Sm 1000 z := fun p hp => ⟨(hpts p hp).1, fun z hz => (sm_of (n := 7) ((hpts p hp).2 z hz) (by decide)).up (by decide)⟩
    obtain ⟨b, hb⟩ : ∃ b, AB.tog a p0 = b := ⟨_, rfl⟩
    obtain ⟨hs, hhs⟩ : ∃ hs, (pts.map fun p => AB.tog a p - b) = hs := ⟨_, rfl⟩
    have hT : AB.sideT (p0 :: r) pts = if a.all (fun x => decide (x = 0)) then [] else if (hs.any fun x => decide (x < 0)) && (hs.any fun x => decide (0 < x)) then [] else
        (a ++ [b]).map fun x => Int.fdiv x (if hs.any (fun x => decide (0 < x)) then -(AB.gcdL (a ++ [b]) : Int) else (AB.gcdL (a ++ [b]) : Int)) := by
      unfold AB.sideT
      rw [ha, show (p0 :: r).headD [] = p0 from rfl, hb, hhs]
    have hsl : hs.length = pts.length := by rw [← hhs, List.length_map]
    have hpl : 0 < pts.length := List.length_pos_iff.mpr hne
    have hza : a.all (fun x => decide (x = 0)) = !(a.any (· != 0)) := by
      rw [Bool.eq_iff_iff, List.all_eq_true, Bool.not_eq_true', List.any_eq_false]
      constructor
      · intro h z hz; have := of_decide_eq_true (h z hz); simp [this]
      · intro h z hz; have := h z hz; simpa using this
    refine sv_set (Hk := Hk) (R := RowL a) (Same.refl H) ?_ (RowL.mono _) fun va H1 e1 ra => ?_
    · refine gv_call (RL := R1 (RowsL K (r.map (AB.dirn p0)))) (gva_1 (gv_lc r (fun _ => true) (fun s => RowK true K (AB.dirn p0 s)) (fun _ => RowK.mono _) (Nat.lt_of_le_of_lt (by omega : r.length ≤ 10) (by decide)) (src_seqL (RI := Row K) (as := r) ?_ fun _ => Row.mono _) (fun i s x' H' hi e' hy => ?_) (fun p' zs H' e' _ hpz hq => ?_))) (fun vs H' _ hv => ?_) (RowL.mono _)
      · have := gv_slL (lo := some 1) (hi := none) (fun a => Row.mono a) (gv_var (σ := L2.start ["few", "points", "ahead", "bound", "heights", "divisor", "point", "number"] [x, y]) (i := 0) rfl (Rows.mono _) (kx H (Same.refl H))) (tl := tPart (tC (.int 1))) (th := tNoPart) (fun H1 Q _ h => sl_int h) (fun H1 Q _ h => sl_none h)
        rw [cut_from1] at this
        exact this
      · obtain ⟨a', ha', hra⟩ := hy
        rw [hi] at ha'
        cases ha'
        refine ⟨_, tg_name, rfl, gvt_yes, fun _ => ?_⟩
        refine gv_call (RL := R2' (Row K p0) (Row K s)) (gva_2 (gv_ix (k := true) (RI := Row K) (as := p0 :: r) (j := 0) (fun _ => Row.mono _) rfl (gv_var rfl (Rows.mono _) (Rows.mono _ _ _ _ e' (kx H (Same.refl H)))) (gv_c (v := .int 0))) (Row.mono _) (gv_var rfl (Row.mono _) hra) (Row.mono _)) (fun vs H'' _ hv => ?_) (RowK.mono _)
        obtain ⟨u1, u2, rfl, h1, h2⟩ := hv
        exact use_dir h1 h2 (by rw [hp0.1]; omega)
      · rw [filter_true] at hq
        exact ⟨p', zs, rfl, .inl (.inl hpz), Paired.map_left (Paired.imp (fun a y r => RowK.mono _ _ _ _ (mask_le _ _) r) hq)⟩
      · obtain ⟨u, rfl, hR⟩ := hv
        rw [← hac]
        exact use_crs hR (by rw [List.length_map]; exact hlr) (by omega) hrows
    refine sv_if (Hk := Hk) (H := H) (b := !(a.any (· != 0))) (gvt_not (gvt_truth (gv_anyI (gv_var rfl (RowK.mono _) ra.row)) fun v H' _ h H1 e1 => by cases h; rfl)) (fun hz0 H2 e2 => ?_) (fun hz0 H2 e2 => ?_)
    · refine sv_ret (Hk := Hk) (R := RowT []) (Same.trans e1 e2) (gv_tup0 fun p H' _ hp => ⟨p, rfl, hp⟩) (RowT.mono _) fun v H3 e3 rv => q _ _ (Same.trans e1 (Same.trans e2 e3)) ?_
      show RowT (AB.sideT (p0 :: r) pts) _ _
      rw [hT, if_pos (by rw [hza]; exact hz0)]; exact rv
    have ht1 : ¬ a.all (fun x => decide (x = 0)) = true := by rw [hza, hz0]; exact Bool.false_ne_true
    rw [if_neg ht1] at hT
    have E2 := Same.trans e1 e2
    have ra2 := up_know (RowL.mono _) e2 ra
    refine sv_set (Hk := Hk) (R := IsI b) E2 (gv_call (RL := R2' (RowL a) (Row K p0)) (gva_2 (gv_var rfl (RowL.mono _) ra2) (RowL.mono _) (gv_ix (k := true) (RI := Row K) (as := p0 :: r) (j := 0) (fun _ => Row.mono _) rfl (gv_var rfl (Rows.mono _) (kx H2 E2)) (gv_c (v := .int 0))) (Row.mono _)) (fun vs H' _ ⟨u1, u2, hu, h1, h2⟩ => by
      subst hu
      rw [← hb]
      exact use_tog ⟨true, h1.row⟩ h2 (by rw [hal, hp0.1]) (by rw [hal]; omega) has (fun z hz => (sm_of (n := 7) (hp0.2 z hz) (by decide)).up (by decide))) (Is.mono _)) (Is.mono _) fun vb H3 e3 rb => ?_
    cases rb
    have E3 := Same.trans E2 e3
    have ra3 := up_know (RowL.mono _) e3 ra2
    refine sv_set (Hk := Hk) (R := RowL hs) E3 ?_ (RowL.mono _) fun vh H4 e4 rh => ?_
    · refine gv_lc pts (fun _ => true) (fun p => Is (.int (AB.tog a p - b))) (fun _ => Is.mono _) (Nat.lt_trans hsz (by decide)) (src_seqL (RI := Row K) (as := pts) (gv_var rfl (Rows.mono _) (ky H3 E3)) fun _ => Row.mono _) (fun i s x' H' hi e' hy => ?_) (fun p' zs H' e' _ hpz hq => ?_)
      · obtain ⟨a', ha', hra⟩ := hy
        rw [hi] at ha'
        cases ha'
        have hps := hps s (List.mem_of_getElem? hi)
        refine ⟨_, tg_name, rfl, gvt_yes, fun _ => gv_ii (gv_call (RL := R2' (RowL a) (Row K s)) (gva_2 (gv_var rfl (RowL.mono _) (RowL.mono _ _ _ _ e' ra3)) (RowL.mono _) (gv_var rfl (Row.mono _) hra) (Row.mono _)) (fun vs H'' _ hv => ?_) (Is.mono _)) (gv_v rfl) fun _ => i0⟩
        obtain ⟨u1, u2, rfl, h1, h2⟩ := hv
        exact use_tog ⟨true, h1.row⟩ h2 (by rw [hal, hps.1]) (by rw [hal]; omega) has hps.2
      · rw [filter_true] at hq
        rw [← hhs]
        exact (lst_map hpz hq).rowL
    have E4 := Same.trans E3 e4
    have ra4 := up_know (RowL.mono _) e4 ra3
    refine sv_if (Hk := Hk) (H := H) (gvt_and (a := hs.any fun x => decide (x < 0)) (b := hs.any fun x => decide (0 < x)) (gvt_test (gv_op (gv_min (K := K) (ns := hs) (by omega) (gv_var rfl (RowK.mono _) rh.row)) (RMin.mono _) gv_c (Is.mono _) (fun x y H' _ ⟨m, hx, hm⟩ hy => by cases hx; cases hy; rw [← min_any hm]; exact i0) (Is.mono _)))
      fun _ => gvt_test (gv_op (gv_max (K := K) (ns := hs) (by omega) (gv_var rfl (RowK.mono _) rh.row)) (RMax.mono _) gv_c (Is.mono _) (fun x y H' _ ⟨m, hx, hm⟩ hy => by cases hx; cases hy; rw [← max_any hm]; exact i0) (Is.mono _))) (fun hz H5 e5 => ?_) (fun hz H5 e5 => ?_)
    · refine sv_ret (Hk := Hk) (R := RowT []) (Same.trans E4 e5) (gv_tup0 fun p H' _ hp => ⟨p, rfl, hp⟩) (RowT.mono _) fun v H6 e6 rv => q _ _ (Same.trans E4 (Same.trans e5 e6)) ?_
      show RowT (AB.sideT (p0 :: r) pts) _ _
      rw [hT, if_pos hz]; exact rv
    rw [if_neg (by rw [hz]; exact Bool.false_ne_true)] at hT
    have E5 := Same.trans E4 e5
    have ra5 := up_know (RowL.mono _) e5 ra4
    have rh5 := up_know (RowL.mono _) e5 rh
    have hcat : a.length + [b].length ≤ sizeLine := by rw [hal]; exact Nat.le_trans (by show n + 1 ≤ 10; omega) (by decide)
    refine sv_set (Hk := Hk) (R := IsI (AB.gcdL (a ++ [b]) : Int)) E5 (gv_call (RL := R1 (RowL (a ++ [b]))) (gva_1 (gv_cat (gv_var rfl (RowL.mono _) ra5) (gv_lst1 (K := K) (gv_v rfl)) hcat)) (fun vs H' _ ⟨u, hu, hR⟩ => by subst hu; exact use_cd hR.row) (Is.mono _)) (Is.mono _) fun vg H6 e6 rg => ?_
    cases rg
    have E6 := Same.trans E5 e6
    have ra6 := up_know (RowL.mono _) e6 ra5
    have rh6 := up_know (RowL.mono _) e6 rh5
    obtain ⟨z0, hz0, hzn⟩ : ∃ z, z ∈ a ∧ z ≠ 0 := by
      have : a.any (· != 0) = true := by simpa using hz0
      obtain ⟨z, h1, h2⟩ := List.any_eq_true.mp this
      exact ⟨z, h1, by simpa using h2⟩
    have hz0' : z0 ∈ a ++ [b] := List.mem_append_left _ hz0
    have hgp : 0 < AB.gcdL (a ++ [b]) := AB.gcdL_pos hz0' hzn
    have hgl : AB.gcdL (a ++ [b]) < 2 ^ 30 := by
      have h1 := AB.gcdL_dvd hz0'
      have h2 : AB.gcdL (a ++ [b]) ≤ z0.natAbs := Nat.le_of_dvd (Int.natAbs_pos.mpr hzn) (by have h3 := Int.natAbs_dvd_natAbs.mpr h1; rwa [Int.natAbs_natCast] at h3)
      exact Nat.lt_of_le_of_lt (Nat.le_trans h2 (hab z0 hz0)) hdb
    have fin : ∀ (dv : Int), (dv = (AB.gcdL (a ++ [b]) : Int) ∨ dv = -(AB.gcdL (a ++ [b]) : Int)) → ∀ H7, RowL a va (vis Hk H H7) → Gv (tLc (iList K (tOp rCat (tVar 2) (tLst (tCons (tVar 3) tNil)))) (gName 7) tYes (tOp (rI CDivN fun i j => .int (i.fdiv j)) (tVar 7) (tVar 5)) [7]) [some x, some y, some va, some (.int b), some vh, some (.int dv), none, none] (vis Hk H H7) (RowL ((a ++ [b]).map fun x => Int.fdiv x dv)) := by
      intro dv hdv H7 ra7
      refine gv_lc (a ++ [b]) (fun _ => true) (fun z => Is (.int (Int.fdiv z dv))) (fun _ => Is.mono _) (by rw [List.length_append]; exact Nat.lt_of_le_of_lt (by show a.length + 1 ≤ 10; omega) (by decide)) (src_seqL (RI := IsI) (as := a ++ [b]) ((gv_cat (gv_var rfl (RowL.mono _) ra7) (gv_lst1 (K := K) (gv_v rfl)) hcat).imp fun v H' _ h => RowK.seq h.row) fun _ => Is.mono _) (fun i s x' H' hi e' hy => ?_) (fun p' zs H' e' _ hpz hq => ?_)
      · obtain ⟨a', ha', hra⟩ := hy
        rw [hi] at ha'
        cases ha'
        cases hra
        refine ⟨_, tg_name, rfl, gvt_yes, fun _ => gv_ii (gv_v rfl) (gv_v rfl) fun _ => iC ?_⟩
        show dv ≠ 0 ∧ _
        rcases hdv with rfl | rfl
        · exact ⟨by omega, by rw [Int.natAbs_natCast]; exact hgl⟩
        · exact ⟨by omega, by rw [Int.natAbs_neg, Int.natAbs_natCast]; exact hgl⟩
      · rw [filter_true] at hq
        exact (lst_map hpz hq).rowL
    refine sv_if (Hk := Hk) (H := H) (b := hs.any fun x => decide (0 < x)) (gvt_test (gv_op (gv_max (K := K) (ns := hs) (by omega) (gv_var rfl (RowK.mono _) rh6.row)) (RMax.mono _) gv_c (Is.mono _) (fun x y H' _ ⟨m, hx, hm⟩ hy => by cases hx; cases hy; rw [← max_any hm]; exact i0) (Is.mono _))) (fun hw H7 e7 => ?_) (fun hw H7 e7 => ?_)
    · have E7 := Same.trans E6 e7
      refine ⟨_, rfl, _, rfl, ?_⟩
      refine sv_ret (Hk := Hk) (R := RowT _) E7 (gv_tupL (fin _ (.inr rfl) H7 (up_know (RowL.mono _) e7 ra6))) (RowT.mono _) fun v H8 e8 rv => q _ _ (Same.trans E7 e8) ?_
      show RowT (AB.sideT (p0 :: r) pts) _ _
      rw [hT, if_pos hw]; exact rv
    · have E7 := Same.trans E6 e7
      refine sv_ret (Hk := Hk) (R := RowT _) E7 (gv_tupL (fin _ (.inl rfl) H7 (up_know (RowL.mono _) e7 ra6))) (RowT.mono _) fun v H8 e8 rv => q _ _ (Same.trans E7 e8) ?_
      show RowT (AB.sideT (p0 :: r) pts) _ _
      rw [hT, if_neg (by rw [hw]; exact Bool.false_ne_true)]; exact rv
end
end Ab

set_option Elab.async false
set_option linter.all false
set_option maxRecDepth 100000
set_option maxHeartbeats 2000000
namespace Ab
open PySem PySem.Spec PyProof.Rows L2
theorem scOb : FnScope ["side", "point"] ["side", "point"] (defScope sOb) := ⟨rfl, rfl, rfl, by decide +kernel, rfl, by decide +kernel, by decide +kernel⟩
theorem scNo : FnScope ["side", "corners", "number", "corner"] ["side", "corners"] (defScope sNo) := ⟨rfl, rfl, rfl, by decide +kernel, rfl, by decide +kernel, by decide +kernel⟩
theorem scCor : FnScope ["point", "sides", "ahead", "side"] ["point", "sides"] (defScope sCor) := ⟨rfl, rfl, rfl, by decide +kernel, rfl, by decide +kernel, by decide +kernel⟩
theorem scPt : FnScope ["n", "numbers", "number"] ["n", "numbers"] (defScope sPt) := ⟨rfl, rfl, rfl, by decide +kernel, rfl, by decide +kernel, by decide +kernel⟩
theorem scRef : FnScope ["n", "points", "point"] ["n", "points"] (defScope sRef) := ⟨rfl, rfl, rfl, by decide +kernel, rfl, by decide +kernel, by decide +kernel⟩
/-- all but the last, the last -/
theorem sIx_last {n d : Nat} : HT.sIx (n + 1) d (some (-1)) = n := by
  show (if (-1 : Int) < 0 then ((-1 : Int) + ((n + 1 : Nat) : Int)).toNat else min (-1 : Int).toNat (n + 1)) = n
  rw [if_pos (by decide)]
  omega
theorem cut_init {α : Type} (xs : List α) (h : xs ≠ []) : cutG xs none (some (-1)) = xs.take (xs.length - 1) := by
  obtain ⟨n, hn⟩ : ∃ n, xs.length = n + 1 := ⟨xs.length - 1, by have := List.length_pos_iff.mpr h; omega⟩
  unfold cutG
  rw [hn, sIx_last, HT.sIx_none]
  simp
section
variable {K : PySem.W.Frag} {σ : L2.St} {H : Hp} {ta tb te : TE}
theorem gv_slT {as : List Int} {tl th : TO} {lo hi : Option Int} (nw : ¬ (HT.sIx as.length 0 lo = 0 ∧ HT.sIx as.length as.length hi = as.length)) (ha : Gv ta σ H (RowK false K as)) (hl : ∀ H1, ∀ Q : Option Int → Hp → Prop, Same H H1 → Q lo H1 → tl σ H1 Q) (hh : ∀ H1, ∀ Q : Option Int → Hp → Prop, Same H H1 → Q hi H1 → th σ H1 Q) :
    Gv (tSl (rSlT K) ta tl th) σ H (RowT (cutG as lo hi)) :=
  gv_sl ha hl hh (fun x H' _ ⟨p, ep, hs⟩ H1 e1 Q q => ⟨p, _, ep, sq_same (k := false) e1 hs, by rw [List.length_map]; exact nw, new_ok e1 (fun p2 H'' e2 h2 => ⟨p2, rfl, by
    rw [h2]
    have : cutV (as.map V.int) lo hi = (cutG as lo hi).map V.int := by
      unfold cutV cutG
      simp [List.map_take, List.map_drop]
    rw [this]⟩) q⟩) (RowT.mono _)
theorem gv_init {n : Nat} {as : List Int} (h : as.length = n + 1) (ha : Gv ta σ H (RowK false K as)) : Gv (tSl (rSlT K) ta tNoPart (tPart (tUn (rU fun i => .int (-i)) (tC (.int 1))))) σ H (RowT (as.take (as.length - 1))) := by
  have := gv_slT (lo := none) (hi := some (-1)) (tl := tNoPart) (th := tPart (tUn (rU fun i => .int (-i)) (tC (.int 1)))) (by rw [h, sIx_last]; omega) ha (fun H1 Q _ h => sl_none h) (fun H1 Q _ h => ⟨1, rfl, _, rfl, h⟩)
  rwa [cut_init as (by intro q; rw [q] at h; cases h)] at this
theorem gv_last {n : Nat} {as : List Int} (h : as.length = n + 1) (ha : Gv ta σ H (RowK false K as)) : Gv (tOp (rIx K) ta (tUn (rU fun i => .int (-i)) (tC (.int 1)))) σ H (Is (.int (as.getD (as.length - 1) 0))) := by
  refine gv_op (RB := IsI (-1)) ha (RowK.mono _) (fun H1 e Q q => ⟨1, rfl, q _ _ (Same.refl _) rfl⟩) (Is.mono _) (fun x y H' _ hx hy => ?_) (Is.mono _)
  cases hy
  obtain ⟨p, rfl, hs⟩ := hx
  refine op2_val fun H1 e Q q => .inr (.inl ⟨p, _, _, _, rfl, rfl, sq_same (k := false) e hs, ?_, q⟩)
  obtain ⟨bs, b, rfl⟩ : ∃ bs b, as = bs ++ [b] := ⟨as.dropLast, as.getLast (by intro q; rw [q] at h; cases h), (List.dropLast_concat_getLast _).symm⟩
  rw [List.map_append]
  have : (bs ++ [b]).getD ((bs ++ [b]).length - 1) 0 = b := by
    rw [List.getD_eq_getElem?_getD]
    simp
  rw [this]
  exact atI_last _ _
end
theorem RowT.k {K : PySem.W.Frag} {ns : List Int} {v : V} {H : Hp} (h : RowT ns v H) : RowK false K ns v H := by
  obtain ⟨p, rfl, h⟩ := h
  exact ⟨p, rfl, .inl (.inl h)⟩
section
variable {P : Program} {w : World} {K : PySem.W.Frag} {mg : Str → Option Value} {base : Heap}
/-! ### is_on_bound -/
def preOb (K : PySem.W.Frag) : List Int × List Int → List V → Hp → Prop := fun g vs H => ∃ x y, vs = [x, y] ∧ RowK false K g.1 x H ∧ Row K g.2 y H ∧ g.1.length = g.2.length + 1 ∧ g.2.length < 900 ∧ (∀ z, z ∈ g.1 → Sm 1000 z) ∧ ∀ z, z ∈ g.2 → Sm 1000 z
def spOb (K : PySem.W.Frag) : Sp := spG (preOb K) fun g => Is (.bl (AB.tightT g.1 g.2))
theorem use_ob {K : PySem.W.Frag} {a b : List Int} {u v : V} {H : Hp} (ha : RowK false K a u H) (hb : Row K b v H) (hl : a.length = b.length + 1) (h4 : b.length < 900) (s1 : ∀ z, z ∈ a → Sm 1000 z) (s2 : ∀ z, z ∈ b → Sm 1000 z) : OpS (spOb K) [u, v] H (Is (.bl (AB.tightT a b))) :=
  ops_of (pre := preOb K) (R := fun g => Is (.bl (AB.tightT g.1 g.2))) (a, b) ⟨u, v, rfl, ha, hb, hl, h4, s1, s2⟩
theorem ok_ob {f fT : Addr} {fd fdT : FuncData} {k : Nat} (F : Fun K "is_on_bound" "is_on_bound" sOb f fd) (FT : Fun K "together" "together" sTog fT fdT) (bT : Binds K fdT ["numbers", "point"] []) (gT : mg "together" = some (.ref fT)) (mz : mg "zip" = none) (ms : mg "sum" = none) : FnOk P w K mg base CX0 (k + 2) f fd ["side", "point"] (spOb K) := by
  have GT : FnOk P w K mg base CX0 (k + 1) fT fdT ["numbers", "point"] (spTog K) := ok_tog FT mz ms
  refine F.ok scOb (fun vs H Q E h => ?_) (fun cdv A outer s H vs Q E hr h => ?_)
  · obtain ⟨_, _, _, ⟨x, y, rfl, _⟩, _⟩ := h; rfl
  · obtain ⟨Hk, ⟨a, b⟩, e, ⟨x, y, rfl, rx, ry, hl, h4, s1, s2⟩, q⟩ := h
    have hl : a.length = b.length + 1 := hl
    have h4 : b.length < 900 := h4
    refine ⟨_, pss_one (ps_ret (pe_cmpR op_eq (pe_call GT hr (by rfl) gT FT.kp bT .nil pass0 (pa_cons (pe_slice sl_tup (pv 0) po_none (po_some (pe_un un_neg pe_int))) (pa_cons (pv 1) pa_nil))) (pe_ix ix_seq (pv 0) (pe_un un_neg pe_int) (fun _ _ => rfl)) (nomark _))), ?_⟩
    refine ret_of (R := Is (.bl (AB.tightT a b))) (gv_op (gv_call (RL := R2' (RowT (a.take (a.length - 1))) (Row K b)) (gva_2 (gv_init hl (gv_var rfl (RowK.mono _) rx)) (RowT.mono _) (gv_var rfl (Row.mono _) ry) (Row.mono _)) (fun vs H' _ hv => ?_) (Is.mono (.int (AB.tog (a.take (a.length - 1)) b)))) (Is.mono _) (gv_last hl (gv_var rfl (RowK.mono _) rx)) (Is.mono _) (fun u v H' _ hu hv => ?_) (Is.mono _)) e fun v H2 e2 hv => q v H2 e2 hv
    · obtain ⟨u1, u2, rfl, h1, h2⟩ := hv
      have l1 : (a.take (a.length - 1)).length = b.length := by rw [List.length_take]; omega
      exact use_tog h1.row h2 l1 (by omega) (fun z hz => s1 z (List.mem_of_mem_take hz)) s2
    · cases hu
      cases hv
      have := oEq (x := .int (AB.tog (a.take (a.length - 1)) b)) (y := .int (a.getD (a.length - 1) 0)) (H := H') rfl
      have e1 : decide (V.int (AB.tog (a.take (a.length - 1)) b) = V.int (a.getD (a.length - 1) 0)) = AB.tightT a b := by
        unfold AB.tightT
        rw [Bool.eq_iff_iff, decide_eq_true_iff, decide_eq_true_iff]
        exact ⟨fun h => V.int.inj h, fun h => congrArg V.int h⟩
      rw [e1] at this
      exact this
/-! ### numbers_on -/
/-- numbers of corners, as they stand in a row -/
def nmI (f : List Nat) : List Int := f.map fun (i : Nat) => (i : Int)
def numT (side : List Int) (cs : List (List Int)) : List Nat := (List.range cs.length).filter fun i => AB.tightT side (cs.getD i [])
def preNo (K : PySem.W.Frag) : List Int × List (List Int) → List V → Hp → Prop := fun g vs H => ∃ x y, vs = [x, y] ∧ RowK false K g.1 x H ∧ Rows K g.2 y H ∧ g.2.length < 10000 ∧ (∀ z, z ∈ g.1 → Sm 1000 z) ∧ ∀ p, p ∈ g.2 → g.1.length = p.length + 1 ∧ p.length < 900 ∧ ∀ z, z ∈ p → Sm 1000 z
def spNo (K : PySem.W.Frag) : Sp := spG (preNo K) fun g => RowT (nmI (numT g.1 g.2))
theorem ok_no {f fT fO : Addr} {fd fdT fdO : FuncData} {k : Nat} (F : Fun K "numbers_on" "numbers_on" sNo f fd) (FO : Fun K "is_on_bound" "is_on_bound" sOb fO fdO) (bO : Binds K fdO ["side", "point"] []) (gO : mg "is_on_bound" = some (.ref fO)) (FT : Fun K "together" "together" sTog fT fdT) (bT : Binds K fdT ["numbers", "point"] []) (gT : mg "together" = some (.ref fT)) (mz : mg "zip" = none) (ms : mg "sum" = none) (me : mg "enumerate" = none) (mt : mg "tuple" = none) : FnOk P w K mg base CX0 (k + 3) f fd ["side", "corners"] (spNo K) := by
  have GO : FnOk P w K mg base CX0 (k + 2) fO fdO ["side", "point"] (spOb K) := ok_ob FO FT bT gT mz ms
  refine F.ok scNo (fun vs H Q E h => ?_) (fun cdv A outer s H vs Q E hr h => ?_)
  · obtain ⟨_, _, _, ⟨x, y, rfl, _⟩, _⟩ := h; rfl
  · obtain ⟨Hk, ⟨a, cs⟩, e, ⟨x, y, rfl, rx, ry, hl, s1, s2⟩, q⟩ := h
    refine ⟨_, pss_one (ps_ret (pe_callTy call_tuple_of (by rfl) mt (by decide +kernel) (pa_cons
      (pe_lc (own := [("number", 2), ("corner", 3)]) (g := gTup K 2 (gCons (gName 2) (gCons (gName 3) gNil))) (tt := tB (tCall (spOb K) [] E0 (tCons (tVar 0) (tCons (tVar 3) tNil)))) (te := tVar 2) rfl scNo.nd (pi_en (by rfl) me (pa_cons (pv 1) pa_nil))
        (blkOk_by (own := [("number", 2), ("corner", 3)]) (N := ["side", "corners", "number", "corner"]) (sc := defScope sNo) (by decide +kernel))
        (fun _ _ _ _ _ => pg_tup rfl (pgs_cons (pg_name (i := 2) scNo.nd rfl (Or.inl rfl) (Or.inr rfl)) (pgs_cons (pg_name (i := 3) scNo.nd rfl (Or.inl rfl) (Or.inr rfl)) pgs_nil)))
        (fun _ _ _ _ _ => pts_one (pt_val (pe_call GO hr (by rfl) gO FO.kp bO .nil pass0 (pa_cons (pv 0) (pa_cons (pv 3) pa_nil)))))
        (fun _ _ _ _ _ => pv 2)) pa_nil))), ?_⟩
    refine ret_of (R := RowT (nmI (numT a cs))) (gv_tupL (gv_lc (List.range cs.length) (fun i => AB.tightT a (cs.getD i [])) (fun i => Is (.int (i : Nat))) (fun _ => Is.mono _) (by rw [List.length_range]; exact Nat.lt_trans hl (by decide))
        (by rw [List.length_range]; exact src_en (RA := Row K) (as := cs) (fun H1 e1 Q1 q1 => gva_1 (gv_var (i := 1) rfl (Rows.mono _) ry) H1 e1 Q1 fun vs H2 e2 ⟨u, h1, h2⟩ => q1 vs H2 e2 ⟨true, u, h1, h2⟩) fun _ => Row.mono _) (fun i j x' H' hi e' hy => ?_) (fun p' zs H' e' _ hpz hq => ?_))) e fun v H2 e2 hv => q v H2 e2 hv
    · obtain ⟨c, hc, T, u1, u2, rfl, hT, h1, h2⟩ := hy
      have hj : j = i := by
        have := List.getElem?_eq_some_iff.mp hi
        obtain ⟨h3, h4⟩ := this
        rw [List.getElem_range] at h4
        exact h4.symm
      subst hj
      have hg : cs.getD j [] = c := by rw [List.getD_eq_getElem?_getD, hc]; rfl
      have s2 := s2 c (List.mem_of_getElem? hc)
      refine ⟨_, tg_pair hT, rfl, ?_, fun _ => ?_⟩
      · rw [hg]
        refine gvt_B (gv_call (RL := R2' (RowK false K a) (Row K c)) (gva_2 (gv_var rfl (RowK.mono _) (RowK.mono _ _ _ _ e' rx)) (RowK.mono _) (gv_var rfl (Row.mono _) h2) (Row.mono _)) (fun vs H'' _ hv => ?_) (Is.mono _))
        obtain ⟨v1, v2, rfl, g1, g2⟩ := hv
        exact use_ob g1 g2 s2.1 s2.2.1 s1 s2.2.2
      · exact gv_var rfl (Is.mono _) h1
    · exact (lst_map (f := fun (i : Nat) => (i : Int)) hpz hq).rowL
end
end Ab

set_option Elab.async false
set_option linter.all false
set_option maxRecDepth 100000
set_option maxHeartbeats 2000000
namespace Ab
open PySem PySem.Spec PyProof.Rows L2
abbrev RowsT (K : PySem.W.Frag) (rs : List (List Int)) : Rel := SeqR true K (RowK false K) rs
theorem RowsT.mono {K : PySem.W.Frag} (rs : List (List Int)) : Mono (RowsT K rs) := SeqR.mono (fun _ => RowK.mono _) rs
theorem SeqR.imp {k : Bool} {K : PySem.W.Frag} {α : Type} {R R' : α → Rel} (h : ∀ a v H, R a v H → R' a v H) {as : List α} {v : V} {H : Hp} (s : SeqR k K R as v H) : SeqR k K R' as v H := by
  obtain ⟨p, ys, e, hs, hp⟩ := s
  exact ⟨p, ys, e, hs, Paired.imp (fun a y r => h a y _ r) hp⟩
theorem RowsT.rows {K : PySem.W.Frag} {rs : List (List Int)} {v : V} {H : Hp} (h : RowsT K rs v H) : Rows K rs v H := SeqR.imp (fun _ _ _ r => ⟨false, r⟩) h
theorem RowsL.rows {K : PySem.W.Frag} {rs : List (List Int)} {v : V} {H : Hp} (h : RowsL K rs v H) : Rows K rs v H := SeqR.imp (fun _ _ _ r => ⟨true, r⟩) h
theorem use_hmf {K : PySem.W.Frag} {n : Nat} {rows : List (List Int)} {u : V} {H : Hp} (h : Rows K rows u H) (hn : n ≤ 4) (hl : rows.length < 20000) (hr : ∀ r, r ∈ rows → r.length = n ∧ ∀ z, z ∈ r → Sm 40 z) : OpS (spHmf K) [u] H (Is (.int (AB.hmf rows.length rows : Int))) :=
  ops_of (pre := fun (g : Nat × List (List Int)) vs H => ∃ x, vs = [x] ∧ Rows K g.2 x H ∧ g.1 ≤ 4 ∧ g.2.length < 20000 ∧ ∀ r, r ∈ g.2 → r.length = g.1 ∧ ∀ z, z ∈ r → Sm 40 z) (R := fun g => Is (.int (AB.hmf g.2.length g.2 : Int))) (n, rows) ⟨u, rfl, h, hn, hl, hr⟩
theorem use_dims {K : PySem.W.Frag} {n : Nat} {rows : List (List Int)} {u : V} {H : Hp} (h : Rows K rows u H) (hn : n ≤ 4) (hl : rows.length < 1000) (hr : ∀ r, r ∈ rows → r.length = n ∧ ∀ z, z ∈ r → Sm 39 z) : OpS (spDims K) [u] H (Is (.int (AB.dimsT rows))) :=
  ops_of (pre := fun (g : Nat × List (List Int)) vs H => ∃ x, vs = [x] ∧ Rows K g.2 x H ∧ g.1 ≤ 4 ∧ g.2.length < 1000 ∧ ∀ r, r ∈ g.2 → r.length = g.1 ∧ ∀ z, z ∈ r → Sm 39 z) (R := fun g => Is (.int (AB.dimsT g.2))) (n, rows) ⟨u, rfl, h, hn, hl, hr⟩
theorem int_eq (a b : Int) : decide (V.int a = V.int b) = decide (a = b) := by
  rw [Bool.eq_iff_iff, decide_eq_true_iff, decide_eq_true_iff]
  exact ⟨fun h => V.int.inj h, fun h => congrArg V.int h⟩
theorem lst_rows {K : PySem.W.Frag} {α : Type} {R : α → Rel} {items : List α} {p : Addr} {ys : List V} {H : Hp} (mR : ∀ a, Mono (R a)) (h : H p = some (.lst ys)) (q : Paired (fun a y => R a y (mask p H)) items ys) : SeqR true K R items (.ref p) H :=
  ⟨p, ys, rfl, .inl (.inl h), Paired.imp (fun a y r => mR a _ _ _ (mask_le _ _) r) q⟩
theorem seq_map {k : Bool} {K : PySem.W.Frag} {α β : Type} {R : β → Rel} {g : α → β} {items : List α} {v : V} {H : Hp} (h : SeqR k K (fun a => R (g a)) items v H) : SeqR k K R (items.map g) v H := by
  obtain ⟨p, ys, e, hs, hp⟩ := h
  exact ⟨p, ys, e, hs, Paired.map_left hp⟩
theorem gv_any_len {K : PySem.W.Frag} {σ : L2.St} {H : Hp} {ta : TE} {as : List Int} (ha : Gv ta σ H (Row K as)) : Gv (tCB (fun xs H Q => ∃ x n, xs = [x] ∧ LenV K x H n ∧ Q (.int n) H) (tCons ta tNil)) σ H (Is (.int (as.length : Int))) :=
  gv_c1 ha (fun x H' _ ⟨k, hx⟩ => opC_val fun H1 e Q q => by
    obtain ⟨p, rfl, hs⟩ := hx
    refine ⟨_, as.length, rfl, ?_, q⟩
    cases k
    · exact .inr ⟨_, sq_same (k := false) e hs, by rw [List.length_map]⟩
    · exact .inl ⟨_, sq_same (k := true) e hs, by rw [List.length_map]⟩) (Is.mono _)
section
variable {P : Program} {w : World} {K : PySem.W.Frag} {mg : Str → Option Value} {base : Heap}
/-! ### is_corner -/
def preCor (K : PySem.W.Frag) : List Int × List (List Int) → List V → Hp → Prop := fun g vs H => ∃ x y, vs = [x, y] ∧ Row K g.1 x H ∧ RowsT K g.2 y H ∧ g.1.length ≤ 4 ∧ g.2.length < 20000 ∧ (∀ z, z ∈ g.1 → Sm 1000 z) ∧ ∀ t, t ∈ g.2 → t.length = g.1.length + 1 ∧ ∀ z, z ∈ t → Sm 40 z
def spCor (K : PySem.W.Frag) : Sp := spG (preCor K) fun g => Is (.bl (AB.cornT g.2 g.1))
theorem use_cor {K : PySem.W.Frag} {p : List Int} {sides : List (List Int)} {u v : V} {H : Hp} (h1 : Row K p u H) (h2 : RowsT K sides v H) (h3 : p.length ≤ 4) (h4 : sides.length < 20000) (s1 : ∀ z, z ∈ p → Sm 1000 z) (s2 : ∀ t, t ∈ sides → t.length = p.length + 1 ∧ ∀ z, z ∈ t → Sm 40 z) : OpS (spCor K) [u, v] H (Is (.bl (AB.cornT sides p))) :=
  ops_of (pre := preCor K) (R := fun g => Is (.bl (AB.cornT g.2 g.1))) (p, sides) ⟨u, v, rfl, h1, h2, h3, h4, s1, s2⟩
theorem ok_cor {f fH fO : Addr} {fd fdH fdO : FuncData} {k : Nat} (F : Fun K "is_corner" "is_corner" sCor f fd) (FO : Fun K "is_on_bound" "is_on_bound" sOb fO fdO) (bO : Binds K fdO ["side", "point"] []) (gO : mg "is_on_bound" = some (.ref fO)) (GO : FnOk P w K mg base CX0 k fO fdO ["side", "point"] (spOb K))
    (FH : Fun K "how_many_free" "how_many_free" sHmf fH fdH) (bH : Binds K fdH ["directions"] []) (gH : mg "how_many_free" = some (.ref fH)) (GH : FnOk P w K mg base CX0 k fH fdH ["directions"] (spHmf K)) (ml : mg "len" = none) : FnOk P w K mg base CX0 (k + 1) f fd ["point", "sides"] (spCor K) := by
  refine F.ok scCor (fun vs H Q E h => ?_) (fun cdv A outer s H vs Q E hr h => ?_)
  · obtain ⟨_, _, _, ⟨x, y, rfl, _⟩, _⟩ := h; rfl
  · obtain ⟨Hk, ⟨p, ts⟩, e, ⟨x, y, rfl, rx, ry, hl, h4, s1, s2⟩, q⟩ := h
    have hl : p.length ≤ 4 := hl
    have h4 : ts.length < 20000 := h4
    refine ⟨_, pss_cons (ps_setLc (i := 2) (own := [("side", 3)]) (g := gName 3) (tt := tB (tCall (spOb K) [] E0 (tCons (tVar 3) (tCons (tVar 0) tNil)))) (te := tSl (rSlT K) (tVar 3) tNoPart (tPart (tUn (rU fun i => .int (-i)) (tC (.int 1))))) rfl scCor.nd rfl rfl (sw_true rfl rfl rfl (by decide +kernel)) (pi_list (pv 1))
          (blkOk_by (own := [("side", 3)]) (N := ["point", "sides", "ahead", "side"]) (sc := defScope sCor) (by decide +kernel))
          (fun _ _ _ _ _ => pg_name (i := 3) scCor.nd rfl (Or.inl rfl) (Or.inr rfl)) (fun _ _ _ _ _ => pts_one (pt_val (pe_call GO hr (by rfl) gO FO.kp bO .nil pass0 (pa_cons (pv 3) (pa_cons (pv 0) pa_nil)))))
          (fun _ _ _ _ _ => pe_slice sl_tup (pv 3) po_none (po_some (pe_un un_neg pe_int))))
      (pss_one (ps_ret (pe_cmpR op_eq (pe_call GH hr (by rfl) gH FH.kp bH .nil pass0 (pa_cons (pv 2) pa_nil)) (pe_callB call_len (by rfl) ml (by decide +kernel) (pa_cons (pv 0) pa_nil)) (nomark _)))), ?_⟩
    have ey : vis Hk H H = Hk := vis_self Hk H e
    refine sv_set (Hk := Hk) (R := Rows K (AB.normals ts p)) (Same.refl H) ?_ (Rows.mono _) fun va H1 e1 ra => ?_
    · rw [ey]
      refine gv_lc ts (fun t => AB.tightT t p) (fun t => Row K (t.take (t.length - 1))) (fun _ => Row.mono _) (Nat.lt_trans h4 (by decide)) (src_seqL (RI := RowK false K) (as := ts) (gv_var rfl (RowsT.mono _) ry) fun _ => RowK.mono _) (fun i t x' H' hi e' hy => ?_) (fun p' zs H' e' _ hpz hq => seq_map (lst_rows (fun _ => Row.mono _) hpz hq))
      obtain ⟨a', ha', hra⟩ := hy
      rw [hi] at ha'
      cases ha'
      have s2 := s2 t (List.mem_of_getElem? hi)
      have hl2 : t.length = p.length + 1 := s2.1
      refine ⟨_, tg_name, rfl, gvt_B (gv_call (RL := R2' (RowK false K t) (Row K p)) (gva_2 (gv_var rfl (RowK.mono _) hra) (RowK.mono _) (gv_var rfl (Row.mono _) (Row.mono _ _ _ _ e' rx)) (Row.mono _)) (fun vs H'' _ hv => ?_) (Is.mono _)), fun _ => (gv_init hl2 (gv_var rfl (RowK.mono _) hra)).imp fun v H' _ h => h.row⟩
      obtain ⟨v1, v2, rfl, g1, g2⟩ := hv
      exact use_ob g1 g2 hl2 (by omega) (fun z hz => (s2.2 z hz).up (by decide)) s1
    · have hN : ∀ r, r ∈ AB.normals ts p → r.length = p.length ∧ ∀ z, z ∈ r → Sm 40 z := by
        intro r hr
        unfold AB.normals at hr
        obtain ⟨t, ht, rfl⟩ := List.mem_map.mp hr
        have s2 := s2 t (List.mem_filter.mp ht).1
        exact ⟨by rw [List.length_take, s2.1]; exact Nat.min_eq_left (by show p.length + 1 - 1 ≤ p.length + 1; omega) |>.trans (by show p.length + 1 - 1 = p.length; omega), fun z hz => s2.2 z (List.mem_of_mem_take hz)⟩
      have hNl : (AB.normals ts p).length < 20000 := by
        unfold AB.normals
        rw [List.length_map]
        exact Nat.lt_of_le_of_lt (List.length_filter_le _ _) h4
      refine sv_ret (Hk := Hk) (R := Is (.bl (AB.cornT ts p))) e1 (gv_op (gv_call (RL := R1 (Rows K (AB.normals ts p))) (gva_1 (gv_var rfl (Rows.mono _) ra)) (fun vs H' _ ⟨u, hu, hR⟩ => by subst hu; exact use_hmf hR hl hNl hN) (Is.mono _)) (Is.mono _) (gv_any_len (gv_var rfl (Row.mono _) (Row.mono _ _ _ _ (vis_base (Same.trans e e1)) rx))) (Is.mono _) (fun u v H' _ hu hv => ?_) (Is.mono _)) (Is.mono _) fun v H2 e2 hv => q v H2 (Same.trans e1 e2) hv
      cases hu
      cases hv
      have := oEq (x := .int ((AB.hmf (AB.normals ts p).length (AB.normals ts p) : Nat) : Int)) (y := .int (p.length : Int)) (H := H') rfl
      have e1 : decide (V.int ((AB.hmf (AB.normals ts p).length (AB.normals ts p) : Nat) : Int) = V.int (p.length : Int)) = AB.cornT ts p := by
        rw [int_eq]
        unfold AB.cornT
        rw [Bool.eq_iff_iff, decide_eq_true_iff, decide_eq_true_iff]
        omega
      rw [e1] at this
      exact this
/-! ### is_point -/
def prePt (K : PySem.W.Frag) : Int × List Int → List V → Hp → Prop := fun g vs H => ∃ y, vs = [.int g.1, y] ∧ RowK true K g.2 y H ∧ g.1 ≤ 4
def spPt (K : PySem.W.Frag) : Sp := spG (prePt K) fun g => Is (.bl (AB.isPt g.1 g.2))
theorem use_pt {K : PySem.W.Frag} {n : Int} {p : List Int} {v : V} {H : Hp} (h1 : RowK true K p v H) (hn : n ≤ 4) : OpS (spPt K) [.int n, v] H (Is (.bl (AB.isPt n p))) :=
  ops_of (pre := prePt K) (R := fun g => Is (.bl (AB.isPt g.1 g.2))) (n, p) ⟨v, rfl, h1, hn⟩
/-- a list of bools -/
def BlsL (bs : List Bool) : Rel := fun v H => ∃ p, v = .ref p ∧ H p = some (.lst (bs.map V.bl))
theorem BlsL.mono (bs : List Bool) : Mono (BlsL bs) := by
  rintro v H H' e ⟨p, rfl, h⟩
  exact ⟨p, rfl, e _ _ h⟩
theorem lst_bls {α : Type} {f : α → Bool} {items : List α} {p : Addr} {ys : List V} {H : Hp} (h : H p = some (.lst ys)) (q : Paired (fun a y => Is (.bl (f a)) y (mask p H)) items ys) : BlsL (items.map f) (.ref p) H := by
  refine ⟨p, rfl, ?_⟩
  rw [h, Paired.map_is (f := fun a => V.bl (f a)) q, List.map_map]; rfl
theorem gv_all {K : PySem.W.Frag} {σ : L2.St} {H : Hp} {ta : TE} {bs : List Bool} (ha : Gv ta σ H (BlsL bs)) : Gv (tCB (rAll K) (tCons ta tNil)) σ H (Is (.bl (bs.all id))) :=
  gv_c1 ha (fun x H' _ ⟨p, e, h⟩ => opC_val fun H1 e1 Q q => ⟨p, bs, by rw [e], .inl (.inl (e1 _ _ h)), q⟩) (Is.mono _)
theorem gv_neg {σ : L2.St} {H : Hp} {i : Int} : Gv (tUn (rU fun i => .int (-i)) (tC (.int i))) σ H (Is (.int (-i))) := fun H1 e Q q => ⟨i, rfl, q _ _ (Same.refl _) rfl⟩
theorem ok_pt {f : Addr} {fd : FuncData} {k : Nat} (F : Fun K "is_point" "is_point" sPt f fd) (ml : mg "len" = none) (ma : mg "all" = none) : FnOk P w K mg base CX0 (k + 1) f fd ["n", "numbers"] (spPt K) := by
  refine F.ok scPt (fun vs H Q E h => ?_) (fun cdv A outer s H vs Q E hr h => ?_)
  · obtain ⟨_, _, _, ⟨y, rfl, _⟩, _⟩ := h; rfl
  · obtain ⟨Hk, ⟨n, ns⟩, e, ⟨y, rfl, ry, hn⟩, q⟩ := h
    have hn : n ≤ 4 := hn
    refine ⟨_, pss_one (ps_ret (pe_and (pe_cmpR op_eq (pe_callB call_len (by rfl) ml (by decide +kernel) (pa_cons (pv 1) pa_nil)) (pv 0) (nomark _)) (pe_one (pe_callB (cr_all rfl) (by rfl) ma (by decide +kernel) (pa_cons
      (pe_lc (own := [("number", 2)]) (g := gName 2) (tt := tYes) (te := tChain (rI0 fun i j => .bl (decide (i ≤ j))) (rI0 fun i j => .bl (decide (i ≤ j))) (tUn (rU fun i => .int (-i)) (tC (.int 100))) (tVar 2) (tC (.int 100))) rfl scPt.nd (pi_list (pv 1))
        (blkOk_by (own := [("number", 2)]) (N := ["n", "numbers", "number"]) (sc := defScope sPt) (by decide +kernel))
        (fun _ _ _ _ _ => pg_name (i := 2) scPt.nd rfl (Or.inl rfl) (Or.inr rfl)) (fun _ _ _ _ _ => pts_nil)
        (fun _ _ _ _ _ => pe_chain op_le op_le (pe_un un_neg pe_int) (pv 2) pe_int)) pa_nil))))), ?_⟩
    have e1 : decide (V.int (ns.length : Int) = V.int n) = decide ((ns.length : Int) = n) := int_eq _ _
    have h1 := oEq (x := .int (ns.length : Int)) (y := .int n) (H := Hk) rfl
    refine ret_of (R := Is (.bl (AB.isPt n ns))) (gv_andV (a := decide ((ns.length : Int) = n)) (gv_ii (gv_any_len ((gv_var rfl (RowK.mono _) ry).imp fun v H' _ h => ⟨true, h⟩)) (gv_v rfl) fun H' => by rw [← e1]; exact oEq rfl) (b := ns.all fun z => decide (-100 ≤ z) && decide (z ≤ 100)) fun hl => ?_) e fun v H2 e2 hv => q v H2 e2 hv
    have hl : (ns.length : Int) = n := of_decide_eq_true hl
    have ee : (ns.all fun z => decide (-100 ≤ z) && decide (z ≤ 100)) = (ns.map fun z => decide (-100 ≤ z) && decide (z ≤ 100)).all id := by rw [List.all_map]; rfl
    rw [ee]
    refine gv_all (gv_lc ns (fun _ => true) (fun z => Is (.bl (decide (-100 ≤ z) && decide (z ≤ 100)))) (fun _ => Is.mono _) (Nat.lt_of_le_of_lt (by omega : ns.length ≤ 4) (by decide)) (src_seqL (RI := IsI) (as := ns) ((gv_var rfl (RowK.mono _) ry).imp fun v H' _ h => RowK.seq h) fun _ => Is.mono _) (fun i z x' H' hi e' hy => ?_) (fun p' zs H' e' _ hpz hq => ?_))
    · obtain ⟨a', ha', hra⟩ := hy
      rw [hi] at ha'
      cases ha'
      cases hra
      exact ⟨_, tg_name, rfl, gvt_yes, fun _ => gv_chain gv_neg (gv_v rfl) gv_c i0 i0⟩
    · rw [filter_true] at hq
      exact lst_bls hpz hq
/-! ### refusal_of_points -/
def preRef (K : PySem.W.Frag) : Int × List (List Int) → List V → Hp → Prop := fun g vs H => ∃ y, vs = [.int g.1, y] ∧ RowsL K g.2 y H
def spRef (K : PySem.W.Frag) : Sp := spG (preRef K) fun g => Is (.int (AB.refT g.1 g.2))
theorem use_ref {K : PySem.W.Frag} {n : Int} {pts : List (List Int)} {v : V} {H : Hp} (h1 : RowsL K pts v H) : OpS (spRef K) [.int n, v] H (Is (.int (AB.refT n pts))) :=
  ops_of (pre := preRef K) (R := fun g => Is (.int (AB.refT g.1 g.2))) (n, pts) ⟨v, rfl, h1⟩
theorem isPt_of {n : Int} {p : List Int} (h : AB.isPt n p = true) : (p.length : Int) = n ∧ ∀ z, z ∈ p → z.natAbs ≤ 100 := by
  unfold AB.isPt at h
  rw [Bool.and_eq_true] at h
  refine ⟨of_decide_eq_true h.1, fun z hz => ?_⟩
  have := List.all_eq_true.mp h.2 z hz
  rw [Bool.and_eq_true] at this
  have h1 := of_decide_eq_true this.1
  have h2 := of_decide_eq_true this.2
  omega
theorem ok_ref {f fP fD : Addr} {fd fdP fdD : FuncData} {k : Nat} (F : Fun K "refusal_of_points" "refusal_of_points" sRef f fd) (FP : Fun K "is_point" "is_point" sPt fP fdP) (bP : Binds K fdP ["n", "numbers"] []) (gP : mg "is_point" = some (.ref fP))
    (FD : Fun K "dimensions_of" "dimensions_of" sDims fD fdD) (bD : Binds K fdD ["points"] []) (gD : mg "dimensions_of" = some (.ref fD)) (GD : FnOk P w K mg base CX0 (k + 1) fD fdD ["points"] (spDims K)) (ml : mg "len" = none) (ma : mg "all" = none) : FnOk P w K mg base CX0 (k + 2) f fd ["n", "points"] (spRef K) := by
  have GP : FnOk P w K mg base CX0 (k + 1) fP fdP ["n", "numbers"] (spPt K) := ok_pt FP ml ma
  refine F.ok scRef (fun vs H Q E h => ?_) (fun cdv A outer s H vs Q E hr h => ?_)
  · obtain ⟨_, _, _, ⟨y, rfl, _⟩, _⟩ := h; rfl
  · obtain ⟨Hk, ⟨n, pts⟩, e, ⟨y, rfl, ry⟩, q⟩ := h
    have q : ∀ v H2, Same H H2 → v = V.int (AB.refT n pts) → Q v H2 := fun v H2 e2 h => q v H2 e2 h
    refine ⟨_, pss_cons (ps_if (PW.pt (pw_or (pt_cmpR op_lt (pv 0) pe_int (nomark _)) (pw_or1 (pt_cmpR op_gt (pv 0) pe_int (nomark _))))) (pss_one (ps_ret (pe_un un_neg pe_int))) pss_nil)
      (pss_cons (ps_if (PW.pt (pw_or (pt_cmpR op_lt (pe_callB call_len (by rfl) ml (by decide +kernel) (pa_cons (pv 1) pa_nil)) pe_int (nomark _)) (pw_or1 (pt_cmpR op_gt (pe_callB call_len (by rfl) ml (by decide +kernel) (pa_cons (pv 1) pa_nil)) pe_int (nomark _))))) (pss_one (ps_ret (pe_un un_neg pe_int))) pss_nil)
      (pss_cons (ps_if (pt_not (pt_truth (pe_callB (cr_all rfl) (by rfl) ma (by decide +kernel) (pa_cons
          (pe_lc (own := [("point", 2)]) (g := gName 2) (tt := tYes) (te := tCall (spPt K) [] E0 (tCons (tVar 0) (tCons (tVar 2) tNil))) rfl scRef.nd (pi_list (pv 1))
            (blkOk_by (own := [("point", 2)]) (N := ["n", "points", "point"]) (sc := defScope sRef) (by decide +kernel))
            (fun _ _ _ _ _ => pg_name (i := 2) scRef.nd rfl (Or.inl rfl) (Or.inr rfl)) (fun _ _ _ _ _ => pts_nil)
            (fun _ _ _ _ _ => pe_call GP hr (by rfl) gP FP.kp bP .nil pass0 (pa_cons (pv 0) (pa_cons (pv 2) pa_nil)))) pa_nil)) (by intro _; rfl))) (pss_one (ps_ret (pe_un un_neg pe_int))) pss_nil)
      (pss_cons (ps_if (pt_cmpR op_lt (pe_call GD hr (by rfl) gD FD.kp bD .nil pass0 (pa_cons (pv 1) pa_nil)) (pv 0) (nomark _)) (pss_one (ps_ret (pe_un un_neg pe_int))) pss_nil)
      (pss_one (ps_ret pe_int))))), ?_⟩
    have ky : ∀ H1, Same H H1 → RowsL K pts y (vis Hk H H1) := fun H1 e1 => RowsL.mono _ _ _ _ (vis_base (Same.trans e e1)) ry
    have gl : ∀ H1, Same H H1 → Gv (tCB (fun xs H Q => ∃ x n, xs = [x] ∧ LenV K x H n ∧ Q (.int n) H) (tCons (tVar 1) tNil)) [some (V.int n), some y, none] (vis Hk H H1) (Is (.int (pts.length : Int))) := fun H1 e1 => gv_len (gv_var rfl (RowsL.mono _) (ky H1 e1))
    refine sv_if (Hk := Hk) (H := H) (b := decide (n < 2) || decide (4 < n)) (gvt_or (gvt_test (gv_ii (gv_v rfl) gv_c fun _ => i0)) fun _ => gvt_test (gv_ii (gv_v rfl) gv_c fun _ => i0)) (fun hz H1 e1 => ?_) (fun hz H1 e1 => ?_)
    · refine sv_ret (Hk := Hk) e1 gv_neg (Is.mono _) fun v H2 e2 hv => q v H2 (Same.trans e1 e2) ?_
      rw [hv]
      unfold AB.refT
      rw [if_pos (by simpa using hz)]
    have hn : ¬ (n < 2 ∨ 4 < n) := by simpa using hz
    refine sv_if (Hk := Hk) (H := H) (b := decide ((pts.length : Int) < 1) || decide (10 < (pts.length : Int))) (gvt_or (gvt_test (gv_ii (gl H1 e1) gv_c fun _ => i0)) fun _ => gvt_test (gv_ii (gl H1 e1) gv_c fun _ => i0)) (fun hz H2 e2 => ?_) (fun hz H2 e2 => ?_)
    · refine sv_ret (Hk := Hk) (Same.trans e1 e2) gv_neg (Is.mono _) fun v H3 e3 hv => q v H3 (Same.trans e1 (Same.trans e2 e3)) ?_
      rw [hv]
      unfold AB.refT
      rw [if_neg hn, if_pos (by have : (pts.length : Int) < 1 ∨ 10 < (pts.length : Int) := by simpa using hz
                                omega)]
    have hm : ¬ (pts.length < 1 ∨ 10 < pts.length) := by
      have : ¬ ((pts.length : Int) < 1 ∨ 10 < (pts.length : Int)) := by simpa using hz
      omega
    have E2 := Same.trans e1 e2
    refine sv_if (Hk := Hk) (H := H) (b := !(pts.map (AB.isPt n)).all id) (gvt_not (gvt_truth (gv_all (bs := pts.map (AB.isPt n)) (gv_lc pts (fun _ => true) (fun p => Is (.bl (AB.isPt n p))) (fun _ => Is.mono _) (Nat.lt_of_le_of_lt (by omega : pts.length ≤ 10) (by decide)) (src_seqL (RI := RowK true K) (as := pts) (gv_var rfl (RowsL.mono _) (ky H2 E2)) fun _ => RowK.mono _) (fun i p x' H' hi e' hy => ?_) (fun p' zs H' e' _ hpz hq => ?_))) fun v H' _ h H1 e1 => by cases h; rfl)) (fun hz H3 e3 => ?_) (fun hz H3 e3 => ?_)
    · obtain ⟨a', ha', hra⟩ := hy
      rw [hi] at ha'
      cases ha'
      refine ⟨_, tg_name, rfl, gvt_yes, fun _ => gv_call (RL := R2' (IsI n) (RowK true K p)) (gva_2 (gv_v rfl) (Is.mono _) (gv_var rfl (RowK.mono _) hra) (RowK.mono _)) (fun vs H'' _ hv => ?_) (Is.mono _)⟩
      obtain ⟨u1, u2, rfl, h1, h2⟩ := hv
      cases h1
      exact use_pt h2 (by omega)
    · rw [filter_true] at hq
      exact lst_bls hpz hq
    · refine sv_ret (Hk := Hk) (Same.trans E2 e3) gv_neg (Is.mono _) fun v H4 e4 hv => q v H4 (Same.trans E2 (Same.trans e3 e4)) ?_
      rw [hv]
      unfold AB.refT
      rw [if_neg hn, if_neg hm, if_pos (by rw [List.all_map] at hz; simpa using hz)]
    have ha : pts.all (AB.isPt n) = true := by rw [List.all_map] at hz; simpa using hz
    have hps : ∀ p, p ∈ pts → p.length = n.toNat ∧ ∀ z, z ∈ p → Sm 39 z := fun p hp => by
      have := isPt_of (List.all_eq_true.mp ha p hp)
      exact ⟨by omega, fun z hz => (sm_of (n := 7) (this.2 z hz) (by decide)).up (by decide)⟩
    have E3 := Same.trans E2 e3
    refine sv_if (Hk := Hk) (H := H) (b := decide (AB.dimsT pts < n)) (gvt_test (gv_ii (gv_call (RL := R1 (Rows K pts)) (gva_1 ((gv_var rfl (RowsL.mono _) (ky H3 E3)).imp fun v H' _ h => RowsL.rows h)) (fun vs H' _ ⟨u, hu, hR⟩ => by subst hu; exact use_dims hR (n := n.toNat) (by omega) (by omega) hps) (Is.mono _)) (gv_v rfl) fun _ => i0)) (fun hz H4 e4 => ?_) (fun hz H4 e4 => ?_)
    · refine sv_ret (Hk := Hk) (Same.trans E3 e4) gv_neg (Is.mono _) fun v H5 e5 hv => q v H5 (Same.trans E3 (Same.trans e4 e5)) ?_
      rw [hv]
      unfold AB.refT
      rw [if_neg hn, if_neg hm, if_neg (by rw [ha]; exact fun h => Bool.false_ne_true h.symm), if_pos (of_decide_eq_true hz)]
    · refine sv_ret (Hk := Hk) (Same.trans E3 e4) gv_c (Is.mono _) fun v H5 e5 hv => q v H5 (Same.trans E3 (Same.trans e4 e5)) ?_
      rw [hv]
      unfold AB.refT
      rw [if_neg hn, if_neg hm, if_neg (by rw [ha]; exact fun h => Bool.false_ne_true h.symm), if_neg (of_decide_eq_false hz)]
end
end Ab

set_option Elab.async false
set_option linter.all false
set_option maxRecDepth 100000
set_option maxHeartbeats 2000000
namespace Ab
open PySem PySem.Spec PyProof.Rows L2
theorem scRc : FnScope ["how_many", "size", "rows", "step", "longer", "row", "first", "number"] ["how_many", "size"] (defScope sRc) := ⟨rfl, rfl, rfl, by decide +kernel, rfl, by decide +kernel, by decide +kernel⟩
/-! ### rising rows -/
def nxt (r : List Nat) : Nat := match r.getLast? with
  | none => 0
  | some i => i + 1
def ext1 (m : Nat) (r : List Nat) : List (List Nat) := (List.range (m - nxt r)).map fun i => r ++ [nxt r + i]
def chT (m : Nat) : Nat → List (List Nat)
  | 0 => [[]]
  | k + 1 => (chT m k).flatMap (ext1 m)
theorem ext1_len (m : Nat) (r : List Nat) : (ext1 m r).length ≤ m := by
  unfold ext1
  rw [List.length_map, List.length_range]; omega
theorem flat_len {α β : Type} {f : α → List β} {m : Nat} (h : ∀ a, (f a).length ≤ m) : ∀ l : List α, (l.flatMap f).length ≤ l.length * m
  | [] => by simp
  | a :: l => by
    rw [List.flatMap_cons, List.length_append, List.length_cons, Nat.add_mul]
    have := flat_len h l
    have := h a
    omega
theorem chT_len (m : Nat) : ∀ k, (chT m k).length ≤ m ^ k
  | 0 => Nat.le_refl _
  | k + 1 => Nat.le_trans (flat_len (ext1_len m) (chT m k)) (by rw [Nat.pow_succ]; exact Nat.mul_le_mul_right _ (chT_len m k))
theorem chT_small {m k : Nat} (hm : m ≤ 10) (hk : k ≤ 4) : m ^ k ≤ 10000 := Nat.le_trans (Nat.pow_le_pow_left hm k) (by
  match k, hk with
  | 0, _ => decide
  | 1, _ => decide
  | 2, _ => decide
  | 3, _ => decide
  | 4, _ => decide)
/-- each of a row is below -/
theorem chT_row {m : Nat} : ∀ {k : Nat} {r : List Nat}, r ∈ chT m k → r.length = k ∧ r.Pairwise (· < ·) ∧ (∀ i, i ∈ r → i < nxt r) ∧ ∀ i, i ∈ r → i < m
  | 0, r, h => by
    have : r = [] := by simpa [chT] using h
    subst this
    exact ⟨rfl, .nil, (fun _ h => by cases h), (fun _ h => by cases h)⟩
  | k + 1, r, h => by
    obtain ⟨s, hs, hr⟩ := List.mem_flatMap.mp h
    obtain ⟨i, hi, rfl⟩ := List.mem_map.mp hr
    have hi := List.mem_range.mp hi
    obtain ⟨h1, h2, h3, h4⟩ := chT_row hs
    have en : nxt (s ++ [nxt s + i]) = nxt s + i + 1 := by unfold nxt; rw [List.getLast?_concat]
    refine ⟨by simp [h1], ?_, fun j hj => ?_, fun j hj => ?_⟩
    · rw [List.pairwise_append]
      refine ⟨h2, List.pairwise_singleton _ _, fun a ha b hb => ?_⟩
      have := h3 a ha
      rw [List.mem_singleton.mp hb]; omega
    · rw [en]
      rcases List.mem_append.mp hj with z | z
      · have := h3 j z; omega
      · rw [List.mem_singleton.mp z]; omega
    · rcases List.mem_append.mp hj with z | z
      · exact h4 j z
      · rw [List.mem_singleton.mp z]; omega
theorem chT_all {m : Nat} : ∀ {k : Nat} {r : List Nat}, r.length = k → r.Pairwise (· < ·) → (∀ i, i ∈ r → i < m) → r ∈ chT m k
  | 0, r, h, _, _ => by
    have : r = [] := List.length_eq_zero_iff.mp h
    subst this
    exact List.mem_singleton.mpr rfl
  | k + 1, r, h, hp, hm => by
    obtain ⟨s, i, rfl⟩ : ∃ s i, r = s ++ [i] := ⟨r.dropLast, r.getLast (by intro q; rw [q] at h; cases h), (List.dropLast_concat_getLast _).symm⟩
    rw [List.pairwise_append] at hp
    have hi := hm i (List.mem_append_right _ (List.mem_singleton.mpr rfl))
    have hn : nxt s ≤ i := by
      unfold nxt
      cases q : s.getLast? with
      | none => exact Nat.zero_le _
      | some j => exact hp.2.2 j (List.mem_of_getLast? q) i (List.mem_singleton.mpr rfl)
    refine List.mem_flatMap.mpr ⟨s, chT_all (by simpa using h) hp.1 fun j hj => hm j (List.mem_append_left _ hj), ?_⟩
    exact List.mem_map.mpr ⟨i - nxt s, List.mem_range.mpr (by omega), by rw [show nxt s + (i - nxt s) = i by omega]⟩
/-- the rows of points that are chosen: all there are -/
theorem chT_sub {pts few : List (List Int)} {n : Nat} : few ∈ ((chT pts.length n).map fun r => r.map fun i => pts.getD i []) ↔ few.Sublist pts ∧ few.length = n := by
  rw [List.mem_map]
  constructor
  · rintro ⟨r, hr, rfl⟩
    obtain ⟨h1, h2, _, h4⟩ := chT_row hr
    refine ⟨?_, by rw [List.length_map]; exact h1⟩
    have : ∀ (r : List Nat), r.Pairwise (· < ·) → (∀ i, i ∈ r → i < pts.length) → ∃ is : List (Fin pts.length), is.map (fun i => i.val) = r ∧ is.Pairwise (· < ·) := by
      intro r
      induction r with
      | nil => exact fun _ _ => ⟨[], rfl, .nil⟩
      | cons i r ih =>
        intro hp hm
        obtain ⟨is, e1, e2⟩ := ih (List.pairwise_cons.mp hp).2 fun j hj => hm j (List.mem_cons_of_mem _ hj)
        refine ⟨⟨i, hm i (List.mem_cons_self ..)⟩ :: is, by rw [List.map_cons, e1], List.pairwise_cons.mpr ⟨fun j hj => ?_, e2⟩⟩
        have : j.val ∈ r := by rw [← e1]; exact List.mem_map_of_mem (f := fun (i : Fin pts.length) => i.val) hj
        exact (List.pairwise_cons.mp hp).1 _ this
    obtain ⟨is, e1, e2⟩ := this r h2 h4
    rw [← e1, List.map_map]
    have e3 : (is.map ((fun i => pts.getD i []) ∘ fun (i : Fin pts.length) => i.val)) = is.map fun i => pts[i] := by
      apply List.map_congr_left
      intro i _
      show pts.getD i.val [] = pts[i.val]
      rw [List.getD_eq_getElem?_getD, List.getElem?_eq_getElem i.isLt]; rfl
    rw [e3]
    exact List.map_getElem_sublist e2
  · rintro ⟨h1, h2⟩
    obtain ⟨is, e1, e2⟩ := List.sublist_eq_map_getElem h1
    refine ⟨is.map fun i => i.val, chT_all (by rw [List.length_map, ← h2, e1, List.length_map]) ?_ ?_, ?_⟩
    · exact List.pairwise_map.mpr e2
    · intro i hi
      obtain ⟨j, _, rfl⟩ := List.mem_map.mp hi
      exact j.isLt
    · rw [List.map_map, e1]
      apply List.map_congr_left
      intro i _
      show pts.getD i.val [] = pts[i.val]
      rw [List.getD_eq_getElem?_getD, List.getElem?_eq_getElem i.isLt]; rfl
/-- xs.extend(e), xs at l one's own, e a list of what RE says -/
theorem st_ext {K : PySem.W.Frag} {σ : L2.St} {te : TE} {α : Type} {RE : α → Rel} {as : List α} {D : Ends} {i : Nat} {l : Addr} {xs : List V} {M H1 : Hp} (hi : σ[i]? = some (some (.ref l))) (hl : H1 l = some (.lst xs)) (hz : xs.length + as.length ≤ sizeLine) (hM : Same M H1)
    (h : Gv te σ M (LstN RE as)) (k : ∀ b zs H2, Same H1 H2 → vis M H1 H2 b = some (.lst zs) → Paired (fun a y => RE a y (mask b (vis M H1 H2))) as zs → D.nx σ (upd H2 l (.lst (xs ++ zs)))) :
    tDrop (tBM K "list" rExtend (tVar i) (tCons te tNil)) D σ H1 :=
  ⟨.ref l, hi, .inl ⟨rfl, xs, .inl (.inl hl)⟩, h H1 hM _ fun v H2 e2 ⟨b, zs, e, hb, hp⟩ => ⟨l, b, xs, zs, rfl, by rw [e], e2 _ _ hl, vis_le _ _ _ _ _ hb, by rw [← Paired.length hp]; exact hz, k b zs H2 e2 hb hp⟩⟩
theorem lst_n {α : Type} {R : α → Rel} {items : List α} {p : Addr} {ys : List V} {H : Hp} (h : H p = some (.lst ys)) (q : Paired (fun a y => R a y (mask p H)) items ys) : LstN R items (.ref p) H := ⟨p, ys, rfl, h, q⟩
theorem nmI_app (r : List Nat) (i : Nat) : nmI (r ++ [i]) = nmI r ++ [(i : Int)] := by unfold nmI; rw [List.map_append]; rfl
theorem gv_lastL {K : PySem.W.Frag} {σ : L2.St} {H : Hp} {ta : TE} {bs : List Int} {b : Int} (ha : Gv ta σ H (RowL (bs ++ [b]))) : Gv (tOp (rIx K) ta (tUn (rU fun i => .int (-i)) (tC (.int 1)))) σ H (Is (.int b)) := by
  refine gv_op (RB := IsI (-1)) ha (RowL.mono _) (fun H1 e Q q => ⟨1, rfl, q _ _ (Same.refl _) rfl⟩) (Is.mono _) (fun x y H' _ hx hy => ?_) (Is.mono _)
  cases hy
  obtain ⟨p, rfl, hs⟩ := hx
  refine op2_val fun H1 e Q q => .inl ⟨p, _, _, _, rfl, rfl, .inl (.inl (e _ _ hs)), ?_, q⟩
  rw [List.map_append]
  exact atI_last _ _
theorem last_split {α : Type} {r : List α} {a : α} (h : r.getLast? = some a) : ∃ s, r = s ++ [a] := by
  have ne : r ≠ [] := by intro q; rw [q] at h; cases h
  rw [List.getLast?_eq_some_getLast ne] at h
  refine ⟨r.dropLast, ?_⟩
  rw [← Option.some.inj h]
  exact (List.dropLast_concat_getLast ne).symm
section
variable {P : Program} {w : World} {K : PySem.W.Frag} {mg : Str → Option Value} {base : Heap}
abbrev RowsN (K : PySem.W.Frag) (rs : List (List Nat)) : Rel := SeqR true K (fun r => RowL (nmI r)) rs
theorem RowsN.mono {K : PySem.W.Frag} (rs : List (List Nat)) : Mono (RowsN K rs) := SeqR.mono (fun _ => RowL.mono _) rs
def preRc : Nat × Nat → List V → Hp → Prop := fun g vs _ => vs = [.int g.1, .int g.2] ∧ g.1 ≤ 10 ∧ g.2 ≤ 4
def spRc (K : PySem.W.Frag) : Sp := spG preRc fun g => RowsN K (chT g.1 g.2)
theorem use_rc {K : PySem.W.Frag} {m n : Nat} {H : Hp} (hm : m ≤ 10) (hn : n ≤ 4) : OpS (spRc K) [.int m, .int n] H (RowsN K (chT m n)) :=
  ops_of (pre := preRc) (R := fun g => RowsN K (chT g.1 g.2)) (m, n) ⟨rfl, hm, hn⟩
theorem ok_rc {f : Addr} {fd : FuncData} {k : Nat} (F : Fun K "rising_choices" "rising_choices" sRc f fd) (mr : mg "range" = none) : FnOk P w K mg base CX0 (k + 1) f fd ["how_many", "size"] (spRc K) := by
  refine F.ok scRc (fun vs H Q E h => ?_) (fun cdv A outer s H vs Q E hr h => ?_)
  · obtain ⟨_, _, _, ⟨rfl, _⟩, _⟩ := h; rfl
  · obtain ⟨Hk, ⟨m, n⟩, e, ⟨rfl, hm, hn⟩, q⟩ := h
    have hm : m ≤ 10 := hm
    have hn : n ≤ 4 := hn
    refine ⟨_, pss_cons (ps_set (i := 2) scRc.nd rfl (.inl rfl) (pe_lst (pa_cons (pe_lst pa_nil) pa_nil)))
      (pss_cons (ps_for PassesOwn.never rfl (pi_range1 (by rfl) mr (pa_cons (pv 1) pa_nil)) (pg_name (i := 3) scRc.nd rfl (Or.inl rfl))
        (pss_cons (ps_set (i := 4) scRc.nd rfl (.inl rfl) (pe_lst pa_nil))
        (pss_cons (ps_for PassesOwn.never rfl (pi_list (pv 2)) (pg_name (i := 5) scRc.nd rfl (Or.inr rfl))
          (pss_cons (ps_set (i := 6) scRc.nd rfl (.inl rfl) (pe_ifExp (pt_truth (pv 5) (by intro _; rfl)) (pe_op op_add (pe_ix ix_seq (pv 5) (pe_un un_neg pe_int) (fun _ _ => rfl)) pe_int) pe_int))
          (pss_one (ps_expr (pe_bm PySem.F.plainAttrs_list PySem.F.slot_list_extend PySem.F.type_list_extend mt_extend (pv 4) (pa_cons
            (pe_lc (own := [("number", 7)]) (g := gName 7) (tt := tYes) (te := tOp rCat (tVar 5) (tLst (tCons (tVar 7) tNil))) rfl scRc.nd (pi_range2 (by rfl) mr (pa_cons (pv 6) (pa_cons (pv 0) pa_nil)))
              (blkOk_by (own := [("number", 7)]) (N := ["how_many", "size", "rows", "step", "longer", "row", "first", "number"]) (sc := defScope sRc) (by decide +kernel))
              (fun _ _ _ _ _ => pg_name (i := 7) scRc.nd rfl (Or.inl rfl) (Or.inr rfl)) (fun _ _ _ _ _ => pts_nil)
              (fun _ _ _ _ _ => pe_op op_cat (pv 5) (pe_lst (pa_cons (pv 7) pa_nil)))) pa_nil))))))
        (pss_one (ps_set (i := 2) scRc.nd rfl (.inl rfl) (pv 4))))))
      (pss_one (ps_ret (pv 2)))), ?_⟩
    have ey : vis Hk H H = Hk := vis_self Hk H e
    refine sv_set (Hk := Hk) (R := RowsN K (chT m 0)) (Same.refl H) (gv_lst (gva_1 (gv_lst0 (R := RowL []) fun p H' _ hp => ⟨p, rfl, hp⟩)) (fun vs H' ⟨u, h1, _⟩ => by subst h1; exact (by decide : 1 ≤ sizeLine)) (fun vs p H' H'' _ ⟨u, h1, h2⟩ e2 hp => by subst h1; exact ⟨p, [u], rfl, .inl (.inl hp), .cons (RowL.mono _ _ _ _ e2 h2) .nil⟩) (RowsN.mono _)) (RowsN.mono _) fun v1 H1 e1 r1 => ?_
    refine seq_for (Hk := vis Hk H H1) (n := n) (by
        have := src_r1 (σ := [some (.int m), some (.int n), some v1, none, none, none, none, none]) (H := vis Hk H H1) (ta := tCons (tVar 1) tNil) (j := (n : Int)) (fun H1 e1 Q1 q1 => gva_1 (gv_v rfl) H1 e1 Q1 fun vs H2 e2 ⟨u, h1, h2⟩ => q1 vs H2 e2 (by subst h1; rw [h2])) (by omega)
        rwa [Int.toNat_natCast] at this) (vis_le _ _ _)
      (fun V2 i σ' H' => (∃ v y3 y4 y5 y6 y7, σ' = [some (.int m), some (.int n), some v, y3, y4, y5, y6, y7] ∧ RowsN K (chT m i) v (vis Hk H H')) ∧ Same H H' ∧ Same V2 H')
      (fun H2 e2 => ⟨⟨v1, _, _, _, _, _, rfl, up_know (RowsN.mono _) e2 r1⟩, Same.trans e1 e2, vis_le _ _ _⟩) (fun V2 i σ' H' p => p.2.2) (fun V2 i x' σ' H' H'' eV hi p e12 y => ?_) (fun V2 σ' H' eV p => ?_)
    · obtain ⟨⟨v, y3, y4, y5, y6, y7, rfl, rv⟩, p1, p2⟩ := p
      have y : x' = .int (i : Int) := y
      subst y
      refine tgt_name (seq_new fun L hL => ?_)
      have sH : Same H H'' := Same.trans p1 e12
      have hHL : H L = none := none_of sH hL
      refine seq_for (Hk := vis Hk H H'') (src_seqL (RI := fun r => RowL (nmI r)) (as := chT m i) (gv_var rfl (RowsN.mono _) (up_know (RowsN.mono _) e12 rv)) fun _ => RowL.mono _) (Same.trans (vis_le Hk H H'') (same_new hL))
        (fun V j σ' H2 => (∃ y5 y6 y7, σ' = [some (.int m), some (.int n), some v, some (.int (i : Int)), some (.ref L), y5, y6, y7]) ∧ Same H'' H2 ∧ Same V H2 ∧ V L = none ∧ (∀ b, (V b).isSome = true → (Hk b).isSome = true ∨ (H b).isNone = true) ∧
          ∃ ys, H2 L = some (.lst ys) ∧ Paired (fun r y => RowL (nmI r) y (mask L (vis Hk H H2))) (((chT m i).take j).flatMap (ext1 m)) ys)
        (fun H2 e2 => ⟨⟨_, _, _, rfl⟩, Same.trans (same_new hL) e2, vis_le _ _ _, vis_not (none_of (vis_le Hk H H'') hL) upd_same, fun b hb => ?_, [], e2 _ _ upd_same, .nil⟩) (fun V j σ' H2 p => p.2.2.1) (fun V j xr σ' H3 H4 eV2 hj p e34 y => ?_) (fun V σ' H3 eV2 p => ?_)
      · rcases (vis_isSome hb).1 with c | c
        · exact vis_dom c
        · by_cases hbL : b = L
          · subst hbL; rw [upd_same] at c; cases c
          · rw [upd_ne hbL] at c; exact .inr (none_back sH c)
      · obtain ⟨⟨z5, z6, z7, rfl⟩, q1, q2, qL, qd, ys, qy, qp⟩ := p
        obtain ⟨r, hr, ra⟩ := y
        have hrm := List.mem_of_getElem? hr
        have rowI := chT_row hrm
        refine tgt_name (seq_set (Hk := vis V H3 H4) (R := IsI (nxt r : Int)) (gv_if (b := !(nmI r).isEmpty) (gvt_truth (gv_var rfl (RowL.mono _) ra) fun v' H' _ h H1 e1 => ?_) (fun hb => ?_) (fun hb => ?_) (Is.mono _)) (vis_le V H3 H4) fun vf H5 e5 hf => ?_)
        · exact tru_seq (k := true) (RI := IsI) (RowK.seq h.row) e1
        · cases hq : r.getLast? with
          | none =>
            have : r = [] := List.getLast?_eq_none_iff.mp hq
            subst this
            cases hb
          | some jj =>
            have hn : nxt r = jj + 1 := by unfold nxt; rw [hq]
            rw [hn]
            obtain ⟨s, rfl⟩ := last_split hq
            rw [nmI_app] at ra
            exact gv_ii (gv_lastL (gv_var rfl (RowL.mono _) ra)) gv_c fun _ => i0
        · have : r = [] := by
            cases r with
            | nil => rfl
            | cons _ _ => cases hb
          subst this
          exact gv_c
        · cases hf
          have hML : vis V H3 H4 L = none := vis_not qL qy
          refine st_ext (M := vis V H3 H4) (RE := fun r => RowL (nmI r)) (as := ext1 m r) (l := L) (xs := ys) rfl (e5 _ _ (e34 _ _ qy)) ?_ (Same.trans (vis_le V H3 H4) e5) ?_ fun b zs H6 e6 hb hp => ?_
          · have h1 := Paired.length qp
            have h2 := flat_len (ext1_len m) ((chT m i).take j)
            have h3 := ext1_len m r
            have h4 := Nat.le_trans (chT_len m i) (chT_small hm (by omega : i ≤ 4))
            have h5 : ((chT m i).take j).length ≤ 10000 := by rw [List.length_take]; omega
            have h6 : ((chT m i).take j).length * m ≤ 10000 * 10 := Nat.mul_le_mul h5 hm
            exact Nat.le_trans (by omega : _ ≤ 200000) (by decide)
          · refine gv_lc (List.range (m - nxt r)) (fun _ => true) (fun i => RowL (nmI (r ++ [nxt r + i]))) (fun _ => RowL.mono _) (by rw [List.length_range]; exact Nat.lt_of_le_of_lt (by omega : m - nxt r ≤ 10) (by decide)) (by
                have hnx : nxt r ≤ 10000 := by
                  cases hq : r.getLast? with
                  | none => unfold nxt; rw [hq]; exact Nat.zero_le _
                  | some i0 =>
                    have := rowI.2.2.2 i0 (List.mem_of_getLast? hq)
                    unfold nxt; rw [hq]; show i0 + 1 ≤ _; omega
                have := src_r2 (σ := [some (.int m), some (.int n), some v, some (.int (i : Int)), some (.ref L), some xr, some (.int (nxt r : Int)), z7]) (H := vis V H3 H4) (ta := tCons (tVar 6) (tCons (tVar 0) tNil)) (i0 := (nxt r : Int)) (j := (m : Int)) (fun H1 e1 Q1 q1 => gva_2 (gv_v rfl) (Is.mono _) (gv_v rfl) (Is.mono _) H1 e1 Q1 fun vs H2 e2 ⟨u, u2, h1, h2, h3⟩ => q1 vs H2 e2 (by subst h1; rw [h2, h3])) (by omega)
                rwa [show ((m : Int) - (nxt r : Int)).toNat = (List.range (m - nxt r)).length by rw [List.length_range]; omega] at this) (fun a a' x' H' ha e' hy => ?_) (fun p' zs H' e' _ hpz hq => ?_)
            · have ea : a' = a := by
                obtain ⟨h3, h4⟩ := List.getElem?_eq_some_iff.mp ha
                rw [List.getElem_range] at h4
                exact h4.symm
              subst ea
              have hy : x' = .int ((nxt r : Int) + (a' : Int)) := hy
              subst hy
              refine ⟨_, tg_name, rfl, gvt_yes, fun _ => ?_⟩
              rw [nmI_app]
              refine gv_cat (gv_var rfl (RowL.mono _) (RowL.mono _ _ _ _ e' ra)) (gv_lst1 (K := K) (gv_v ?_)) ?_
              · rw [Int.natCast_add]; rfl
              · have : (nmI r).length = i := by unfold nmI; rw [List.length_map]; exact rowI.1
                rw [this]; exact Nat.le_trans (by show i + 1 ≤ 10; omega) (by decide)
            · rw [filter_true] at hq
              obtain ⟨p2, zs2, h1, h2, h3⟩ := lst_n (R := fun i => RowL (nmI (r ++ [nxt r + i]))) hpz hq
              exact ⟨p2, zs2, h1, h2, Paired.map_left h3⟩
          · have s36 : Same H3 H6 := Same.trans e34 (Same.trans e5 e6)
            have s16 : ∀ M : Hp, M L = none → Same M H6 → Same M (upd H6 L (.lst (ys ++ zs))) := fun M hM s b o z => by
              rw [upd_ne (ne_of_none z hM)]; exact s _ _ z
            refine ⟨⟨_, _, _, rfl⟩, s16 _ hL (Same.trans q1 s36), s16 _ qL (Same.trans q2 s36), qL, qd, ys ++ zs, upd_same, ?_⟩
            rw [take_step hr, List.flatMap_append, vis_upd]
            refine Paired.app (Paired.imp (fun a y r => RowL.mono _ _ _ _ (mask_mono (vis_mono s36)) r) qp) ?_
            rw [List.flatMap_cons, List.flatMap_nil, List.append_nil]
            refine Paired.imp (fun a y r => RowL.mono _ _ _ _ (fun b2 o z => ?_) r) hp
            have z := mask_le _ _ _ _ z
            have hL2 : b2 ≠ L := fun h => by
              subst h
              rw [vis_not hML (e5 _ _ (e34 _ _ qy))] at z; cases z
            rw [mask_at hL2]
            refine vis_up (M := vis V H3 H4) (Hk := Hk) (H := H) (H3 := H5) (Same.trans sH (Same.trans q1 (Same.trans e34 e5))) (fun b3 hb3 => ?_) b2 o z
            rcases (vis_isSome hb3).1 with c | c
            · exact qd _ c
            · exact .inr (none_back (Same.trans sH q1) c)
      · obtain ⟨⟨z5, z6, z7, rfl⟩, q1, q2, qL, qd, ys, qy, qp⟩ := p
        rw [List.take_of_length_le (Nat.le_refl _)] at qp
        refine ⟨_, rfl, ⟨.ref L, _, _, _, _, _, rfl, L, ys, rfl, .inl (.inl ?_), Paired.imp (fun a y r => RowL.mono _ _ _ _ (mask_le _ _) r) qp⟩, Same.trans sH q1, Same.trans p2 (Same.trans e12 q1)⟩
        rw [vis_at (.inr (by rw [hHL]; rfl))]; exact qy
    · obtain ⟨⟨v, y3, y4, y5, y6, y7, rfl, rv⟩, p1, p2⟩ := p
      exact ⟨_, rfl, q _ _ p1 rv⟩
end
end Ab

set_option Elab.async false
set_option linter.all false
set_option maxRecDepth 100000
set_option maxHeartbeats 2000000
namespace Ab
open PySem PySem.Spec PyProof.Rows L2
/-! ### sorted(d), d a dict whose keys are rows of whole numbers -/
def encT (k : List Int) : PyData := .tuple (k.map .int)
/-- v stands for the row k -/
def RK (H : Hp) (v : Value) (k : List Int) : Prop := ∃ b : Addr, v = .ref b ∧ H b = some (.tup (k.map V.int))
theorem reads_ints {h : Heap} : ∀ {us : List Value} {ns : List Int}, IntsAre us ns → ReadsAll h us (ns.map .int) []
  | _, _, .nil => .nil
  | _, _, .cons n t r => .cons (.int n t) (reads_ints r)
theorem rk_reads {P : Program} {w : World} {H : Hp} {h : Heap} (hok : HOk P w H h) {v : Value} {k : List Int} (r : RK H v k) : Reads h v (encT k) [] := by
  obtain ⟨b, rfl, hb⟩ := r
  obtain ⟨z, its, rv, ⟨o, e, c, n, d⟩⟩ := (show ObjOk P w H h b (.tup (k.map V.int)) from hok b _ hb)
  exact .tuple e c d (reads_ints rv.ints)
theorem rk_refs {H : Hp} : ∀ {vs : List Value} {ks : List (List Int)}, PySem.W.EachIs (RK H) vs ks → ∃ bs : List Addr, vs = bs.map Value.ref ∧ Paired (fun k b => H b = some (.tup (k.map V.int))) ks bs
  | _, _, .nil => ⟨[], rfl, .nil⟩
  | _, _, .cons ⟨b, e, hb⟩ t => by
    obtain ⟨bs, e2, hp⟩ := rk_refs t
    exact ⟨b :: bs, by rw [e, e2]; rfl, .cons hb hp⟩
theorem rk_keys {H : Hp} {kvs : List (List Key × V)} {xs : List (List Key × Addr × Value)} (r : KT H kvs xs) : ∀ {ks : List (List Int)}, kvs.map (·.1) = ks.map (fun k => k.map Sum.inl) → PySem.W.EachIs (RK H) (xs.map fun x => Value.ref x.2.1) ks := by
  induction r with
  | nil =>
    intro ks e
    cases ks with
    | nil => exact .nil
    | cons _ _ => cases e
  | cons h t ih =>
    intro ks e
    cases ks with
    | nil => cases e
    | cons k ks =>
      rw [List.map_cons, List.map_cons, List.cons.injEq] at e
      refine .cons ⟨_, rfl, ?_⟩ (ih e.2)
      rw [h.2.1, e.1, List.map_map]; rfl
def rSortT : List V → Hp → VK → Prop := fun xs H Q => ∃ (a : Addr) (kvs : List (List Key × V)) (ks : List (List Int)), xs = [.ref a] ∧ H a = some (.dT kvs) ∧ kvs.map (·.1) = ks.map (fun k => k.map Sum.inl) ∧ (∀ k, k ∈ ks → k ≠ []) ∧
  ∀ (bs : List Addr) (p : Addr), Paired (fun k b => H b = some (.tup (k.map V.int))) (ks.mergeSort (PySem.W.dataLe false encT)) bs → H p = none → Q (.ref p) (upd H p (.lst (bs.map V.ref)))
section
variable {X : Cx}
theorem call_sortT (hc : X.calm = true) (hu : X.A.units + 64 < cLine) : CallR X (.builtin "sorted") rSortT := by
  rintro pins s σ H xs us Q I r ⟨a, kvs, ks, rfl, hd, hks, hne, q⟩
  obtain ⟨u, rfl, rx⟩ := vals1 r
  cases rx
  obtain ⟨z, hs, ys, pr, o, es, ep, ho, hx, hdt, he, hn⟩ := (show ObjOk X.prog X.w H s.heap a (.dT kvs) from I.hok a _ hd)
  have l1 : es.size = ys.length := size_of_entries he
  have l2 : kvs.length = ys.length := Paired.length pr
  have l3 : kvs.length = ks.length := by have := congrArg List.length hks; rwa [List.length_map, List.length_map] at this
  refine Calls.call_function_entry PyProof.Rows.kind_sorted PyProof.Rows.plain_sorted PyProof.Rows.entry_sorted (PyProof.Rows.args_sorted1 _) ?_
  unfold Builtin.«sorted»
  refine wpAny_bind (m := checkCount "sorted" 1 1 _) (wpAny_pure ?_)
  refine wpAny_bind (PySem.W.kdu_collect (A := X.A.in1) (kdl_raw hs hx hdt) (I.ok.hd hc) ho (by omega) fun h' tk acc hk it => ?_)
  have ea : acc.toList = ys.map fun x => Value.ref x.2.1 := by
    have hl : acc.toList.length = ys.length := by rw [Array.length_toList, it.1]; exact l1
    apply List.ext_getElem?
    intro j
    rw [List.getElem?_map]
    cases hj : acc.toList[j]? with
    | none =>
      have h1 := List.getElem?_eq_none_iff.mp hj
      rw [List.getElem?_eq_none (show ys.length ≤ j by omega)]; rfl
    | some v =>
      obtain ⟨en, hen, hv⟩ := it.2 j v (by rw [← Array.getElem?_toList]; exact hj)
      have qe := entry_at he j
      rw [hen] at qe
      cases hb : ys[j]? with
      | none => rw [hb] at qe; cases qe
      | some y =>
        rw [hb] at qe
        have e2 : en = entryOfKey (tupleKind (mixKind X.prog X.w)) y := Option.some.inj qe
        rw [hv, e2]; rfl
  have I1 : Inv X pins σ H { s with heap := h', toks := tk } := I.kept hk
  have eR : PySem.W.EachIs (RK H) acc.toList ks := by rw [ea]; exact rk_keys pr hks
  have hL : ks.length ≤ sizeLine := by omega
  refine wpAny_bind (wpAny_newList ?_ (by rw [ea, List.length_map]; omega))
  have hoL : (h'.push (seqObj "list" acc.toList.toArray 0)).get? h'.objs.size = some (seqObj "list" acc.toList.toArray 0) := Heap.get?_push_size _ rfl
  show wpAny _ _ _ _ _ { s with heap := h'.push (seqObj "list" acc.toList.toArray 0), toks := tk }
  have I2 : Inv X pins σ H { s with heap := h'.push (seqObj "list" acc.toList.toArray 0), toks := tk } := I1.kept fun b ob e => Heap.get?_push_of_some _ e
  refine wpAny_bind (wpAny_holding (PySem.W.list_sort_data (R := RK H) (enc := encT) (bs := ks) hoL eR (eR.mono fun v k r => ⟨[], rk_reads I2.hok r, fun z => by cases z⟩) (PySem.W.AllAlike.of fun b b' => ?_) (.inl fun d hd => ?_) hL (fun b hb => ?_) fun out hlo hout => ?_))
  · show PySem.W.alike (.tuple (b.map .int)) (.tuple (b'.map .int)) = true
    unfold PySem.W.alike
    exact PySem.W.alike_ints b b'
  · obtain ⟨k, hk2, rfl⟩ := List.mem_map.mp hd
    cases k with
    | nil => exact absurd rfl (hne _ hk2)
    | cons x k => exact ⟨.int x, k.map .int, rfl⟩
  · have : (encT b).depth = 1 := by
      show PyData.depth (.tuple (b.map .int)) = 1
      rw [PyData.depth, PySem.W.depth_ints]
    rw [this]
    show X.A.units + 1 + 1 + 1 < cLine
    omega
  · obtain ⟨e', he'⟩ := PyProof.Rows.sortedHeap_at (vs := acc.toList) (out := out.toArray) hoL
    obtain ⟨bs, eb, hp⟩ := rk_refs hout
    have hlen : (bs.map V.ref).length ≤ sizeLine := by
      have := Paired.length hp
      rw [List.length_mergeSort] at this
      rw [List.length_map]; omega
    refine wpAny_pure ⟨_, rfl, .ref h'.objs.size, upd H h'.objs.size (.lst (bs.map V.ref)), I1.laid (t' := tk) (fun b ob e => ?_) (Nat.le_refl _)
      (show ObjOk X.prog X.w _ _ _ (.lst (bs.map V.ref)) from ⟨hlen, out, e', by rw [eb]; exact vals_refs bs, he'⟩), rfl, q bs _ hp (I1.hok.fresh (Nat.le_refl _))⟩
    have hb : b < h'.objs.size := Heap.lt_size e
    rw [PyProof.Rows.sortedHeap_old (Nat.ne_of_lt hb) (by rw [size_push']; exact Nat.lt_succ_of_lt hb)]
    exact Heap.get?_push_of_some _ e
end
end Ab

set_option Elab.async false
set_option linter.all false
set_option maxRecDepth 100000
set_option maxHeartbeats 2000000
namespace Ab
open PySem PySem.Spec PyProof.Rows L2
/-! ### the order of rows -/
theorem lexI_lt : ∀ a b : List Int, AB.lexI a b = decide (a < b)
  | [], [] => by simp [AB.lexI]
  | [], _ :: _ => by simp [AB.lexI]
  | _ :: _, [] => by simp [AB.lexI]
  | x :: a, y :: b => by
    unfold AB.lexI
    rw [lexI_lt a b, Bool.eq_iff_iff]
    simp only [Bool.or_eq_true, Bool.and_eq_true, decide_eq_true_iff]
    exact List.cons_lt_cons_iff.symm
theorem le_encT (a b : List Int) : PySem.W.dataLe false encT a b = !AB.lexI b a := by
  have h := congrFun (congrFun (PySem.W.dataLe_rows (fun r : List Int => r)) a) b
  have e : PySem.W.dataLe false encT a b = PySem.W.dataLe false (fun r : List Int => PyData.list (r.map .int)) a b := by
    rw [PySem.W.dataLe_eq, PySem.W.dataLe_eq]
    show (!PySem.W.dataLt (.tuple (b.map .int)) (.tuple (a.map .int))) = !PySem.W.dataLt (.list (b.map .int)) (.list (a.map .int))
    rw [PySem.W.dataLt_tuple, PySem.W.dataLt_list]
  rw [e, h, lexI_lt, Bool.eq_iff_iff]
  simp only [Bool.not_eq_true', decide_eq_true_iff, decide_eq_false_iff_not]
  exact Iff.rfl
theorem merge_strict {n : Nat} {ks : List (List Int)} (nd : ks.Nodup) (hl : ∀ k, k ∈ ks → k.length = n) : (ks.mergeSort (PySem.W.dataLe false encT)).Pairwise fun x y => AB.lexI x y = true := by
  have pw : (ks.mergeSort (PySem.W.dataLe false encT)).Pairwise fun a b => PySem.W.dataLe false encT a b = true := PySem.W.sort_pairwise (PySem.W.sortLe_total _ _ _) ks
  have pm : (ks.mergeSort (PySem.W.dataLe false encT)).Perm ks := List.mergeSort_perm _ _
  have nd2 : (ks.mergeSort (PySem.W.dataLe false encT)).Nodup := pm.nodup_iff.mpr nd
  refine (pw.and nd2).imp_of_mem fun {a b} ha hb h => ?_
  have h1 := h.1
  rw [le_encT] at h1
  exact (AB.lexI_ord n).tri b a (hl b (pm.mem_iff.mp hb)) (hl a (pm.mem_iff.mp ha)) (fun e => h.2 e.symm) (by simpa using h1)
theorem merge_ext {n : Nat} {ks l : List (List Int)} (nd : ks.Nodup) (hl : ∀ k, k ∈ ks → k.length = n) (hs : l.Pairwise fun x y => AB.lexI x y = true) (hm : ∀ x, x ∈ l ↔ x ∈ ks) : ks.mergeSort (PySem.W.dataLe false encT) = l :=
  AB.ord_ext (AB.lexI_ord n) (merge_strict nd hl) hs fun x => by rw [hm x, List.mem_mergeSort]
/-! ### a dict whose keys are rows -/
def putI (k : List Int) (l : List (List Int)) : List (List Int) := if l.contains k then l else l ++ [k]
theorem putI_mem {k x : List Int} {l : List (List Int)} : x ∈ putI k l ↔ x = k ∨ x ∈ l := by
  unfold putI
  split
  · rename_i h
    have := List.contains_iff_mem.mp h
    exact ⟨.inr, fun z => z.elim (fun e => e ▸ this) id⟩
  · rw [List.mem_append, List.mem_singleton]
    exact ⟨fun z => z.symm, fun z => z.symm⟩
theorem putI_nodup {k : List Int} {l : List (List Int)} (h : l.Nodup) : (putI k l).Nodup := by
  unfold putI
  split
  · exact h
  · rename_i c
    rw [List.nodup_append]
    refine ⟨h, List.pairwise_singleton _ _, fun a ha b hb e => c ?_⟩
    rw [List.mem_singleton.mp hb] at e
    subst e
    exact List.contains_iff_mem.mpr ha
theorem putI_len {k : List Int} {l : List (List Int)} : (putI k l).length ≤ l.length + 1 := by
  unfold putI
  split
  · omega
  · rw [List.length_append]; exact Nat.le_refl _
/-- at a, a dict with these keys, in the order they were put in -/
def DT (ks : List (List Int)) (H : Hp) (a : Addr) : Prop := ∃ kvs : List (List Key × V), H a = some (.dT kvs) ∧ kvs.map (·.1) = ks.map (fun k => k.map Sum.inl)
theorem inl_inj {a b : List Int} (h : a.map (Sum.inl : Int → Key) = b.map Sum.inl) : a = b := List.map_inj_right (fun _ _ => Sum.inl.inj) |>.mp h
theorem dt_keys {kvs : List (List Key × V)} {ks : List (List Int)} {k : List Int} {v : V} (e : kvs.map (·.1) = ks.map fun k => k.map Sum.inl) : (putK kvs (k.map Sum.inl) v).map (·.1) = (putI k ks).map fun k => k.map Sum.inl := by
  have c : (kvs.any fun kv => decide (kv.1 = k.map Sum.inl)) = ks.contains k := by
    have e2 : (kvs.any fun kv => decide (kv.1 = k.map Sum.inl)) = (kvs.map (·.1)).any fun x => decide (x = k.map Sum.inl) := by rw [List.any_map]; rfl
    rw [e2, e, List.any_map, Bool.eq_iff_iff, List.any_eq_true, List.contains_iff_mem]
    constructor
    · rintro ⟨x, hx, h⟩
      have := inl_inj (of_decide_eq_true h)
      rwa [← this]
    · intro h
      exact ⟨k, h, decide_eq_true rfl⟩
  unfold putK putI
  rw [c]
  split
  · rw [List.map_map, ← e]
    apply List.map_congr_left
    intro x _
    show (if x.1 = k.map Sum.inl then (x.1, v) else x).1 = x.1
    split <;> rfl
  · rw [List.map_append, List.map_append, e]; rfl
theorem DT.len {ks : List (List Int)} {kvs : List (List Key × V)} (e : kvs.map (·.1) = ks.map fun k => k.map (Sum.inl : Int → Key)) : kvs.length = ks.length := by
  have := congrArg List.length e
  rwa [List.length_map, List.length_map] at this
theorem tup_kV (k : List Int) : (k.map (Sum.inl : Int → Key)).map kV = k.map V.int := by rw [List.map_map]; rfl
/-- d[k] = v, d at a one's own -/
theorem st_put {ty tv : TE} {D : Ends} {σ : L2.St} {i : Nat} {a : Addr} {ks : List (List Int)} {k : List Int} {M H1 : Hp} {b : Bool} (hi : σ[i]? = some (some (.ref a))) (ha : DT ks H1 a) (hz : ks.length < sizeLine) (hM : Same M H1) (hv : Gv tv σ M (Is (.bl b))) (hy : Gv ty σ M (RowT k))
    (kk : ∀ H2 o, Same H1 H2 → (∀ H3, H3 a = some o → DT (putI k ks) H3 a) → D.nx σ (upd H2 a o)) : sDPut (tVar i) ty tv D σ H1 := by
  refine hv H1 hM _ fun v H2 e2 rv => ?_
  cases rv
  refine ⟨.ref a, hi, hy H2 (Same.trans hM e2) _ fun y H3 e3 ry => ?_⟩
  obtain ⟨p, rfl, hp⟩ := ry
  obtain ⟨kvs, hk, he⟩ := ha
  have h3 : H3 a = some (.dT kvs) := e3 _ _ (e2 _ _ hk)
  refine ⟨a, _, rfl, DPut.t (k := k.map Sum.inl) h3 (by rw [tup_kV]; exact vis_le _ _ _ _ _ hp) (by rw [DT.len he]; exact hz), kk H3 _ (Same.trans e2 e3) fun H4 h4 => ⟨_, h4, dt_keys he⟩⟩
end Ab

set_option Elab.async false
set_option linter.all false
set_option maxRecDepth 100000
set_option maxHeartbeats 2000000
namespace Ab
open PySem PySem.Spec PyProof.Rows L2
theorem scSides : FnScope ["n", "points", "found", "chosen", "side", "number"] ["n", "points"] (defScope sSides) := ⟨rfl, rfl, rfl, by decide +kernel, rfl, by decide +kernel, by decide +kernel⟩
theorem units1 {k : Nat} {A : Around} (r : Room k A) : A.units + 1 < cLine := by have := r.units; omega
/-- all tuples that there are, are known -/
def TupIn (Hk H : Hp) : Prop := ∀ b xs, H b = some (.tup xs) → Hk b = some (.tup xs)
/-- a def's promise, where all tuples are known -/
def spT {α : Type} (pre : α → List V → Hp → Prop) (R : α → Rel) : Sp := fun vs H Q _ => ∃ (Hk : Hp) (g : α), Same Hk H ∧ TupIn Hk H ∧ pre g vs Hk ∧ ∀ v H2, Same H H2 → R g v (vis Hk H H2) → Q v H2
/-- a tuple that there is in the end is seen -/
theorem tup_seen {Hk H H2 : Hp} (t : TupIn Hk H) (e : Same H H2) {b : Addr} {xs : List V} (h : H2 b = some (.tup xs)) : vis Hk H H2 b = some (.tup xs) := by
  cases c : H b with
  | none => rw [vis_at (.inr (by rw [c]; rfl))]; exact h
  | some o =>
    have : o = .tup xs := by have := e b o c; rw [h] at this; exact (Option.some.inj this).symm
    subst this
    rw [vis_at (.inl (some_of (t b xs c)))]; exact h
theorem seq_newD {i : Nat} {u : TS} {D : Ends} {σ : L2.St} {H : Hp} (k : ∀ p, H p = none → u D (σ.set i (some (.ref p))) (upd H p (.dT []))) : tSeq (tAsg tDNewT (gName i)) u D σ H := k
/-- the rows of points that numbers stand for -/
def pick (pts : List (List Int)) (r : List Nat) : List (List Int) := r.map fun i => pts.getD i []
def foundT (pts : List (List Int)) (l : List (List Nat)) : List (List Int) := l.foldl (fun acc r => if AB.sideT (pick pts r) pts = [] then acc else putI (AB.sideT (pick pts r) pts) acc) []
theorem foundT_step (pts : List (List Int)) (l : List (List Nat)) (r : List Nat) : foundT pts (l ++ [r]) = if AB.sideT (pick pts r) pts = [] then foundT pts l else putI (AB.sideT (pick pts r) pts) (foundT pts l) := by
  unfold foundT
  rw [List.foldl_append]; rfl
theorem foundT_ind {pts : List (List Int)} {C : List (List Int) → Prop} (h0 : C []) (h1 : ∀ l t, C l → C (putI t l)) : ∀ l : List (List Nat), C (foundT pts l) := by
  intro l
  unfold foundT
  have : ∀ (l : List (List Nat)) acc, C acc → C (l.foldl (fun acc r => if AB.sideT (pick pts r) pts = [] then acc else putI (AB.sideT (pick pts r) pts) acc) acc) := by
    intro l
    induction l with
    | nil => exact fun acc h => h
    | cons r l ih =>
      intro acc h
      rw [List.foldl_cons]
      apply ih
      split
      · exact h
      · exact h1 _ _ h
  exact this l [] h0
theorem foundT_nodup (pts : List (List Int)) (l : List (List Nat)) : (foundT pts l).Nodup := foundT_ind .nil (fun _ _ h => putI_nodup h) l
theorem foundT_len {pts : List (List Int)} (l : List (List Nat)) : (foundT pts l).length ≤ l.length := by
  unfold foundT
  have : ∀ (l : List (List Nat)) (acc : List (List Int)), (l.foldl (fun acc r => if AB.sideT (pick pts r) pts = [] then acc else putI (AB.sideT (pick pts r) pts) acc) acc).length ≤ acc.length + l.length := by
    intro l
    induction l with
    | nil => exact fun acc => Nat.le_refl _
    | cons r l ih =>
      intro acc
      rw [List.foldl_cons, List.length_cons]
      refine Nat.le_trans (ih _) ?_
      split
      · omega
      · have := putI_len (k := AB.sideT (pick pts r) pts) (l := acc)
        omega
  have := this l []
  simpa using this
theorem foundT_mem {pts : List (List Int)} {x : List Int} (l : List (List Nat)) : x ∈ foundT pts l ↔ x ≠ [] ∧ ∃ r, r ∈ l ∧ AB.sideT (pick pts r) pts = x := by
  unfold foundT
  have : ∀ (l : List (List Nat)) (acc : List (List Int)), x ∈ l.foldl (fun acc r => if AB.sideT (pick pts r) pts = [] then acc else putI (AB.sideT (pick pts r) pts) acc) acc ↔ x ∈ acc ∨ (x ≠ [] ∧ ∃ r, r ∈ l ∧ AB.sideT (pick pts r) pts = x) := by
    intro l
    induction l with
    | nil => intro acc; simp
    | cons r l ih =>
      intro acc
      rw [List.foldl_cons, ih]
      by_cases c : AB.sideT (pick pts r) pts = []
      · rw [if_pos c]
        constructor
        · rintro (h | ⟨h1, s, hs, h2⟩)
          · exact .inl h
          · exact .inr ⟨h1, s, List.mem_cons_of_mem _ hs, h2⟩
        · rintro (h | ⟨h1, s, hs, h2⟩)
          · exact .inl h
          · rcases List.mem_cons.mp hs with e | e
            · subst e; exact absurd (h2.symm.trans c) h1
            · exact .inr ⟨h1, s, e, h2⟩
      · rw [if_neg c, putI_mem]
        constructor
        · rintro ((h | h) | ⟨h1, s, hs, h2⟩)
          · exact .inr ⟨by rw [h]; exact c, r, List.mem_cons_self .., h.symm⟩
          · exact .inl h
          · exact .inr ⟨h1, s, List.mem_cons_of_mem _ hs, h2⟩
        · rintro (h | ⟨h1, s, hs, h2⟩)
          · exact .inl (.inr h)
          · rcases List.mem_cons.mp hs with e | e
            · subst e; exact .inl (.inl h2.symm)
            · exact .inr ⟨h1, s, e, h2⟩
  rw [this]
  simp
theorem foundT_sides {n : Nat} {pts : List (List Int)} (P : AB.Pts n pts) : (foundT pts (chT pts.length n)).mergeSort (PySem.W.dataLe false encT) = AB.sidesT n pts := by
  have hm : ∀ x, x ∈ AB.sidesT n pts ↔ x ∈ foundT pts (chT pts.length n) := by
    intro x
    rw [foundT_mem]
    unfold AB.sidesT
    rw [AB.srt_mem, List.mem_filter, List.mem_map, decide_eq_true_iff]
    constructor
    · rintro ⟨⟨few, hf, rfl⟩, ne⟩
      obtain ⟨r, hr, e⟩ := List.mem_map.mp (chT_sub.mpr ((AB.mem_choices _ _ _).mp hf))
      exact ⟨ne, r, hr, by rw [← e]; rfl⟩
    · rintro ⟨ne, r, hr, rfl⟩
      exact ⟨⟨pick pts r, (AB.mem_choices _ _ _).mpr (chT_sub.mp (List.mem_map.mpr ⟨r, hr, rfl⟩)), rfl⟩, ne⟩
  exact merge_ext (n := n + 1) (foundT_nodup _ _) (fun k hk => AB.sidesT_len P k ((hm k).mpr hk)) (AB.sidesT_sorted P) hm
section
variable {P : Program} {w : World} {K : PySem.W.Frag} {mg : Str → Option Value} {base : Heap}
/-! ### lists in a body -/
def ListR {α : Type} (RI : α → Rel) (as : List α) : Rel := fun v H => ∃ q ys, v = .ref q ∧ H q = some (.lst ys) ∧ Paired (fun a y => RI a y H) as ys
theorem ListR.mono {α : Type} {RI : α → Rel} (mI : ∀ a, Mono (RI a)) (as : List α) : Mono (ListR RI as) := by
  rintro v H H' e ⟨q, ys, rfl, h, hp⟩
  exact ⟨q, ys, rfl, e _ _ h, Paired.imp (fun a y r => mI a y _ _ e r) hp⟩
theorem ListR.seq {K : PySem.W.Frag} {α : Type} {RI : α → Rel} {as : List α} {v : V} {H : Hp} (h : ListR RI as v H) : SeqR true K RI as v H := by
  obtain ⟨q, ys, rfl, h, hp⟩ := h
  exact ⟨q, ys, rfl, .inl (.inl h), hp⟩
abbrev RowsX (K : PySem.W.Frag) (rs : List (List Int)) : Rel := SeqR true K RowT rs
theorem RowsX.mono {K : PySem.W.Frag} (rs : List (List Int)) : Mono (RowsX K rs) := SeqR.mono (fun _ => RowT.mono _) rs
def preSides (K : PySem.W.Frag) : Nat × List (List Int) → List V → Hp → Prop := fun g vs H => ∃ y, vs = [.int g.1, y] ∧ Rows K g.2 y H ∧ g.2 ≠ [] ∧ g.2.length ≤ 10 ∧ AB.Pts g.1 g.2 ∧ ∀ r, r ∈ g.2 → ∀ z, z ∈ r → z.natAbs ≤ 100
def spSides (K : PySem.W.Frag) : Sp := spT (preSides K) fun g => ListR RowT (AB.sidesT g.1 g.2)
theorem ok_sides {f fS fR : Addr} {fd fdS fdR : FuncData} {k : Nat} (F : Fun K "sides_of" "sides_of" sSides f fd) (FS : Fun K "side_through" "side_through" sSide fS fdS) (bS : Binds K fdS ["few", "points"] []) (gS : mg "side_through" = some (.ref fS)) (GS : FnOk P w K mg base CX0 (k + 1) fS fdS ["few", "points"] (spSide K))
    (FR : Fun K "rising_choices" "rising_choices" sRc fR fdR) (bR : Binds K fdR ["how_many", "size"] []) (gR : mg "rising_choices" = some (.ref fR)) (mr : mg "range" = none) (ml : mg "len" = none) (ms : mg "sorted" = none) : FnOk P w K mg base CX0 (k + 2) f fd ["n", "points"] (spSides K) := by
  have GR : FnOk P w K mg base CX0 (k + 1) fR fdR ["how_many", "size"] (spRc K) := ok_rc FR mr
  refine F.ok scSides (fun vs H Q E h => ?_) (fun cdv A outer s H vs Q E hr h => ?_)
  · obtain ⟨_, _, _, _, ⟨y, rfl, _⟩, _⟩ := h; rfl
  · obtain ⟨Hk, ⟨n, pts⟩, e, ht, ⟨y, rfl, ry, hne, hlen, hP, hb⟩, q⟩ := h
    have hlen : pts.length ≤ 10 := hlen
    have hP : AB.Pts n pts := hP
    refine ⟨_, pss_cons (ps_set (i := 2) scSides.nd rfl (.inl rfl) pe_dnewT)
      (pss_cons (ps_for PassesOwn.never rfl (pi_list (pe_call GR hr (by rfl) gR FR.kp bR .nil pass0 (pa_cons (pe_callB call_len (by rfl) ml (by decide +kernel) (pa_cons (pv 1) pa_nil)) (pa_cons (pv 0) pa_nil)))) (pg_name (i := 3) scSides.nd rfl (Or.inl rfl))
        (pss_cons (ps_set (i := 4) scSides.nd rfl (.inl rfl) (pe_call GS hr (by rfl) gS FS.kp bS .nil pass0 (pa_cons
            (pe_lc (own := [("number", 5)]) (g := gName 5) (tt := tYes) (te := tOp (rIx K) (tVar 1) (tVar 5)) rfl scSides.nd (pi_list (pv 3))
              (blkOk_by (own := [("number", 5)]) (N := ["n", "points", "found", "chosen", "side", "number"]) (sc := defScope sSides) (by decide +kernel))
              (fun _ _ _ _ _ => pg_name (i := 5) scSides.nd rfl (Or.inl rfl) (Or.inr rfl)) (fun _ _ _ _ _ => pts_nil)
              (fun _ _ _ _ _ => pe_ix ix_seq (pv 1) (pv 5) (fun _ _ => rfl))) (pa_cons (pv 1) pa_nil))))
        (pss_one (ps_if (pt_truth (pv 4) (by intro _; rfl)) (pss_one (ps_dput (units1 hr) (pv 2) (pv 4) pe_bl rfl)) pss_nil))))
      (pss_one (ps_ret (pe_callB (call_sortT rfl hr.units) (by rfl) ms (by decide +kernel) (pa_cons (pv 2) pa_nil))))), ?_⟩
    have p1 := hP.n2
    have p4 := hP.n4
    refine seq_newD fun a ha => ?_
    refine seq_for (Hk := Hk) (src_seqL (RI := fun r => RowL (nmI r)) (as := chT pts.length n) (gv_call (RL := R2' (IsI (pts.length : Int)) (IsI (n : Int))) (gva_2 (gv_len (gv_var rfl (Rows.mono _) ry)) (Is.mono _) (gv_v rfl) (Is.mono _)) (fun vs H' _ hv => by
          obtain ⟨u1, u2, rfl, h1, h2⟩ := hv
          cases h1
          cases h2
          exact use_rc hlen p4) (RowsN.mono _)) fun _ => RowL.mono _) (Same.trans e (same_new ha))
      (fun W i σ' H' => (∃ y3 y4 y5, σ' = [some (.int n), some y, some (.ref a), y3, y4, y5]) ∧ Same H H' ∧ Same W H' ∧ W a = none ∧ DT (foundT pts ((chT pts.length n).take i)) H' a)
      (fun H2 e2 => ⟨⟨_, _, _, rfl⟩, Same.trans (same_new ha) e2, vis_le _ _ _, vis_not (none_of e ha) upd_same, [], e2 _ _ upd_same, rfl⟩) (fun W i σ' H' p => p.2.2.1) (fun W i x' σ' H' H'' eV hi p e12 yy => ?_) (fun W σ' H' eV p => ?_)
    · obtain ⟨⟨y3, y4, y5, rfl⟩, q1, q2, qa, qd⟩ := p
      obtain ⟨r, hr', ra⟩ := yy
      have hrm := List.mem_of_getElem? hr'
      have rowI := chT_row hrm
      have hpk : ∀ i, i ∈ r → pts.getD i [] ∈ pts := fun i hi => by
        have := rowI.2.2.2 i hi
        rw [List.getD_eq_getElem?_getD, List.getElem?_eq_getElem this]
        exact List.getElem_mem this
      have hps : ∀ s, s ∈ pts → s.length = n ∧ ∀ z, z ∈ s → z.natAbs ≤ 100 := fun s hs => ⟨hP.len s hs, hb s hs⟩
      have hfew : ∀ s, s ∈ pick pts r → s.length = n ∧ ∀ z, z ∈ s → z.natAbs ≤ 100 := fun s hs => by
        obtain ⟨i, hi, rfl⟩ := List.mem_map.mp hs
        exact hps _ (hpk i hi)
      have ry2 : Rows K pts y (vis W H' H'') := Rows.mono _ _ _ _ (fun b o z => vis_base (Same.trans q2 e12) b o (eV b o z)) ry
      refine tgt_name (seq_set (Hk := vis W H' H'') (R := RowT (AB.sideT (pick pts r) pts)) (gv_call (RL := R2' (Rows K (pick pts r)) (Rows K pts)) (gva_2 (gv_lc r (fun _ => true) (fun i => Row K (pts.getD i [])) (fun _ => Row.mono _) (Nat.lt_of_le_of_lt (by omega : r.length ≤ 10) (by decide)) (by
            have := src_seqL (K := K) (σ := [some (.int n), some y, some (.ref a), some x', y4, y5]) (H := vis W H' H'') (RI := IsI) (as := nmI r) (tl := tVar 3) ((gv_var rfl (RowL.mono _) ra).imp fun v H' _ h => RowK.seq h.row) fun _ => Is.mono _
            rwa [show (nmI r).length = r.length by unfold nmI; rw [List.length_map]] at this) (fun j a' x2 H2 hj e2 hy => ?_) (fun p' zs H2 e2 _ hpz hq => ?_)) (Rows.mono _) (gv_var rfl (Rows.mono _) ry2) (Rows.mono _)) (fun vs H2 _ hv => ?_) (RowT.mono _)) (vis_le _ _ _) fun v4 H3 e3 r4 => ?_)
      · obtain ⟨z, hz, hx⟩ := hy
        have ez : (nmI r)[j]? = some (a' : Int) := by unfold nmI; rw [List.getElem?_map, hj]; rfl
        rw [ez] at hz
        cases hz
        cases hx
        have hm := hpk a' (List.mem_of_getElem? hj)
        have hlt : a' < pts.length := rowI.2.2.2 a' (List.mem_of_getElem? hj)
        refine ⟨_, tg_name, rfl, gvt_yes, fun _ => ?_⟩
        exact gv_ix (k := true) (RI := Row K) (as := pts) (j := a') (fun _ => Row.mono _) (by rw [List.getD_eq_getElem?_getD, List.getElem?_eq_getElem hlt]; rfl) (gv_var rfl (Rows.mono _) (Rows.mono _ _ _ _ e2 ry2)) (gv_v rfl)
      · rw [filter_true] at hq
        exact seq_map (lst_rows (fun _ => Row.mono _) hpz hq)
      · obtain ⟨u1, u2, rfl, h1, h2⟩ := hv
        exact ops_of (pre := preSide K) (R := fun g => RowT (AB.sideT g.2.1 g.2.2)) (n, pick pts r, pts) ⟨u1, u2, rfl, h1, h2, by show 1 ≤ n; omega, p4, by unfold pick; rw [List.length_map]; exact rowI.1, hne, by show pts.length < 1000; omega, hfew, hps⟩
      · have sq : Same H'' H3 := e3
        have hstep : foundT pts ((chT pts.length n).take (i + 1)) = if AB.sideT (pick pts r) pts = [] then foundT pts ((chT pts.length n).take i) else putI (AB.sideT (pick pts r) pts) (foundT pts ((chT pts.length n).take i)) := by rw [take_step hr', foundT_step]
        have ff : (foundT pts ((chT pts.length n).take i)).length < sizeLine := by
          have h1 : ∀ l : List (List Nat), (foundT pts l).length ≤ l.length := foundT_len
          have h2 := h1 ((chT pts.length n).take i)
          have h3 := Nat.le_trans (chT_len pts.length n) (chT_small hlen p4)
          rw [List.length_take] at h2
          exact Nat.lt_of_le_of_lt (by omega : _ ≤ 10000) (by decide)
        refine if_of (b := !(AB.sideT (pick pts r) pts).isEmpty) (gvt_truth (gv_var rfl (RowT.mono _) r4) fun v' H5 _ h H6 e6 => tru_seq (k := false) (RI := IsI) (RowK.seq h.k) e6) (vis_le (vis W H' H'') H'' H3) (fun hb H4 e4 => ?_) (fun hb H4 e4 => ?_)
        · have hn : ¬ AB.sideT (pick pts r) pts = [] := fun c => by rw [c] at hb; cases hb
          rw [if_neg hn] at hstep
          obtain ⟨kvs, hk1, hk2⟩ := qd
          refine st_put (M := vis (vis W H' H'') H'' H3) rfl (ks := foundT pts ((chT pts.length n).take i)) (k := AB.sideT (pick pts r) pts) ⟨kvs, e4 _ _ (e3 _ _ (e12 _ _ hk1)), hk2⟩ ff (Same.trans (vis_le _ _ _) e4) (b := true) gv_c (gv_var rfl (RowT.mono _) r4) fun H5 o e5 hd => ?_
          have s5 : Same H' H5 := Same.trans e12 (Same.trans e3 (Same.trans e4 e5))
          refine ⟨⟨_, _, _, rfl⟩, fun b o2 z => ?_, fun b o2 z => ?_, qa, ?_⟩
          · rw [upd_ne (ne_of_none z ha)]; exact s5 _ _ (q1 _ _ z)
          · rw [upd_ne (ne_of_none z qa)]; exact s5 _ _ (q2 _ _ z)
          · rw [hstep]; exact hd _ upd_same
        · have hn : AB.sideT (pick pts r) pts = [] := by
            cases c : AB.sideT (pick pts r) pts with
            | nil => rfl
            | cons _ _ => rw [c] at hb; cases hb
          rw [if_pos hn] at hstep
          obtain ⟨kvs, hk1, hk2⟩ := qd
          have s5 : Same H' H4 := Same.trans e12 (Same.trans e3 e4)
          exact ⟨⟨_, _, _, rfl⟩, Same.trans q1 s5, Same.trans q2 s5, qa, by rw [hstep]; exact ⟨kvs, s5 _ _ hk1, hk2⟩⟩
    · obtain ⟨⟨y3, y4, y5, rfl⟩, q1, q2, qa, qd⟩ := p
      rw [List.take_of_length_le (Nat.le_refl _)] at qd
      obtain ⟨kvs, hk1, hk2⟩ := qd
      have hS := foundT_sides hP
      refine ⟨_, rfl, a, kvs, foundT pts (chT pts.length n), rfl, hk1, hk2, fun k hk c => ?_, fun bs p hp hn => q _ _ (Same.trans q1 (same_new hn)) ⟨p, bs.map V.ref, rfl, ?_, ?_⟩⟩
      · rw [c] at hk
        exact (foundT_mem _).mp hk |>.1 rfl
      · rw [vis_at (.inr (none_back q1 (by rw [hn]; rfl)))]; exact upd_same
      · rw [hS] at hp
        have : ∀ {l : List (List Int)} {m : List Addr}, Paired (fun k b => H' b = some (.tup (k.map V.int))) l m → Paired (fun k y => RowT k y (vis Hk H (upd H' p (.lst (bs.map V.ref))))) l (m.map V.ref) := by
          intro l m h
          induction h with
          | nil => exact .nil
          | cons r _ ih => exact .cons ⟨_, rfl, tup_seen ht (Same.trans q1 (same_new hn)) (same_new hn _ _ r)⟩ ih
        exact this hp
end
end Ab

set_option Elab.async false
set_option linter.all false
set_option maxRecDepth 100000
set_option maxHeartbeats 2000000
namespace Ab
open PySem PySem.Spec PyProof.Rows L2
/-- a for over a list that is made for it -/
theorem for_rawL {K : PySem.W.Frag} {te : TE} {g : TG} {tb : TS} {D : Ends} {σ : L2.St} {H1 : Hp} (h : te σ H1 fun v H2 => ∃ p ys, v = .ref p ∧ H2 p = some (.lst ys) ∧ ∃ Pv : Nat → L2.St → Hp → Prop, Pv 0 σ H2 ∧ (∀ i σ' H', Pv i σ' H' → H' p = some (.lst ys)) ∧
      (∀ i x σ' H', ys[i]? = some x → Pv i σ' H' → g x σ' H' fun σ2 H3 => tb { D with nx := Pv (i + 1), ct := Pv (i + 1), bk := D.nx } σ2 H3) ∧ ∀ σ' H', Pv ys.length σ' H' → D.nx σ' H')
    (mono : ∀ {Q Q' : VK}, (∀ v H2, Q v H2 → Q' v H2) → te σ H1 Q → te σ H1 Q') : tFor (iList K te) g tb D σ H1 :=
  mono (fun v H2 ⟨p, ys, e, hp, Pv, h0, hk, turn, done⟩ => ⟨p, e, ⟨ys, .inl (.inl hp)⟩, for_it (walk_list (K := K) (a := p) (xs := ys)) Pv h0 (fun i σ' H' _ q => .inl (.inl (hk i σ' H' q))) (fun i x σ' H' H'' hi q y => by
    obtain ⟨rfl, hx⟩ := y
    exact turn i x σ' _ hx q) done⟩) h
/-- the tuples that there are -/
def tups (H : Hp) : Hp := fun b => match H b with
  | some (.tup xs) => some (.tup xs)
  | _ => none
theorem tups_le (H : Hp) : Same (tups H) H := fun b o e => by
  unfold tups at e
  split at e
  · rename_i xs h; rw [h]; exact e
  · cases e
theorem tups_in {H : Hp} {b : Addr} {xs : List V} (h : H b = some (.tup xs)) : tups H b = some (.tup xs) := by unfold tups; rw [h]
theorem tups_row {H H' : Hp} {ns : List Int} {v : V} (e : Same H H') (r : RowT ns v H) : RowT ns v (tups H') := by
  obtain ⟨p, rfl, h⟩ := r
  exact ⟨p, rfl, tups_in (e _ _ h)⟩
theorem inV_ints (z : Int) (l : List Int) : inV (.int z) (l.map V.int) = l.any fun y => decide (y = z) := by
  unfold inV
  rw [List.any_map]
  congr 1
abbrev RowsF (K : PySem.W.Frag) (fs : List (List Nat)) : Rel := SeqR true K (fun f => RowT (nmI f)) fs
theorem RowsF.mono {K : PySem.W.Frag} (fs : List (List Nat)) : Mono (RowsF K fs) := SeqR.mono (fun _ => RowT.mono _) fs
theorem lst_list {α : Type} {R : α → Rel} {items : List α} {p : Addr} {ys : List V} {H : Hp} (mR : ∀ a, Mono (R a)) (h : H p = some (.lst ys)) (q : Paired (fun a y => R a y (mask p H)) items ys) : ListR R items (.ref p) H := ⟨p, ys, rfl, h, Paired.imp (fun a y r => mR a _ _ _ (mask_le _ _) r) q⟩
theorem list_map {α β : Type} {R : β → Rel} {g : α → β} {items : List α} {v : V} {H : Hp} (h : ListR (fun a => R (g a)) items v H) : ListR R (items.map g) v H := by
  obtain ⟨p, ys, e, hs, hp⟩ := h
  exact ⟨p, ys, e, hs, Paired.map_left hp⟩
end Ab

set_option Elab.async false
set_option linter.all false
set_option maxRecDepth 100000
set_option maxHeartbeats 2000000
namespace Ab
open PySem PySem.Spec PyProof.Rows L2
/-! ### sorted(s), s a set of rows of whole numbers -/
theorem perm_lift {α β : Type} {f : α → β} {vs ws : List β} (h : vs.Perm ws) : ∀ {L : List α}, ws = L.map f → ∃ L1 : List α, vs = L1.map f ∧ L1.Perm L := by
  induction h with
  | nil =>
    intro L e
    cases L with
    | nil => exact ⟨[], rfl, .nil⟩
    | cons _ _ => cases e
  | cons x _ ih =>
    intro L e
    cases L with
    | nil => cases e
    | cons a L =>
      rw [List.map_cons, List.cons.injEq] at e
      obtain ⟨L1, e1, p⟩ := ih e.2
      exact ⟨a :: L1, by rw [List.map_cons, e1, e.1], p.cons a⟩
  | swap x y l =>
    intro L e
    cases L with
    | nil => cases e
    | cons a L =>
      cases L with
      | nil => cases e
      | cons b L =>
        rw [List.map_cons, List.map_cons, List.cons.injEq, List.cons.injEq] at e
        exact ⟨b :: a :: L, by rw [List.map_cons, List.map_cons, e.1, e.2.1, e.2.2], .swap ..⟩
  | trans _ _ ih1 ih2 =>
    intro L e
    obtain ⟨L2, e2, p2⟩ := ih2 e
    obtain ⟨L1, e1, p1⟩ := ih1 e2
    exact ⟨L1, e1, p1.trans p2⟩
theorem rk_list {H : Hp} : ∀ {L : List (Addr × List Int)}, (∀ p, p ∈ L → H p.1 = some (.tup (p.2.map V.int))) → PySem.W.EachIs (RK H) (L.map fun q => Value.ref q.1) (L.map (·.2))
  | [], _ => .nil
  | p :: L, h => .cons ⟨p.1, rfl, h p (List.mem_cons_self ..)⟩ (rk_list fun q hq => h q (List.mem_cons_of_mem _ hq))
def rSortS (P : Program) (w : World) : List V → Hp → VK → Prop := fun xs H Q => ∃ (a : Addr) (L : List (Addr × List Int)), xs = [.ref a] ∧ H a = some (SetTO P w a L) ∧ (∀ p, p ∈ L → H p.1 = some (.tup (p.2.map V.int))) ∧ (∀ p, p ∈ L → p.2 ≠ []) ∧
  ∀ (ks : List (List Int)) (ads : List Addr) (p : Addr), (L.map (·.2)).Nodup → ks.Perm (L.map (·.2)) → Paired (fun k b => H b = some (.tup (k.map V.int))) (ks.mergeSort (PySem.W.dataLe false encT)) ads → H p = none → Q (.ref p) (upd H p (.lst (ads.map V.ref)))
section
variable {X : Cx}
theorem call_sortS (hc : X.calm = true) (hu : X.A.units + 64 < cLine) : CallR X (.builtin "sorted") (rSortS X.prog X.w) := by
  rintro pins s σ H xs us Q I r ⟨a, L, rfl, ha, hk, hne, q⟩
  obtain ⟨u, rfl, rx⟩ := vals1 r
  cases rx
  obtain ⟨es, ep, t, R⟩ := SetT0.full (show SetT0 X.prog X.w s.heap a L from (I.hok a _ ha).1) fun p hp => I.isT (.inl (.inl (hk p hp)))
  obtain ⟨o, ho, hex, hd⟩ := R.ob
  have hsz := R.size
  have hfew := R.few
  refine Calls.call_function_entry PyProof.Rows.kind_sorted PyProof.Rows.plain_sorted PyProof.Rows.entry_sorted (PyProof.Rows.args_sorted1 _) ?_
  unfold Builtin.«sorted»
  refine wpAny_bind (m := checkCount "sorted" 1 1 _) (wpAny_pure ?_)
  refine wpAny_bind (collect_set (A := X.A.in1) (I.ok.hd hc) ⟨o, ho, hex.1, hd⟩ R.fits (by unfold scanBound; omega) R.tab.ris R.led fun s1 vs k1 hz g1 o1 pm => ?_)
  have hes : es.toList.map (·.2) = L.map fun q => Value.ref q.1 := by rw [R.rows]; unfold rowsOf; rw [List.map_map]; rfl
  rw [hes] at pm
  obtain ⟨L1, e1, p1⟩ := perm_lift pm rfl
  have I1 : Inv X pins σ H { s with heap := s1.heap, gens := s1.gens, drawn := s1.drawn, toks := s1.toks } := I.call (ch := []) (Un.kept k1) (I.hok.kept k1) (by rw [g1]; exact I.bare) fun _ z => nomatch z
  have es1 : { s with heap := s1.heap, gens := s1.gens, drawn := s1.drawn, toks := s1.toks } = s1 := by
    cases s1
    cases s
    cases o1
    rfl
  rw [es1] at I1
  have eR : PySem.W.EachIs (RK H) vs (L1.map (·.2)) := by rw [e1]; exact rk_list fun p hp => hk p (p1.mem_iff.mp hp)
  have hl1 : L1.length = L.length := p1.length_eq
  have hL : (L1.map (·.2)).length ≤ sizeLine := by rw [List.length_map, sizeLine_eq]; omega
  refine wpAny_bind (wpAny_newList ?_ (by rw [e1, List.length_map, sizeLine_eq]; omega))
  have hoL : (s1.heap.push (seqObj "list" vs.toArray 0)).get? s1.heap.objs.size = some (seqObj "list" vs.toArray 0) := Heap.get?_push_size _ rfl
  show wpAny _ _ _ _ _ { s1 with heap := s1.heap.push (seqObj "list" vs.toArray 0) }
  have I2 : Inv X pins σ H { s1 with heap := s1.heap.push (seqObj "list" vs.toArray 0), toks := s1.toks } := I1.kept fun b ob e => Heap.get?_push_of_some _ e
  refine wpAny_bind (wpAny_holding (PySem.W.list_sort_data (R := RK H) (enc := encT) (bs := L1.map (·.2)) hoL eR (eR.mono fun v k r => ⟨[], rk_reads I2.hok r, fun z => by cases z⟩) (PySem.W.AllAlike.of fun b b' => ?_) (.inl fun d hd => ?_) hL (fun b hb => ?_) fun out hlo hout => ?_))
  · show PySem.W.alike (.tuple (b.map .int)) (.tuple (b'.map .int)) = true
    unfold PySem.W.alike
    exact PySem.W.alike_ints b b'
  · obtain ⟨k, hk2, rfl⟩ := List.mem_map.mp hd
    obtain ⟨p, hp, rfl⟩ := List.mem_map.mp hk2
    cases c : p.2 with
    | nil => exact absurd c (hne p (p1.mem_iff.mp hp))
    | cons x k => exact ⟨.int x, k.map .int, by unfold encT; rfl⟩
  · have : (encT b).depth = 1 := by
      show PyData.depth (.tuple (b.map .int)) = 1
      rw [PyData.depth, PySem.W.depth_ints]
    rw [this]
    show X.A.units + 1 + 1 + 1 < cLine
    omega
  · obtain ⟨e', he'⟩ := PyProof.Rows.sortedHeap_at (vs := vs) (out := out.toArray) hoL
    obtain ⟨bs, eb, hp⟩ := rk_refs hout
    have hlen : (bs.map V.ref).length ≤ sizeLine := by
      have := Paired.length hp
      rw [List.length_mergeSort] at this
      rw [List.length_map]; omega
    refine wpAny_pure ⟨_, rfl, .ref s1.heap.objs.size, upd H s1.heap.objs.size (.lst (bs.map V.ref)), I1.laid (t' := s1.toks) (fun b ob e => ?_) (Nat.le_refl _)
      (show ObjOk X.prog X.w _ _ _ (.lst (bs.map V.ref)) from ⟨hlen, out, e', by rw [eb]; exact vals_refs bs, he'⟩), rfl, q _ bs _ R.nd (p1.map _) hp (I1.hok.fresh (Nat.le_refl _))⟩
    have hb : b < s1.heap.objs.size := Heap.lt_size e
    rw [PyProof.Rows.sortedHeap_old (Nat.ne_of_lt hb) (by rw [size_push']; exact Nat.lt_succ_of_lt hb)]
    exact Heap.get?_push_of_some _ e
end
end Ab

set_option Elab.async false
set_option linter.all false
set_option maxRecDepth 100000
set_option maxHeartbeats 2000000
namespace Ab
open PySem PySem.Spec PyProof.Rows L2
theorem scInit : FnScope ["self", "n", "points", "different", "point", "side"] ["self", "n", "points"] (defScope sInit) := ⟨rfl, rfl, rfl, by decide +kernel, rfl, by decide +kernel, by decide +kernel⟩
/-! ### a side's numbers aren't great -/
theorem fdiv_le {x e : Int} (h : e ∣ x) (e0 : e ≠ 0) : (Int.fdiv x e).natAbs ≤ x.natAbs := by
  obtain ⟨k, rfl⟩ := h
  rw [Int.mul_fdiv_cancel_left _ e0, Int.natAbs_mul]
  exact Nat.le_mul_of_pos_left _ (Int.natAbs_pos.mpr e0)
theorem sideT_sm {n : Nat} (hn : 1 ≤ n) (hn4 : n ≤ 4) {few pts : List (List Int)} (hl : few.length = n) (hf : ∀ r, r ∈ few → r.length = n ∧ ∀ z, z ∈ r → z.natAbs ≤ 100) : ∀ z, z ∈ AB.sideT few pts → Sm 40 z := by
  intro z hz
  cases few with
  | nil => have : 0 = n := hl; omega
  | cons p0 r =>
    have hlr : r.length = n - 1 := by have : r.length + 1 = n := hl; omega
    have hp0 := hf p0 (List.mem_cons_self ..)
    have hrows : ∀ s, s ∈ r.map (AB.dirn p0) → s.length = n - 1 + 1 ∧ ∀ z, z ∈ s → z.natAbs ≤ 200 := by
      intro s hs
      obtain ⟨t, ht, rfl⟩ := List.mem_map.mp hs
      have ht := hf t (List.mem_cons_of_mem _ ht)
      refine ⟨by rw [AB.dirn_len hp0.1 ht.1]; omega, fun z hz => ?_⟩
      unfold AB.dirn at hz
      obtain ⟨⟨u, v⟩, hp, rfl⟩ := List.mem_map.mp hz
      have := List.of_mem_zip hp
      have e1 := hp0.2 _ this.1
      have e2 := ht.2 _ this.2
      show (v - u).natAbs ≤ 200
      omega
    have hab : ∀ z, z ∈ AB.aheadT (p0 :: r) → z.natAbs ≤ 2 ^ 30 := fun z hz => Nat.le_trans (crs_le (by rw [List.length_map]; exact hlr) hrows z hz) (Nat.le_of_lt (db_lt (by omega)))
    have hal : (AB.aheadT (p0 :: r)).length = n := by
      show (AB.crs (r.map (AB.dirn p0))).length = n
      rw [AB.crs_len, List.length_map]; omega
    have hb : (AB.tog (AB.aheadT (p0 :: r)) p0).natAbs ≤ 4 * (2 ^ 30 * 100) := Nat.le_trans (tog_le hab hp0.2) (Nat.mul_le_mul_right _ (by omega))
    unfold AB.sideT at hz
    split at hz
    · cases hz
    · rename_i nz
      split at hz
      · cases hz
      · obtain ⟨x, hx, rfl⟩ := List.mem_map.mp hz
        rw [show (p0 :: r).headD [] = p0 from rfl] at hx ⊢
        have hxb : x.natAbs < 2 ^ 40 := by
          rcases List.mem_append.mp hx with c | c
          · exact Nat.lt_of_le_of_lt (hab x c) (by decide)
          · rw [List.mem_singleton.mp c]; exact Nat.lt_of_le_of_lt hb (by decide)
        have hd := AB.gcdL_dvd hx
        have hg : AB.gcdL (AB.aheadT (p0 :: r) ++ [AB.tog (AB.aheadT (p0 :: r)) p0]) ≠ 0 := by
          have : ∃ y, y ∈ AB.aheadT (p0 :: r) ∧ y ≠ 0 := by
            apply Classical.byContradiction
            intro c
            apply nz
            rw [List.all_eq_true]
            intro y hy
            exact decide_eq_true (Classical.byContradiction fun d => c ⟨y, hy, d⟩)
          obtain ⟨y, hy, y0⟩ := this
          exact Nat.ne_of_gt (AB.gcdL_pos (List.mem_append_left _ hy) y0)
        split
        · exact Nat.lt_of_le_of_lt (fdiv_le (Int.neg_dvd.mpr hd) (by omega)) hxb
        · exact Nat.lt_of_le_of_lt (fdiv_le hd (by omega)) hxb
theorem sidesT_sm {n : Nat} {pts : List (List Int)} (P : AB.Pts n pts) (hb : ∀ r, r ∈ pts → ∀ z, z ∈ r → z.natAbs ≤ 100) : ∀ t, t ∈ AB.sidesT n pts → t.length = n + 1 ∧ ∀ z, z ∈ t → Sm 40 z := by
  intro t ht
  refine ⟨AB.sidesT_len P t ht, ?_⟩
  unfold AB.sidesT at ht
  rw [AB.srt_mem, List.mem_filter, List.mem_map] at ht
  obtain ⟨⟨few, hf, rfl⟩, _⟩ := ht
  obtain ⟨h1, h2⟩ := (AB.mem_choices _ _ _).mp hf
  exact sideT_sm (by have := P.n2; omega) P.n4 h2 fun r hr => ⟨P.len r (h1.subset hr), hb r (h1.subset hr)⟩
/-- o.f, where the object is known -/
theorem gv_fld {K : PySem.W.Frag} {σ : L2.St} {H : Hp} {i : Nat} {p C dx : Addr} {fs : List (Str × V)} {f : Str} {v : V} {R : Rel} (hi : σ[i]? = some (some (.ref p))) (hp : H p = some (.ins C dx fs)) (cl : Cls K C) (na : NoAttr K C f) (hl : fs.lookup f = some v) (mR : Mono R) (r : R v H) : Gv (tFld K (tVar i) f) σ H R := fun H1 e Q q =>
  ⟨.ref p, hi, p, C, dx, fs, v, rfl, e _ _ hp, cl, na, hl, q v H1 (Same.refl H1) (mR _ _ _ (vis_base e) r)⟩
theorem vis_full {H H2 : Hp} : Same (vis H H H2) H2 := vis_le _ _ _
theorem ks_of {H : Hp} : ∀ {pts : List (List Int)} {ys : List V}, Paired (fun a y => RowT a y H) pts ys → ∃ ks : List (Addr × List Int), ys = ks.map (fun p => V.ref p.1) ∧ ks.map (·.2) = pts ∧ ∀ p, p ∈ ks → H p.1 = some (.tup (p.2.map V.int))
  | _, _, .nil => ⟨[], rfl, rfl, fun _ h => by cases h⟩
  | a :: _, _, .cons ⟨p, e, h⟩ t => by
    obtain ⟨ks, e1, e2, e3⟩ := ks_of t
    refine ⟨(p, a) :: ks, by rw [e, e1]; rfl, by rw [← e2]; rfl, fun q hq => ?_⟩
    rcases List.mem_cons.mp hq with c | c
    · rw [c]; exact h
    · exact e3 q c
end Ab

set_option Elab.async false
set_option linter.all false
set_option maxRecDepth 100000
set_option maxHeartbeats 2000000
namespace Ab
open PySem PySem.Spec PyProof.Rows L2
/-- what the top has written of the class -/
structure Txt (K : PySem.W.Frag) (mg : Str → Option Value) (C : Addr) : Prop where
  cl : Cls K C
  nN : NoAttr K C "n"
  nS : NoAttr K C "sides"
  nC : NoAttr K C "corners"
  nB : NoAttr K C "bounds"
  gC : mg "Body" = some (.ref C)
def bodyF (n : Int) (vs vc vb : V) : List (Str × V) := [("n", .int n), ("sides", vs), ("corners", vc), ("bounds", vb)]
/-- a body at p -/
def BodyAt (C : Addr) (n : Nat) (pts : List (List Int)) (H : Hp) (p : Addr) : Prop := ∃ dx vs vc vb, H p = some (.ins C dx (bodyF n vs vc vb)) ∧ ListR RowT (AB.cornersT n pts) vc H ∧ ListR (fun f => RowT (nmI f)) (AB.bounds n pts) vb H ∧ ListR RowT (AB.sidesT n (AB.srt pts)) vs H
/-- points that are as they're to be -/
structure Fit (n : Nat) (pts : List (List Int)) : Prop where
  P : AB.Pts n pts
  few : pts.length ≤ 10
  ne : pts ≠ []
  sm : ∀ r, r ∈ pts → ∀ z, z ∈ r → z.natAbs ≤ 100
def spInit (K : PySem.W.Frag) (C : Addr) : Sp := fun vs H Q _ => ∃ (p dx : Addr) (n : Nat) (y : V) (pts : List (List Int)), vs = [.ref p, .int n, y] ∧ H p = some (.ins C dx []) ∧ RowsL K pts y (mask p H) ∧ Fit n pts ∧
  ∀ H', Same (mask p H) H' → BodyAt C n pts H' p → Q .non H'
theorem lk_here {k : Str} {v : V} {r : List (Str × V)} : List.lookup k ((k, v) :: r) = some v := by
  have e : (k == k) = true := beq_self_eq_true k
  simp only [List.lookup, e]
theorem lk_past {k g : Str} {v : V} {r : List (Str × V)} (h : (k == g) = false) : List.lookup k ((g, v) :: r) = List.lookup k r := by
  simp only [List.lookup, h]
theorem put_past {f g : Str} {v x : V} {r : List (Str × V)} (h : ¬ g = f) : putF f v ((g, x) :: r) = (g, x) :: putF f v r := if_neg h
theorem srt_len {n : Nat} {pts : List (List Int)} (hl : ∀ q, q ∈ pts → q.length = n) : (AB.srt pts).length ≤ pts.length := by
  have nd : (AB.srt pts).Nodup := (AB.srt_sorted hl).imp fun {a b} h e => by
    subst e
    rw [(AB.lexI_ord 0).irr] at h
    cases h
  exact List.Nodup.length_le_of_subset nd fun x hx => AB.srt_mem.mp hx
theorem Fit.srt {n : Nat} {pts : List (List Int)} (F : Fit n pts) : Fit n (AB.srt pts) := by
  refine ⟨F.P.srt, Nat.le_trans (srt_len F.P.len) F.few, fun c => F.ne ?_, fun r hr => F.sm r (AB.srt_mem.mp hr)⟩
  cases h : pts with
  | nil => rfl
  | cons a l =>
    have : a ∈ AB.srt pts := AB.srt_mem.mpr (by rw [h]; exact List.mem_cons_self ..)
    rw [c] at this
    cases this
theorem cor_sub {n : Nat} {pts : List (List Int)} {p : List Int} (h : p ∈ AB.cornersT n pts) : p ∈ pts := AB.srt_mem.mp (AB.cornersT_sub h)
theorem cor_few {n : Nat} {pts : List (List Int)} (F : Fit n pts) : (AB.cornersT n pts).length ≤ 10 := Nat.le_trans (List.length_filter_le _ _) F.srt.few
theorem gv_tupS {K : PySem.W.Frag} {σ : L2.St} {H : Hp} {te : TE} {ns : List Int} (h : Gv te σ H (RowK true K ns)) : Gv (tCB (fun xs H Q => ∃ p ys, xs = [.ref p] ∧ ((SqL K H p ys ∧ ∀ l, H l = none → Q (.ref l) (upd H l (.tup ys))) ∨ (SqT K H p ys ∧ Q (.ref p) H))) (tCons te tNil)) σ H (RowT ns) :=
  gv_c1 h (fun x H' _ ⟨p, e, hp⟩ H1 e1 Q q => ⟨p, ns.map V.int, by rw [e], .inl ⟨sq_same (k := true) e1 hp, new_ok (R := RowT ns) e1 (fun p2 H'' _ h2 => ⟨p2, rfl, h2⟩) q⟩⟩) (RowT.mono _)
theorem seq_raw2 {r1 r2 : List V → Hp → VK → Prop} {te : TE} {i : Nat} {u : TS} {D : Ends} {σ : L2.St} {H : Hp} (h : te σ H fun lv H1 => r2 [lv] H1 fun sv H2 => r1 [sv] H2 fun v H3 => u D (σ.set i (some v)) H3) : tSeq (tAsg (tCB r1 (tCons (tCB r2 (tCons te tNil)) tNil)) (gName i)) u D σ H := h
theorem cast_heap {t : TS} {D : Ends} {σ : L2.St} {A B : Hp} (e : A = B) (h : t D σ B) : t D σ A := e ▸ h
theorem seq_fld {K : PySem.W.Frag} {te : TE} {i : Nat} {f : Str} {u : TS} {D : Ends} {σ : L2.St} {H : Hp} (h : te σ H fun y H1 => tVar i σ H1 fun x H2 => ∃ a C dx fs, x = .ref a ∧ H2 a = some (.ins C dx fs) ∧ Cls K C ∧ NoAttr K C f ∧ fs.length < 1000 ∧ u D σ (upd H2 a (.ins C dx (putF f y fs)))) : tSeq (sFld K (tVar i) te f) u D σ H := h
theorem last_fld {K : PySem.W.Frag} {te : TE} {i : Nat} {f : Str} {D : Ends} {σ : L2.St} {H : Hp} (h : te σ H fun y H1 => tVar i σ H1 fun x H2 => ∃ a C dx fs, x = .ref a ∧ H2 a = some (.ins C dx fs) ∧ Cls K C ∧ NoAttr K C f ∧ fs.length < 1000 ∧ D.nx σ (upd H2 a (.ins C dx (putF f y fs)))) : sFld K (tVar i) te f D σ H := h
theorem mask_in {p : Addr} {H : Hp} {C dx : Addr} {fs : List (Str × V)} (hp : H p = some (.ins C dx fs)) : TupIn (mask p H) H := fun b xs h => by
  rw [mask_at (fun c => by rw [c, hp] at h; cases h)]; exact h
theorem vis_mask {p : Addr} {H H2 : Hp} {o : HO} (hp : H p = some o) : Same (vis (mask p H) H H2) (mask p H2) := fun b u z => by
  have hb : b ≠ p := fun c => by
    subst c
    rw [vis_not mask_self hp] at z; cases z
  rw [mask_at hb]; exact vis_le _ _ _ _ _ z
theorem listR_mask {p : Addr} {H : Hp} {C dx : Addr} {fs : List (Str × V)} {ns : List (List Int)} {v : V} (hp : H p = some (.ins C dx fs)) (h : ListR RowT ns v H) : ListR RowT ns v (mask p H) := by
  obtain ⟨q, ys, rfl, h, hr⟩ := h
  refine ⟨q, ys, rfl, by rw [mask_at (fun c => by rw [c, hp] at h; cases h)]; exact h, Paired.imp (fun a y r => ?_) hr⟩
  obtain ⟨b, rfl, hb⟩ := r
  exact ⟨b, rfl, by rw [mask_at (fun c => by rw [c, hp] at hb; cases hb)]; exact hb⟩
theorem mask_step {p : Addr} {H H2 : Hp} {o : HO} (e : Same H H2) : Same (mask p H) (mask p (upd H2 p o)) := by rw [mask_upd]; exact mask_mono e
section
variable {P : Program} {w : World} {K : PySem.W.Frag} {mg : Str → Option Value} {base : Heap} {C : Addr}
theorem ok_init {f fS fC fN : Addr} {fd fdS fdC fdN : FuncData} {k : Nat} (T : Txt K mg C) (F : Fun K "__init__" "Body.__init__" sInit f fd) (FS : Fun K "sides_of" "sides_of" sSides fS fdS) (bS : Binds K fdS ["n", "points"] []) (gS : mg "sides_of" = some (.ref fS)) (GS : FnOk P w K mg base CX0 k fS fdS ["n", "points"] (spSides K))
    (FC : Fun K "is_corner" "is_corner" sCor fC fdC) (bC : Binds K fdC ["point", "sides"] []) (gC : mg "is_corner" = some (.ref fC)) (GC : FnOk P w K mg base CX0 k fC fdC ["point", "sides"] (spCor K))
    (FN : Fun K "numbers_on" "numbers_on" sNo fN fdN) (bN : Binds K fdN ["side", "corners"] []) (gN : mg "numbers_on" = some (.ref fN)) (GN : FnOk P w K mg base CX0 k fN fdN ["side", "corners"] (spNo K))
    (ms : mg "sorted" = none) (mse : mg "set" = none) (mt : mg "tuple" = none) : FnOk P w K mg base CX0 (k + 1) f fd ["self", "n", "points"] (spInit K C) := by
  refine F.ok scInit (fun vs H Q E h => ?_) (fun cdv A outer s H vs Q E hr h => ?_)
  · obtain ⟨p, dx, n, y, pts, rfl, _⟩ := h; rfl
  · obtain ⟨p, dx, n, y, pts, rfl, hp, ry, Ft, q⟩ := h
    refine ⟨_, pss_cons (ps_set (i := 3) scInit.nd rfl (.inl rfl) (pe_callB (call_sortS rfl hr.units) (by rfl) ms (by decide +kernel) (pa_cons (pe_callTy (cr_setOfT rfl hr.units) (by rfl) mse (by decide +kernel) (pa_cons
          (pe_lc (own := [("point", 4)]) (g := gName 4) (tt := tYes) (te := tCB (fun xs H Q => ∃ p ys, xs = [.ref p] ∧ ((SqL K H p ys ∧ ∀ l, H l = none → Q (.ref l) (upd H l (.tup ys))) ∨ (SqT K H p ys ∧ Q (.ref p) H))) (tCons (tVar 4) tNil)) rfl scInit.nd (pi_list (pv 2))
            (blkOk_by (own := [("point", 4)]) (N := ["self", "n", "points", "different", "point", "side"]) (sc := defScope sInit) (by decide +kernel))
            (fun _ _ _ _ _ => pg_name (i := 4) scInit.nd rfl (Or.inl rfl) (Or.inr rfl)) (fun _ _ _ _ _ => pts_nil)
            (fun _ _ _ _ _ => pe_callTy call_tuple_of (by rfl) mt (by decide +kernel) (pa_cons (pv 4) pa_nil))) pa_nil)) pa_nil)))
      (pss_cons (ps_fld (pv 0) (pv 1) rfl)
      (pss_cons (ps_fld (pv 0) (pe_call GS hr (by rfl) gS FS.kp bS .nil pass0 (pa_cons (pv 1) (pa_cons (pv 3) pa_nil))) rfl)
      (pss_cons (ps_fld (pv 0) (pe_lc (own := [("point", 4)]) (g := gName 4) (tt := tB (tCall (spCor K) [] E0 (tCons (tVar 4) (tCons (tFld K (tVar 0) "sides") tNil)))) (te := tVar 4) rfl scInit.nd (pi_list (pv 3))
            (blkOk_by (own := [("point", 4)]) (N := ["self", "n", "points", "different", "point", "side"]) (sc := defScope sInit) (by decide +kernel))
            (fun _ _ _ _ _ => pg_name (i := 4) scInit.nd rfl (Or.inl rfl) (Or.inr rfl)) (fun _ _ _ _ _ => pts_one (pt_val (pe_call GC hr (by rfl) gC FC.kp bC .nil pass0 (pa_cons (pv 4) (pa_cons (pe_fld (pv 0) rfl) pa_nil)))))
            (fun _ _ _ _ _ => pv 4)) rfl)
      (pss_one (ps_fld (pv 0) (pe_lc (own := [("side", 5)]) (g := gName 5) (tt := tYes) (te := tCall (spNo K) [] E0 (tCons (tVar 5) (tCons (tFld K (tVar 0) "corners") tNil))) rfl scInit.nd (pi_list (pe_fld (pv 0) rfl))
            (blkOk_by (own := [("side", 5)]) (N := ["self", "n", "points", "different", "point", "side"]) (sc := defScope sInit) (by decide +kernel))
            (fun _ _ _ _ _ => pg_name (i := 5) scInit.nd rfl (Or.inl rfl) (Or.inr rfl)) (fun _ _ _ _ _ => pts_nil)
            (fun _ _ _ _ _ => pe_call GN hr (by rfl) gN FN.kp bN .nil pass0 (pa_cons (pv 5) (pa_cons (pe_fld (pv 0) rfl) pa_nil)))) rfl))))), ?_⟩
    have hP2 := Ft.P.n2
    have hP4 := Ft.P.n4
    have hpl := Ft.few
    have Fs := Ft.srt
    -- different
    refine seq_raw2 ((gv_lc (σ := [some (.ref p), some (.int n), some y, none, none, none]) (R := LstN RowT pts) pts (fun _ => true) RowT (fun _ => RowT.mono _) (Nat.lt_of_le_of_lt Ft.few (by decide)) (src_seqL (RI := RowK true K) (as := pts) (gv_var (i := 2) rfl (RowsL.mono _) ry) fun _ => RowK.mono _) (fun i a x' H' hi e' hy => ?_) (fun p' zs H' e' _ hpz hq => ?_)) H (mask_le _ _) _ fun lv H1 e1 r1 => ?_)
    · obtain ⟨a', ha', hra⟩ := hy
      rw [hi] at ha'
      cases ha'
      exact ⟨_, tg_name, rfl, gvt_yes, fun _ => gv_tupS (gv_var rfl (RowK.mono _) hra)⟩
    · rw [filter_true] at hq
      exact lst_n hpz hq
    obtain ⟨l, ys, rfl, hl, hys⟩ := r1
    have hl := vis_le _ _ _ _ _ hl
    have hys : Paired (fun a y => RowT a y H1) pts ys := Paired.imp (fun a y r => RowT.mono _ _ _ _ (fun b o z => vis_le _ _ _ _ _ (mask_le _ _ _ _ z)) r) hys
    obtain ⟨ks, eys, eks, hks⟩ := ks_of hys
    have hkl : ks.length < 64 := by have := congrArg List.length eks; rw [List.length_map] at this; omega
    refine ⟨l, ks, rfl, .inl (.inl (by rw [hl, eys])), fun q hq => .inl (.inl (hks q hq)), hkl, fun a L ha hsub hall => ?_⟩
    have hmem : ∀ x, x ∈ L.map (·.2) ↔ x ∈ pts := fun x => by
      constructor
      · intro h
        obtain ⟨q, hq, rfl⟩ := List.mem_map.mp h
        rw [← eks]
        exact List.mem_map_of_mem (f := fun p : Addr × List Int => p.2) (hsub q hq)
      · intro h
        rw [← eks] at h
        obtain ⟨q, hq, rfl⟩ := List.mem_map.mp h
        exact hall q hq
    have hLt : ∀ q, q ∈ L → (upd H1 a (SetTO P w a L)) q.1 = some (.tup (q.2.map V.int)) := fun q hq => by
      have := hks q (hsub q hq)
      rw [upd_ne (ne_of_none this ha)]; exact this
    refine ⟨a, L, rfl, upd_same, hLt, fun q hq c => ?_, fun kk ads p2 nd pm hpd hn => ?_⟩
    · have : q.2 ∈ pts := (hmem _).mp (List.mem_map_of_mem (f := fun p : Addr × List Int => p.2) hq)
      have := Ft.P.len _ this
      rw [c] at this
      have : 0 = n := this
      omega
    have hkk : kk.mergeSort (PySem.W.dataLe false encT) = AB.srt pts := merge_ext (n := n) (pm.nodup_iff.mpr nd) (fun k hk => Ft.P.len k ((hmem k).mp (pm.mem_iff.mp hk))) (AB.srt_sorted Ft.P.len) fun x => by rw [AB.srt_mem, pm.mem_iff, hmem]
    rw [hkk] at hpd
    obtain ⟨H3, hH3⟩ : ∃ H3, upd (upd H1 a (SetTO P w a L)) p2 (.lst (ads.map V.ref)) = H3 := ⟨_, rfl⟩
    refine cast_heap (t := tSeq _ _) hH3 ?_
    have s3 : Same H H3 := by rw [← hH3]; exact Same.trans e1 (Same.trans (same_new ha) (same_new hn))
    have rd : ListR RowT (AB.srt pts) (.ref p2) H3 := by
      refine ⟨p2, ads.map V.ref, rfl, by rw [← hH3]; exact upd_same, ?_⟩
      have : ∀ {l : List (List Int)} {m : List Addr}, Paired (fun k b => upd H1 a (SetTO P w a L) b = some (.tup (k.map V.int))) l m → Paired (fun k y => RowT k y H3) l (m.map V.ref) := by
        intro l m h
        induction h with
        | nil => exact .nil
        | cons r _ ih => exact .cons ⟨_, rfl, by rw [← hH3]; exact same_new hn _ _ r⟩ ih
      exact this hpd
    have hp3 : H3 p = some (.ins C dx []) := s3 _ _ hp
    -- self.n
    refine ⟨_, rfl, _, rfl, p, C, dx, [], rfl, hp3, T.cl, T.nN, (by decide), ?_⟩
    have rd4 : ListR RowT (AB.srt pts) (.ref p2) (mask p H3) := listR_mask hp3 rd
    obtain ⟨H4, hH4⟩ : ∃ H4, upd H3 p (.ins C dx (putF "n" (.int n) [])) = H4 := ⟨_, rfl⟩
    refine cast_heap (t := tSeq _ _) hH4 ?_
    have hp4 : H4 p = some (.ins C dx [("n", .int n)]) := by rw [← hH4]; exact upd_same
    have m4 : mask p H4 = mask p H3 := by rw [← hH4]; exact mask_upd
    rw [← m4] at rd4
    -- self.sides
    refine ⟨_, rfl, _, rfl, mask p H4, (n, AB.srt pts), mask_le _ _, mask_in hp4, ⟨.ref p2, rfl, RowsT.rows (SeqR.imp (fun _ _ _ r => RowT.k r) rd4.seq), Fs.ne, Fs.few, Fs.P, Fs.sm⟩, fun vs H5 e5 r5 => ?_⟩
    have r5L : ListR RowT (AB.sidesT n (AB.srt pts)) vs (mask p H5) := ListR.mono (fun _ => RowT.mono _) _ _ _ _ (vis_mask hp4) r5
    have r5 : RowsX K (AB.sidesT n (AB.srt pts)) vs (mask p H5) := r5L.seq
    refine ⟨_, rfl, p, C, dx, _, rfl, e5 _ _ hp4, T.cl, T.nS, (by show 1 < 1000; decide), ?_⟩
    obtain ⟨H6, hH6⟩ : ∃ H6, upd H5 p (.ins C dx (putF "sides" vs [("n", .int n)])) = H6 := ⟨_, rfl⟩
    refine cast_heap (t := tSeq _ _) hH6 ?_
    have f6 : putF "sides" vs ([("n", V.int n)] : List (Str × V)) = ([("n", .int n), ("sides", vs)] : List (Str × V)) := (put_past (by decide +kernel)).trans rfl
    have hp6 : H6 p = some (.ins C dx [("n", .int n), ("sides", vs)]) := by rw [← hH6, f6]; exact upd_same
    have m6 : mask p H6 = mask p H5 := by rw [← hH6]; exact mask_upd
    rw [← m6] at r5 r5L
    have rd6 : ListR RowT (AB.srt pts) (.ref p2) (mask p H6) := by rw [m6]; exact ListR.mono (fun _ => RowT.mono _) _ _ _ _ (mask_mono e5) rd4
    have hS := sidesT_sm Fs.P Fs.sm
    -- self.corners
    have l6 : ([("n", V.int n), ("sides", vs)] : List (Str × V)).lookup ("sides" : Str) = some vs := (lk_past (by decide +kernel)).trans lk_here
    have r6 : RowsX K (AB.sidesT n (AB.srt pts)) vs H6 := RowsX.mono _ _ _ _ (mask_le _ _) r5
    have rd6' : ListR RowT (AB.srt pts) (.ref p2) H6 := ListR.mono (fun _ => RowT.mono _) _ _ _ _ (mask_le _ _) rd6
    have hSl : (AB.sidesT n (AB.srt pts)).length < 20000 := by
      have nd : (AB.sidesT n (AB.srt pts)).Nodup := (AB.sidesT_sorted Fs.P).imp fun {a b} h e => by
        subst e
        rw [(AB.lexI_ord 0).irr] at h
        cases h
      have hsub : ∀ x, x ∈ AB.sidesT n (AB.srt pts) → x ∈ (chT (AB.srt pts).length n).map fun r => AB.sideT (pick (AB.srt pts) r) (AB.srt pts) := fun x hx => by
        have : x ∈ foundT (AB.srt pts) (chT (AB.srt pts).length n) := by
          rw [← foundT_sides Fs.P, List.mem_mergeSort] at hx; exact hx
        obtain ⟨_, r, hr, e⟩ := (foundT_mem _).mp this
        exact List.mem_map.mpr ⟨r, hr, e⟩
      have h1 := List.Nodup.length_le_of_subset nd hsub
      rw [List.length_map] at h1
      have h2 := Nat.le_trans (chT_len (AB.srt pts).length n) (Nat.pow_le_pow_left Fs.few n)
      have h3 : 10 ^ n ≤ 10 ^ 4 := Nat.pow_le_pow_right (by decide) hP4
      omega
    refine seq_fld ((gv_lc (σ := [some (.ref p), some (.int n), some y, some (.ref p2), none, none]) (R := ListR RowT (AB.cornersT n pts)) (AB.srt pts) (AB.cornT (AB.sidesT n (AB.srt pts))) RowT (fun _ => RowT.mono _) (Nat.lt_of_le_of_lt Fs.few (by decide)) (src_seqL (K := K) (RI := RowT) (as := AB.srt pts) (gv_var (i := 3) rfl (RowsX.mono _) rd6'.seq) fun _ => RowT.mono _) (fun i a x' H' hi e' hy => ?_) (fun p' zs H' e' _ hpz hq => lst_list (fun _ => RowT.mono _) hpz hq)) H6 (Same.refl _) _ fun vc H7 e7 r7 => ?_)
    · obtain ⟨a', ha', hra⟩ := hy
      rw [hi] at ha'
      cases ha'
      have ham := List.mem_of_getElem? hi
      have hal := Fs.P.len a ham
      refine ⟨_, tg_name, rfl, gvt_B (gv_call (RL := R2' (RowT a) (RowsX K (AB.sidesT n (AB.srt pts)))) (gva_2 (gv_var rfl (RowT.mono _) hra) (RowT.mono _) (gv_fld rfl (e' _ _ hp6) T.cl T.nS l6 (RowsX.mono _) (RowsX.mono _ _ _ _ e' r6)) (RowsX.mono _)) (fun vs H'' _ hv => ?_) (Is.mono _)), fun _ => gv_var rfl (RowT.mono _) hra⟩
      obtain ⟨v1, v2, rfl, g1, g2⟩ := hv
      exact use_cor g1.row (SeqR.imp (fun _ _ _ r => RowT.k r) g2) (by omega) hSl (fun z hz => (sm_of (n := 7) (Fs.sm a ham z hz) (by decide)).up (by decide)) fun t ht => ⟨by rw [(hS t ht).1, hal], (hS t ht).2⟩
    have r7 : ListR RowT (AB.cornersT n pts) vc H7 := ListR.mono (fun _ => RowT.mono _) _ _ _ _ vis_full r7
    have hp7 : H7 p = some (.ins C dx [("n", .int n), ("sides", vs)]) := e7 _ _ hp6
    refine ⟨_, rfl, p, C, dx, _, rfl, hp7, T.cl, T.nC, (by show 2 < 1000; decide), ?_⟩
    have f8 : putF "corners" vc ([("n", .int n), ("sides", vs)] : List (Str × V)) = ([("n", .int n), ("sides", vs), ("corners", vc)] : List (Str × V)) := (put_past (by decide +kernel)).trans (congrArg _ ((put_past (by decide +kernel)).trans rfl))
    obtain ⟨H8, hH8⟩ : ∃ H8, upd H7 p (.ins C dx (putF "corners" vc [("n", .int n), ("sides", vs)])) = H8 := ⟨_, rfl⟩
    refine cast_heap (t := sFld _ _ _ _) hH8 ?_
    have hp8 : H8 p = some (.ins C dx [("n", .int n), ("sides", vs), ("corners", vc)]) := by rw [← hH8, f8]; exact upd_same
    have m8 : mask p H8 = mask p H7 := by rw [← hH8]; exact mask_upd
    have r8 : ListR RowT (AB.cornersT n pts) vc (mask p H8) := by rw [m8]; exact listR_mask hp7 r7
    have r8' : ListR RowT (AB.cornersT n pts) vc H8 := ListR.mono (fun _ => RowT.mono _) _ _ _ _ (mask_le _ _) r8
    have s8 : RowsX K (AB.sidesT n (AB.srt pts)) vs H8 := RowsX.mono _ _ _ _ (mask_le _ _) (by rw [m8]; exact RowsX.mono _ _ _ _ (mask_mono e7) r5)
    have s8L : ListR RowT (AB.sidesT n (AB.srt pts)) vs H8 := ListR.mono (fun _ => RowT.mono _) _ _ _ _ (mask_le _ _) (by rw [m8]; exact ListR.mono (fun _ => RowT.mono _) _ _ _ _ (mask_mono e7) r5L)
    have l8s : ([("n", V.int n), ("sides", vs), ("corners", vc)] : List (Str × V)).lookup ("sides" : Str) = some vs := (lk_past (by decide +kernel)).trans lk_here
    have l8c : ([("n", V.int n), ("sides", vs), ("corners", vc)] : List (Str × V)).lookup ("corners" : Str) = some vc := (lk_past (by decide +kernel)).trans ((lk_past (by decide +kernel)).trans lk_here)
    -- self.bounds
    refine last_fld ((gv_lc (σ := [some (.ref p), some (.int n), some y, some (.ref p2), none, none]) (R := ListR (fun f => RowT (nmI f)) (AB.bounds n pts)) (AB.sidesT n (AB.srt pts)) (fun _ => true) (fun t => RowT (nmI (numT t (AB.cornersT n pts)))) (fun _ => RowT.mono _) (Nat.lt_trans hSl (by decide)) (src_seqL (K := K) (RI := RowT) (as := AB.sidesT n (AB.srt pts)) (gv_fld rfl hp8 T.cl T.nS l8s (RowsX.mono _) s8) fun _ => RowT.mono _) (fun i t x' H' hi e' hy => ?_) (fun p' zs H' e' _ hpz hq => ?_)) H8 (Same.refl _) _ fun vb H9 e9 r9 => ?_)
    · obtain ⟨a', ha', hra⟩ := hy
      rw [hi] at ha'
      cases ha'
      have htm := List.mem_of_getElem? hi
      have ht := hS t htm
      refine ⟨_, tg_name, rfl, gvt_yes, fun _ => gv_call (RL := R2' (RowT t) (ListR RowT (AB.cornersT n pts))) (gva_2 (gv_var rfl (RowT.mono _) hra) (RowT.mono _) (gv_fld rfl (e' _ _ hp8) T.cl T.nC l8c (ListR.mono (fun _ => RowT.mono _) _) (ListR.mono (fun _ => RowT.mono _) _ _ _ _ e' r8')) (ListR.mono (fun _ => RowT.mono _) _)) (fun vs H'' _ hv => ?_) (RowT.mono _)⟩
      obtain ⟨v1, v2, rfl, g1, g2⟩ := hv
      exact ops_of (pre := preNo K) (R := fun g => RowT (nmI (numT g.1 g.2))) (t, AB.cornersT n pts) ⟨v1, v2, rfl, g1.k, RowsT.rows (SeqR.imp (fun _ _ _ r => RowT.k r) g2.seq), Nat.lt_of_le_of_lt (cor_few Ft) (by decide), fun z hz => (ht.2 z hz).up (by decide), fun q hq => ⟨by show t.length = q.length + 1; rw [ht.1, Ft.P.len q (cor_sub hq)], by rw [Ft.P.len q (cor_sub hq)]; omega, fun z hz => (sm_of (n := 7) (Ft.sm q (cor_sub hq) z hz) (by decide)).up (by decide)⟩⟩
    · rw [filter_true] at hq
      exact list_map (R := fun f => RowT (nmI f)) (g := fun t => numT t (AB.cornersT n pts)) (lst_list (R := fun t => RowT (nmI (numT t (AB.cornersT n pts)))) (fun _ => RowT.mono _) hpz hq)
    have r9 : ListR (fun f => RowT (nmI f)) (AB.bounds n pts) vb H9 := ListR.mono (fun _ => RowT.mono _) _ _ _ _ vis_full r9
    have hp9 : H9 p = some (.ins C dx [("n", .int n), ("sides", vs), ("corners", vc)]) := e9 _ _ hp8
    refine ⟨_, rfl, p, C, dx, _, rfl, hp9, T.cl, T.nB, (by show 3 < 1000; decide), ?_⟩
    have f10 : putF "bounds" vb ([("n", .int n), ("sides", vs), ("corners", vc)] : List (Str × V)) = bodyF n vs vc vb := (put_past (by decide +kernel)).trans (congrArg _ ((put_past (by decide +kernel)).trans (congrArg _ ((put_past (by decide +kernel)).trans rfl))))
    have mk : ∀ {α : Type} {RI : α → Rel} {as : List α} {v : V} {o : HO}, (∀ a v, RI a v H9 → RI a v (upd H9 p o)) → ListR RI as v H9 → ListR RI as v (upd H9 p o) := fun {α RI as v o} hR ⟨q, ys, e, h, hr⟩ => ⟨q, ys, e, by rw [upd_ne (fun c => by rw [c, hp9] at h; cases h)]; exact h, Paired.imp (fun a y r => hR a y r) hr⟩
    have rT : ∀ (o : HO) (ns : List Int) (v : V), RowT ns v H9 → RowT ns v (upd H9 p o) := fun o ns v ⟨b, e, h⟩ => ⟨b, e, by rw [upd_ne (fun c => by rw [c, hp9] at h; cases h)]; exact h⟩
    refine q _ (fun b o z => ?_) ⟨dx, vs, vc, vb, by rw [← f10]; exact upd_same, mk (fun a v => rT _ a v) (ListR.mono (fun _ => RowT.mono _) _ _ _ _ e9 r8'), mk (fun a v => rT _ (nmI a) v) r9, mk (fun a v => rT _ a v) (ListR.mono (fun _ => RowT.mono _) _ _ _ _ e9 s8L)⟩
    have hb : b ≠ p := fun c => by rw [c, mask_self] at z; cases z
    rw [mask_at hb] at z
    rw [upd_ne hb]
    have z3 : H3 b = some o := s3 _ _ z
    have z4 : H4 b = some o := by rw [← hH4, upd_ne hb]; exact z3
    have z6 : H6 b = some o := by rw [← hH6, upd_ne hb]; exact e5 _ _ z4
    have z8 : H8 b = some o := by rw [← hH8, upd_ne hb]; exact e7 _ _ z6
    exact e9 _ _ z8
end
end Ab

set_option Elab.async false
set_option linter.all false
set_option maxRecDepth 100000
set_option maxHeartbeats 2000000
namespace Ab
open PySem PySem.Spec PyProof.Rows L2
def spBody (C : Addr) (g : Nat → List (List Int) → Rel) : Sp := fun vs H Q _ => ∃ (p : Addr) (n : Nat) (pts : List (List Int)), vs = [.ref p] ∧ Fit n pts ∧ BodyAt C n pts H p ∧ ∀ v H2, Same H H2 → g n pts v H2 → Q v H2
theorem lkF_n {n : Int} {vs vc vb : V} : (bodyF n vs vc vb).lookup ("n" : Str) = some (.int n) := lk_here
theorem lkF_c {n : Int} {vs vc vb : V} : (bodyF n vs vc vb).lookup ("corners" : Str) = some vc := (lk_past (by decide +kernel)).trans ((lk_past (by decide +kernel)).trans lk_here)
theorem lkF_b {n : Int} {vs vc vb : V} : (bodyF n vs vc vb).lookup ("bounds" : Str) = some vb := (lk_past (by decide +kernel)).trans ((lk_past (by decide +kernel)).trans ((lk_past (by decide +kernel)).trans lk_here))
theorem bnd_len {n : Nat} {pts : List (List Int)} (F : Fit n pts) : (AB.bounds n pts).length < 20000 := by
  have Fs := F.srt
  have nd : (AB.sidesT n (AB.srt pts)).Nodup := (AB.sidesT_sorted Fs.P).imp fun {a b} h e => by
    subst e
    rw [(AB.lexI_ord 0).irr] at h
    cases h
  have hsub : ∀ x, x ∈ AB.sidesT n (AB.srt pts) → x ∈ (chT (AB.srt pts).length n).map fun r => AB.sideT (pick (AB.srt pts) r) (AB.srt pts) := fun x hx => by
    have : x ∈ foundT (AB.srt pts) (chT (AB.srt pts).length n) := by
      rw [← foundT_sides Fs.P, List.mem_mergeSort] at hx; exact hx
    obtain ⟨_, r, hr, e⟩ := (foundT_mem _).mp this
    exact List.mem_map.mpr ⟨r, hr, e⟩
  have h1 := List.Nodup.length_le_of_subset nd hsub
  rw [List.length_map] at h1
  have h2 := Nat.le_trans (chT_len (AB.srt pts).length n) (Nat.pow_le_pow_left Fs.few n)
  have h3 : 10 ^ n ≤ 10 ^ 4 := Nat.pow_le_pow_right (by decide) F.P.n4
  show (List.map _ _).length < 20000
  rw [List.length_map]
  omega
theorem inV_nm (i : Nat) (f : List Nat) : inV (.int (i : Int)) ((nmI f).map V.int) = f.contains i := by
  rw [inV_ints]
  unfold nmI
  rw [List.any_map, Bool.eq_iff_iff, List.any_eq_true, List.contains_iff_mem]
  constructor
  · rintro ⟨x, hx, h⟩
    have h : (x : Int) = (i : Int) := of_decide_eq_true h
    have : x = i := by omega
    rwa [← this]
  · intro h
    exact ⟨i, h, decide_eq_true rfl⟩
theorem op_inT {K : PySem.W.Frag} {i : Nat} {f : List Nat} {v : V} {H : Hp} (h : RowT (nmI f) v H) : Op2 (rIn K false) (.int (i : Int)) v H (Is (.bl (f.contains i))) := by
  obtain ⟨pb, rfl, hpb⟩ := h
  refine op2_val fun H8 e8 Q q => ⟨pb, _, rfl, .inr (.inl (.inl (e8 _ _ hpb))), rfl, ?_, ?_⟩
  · rw [List.all_map]; exact List.all_eq_true.mpr fun _ _ => rfl
  · rw [inV_nm]; exact q
end Ab

set_option Elab.async false
set_option linter.all false
set_option maxRecDepth 100000
set_option maxHeartbeats 2000000
namespace Ab
open PySem PySem.Spec PyProof.Rows L2

/-- a for over a list that is made for it, its items not one's own -/
theorem for_rawS {K : PySem.W.Frag} {te : TE} {g : TG} {tb : TS} {D : Ends} {σ : L2.St} {H1 : Hp} (h : te σ H1 fun v H2 => ∃ p ys, v = .ref p ∧ ∃ Pv : Nat → L2.St → Hp → Prop, Pv 0 σ H2 ∧ (∀ i σ' H', Pv i σ' H' → SqL K H' p ys) ∧
      (∀ i x σ' H', ys[i]? = some x → Pv i σ' H' → g x σ' H' fun σ2 H3 => tb { D with nx := Pv (i + 1), ct := Pv (i + 1), bk := D.nx } σ2 H3) ∧ ∀ σ' H', Pv ys.length σ' H' → D.nx σ' H')
    (mono : ∀ {Q Q' : VK}, (∀ v H2, Q v H2 → Q' v H2) → te σ H1 Q → te σ H1 Q') : tFor (iList K te) g tb D σ H1 :=
  mono (fun v H2 ⟨p, ys, e, Pv, h0, hk, turn, done⟩ => ⟨p, e, ⟨ys, hk _ _ _ h0⟩, for_it (walk_list (K := K) (a := p) (xs := ys)) Pv h0 (fun i σ' H' _ q => hk i σ' H' q) (fun i x σ' H' H'' hi q y => by
    obtain ⟨rfl, hx⟩ := y
    exact turn i x σ' _ hx q) done⟩) h
/-- [[] for x in range(n)]: n lists, all different, all new -/
theorem rows_new {ta : TA} {i : Nat} {σ : L2.St} {H : Hp} {n : Nat} (hn : n ≤ 100) (hw : wipe (σ.set i none) [i] = wipe σ [i]) (ht : ∀ Q : List V → Hp → Prop, Q [.int (n : Int)] H → ta σ H Q) (wi : ∀ x : V, wipe ((wipe σ [i]).set i (some x)) [i] = wipe σ [i]) {Q : VK}
    (q : ∀ (D : Addr) (rs : List Addr) (H' : Hp), Same H H' → H D = none → H' D = some (.lst (rs.map V.ref)) → rs.length = n → rs.Nodup → (∀ r, r ∈ rs → r ≠ D ∧ H r = none ∧ H' r = some (.lst [])) → Q (.ref D) H') : tLc (iRng1 ta) (gName i) tYes (tLst tNil) [i] σ H Q := by
  refine ht _ ⟨n, rfl, by omega, by omega, fun D hD => ?_⟩
  refine lc_it (walk_range (lo := 0) (n := ((n : Int)).toNat)) (fun i H' => Same H H' ∧ ∃ rs : List Addr, H' D = some (.lst (rs.map V.ref)) ∧ rs.length = i ∧ rs.Nodup ∧ ∀ r, r ∈ rs → r ≠ D ∧ H r = none ∧ H' r = some (.lst [])) ⟨same_new hD, [], upd_same, rfl, .nil, fun _ h => by cases h⟩ (fun _ _ _ _ => trivial) (fun j x H1 H2 hj z y => ?_) fun H1 z => ?_
  · obtain ⟨rfl, rfl⟩ := y
    obtain ⟨s1, rs, h1, h2, h3, h4⟩ := z
    refine ⟨wi _, ?_⟩
    dsimp only [tYes]
    rw [if_pos rfl]
    refine ⟨Nat.zero_le _, fun r hr => ⟨rs.map V.ref, ?_, ?_, ?_, rs ++ [r], ?_, by rw [List.length_append, h2]; rfl, ?_, fun t ht => ?_⟩⟩
    · rw [upd_ne (ne_of_none h1 hr)]; exact h1
    · rw [List.length_map, h2]
      rw [Int.toNat_natCast] at hj
      exact Nat.lt_of_lt_of_le hj (Nat.le_trans hn (by decide))
    · intro b o z
      rw [upd_ne (ne_of_none z hD), upd_ne (ne_of_none (s1 _ _ z) hr)]; exact s1 _ _ z
    · rw [upd_same, List.map_append]; rfl
    · rw [List.nodup_append]
      refine ⟨h3, List.pairwise_singleton _ _, fun a ha b hb e => ?_⟩
      rw [List.mem_singleton.mp hb] at e
      subst e
      rw [(h4 a ha).2.2] at hr
      cases hr
    · have hrD : r ≠ D := fun c => by rw [c, h1] at hr; cases hr
      rcases List.mem_append.mp ht with c | c
      · obtain ⟨g1, g2, g3⟩ := h4 t c
        refine ⟨g1, g2, ?_⟩
        rw [upd_ne g1, upd_ne (fun c => by rw [c, hr] at g3; cases g3)]; exact g3
      · rw [List.mem_singleton.mp c]
        refine ⟨hrD, none_of s1 hr, ?_⟩
        rw [upd_ne hrD]; exact upd_same
  · obtain ⟨s1, rs, h1, h2, h3, h4⟩ := z
    exact q D rs H1 s1 hD h1 (by rw [h2, Int.toNat_natCast]) h3 h4
theorem seq_raw {te : TE} {i : Nat} {u : TS} {D : Ends} {σ : L2.St} {H : Hp} (h : te σ H fun v H3 => u D (σ.set i (some v)) H3) : tSeq (tAsg te (gName i)) u D σ H := h
/-- without some objects -/
def hide (own : List Addr) (H : Hp) : Hp := fun b => if b ∈ own then none else H b
theorem hide_at {own : List Addr} {H : Hp} {b : Addr} (h : b ∉ own) : hide own H b = H b := if_neg h
theorem hide_in {own : List Addr} {H : Hp} {b : Addr} (h : b ∈ own) : hide own H b = none := if_pos h
theorem hide_le {own : List Addr} {H : Hp} : Same (hide own H) H := fun b o z => by
  by_cases h : b ∈ own
  · rw [hide_in h] at z; cases z
  · rw [hide_at h] at z; exact z
theorem hide_mono {own : List Addr} {H H' : Hp} (e : Same H H') : Same (hide own H) (hide own H') := fun b o z => by
  by_cases h : b ∈ own
  · rw [hide_in h] at z; cases z
  · rw [hide_at h] at z ⊢; exact e _ _ z
theorem hide_up {own : List Addr} {H H' : Hp} (e : Same (hide own H) H') : Same (hide own H) (hide own H') := fun b o z => by
  by_cases h : b ∈ own
  · rw [hide_in h] at z; cases z
  · rw [hide_at h]; exact e _ _ z
theorem hide_of {own : List Addr} {H H1 : Hp} (e : Same H H1) (h : ∀ b, b ∈ own → H b = none) : Same H (hide own H1) := fun b o z => by
  rw [hide_at (fun c => by rw [h b c] at z; cases z)]; exact e _ _ z
theorem hide_upd {own : List Addr} {H : Hp} {a : Addr} {o : HO} (h : a ∈ own) : hide own (upd H a o) = hide own H := by
  funext b
  by_cases c : b ∈ own
  · rw [hide_in c, hide_in c]
  · rw [hide_at c, hide_at c, upd_ne (fun d => c (by rw [d]; exact h))]
theorem vis_hide {own : List Addr} {H H2 : Hp} (h : ∀ b, b ∈ own → ∃ o, H b = some o) : Same (vis (hide own H) H H2) (hide own H2) := fun b u z => by
  have hb : b ∉ own := fun c => by
    obtain ⟨o, ho⟩ := h b c
    rw [vis_not (hide_in c) ho] at z; cases z
  rw [hide_at hb]; exact vis_le _ _ _ _ _ z
/-- in what dimension a face lies -/
def dimF (n : Nat) (pts : List (List Int)) (f : List Nat) : Int := AB.dimsT (f.map fun i => (AB.cornersT n pts).getD i [])
theorem rowsT_def (n : Nat) (pts : List (List Int)) (d : Int) : AB.rowsT n pts d = (AB.sharedT (AB.bounds n pts)).filter fun f => decide (dimF n pts f = d) := rfl
theorem bnd_sub {n : Nat} {pts : List (List Int)} {b : List Nat} (h : b ∈ AB.bounds n pts) : b.Sublist (List.range (AB.cornersT n pts).length) := by
  obtain ⟨t, _, rfl⟩ := List.mem_map.mp h
  exact List.filter_sublist
theorem rg_at {n d : Nat} (h : d < n) : (List.range n)[d]? = some d := by rw [List.getElem?_range h]
theorem paired_of_at {α β : Type} {F : α → β → Prop} : ∀ {l : List α} {m : List β}, l.length = m.length → (∀ (i : Nat) (a : α) (b : β), l[i]? = some a → m[i]? = some b → F a b) → Paired F l m
  | [], [], _, _ => .nil
  | [], _ :: _, h, _ => by cases h
  | _ :: _, [], h, _ => by cases h
  | a :: l, b :: m, h, k => .cons (k 0 a b rfl rfl) (paired_of_at (by simpa using h) fun i x y h1 h2 => k (i + 1) x y (by simpa using h1) (by simpa using h2))
end Ab

set_option Elab.async false
set_option linter.all false
set_option maxRecDepth 100000
set_option maxHeartbeats 2000000
namespace Ab
open PySem PySem.Spec PyProof.Rows L2
theorem lc_raw {K : PySem.W.Frag} {te tel : TE} {g : TG} {tt : TT} {vs : List Nat} {σ : L2.St} {H : Hp} {Q : VK} (h : te σ H fun x H1 => tLc (iList K (tC x)) g tt tel vs σ H1 Q) : tLc (iList K te) g tt tel vs σ H Q := h
theorem gv_cst {σ : L2.St} {H : Hp} {x : V} {R : Rel} (mR : Mono R) (r : R x H) : Gv (tC x) σ H R := fun H1 e Q q => q x H1 (Same.refl _) (mR _ _ _ (vis_base e) r)
theorem fit_of {n : Int} {pts : List (List Int)} (h : ¬ AB.refT n pts < 0) : Fit n.toNat pts ∧ ((n.toNat : Nat) : Int) = n := by
  obtain ⟨h1, h2, h3, h4, h5⟩ := AB.ref_ok h
  refine ⟨⟨h1, h3, fun c => by rw [c] at h4; exact absurd h4 (by decide), fun r hr z hz => ?_⟩, h2⟩
  have := (h5 r hr).2 z hz
  omega
theorem BodyAt.up {C : Addr} {n : Nat} {pts : List (List Int)} {H H' : Hp} {p : Addr} (e : Same H H') (h : BodyAt C n pts H p) : BodyAt C n pts H' p := by
  obtain ⟨dx, vs, vc, vb, hp, rc, rb, rsd⟩ := h
  exact ⟨dx, vs, vc, vb, e _ _ hp, ListR.mono (fun _ => RowT.mono _) _ _ _ _ e rc, ListR.mono (fun _ => RowT.mono _) _ _ _ _ e rb, ListR.mono (fun _ => RowT.mono _) _ _ _ _ e rsd⟩
theorem no_attr {n : Int} {vs vc vb : V} {m : Str} (h1 : (m == ("n" : Str)) = false) (h2 : (m == ("sides" : Str)) = false) (h3 : (m == ("corners" : Str)) = false) (h4 : (m == ("bounds" : Str)) = false) : (bodyF n vs vc vb).lookup m = none :=
  (lk_past h1).trans ((lk_past h2).trans ((lk_past h3).trans ((lk_past h4).trans rfl)))
/-- o.m() of a body, something that stands by itself -/
theorem gv_meth {C : Addr} {n : Nat} {pts : List (List Int)} {m : Str} {g : Nat → List (List Int) → V} {σ : L2.St} {M : Hp} {i : Nat} {p : Addr} (hi : σ[i]? = some (some (.ref p))) (F : Fit n pts) (B : BodyAt C n pts M p) (hm : ∀ (n : Int) (vs vc vb : V), (bodyF n vs vc vb).lookup m = none) :
    Gv (tMeth C m (spBody C fun n pts => Is (g n pts)) [] E0 (tVar i) tNil) σ M (Is (g n pts)) := fun H1 e Q q => by
  have B1 := B.up e
  obtain ⟨dx, vs, vc, vb, hp, _⟩ := B1
  exact ⟨.ref p, hi, p, dx, _, rfl, hp, hm _ _ _ _, p, n, pts, rfl, F, B.up e, fun v H2 e2 hv => q v H2 e2 hv⟩
theorem gv_bit {C : Addr} {n : Nat} {pts : List (List Int)} {m : Str} {b : Nat → List (List Int) → Bool} {K : PySem.W.Frag} {σ : L2.St} {M : Hp} {i : Nat} {p : Addr} (hi : σ[i]? = some (some (.ref p))) (F : Fit n pts) (B : BodyAt C n pts M p) (hm : ∀ (n : Int) (vs vc vb : V), (bodyF n vs vc vb).lookup m = none) :
    Gv (tIf (fun σ H Q => tMeth C m (spBody C fun n pts => Is (.bl (b n pts))) [] E0 (tVar i) tNil σ H fun x H' => ∃ k, TruV K x H' k ∧ Q k H') (tC (.int 1)) (tC (.int 0))) σ M (Is (.int (if b n pts = true then 1 else 0))) := by
  refine gv_if (b := b n pts) (gvt_truth (gv_meth (g := fun n pts => .bl (b n pts)) hi F B hm) fun v H' _ h H1 e1 => by cases h; rfl) (fun h => ?_) (fun h => ?_) (Is.mono _)
  · rw [if_pos h]; exact gv_c
  · rw [if_neg (by rw [h]; exact Bool.false_ne_true)]; exact gv_c
/-- list(t), t a tuple of whole numbers -/
theorem gv_listT {K : PySem.W.Frag} {σ : L2.St} {H : Hp} {te : TE} {ns : List Int} (h : Gv te σ H (RowT ns)) : Gv (tCB (fun xs H Q => ∃ p ys, xs = [.ref p] ∧ (SqL K H p ys ∨ SqT K H p ys) ∧ ∀ l, H l = none → Q (.ref l) (upd H l (.lst ys))) (tCons te tNil)) σ H (RowL ns) :=
  gv_c1 h (fun x H' _ ⟨p, e, hp⟩ H1 e1 Q q => ⟨p, ns.map V.int, by rw [e], .inr (.inl (.inl (e1 _ _ hp))), new_ok (R := RowL ns) e1 (fun p2 H'' _ h2 => ⟨p2, rfl, h2⟩) q⟩) (RowL.mono _)
theorem gv_lstE {σ : L2.St} {H : Hp} {te : TE} {i : Int} (h : Gv te σ H (Is (.int i))) : Gv (tLst (tCons te tNil)) σ H (RowL [i]) :=
  gv_lst (gva_1 h) (fun vs H' ⟨u, h1, _⟩ => by subst h1; exact (by decide : 1 ≤ sizeLine)) (fun vs p H' H'' _ ⟨u, h1, h2⟩ _ hp => by subst h1; cases h2; exact ⟨p, rfl, hp⟩) (RowL.mono _)
/-! ### a list or a tuple -/
def iOr (w1 w2 : TI) : TI := fun σ H R => w1 σ H R ∨ w2 σ H R
theorem pi_or {X : Cx} {tg e : Expr} {w1 w2 : TI} (h1 : PI X tg e w1) (h2 : PI X tg e w2) : PI X tg e (iOr w1 w2) := ⟨fun pins s σ H R I h => h.elim (h1.run pins s σ H R I) (h2.run pins s σ H R I)⟩
theorem src_any {K : PySem.W.Frag} {σ : L2.St} {H : Hp} {i : Nat} {x : V} {ns : List Int} (hi : σ[i]? = some (some x)) (r : Row K ns x H) : Src (iOr (iList K (tVar i)) (iTup K (tVar i))) σ H ns.length (fun j y H' => ∃ a, ns[j]? = some a ∧ IsI a y H') := by
  obtain ⟨k, r⟩ := r
  cases k with
  | true => exact fun H1 e R q => .inl (src_seqL (RI := IsI) (as := ns) ((gv_var hi (RowK.mono _) r).imp fun v H' _ h => RowK.seq h) (fun _ => Is.mono _) H1 e R q)
  | false => exact fun H1 e R q => .inr (src_seqT (RI := IsI) (as := ns) ((gv_var hi (RowK.mono _) r).imp fun v H' _ h => RowK.seq h) (fun _ => Is.mono _) H1 e R q)
theorem nm_len (f : List Nat) : (nmI f).length = f.length := by unfold nmI; rw [List.length_map]
theorem nm_at {f : List Nat} {j a : Nat} {z : Int} (h : f[j]? = some a) (hz : (nmI f)[j]? = some z) : z = (a : Int) := by
  unfold nmI at hz
  rw [List.getElem?_map, h] at hz
  exact (Option.some.inj hz).symm
/-! ### two rows of numbers: are they the same? -/
theorem eqv_intsA : ∀ a b : List Int, PyData.eqvAll (a.map .int) (b.map .int) = decide (a = b)
  | [], [] => by simp [PyData.eqvAll]
  | [], _ :: _ => by simp [PyData.eqvAll]
  | _ :: _, [] => by simp [PyData.eqvAll]
  | x :: a, y :: b => by
    rw [List.map_cons, List.map_cons, PyData.eqvAll, eqv_intsA a b, PyData.eqv, Bool.eq_iff_iff]
    simp
theorem dp_ints {K : PySem.W.Frag} {H : Hp} : ∀ l : List Int, DpAll K H (l.map V.int) (l.map PyData.int)
  | [] => .nil
  | z :: l => .cons (.int z) (dp_ints l)
theorem lay_ints : ∀ l : List Int, PyData.canLayAll0 (l.map PyData.int) = true ∧ PyData.depthAll (l.map PyData.int) ≤ 1
  | [] => ⟨rfl, by simp [PyData.depthAll]⟩
  | z :: l => by
    obtain ⟨h1, h2⟩ := lay_ints l
    constructor
    · simp [PyData.canLayAll0, PyData.canLay0, h1]
    · rw [List.map_cons, PyData.depthAll]
      have : (PyData.int z).depth = 0 := by simp [PyData.depth]
      omega
theorem shaped_ints (l : List Int) : SeqAt.shaped (.tuple (l.map .int)) = true := by
  obtain ⟨h1, h2⟩ := lay_ints l
  unfold SeqAt.shaped
  have e1 : PyData.canLay0 (.tuple (l.map .int)) = true := by rw [PyData.canLay0]; exact h1
  have e2 : PyData.depth (.tuple (l.map .int)) ≤ 64 := by rw [PyData.depth]; omega
  rw [e1, decide_eq_true e2]; rfl
theorem op_eqT {K : PySem.W.Frag} {as bs : List Int} {x y : V} {H : Hp} (hx : RowT as x H) (hy : RowT bs y H) : Op2 (rEqD K) x y H (Is (.bl (decide (as = bs)))) := by
  obtain ⟨p, rfl, hp⟩ := hx
  obtain ⟨p2, rfl, hp2⟩ := hy
  refine op2_val fun H1 e Q q => ⟨.tuple (as.map .int), .tuple (bs.map .int), .tup (.inl (.inl (e _ _ hp))) (dp_ints as), .tup (.inl (.inl (e _ _ hp2))) (dp_ints bs), shaped_ints as, shaped_ints bs, ?_⟩
  have e1 : PyData.eqv (.tuple (as.map .int)) (.tuple (bs.map .int)) = decide (as = bs) := by rw [PyData.eqv]; exact eqv_intsA as bs
  rw [e1]; exact q
/-! ### a body's method -/
theorem gv_methA {C : Addr} {n : Nat} {pts : List (List Int)} {m : Str} {sp : Sp} {σ : L2.St} {M : Hp} {i : Nat} {p : Addr} {E : XK} {ta : TA} {RL : List V → Hp → Prop} {R : Rel} (hi : σ[i]? = some (some (.ref p))) (B : BodyAt C n pts M p) (hm : ∀ (n : Int) (vs vc vb : V), (bodyF n vs vc vb).lookup m = none) (ha : GvA ta σ M RL)
    (hr : ∀ vs H', Same M H' → RL vs H' → OpS sp (.ref p :: vs) H' R) (mR : Mono R) : Gv (tMeth C m sp [] E (tVar i) ta) σ M R := fun H1 e Q q => by
  have B1 := B.up e
  obtain ⟨dx, vs, vc, vb, hp, _⟩ := B1
  refine ⟨.ref p, hi, p, dx, _, rfl, hp, hm _ _ _ _, ha H1 e _ fun vs H2 e2 r2 => ?_⟩
  rw [List.append_nil]
  exact hr vs (vis M H1 H2) (vis_base (Same.trans e e2)) r2 H2 (vis_le _ _ _) Q (fun v H3 e3 r3 => q v H3 (Same.trans e2 e3) (mR _ _ _ (vis_vis e2) r3)) E
/-- the new body: what is known stays -/
theorem make_same {H : Hp} {x dx C : Addr} (hx : H x = none) (hdx : H dx = none) : Same H (mask x (upd (upd H dx (.own x)) x (.ins C dx []))) := fun b o z => by
  have hb : b ≠ x := ne_of_none z hx
  rw [mask_at hb, upd_ne hb, upd_ne (ne_of_none z hdx)]; exact z
theorem gv_lst2 {σ : L2.St} {H : Hp} {ta tb : TE} {i j : Int} (ha : Gv ta σ H (Is (.int i))) (hb : Gv tb σ H (Is (.int j))) : Gv (tLst (tCons ta (tCons tb tNil))) σ H (RowL [i, j]) :=
  gv_lst (gva_2 ha (Is.mono _) hb (Is.mono _)) (fun vs H' ⟨u, v, h1, _⟩ => by subst h1; exact (by decide : 2 ≤ sizeLine)) (fun vs p H' H'' _ ⟨u, v, h1, h2, h3⟩ _ hp => by subst h1; cases h2; cases h3; exact ⟨p, rfl, hp⟩) (RowL.mono _)
end Ab

set_option Elab.async false
set_option linter.all false
set_option maxRecDepth 100000
set_option maxHeartbeats 2000000
/-! Sorting rows of whole numbers, empty ones too. -/
namespace Ab
open PySem PySem.Spec PyProof.Rows L2
section
open PySem.SeqAt PySem.W
variable {prog : Program} {w : World} {A : Around} {E : Value → Shared → Prop} {s : Shared}
theorem tup_lt_call {Q : Value → Shared → Prop} {l b : Addr} {us vs : Array Value} {eq lt : Nat → Bool} (hl : s.heap.IsTuple l us) (hb : s.heap.IsTuple b vs)
    (he : ∀ j (h1 : j < us.size) (h2 : j < vs.size), EqAt A.in1 s us[j] vs[j] (eq j)) (hr : ∀ j (h1 : j < us.size) (h2 : j < vs.size), eq j = false → RcLt A.in1 s us[j] vs[j] (lt j))
    (q : Q (.bool (firstLt eq lt (decide (us.size < vs.size)) (List.range (min us.size vs.size)))) s) : wpAny (model prog w) A (call (.builtin "tuple.__lt__") [.ref l, .ref b]) Q E s := by
  obtain ⟨⟨k1, d1, da1, s1⟩, o1, c1, n1, e1⟩ := id hl
  obtain ⟨⟨k2, d2, da2, s2⟩, o2, c2, n2, e2⟩ := id hb
  dsimp only at c1 e1 c2 e2
  subst c1 e1 c2 e2
  exact call_meets F.slot_tuple_lt ⟨_, o1, rfl⟩ F.entry_tuple_lt (F.args_tuple_lt_2 _ _) (tuple_ltAt l b us vs n1 n2 d1 d2 s1 s2 eq lt) ⟨o1, o2, he, hr, q⟩
theorem alike_encT (a b : List Int) : alike (encT a) (encT b) = true := by
  show PySem.W.alike (.tuple (a.map .int)) (.tuple (b.map .int)) = true
  unfold PySem.W.alike
  exact PySem.W.alike_ints a b
theorem depth_encT (a : List Int) : (encT a).depth = 1 := by
  show PyData.depth (.tuple (a.map .int)) = 1
  rw [PyData.depth, PySem.W.depth_ints]
theorem one_lt_tup {a b : List Int} {u v : Value} {as bs : List Addr} {Q : Bool → Shared → Prop} (ra : Reads s.heap u (encT a) as) (rb : Reads s.heap v (encT b) bs) (hu : A.units + 1 < cLine) (q : Q (dataLt (encT a) (encT b)) s) : wpAny (model prog w) A (oneLt' true u v) Q E s := by
  have ra : Reads s.heap u (.tuple (a.map .int)) as := ra
  have rb : Reads s.heap v (.tuple (b.map .int)) bs := rb
  have al : alikeAll (a.map .int) (b.map .int) = true := PySem.W.alike_ints a b
  have room : A.units + 1 + min (PyData.depthAll (a.map .int)) (PyData.depthAll (b.map .int)) < cLine := by rw [PySem.W.depth_ints, PySem.W.depth_ints]; simpa using hu
  cases ra with
  | @tuple l o xs n _ _ h1 h2 h3 h4 =>
    cases rb with
    | @tuple l' o' ys m _ _ k1 k2 k3 k4 =>
      have z1 : xs.size = (a.map PyData.int).length := by simpa using ReadsAll.length _ _ _ h4
      have z2 : ys.size = (b.map PyData.int).length := by simpa using ReadsAll.length _ _ _ k4
      have q : Q (dataLt (.tuple (a.map .int)) (.tuple (b.map .int))) s := q
      rw [dataLt_tuple, ← firstLt_toks _ _ al, ← z1, ← z2] at q
      rw [oneLt'_eq, if_pos rfl]
      refine wpAny_bind (wpAny_cRoomFor (Nat.lt_of_le_of_lt (Nat.le_succ _) hu) ?_)
      refine wpAny_bind (wpAny_callSpecialIfBound?_slot (T := "tuple") ⟨_, h1, h2⟩ F.slot_tuple_lt (tup_lt_call (eq := pairEq (a.map .int) (b.map .int)) (lt := fun j => dataLt ((a.map PyData.int).getD j .none) ((b.map PyData.int).getD j .none)) ⟨_, h1, h2, _, h3⟩ ⟨_, k1, k2, _, k3⟩ (fun j j1 j2 => ?_) (fun j j1 j2 hj => ?_) ?_))
      · have := eqAt_alikeAll _ _ A.in1 s xs.toList ys.toList _ _ h4 k4 al room j (by rw [Array.length_toList]; exact j1) (by rw [Array.length_toList]; exact j2)
        rwa [Array.getElem_toList, Array.getElem_toList] at this
      · have := rcLt_alikeAll _ _ A.in1 s xs.toList ys.toList _ _ h4 k4 al room j (by rw [Array.length_toList]; exact j1) (by rw [Array.length_toList]; exact j2) hj
        rwa [Array.getElem_toList, Array.getElem_toList] at this
      · exact wpAny_truthy_bool q
/-- what sorting looks at first -/
theorem firsts_of : ∀ {vs : List Value} {ks : List (List Int)} {Q : List (Option Value) → Shared → Prop}, EachIs (fun v k => ∃ as, Reads s.heap v (encT k) as) vs ks → (∀ fs, EachIs (fun (o : Option Value) (k : List Int) => o.isSome = !k.isEmpty) fs ks → Q fs s) → wpAny (model prog w) A (vs.mapM firstOfTuple') Q E s
  | [], _, _, .nil, h => by
    rw [List.mapM_nil]
    exact wpAny_pure (h _ .nil)
  | v :: vs, k :: ks, Q, .cons ⟨as, r⟩ t, h => by
    have lk := looks_reads (M := model prog w) r
    have r : Reads s.heap v (.tuple (k.map .int)) as := r
    rw [List.mapM_cons]
    refine wpAny_bind ?_
    rw [kas_first_eq]
    refine wpAny_bind (lk.here ?_)
    rw [if_neg (by show ¬ (Value.type "tuple" != Value.type "tuple") = true; simp)]
    cases r with
    | @tuple l o xs n _ _ h1 h2 h3 h4 =>
      refine wpAny_bind (listItems_at h1 h3 (wpAny_pure ?_))
      refine wpAny_bind (firsts_of t fun fs hfs => wpAny_pure (h _ (.cons ?_ hfs)))
      have z : xs.size = k.length := by simpa using ReadsAll.length _ _ _ h4
      cases k with
      | nil =>
        have : xs[0]? = none := Array.getElem?_eq_none (by rw [z]; exact Nat.le_refl _)
        rw [this]; rfl
      | cons a k =>
        have : xs[0]? = some (xs[0]'(by rw [z]; exact Nat.succ_pos _)) := Array.getElem?_eq_getElem _
        rw [this]; rfl
theorem firsts_all : ∀ {fs : List (Option Value)} {ks : List (List Int)}, EachIs (fun (o : Option Value) (k : List Int) => o.isSome = !k.isEmpty) fs ks → fs.all (·.isSome) = ks.all fun k => !k.isEmpty
  | _, _, .nil => rfl
  | _, _, .cons h t => by rw [List.all_cons, List.all_cons, h, firsts_all t]
theorem kind_tups {vs : List Value} {ks : List (List Int)} {Q : SortKind → Shared → Prop} (e : EachIs (fun v k => ∃ as, Reads s.heap v (encT k) as) vs ks) (h2 : 2 ≤ vs.length) (some_empty : ks.all (fun k => !k.isEmpty) = false)
    (q : Q (if (ks.headD []).isEmpty then oneType' else general') s) : wpAny (model prog w) A (keyKind' vs.toArray) Q E s := by
  rw [keyKind'_eq, List.mapM_toArray, map_eq_pure_bind]
  refine wpAny_bind (wpAny_bind (firsts_of e fun fs hfs => wpAny_pure ?_))
  have ha : (fs.toArray.all fun x => x.isSome) = false := by rw [List.all_toArray, firsts_all hfs]; exact some_empty
  rw [if_neg (by rw [ha]; exact Bool.false_ne_true)]
  cases hfs with
  | nil =>
    cases e
    exact absurd h2 (by decide)
  | @cons o k fs ks hok t =>
    have h0 : ((o :: fs).toArray[0]?.bind id).isSome = !k.isEmpty := by simpa using hok
    rw [h0]
    cases hk : k.isEmpty with
    | false =>
      rw [show ((k :: ks).headD []).isEmpty = false from hk] at q
      exact wpAny_pure q
    | true =>
      rw [show ((k :: ks).headD []).isEmpty = true from hk] at q
      rw [if_neg (by decide)]
      rw [oneTypeOnly'_eq, List.mapM_toArray, map_eq_pure_bind]
      refine wpAny_bind (wpAny_bind (wpAny_bind (kas_mapM (r := Value.type "tuple") vs (fun v hv Q' hq => ?_) (wpAny_pure ?_))))
      · obtain ⟨k2, _, as, r⟩ := e.left v hv
        exact (looks_reads r).here hq
      · have len : 0 < vs.length := by omega
        have hall : ((vs.map fun _ => Value.type "tuple").toArray.all fun x => x == Value.type "tuple") = true := by
          rw [List.all_toArray, List.all_map, List.all_eq_true]
          exact fun _ _ => rfl
        have hz : (vs.map fun _ => Value.type "tuple").toArray[0]? = some (Value.type "tuple") := by
          cases vs with
          | nil => cases len
          | cons _ _ => simp
        rw [hz]
        dsimp only
        rw [hall, if_pos rfl]
        exact wpAny_pure (wpAny_pure q)
/-- rows of whole numbers in tuples can be sorted, empty ones too -/
theorem sorts_tups {vs : List Value} {ks : List (List Int)} (e : EachIs (fun v k => ∃ as, Reads s.heap v (encT k) as) vs ks) (hu : A.units + 2 < cLine) : SortsAt prog w A s (dataKind s.heap (ks.map encT)) vs := by
  have hal : AllAlike (ks.map encT) := AllAlike.of alike_encT
  have em : EachIs (fun v d => ∃ as, Reads s.heap v d as) vs (ks.map encT) := each_map (R := fun v d => ∃ as, Reads s.heap v d as) encT e
  have ud : ∀ d, d ∈ ks.map encT → A.units + d.depth < cLine := fun d hd => by
    obtain ⟨k, _, rfl⟩ := List.mem_map.mp hd
    rw [depth_encT]; omega
  cases hall : ks.all fun k => !k.isEmpty with
  | true =>
    refine SortsAt.data em hal (.inl fun d hd => ?_) ud
    obtain ⟨k, hk, rfl⟩ := List.mem_map.mp hd
    have := List.all_eq_true.mp hall k hk
    cases k with
    | nil => cases this
    | cons x k => exact ⟨.int x, k.map .int, rfl⟩
  | false =>
    refine ⟨fun v hv => ?_, if (ks.headD []).isEmpty then oneType' else general', fun E x y a b Q ha hb q => ?_, fun h2 E Q q => kind_tups e h2 hall q⟩
    · obtain ⟨d, hd, as, r⟩ := em.left v hv
      exact ⟨_, dataKind_some hal hd r⟩
    · obtain ⟨d, as, hd, ra, rfl⟩ := dataKind_inv ha
      obtain ⟨d', as', hd', rb, rfl⟩ := dataKind_inv hb
      obtain ⟨k, _, rfl⟩ := List.mem_map.mp hd
      obtain ⟨k', _, rfl⟩ := List.mem_map.mp hd'
      split
      · rw [keyLt'_oneType]
        exact one_lt_tup ra rb (by omega) q
      · show wpAny (model prog w) A (oneLt' false x y) Q E s
        exact oneLt_alike (f := false) (fun z => by cases z) ra rb (alike_encT k k') (fun z => by cases z) (by rw [depth_encT, depth_encT]; omega) q
end
/-! ### sorted(xs), xs a list of tuples of whole numbers -/
def rSortLT (K : PySem.W.Frag) : List V → Hp → VK → Prop := fun xs H Q => ∃ (a : Addr) (ps : List Addr) (ks : List (List Int)) (F : List Int → Addr → Prop), xs = [.ref a] ∧ SqL K H a (ps.map V.ref) ∧ (∀ k b, F k b → H b = some (.tup (k.map V.int))) ∧ Paired F ks ps ∧
  ∀ (bs : List Addr) (p : Addr), Paired F (ks.mergeSort (PySem.W.dataLe false encT)) bs → H p = none → Q (.ref p) (upd H p (.lst (bs.map V.ref)))
/-- v stands for the list k -/
def RKL (H : Hp) (v : Value) (k : List Int) : Prop := ∃ b : Addr, v = .ref b ∧ H b = some (.lst (k.map V.int))
def encL (k : List Int) : PyData := .list (k.map .int)
theorem rkl_reads {P : Program} {w : World} {H : Hp} {h : Heap} (hok : HOk P w H h) {v : Value} {k : List Int} (r : RKL H v k) : ∃ b, H b = some (.lst (k.map V.int)) ∧ Reads h v (encL k) [b] := by
  obtain ⟨b, rfl, hb⟩ := r
  obtain ⟨z, its, n, rv, ho⟩ := (show ObjOk P w H h b (.lst (k.map V.int)) from hok b _ hb)
  exact ⟨b, hb, .list ho rfl rfl (reads_ints rv.ints)⟩
theorem rkl_refs {H : Hp} : ∀ {vs : List Value} {ks : List (List Int)}, PySem.W.EachIs (RKL H) vs ks → ∃ bs : List Addr, vs = bs.map Value.ref ∧ Paired (fun k b => H b = some (.lst (k.map V.int))) ks bs
  | _, _, .nil => ⟨[], rfl, .nil⟩
  | _, _, .cons ⟨b, e, hb⟩ t => by
    obtain ⟨bs, e2, hp⟩ := rkl_refs t
    exact ⟨b :: bs, by rw [e, e2]; rfl, .cons hb hp⟩
theorem refs_F {F : List Int → Addr → Prop} : ∀ {vs : List Value} {ks : List (List Int)}, PySem.W.EachIs (fun v k => ∃ b, v = Value.ref b ∧ F k b) vs ks → ∃ bs : List Addr, vs = bs.map Value.ref ∧ Paired F ks bs
  | _, _, .nil => ⟨[], rfl, .nil⟩
  | _, _, .cons ⟨b, e, hb⟩ t => by
    obtain ⟨bs, e2, hp⟩ := refs_F t
    exact ⟨b :: bs, by rw [e, e2]; rfl, .cons hb hp⟩
theorem vals_ref : ∀ {ps : List Addr} {its : List Value}, Vals (ps.map V.ref) its → its = ps.map Value.ref
  | [], _, h => by cases h; rfl
  | p :: ps, _, h => by
    cases h with
    | cons r t => cases r; rw [vals_ref t]; rfl
theorem each_of_paired {α : Type} {F : α → Addr → Prop} : ∀ {ks : List α} {ps : List Addr}, Paired F ks ps → PySem.W.EachIs (fun v k => ∃ b, v = Value.ref b ∧ F k b) (ps.map Value.ref) ks
  | _, _, .nil => .nil
  | _, _, .cons r t => .cons ⟨_, rfl, r⟩ (each_of_paired t)
def rSortLL (K : PySem.W.Frag) : List V → Hp → VK → Prop := fun xs H Q => ∃ (a : Addr) (ps : List Addr) (ks : List (List Int)) (F : List Int → Addr → Prop), xs = [.ref a] ∧ SqL K H a (ps.map V.ref) ∧ (∀ k b, F k b → H b = some (.lst (k.map V.int))) ∧ Paired F ks ps ∧
  ∀ (bs : List Addr) (p : Addr), Paired F (ks.mergeSort (PySem.W.dataLe false encL)) bs → H p = none → Q (.ref p) (upd H p (.lst (bs.map V.ref)))
section
variable {X : Cx}
theorem call_sortLT (hu : X.A.units + 64 < cLine) : CallR X (.builtin "sorted") (rSortLT X.K) := by
  rintro pins s σ H xs us Q I r ⟨a, ps, ks, F, rfl, hs, hF, hp, q⟩
  obtain ⟨its, rv, hl, hz⟩ := I.list hs
  rw [Vals.ref1 r]
  have ei := vals_ref rv
  subst ei
  have eR : PySem.W.EachIs (fun v k => ∃ b, v = Value.ref b ∧ F k b) (ps.map Value.ref) ks := each_of_paired hp
  have hlen : ks.length = ps.length := Paired.length hp
  rw [List.length_map] at hz
  have sz : (ps.map Value.ref).length ≤ sizeLine := by rw [List.length_map]; exact hz
  have up : ∀ b o, s.heap.get? b = some o → (PySem.W.sortingHeap (PySem.W.copyHeap s.heap (ps.map Value.ref)) (s.heap.objs.size + 1) (ps.map Value.ref)).get? b = some o := fun b o e => PySem.W.sorting_copy_old e
  have I2 : Inv X pins σ H { s with heap := PySem.W.sortingHeap (PySem.W.copyHeap s.heap (ps.map Value.ref)) (s.heap.objs.size + 1) (ps.map Value.ref), toks := s.toks } := I.kept up
  have er : PySem.W.EachIs (fun v k => ∃ as, Reads (PySem.W.sortingHeap (PySem.W.copyHeap s.heap (ps.map Value.ref)) (s.heap.objs.size + 1) (ps.map Value.ref)) v (encT k) as) (ps.map Value.ref) ks := eR.mono fun v k ⟨b, e, r⟩ => ⟨[], rk_reads I2.hok ⟨b, e, hF k b r⟩⟩
  refine PySem.W.sorted_vals hl.isList (sorts_tups (s := { s with heap := PySem.W.sortingHeap (PySem.W.copyHeap s.heap (ps.map Value.ref)) (s.heap.objs.size + 1) (ps.map Value.ref) }) er (by show X.A.units + 1 + 1 + 2 < cLine; omega)) sz ?_
  obtain ⟨bs, eb, hpb⟩ := refs_F (PySem.W.sortVals_data false eR er (PySem.W.AllAlike.of alike_encT))
  dsimp only
  rw [eb]
  obtain ⟨ep, he⟩ := PyProof.Rows.sortedAll_at s.heap (ps.map Value.ref) (bs.map Value.ref).toArray
  have hlb : (bs.map V.ref).length ≤ sizeLine := by
    have := Paired.length hpb
    rw [List.length_mergeSort] at this
    rw [List.length_map]; omega
  exact ⟨.ref _, upd H (s.heap.objs.size + 1) (.lst (bs.map V.ref)), I.laid (t' := s.toks) (fun _ _ => PyProof.Rows.sortedAll_old) (Nat.le_succ _) ⟨hlb, bs.map Value.ref, ep, vals_refs bs, he⟩, rfl, q bs _ hpb (I.hok.fresh (Nat.le_succ _))⟩
theorem call_sortLL (hu : X.A.units + 64 < cLine) : CallR X (.builtin "sorted") (rSortLL X.K) := by
  rintro pins s σ H xs us Q I r ⟨a, ps, ks, F, rfl, hs, hF, hp, q⟩
  obtain ⟨its, rv, hl, hz⟩ := I.list hs
  rw [Vals.ref1 r]
  have ei := vals_ref rv
  subst ei
  have eR : PySem.W.EachIs (fun v k => ∃ b, v = Value.ref b ∧ F k b) (ps.map Value.ref) ks := each_of_paired hp
  have hlen : ks.length = ps.length := Paired.length hp
  rw [List.length_map] at hz
  refine PySem.W.sorted_data (R := fun v k => ∃ b, v = Value.ref b ∧ F k b) (enc := encL) (bs := ks) hl.isList eR (eR.mono fun v k ⟨b, e, r⟩ => by
    obtain ⟨_, _, hr⟩ := rkl_reads I.hok ⟨b, e, hF k b r⟩
    exact ⟨_, hr⟩) (PySem.W.AllAlike.of fun a b => ?_) (PySem.W.Sortable.others fun k => ⟨(fun z => by cases z), fun xs z => by cases z⟩) (by omega) (fun k _ => ?_) fun out hlo hout => ?_
  · show PySem.W.alike (.list (a.map .int)) (.list (b.map .int)) = true
    unfold PySem.W.alike
    exact PySem.W.alike_ints a b
  · have : (encL k).depth = 1 := by
      show PyData.depth (.list (k.map .int)) = 1
      rw [PyData.depth, PySem.W.depth_ints]
    rw [this]
    omega
  · obtain ⟨bs, eb, hpb⟩ := refs_F hout
    subst eb
    obtain ⟨ep, he⟩ := PyProof.Rows.sortedAll_at s.heap (ps.map Value.ref) (bs.map Value.ref).toArray
    have hlb : (bs.map V.ref).length ≤ sizeLine := by
      have := Paired.length hpb
      rw [List.length_mergeSort] at this
      rw [List.length_map]; omega
    exact ⟨.ref _, upd H (s.heap.objs.size + 1) (.lst (bs.map V.ref)), I.laid (t' := s.toks) (fun _ _ => PyProof.Rows.sortedAll_old) (Nat.le_succ _) ⟨hlb, bs.map Value.ref, ep, vals_refs bs, he⟩, rfl, q bs _ hpb (I.hok.fresh (Nat.le_succ _))⟩
end
end Ab

set_option Elab.async false
set_option linter.all false
set_option maxRecDepth 100000
set_option maxHeartbeats 2000000
/-! xs[0::2], xs[1::2] -/
namespace Ab
open PySem PySem.Spec PyProof.Rows L2
/-- every second one, from the first or the second on -/
def selG {α : Type} (l : Nat) : List α → List α
  | a :: b :: r => (if l = 0 then a else b) :: selG l r
  | [a] => if l = 0 then [a] else []
  | [] => []
def rngS (l n : Nat) : List Nat := (List.range ((n + 1 - l) / 2)).map fun k => l + 2 * k
theorem rngS_two {l n : Nat} (h : l ≤ 1) : rngS l (n + 2) = l :: (rngS l n).map (· + 2) := by
  unfold rngS
  have e : (n + 2 + 1 - l) / 2 = (n + 1 - l) / 2 + 1 := by omega
  rw [e, List.range_succ_eq_map, List.map_cons, List.map_map, List.map_map]
  refine congrArg _ (List.map_congr_left fun k _ => ?_)
  show l + 2 * (k + 1) = l + 2 * k + 2
  omega
theorem rngS_pick {α : Type} {l : Nat} (h : l ≤ 1) : ∀ xs : List α, (rngS l xs.length).filterMap (fun i => xs[i]?) = selG l xs
  | [] => by
    have : rngS l 0 = [] := by
      unfold rngS
      have e : (0 + 1 - l) / 2 = 0 := by omega
      rw [e]; rfl
    show (rngS l 0).filterMap _ = []
    rw [this]; rfl
  | [a] => by
    match l, h with
    | 0, _ =>
      show (rngS 0 1).filterMap _ = [a]
      rw [show rngS 0 1 = [0] by decide]; rfl
    | 1, _ =>
      show (rngS 1 1).filterMap _ = []
      rw [show rngS 1 1 = [] by decide]; rfl
  | a :: b :: r => by
    show (rngS l (r.length + 2)).filterMap _ = _
    rw [rngS_two h, List.filterMap_cons, List.filterMap_map]
    have ih := rngS_pick h r
    have e : ((fun i => (a :: b :: r)[i]?) ∘ fun x => x + 2) = fun i => r[i]? := by
      funext i
      show (a :: b :: r)[i + 2]? = r[i]?
      rfl
    rw [e, ih]
    match l, h with
    | 0, _ => rfl
    | 1, _ => rfl
theorem slice_rng {l n : Nat} (h : l ≤ 1) : sliceRange (sliceBounds (some (l : Int)) none (some 2) n).1 (sliceBounds (some (l : Int)) none (some 2) n).2.1 (sliceBounds (some (l : Int)) none (some 2) n).2.2 = rngS l n := by
  have e1 : (sliceBounds (some (l : Int)) none (some 2) n).1 = min (l : Int) n := by
    unfold sliceBounds
    dsimp only [Option.getD_some]
    rw [if_pos (by decide), if_neg (by omega)]
    omega
  have e2 : (sliceBounds (some (l : Int)) none (some 2) n).2.1 = (n : Int) := by
    unfold sliceBounds
    dsimp only [Option.getD_some]
    rw [if_pos (by decide)]
  have e3 : (sliceBounds (some (l : Int)) none (some 2) n).2.2 = 2 := rfl
  rw [e1, e2, e3]
  unfold sliceRange rngS
  dsimp only
  rw [if_pos (by decide)]
  have ec : (if min (l : Int) (n : Int) < (n : Int) then ((n : Int) - min (l : Int) (n : Int) + 2 - 1) / 2 else 0).toNat = (n + 1 - l) / 2 := by
    split <;> omega
  rw [ec]
  refine List.map_congr_left fun k hk => ?_
  have := List.mem_range.mp hk
  omega
theorem pick_step {l : Nat} (h : l ≤ 1) (its : List Value) : slicePick its.toArray (some (l : Int)) none (some 2) = (selG l its).toArray := by
  unfold slicePick
  rw [List.size_toArray, slice_rng h]
  have : (fun (i : Nat) => its.toArray[i]?) = fun (i : Nat) => its[i]? := by funext i; simp
  rw [this, rngS_pick h]
theorem sel_vals {l : Nat} : ∀ {xs : List V} {its : List Value}, Vals xs its → Vals (selG l xs) (selG l its)
  | [], _, h => by cases h; exact .nil
  | [a], _, h => by
    cases h with
    | cons r t =>
      cases t
      by_cases c : l = 0
      · simp only [selG, if_pos c]; exact .cons r .nil
      · simp only [selG, if_neg c]; exact .nil
  | a :: b :: xs, _, h => by
    cases h with
    | cons r t =>
      cases t with
      | cons r2 t2 =>
        simp only [selG]
        refine .cons ?_ (sel_vals t2)
        by_cases c : l = 0
        · rw [if_pos c, if_pos c]; exact r
        · rw [if_neg c, if_neg c]; exact r2
theorem selG_len {α : Type} {l : Nat} : ∀ xs : List α, (selG l xs).length ≤ xs.length
  | [] => Nat.le_refl _
  | [a] => by unfold selG; split <;> simp
  | a :: b :: r => by
    have := selG_len (l := l) r
    simp only [selG, List.length_cons]; omega
theorem selG_map {α β : Type} {l : Nat} (f : α → β) : ∀ xs : List α, selG l (xs.map f) = (selG l xs).map f
  | [] => rfl
  | [a] => by
    show (if l = 0 then [f a] else []) = (if l = 0 then [a] else []).map f
    split <;> rfl
  | a :: b :: r => by
    show (if l = 0 then f a else f b) :: selG l (r.map f) = f (if l = 0 then a else b) :: (selG l r).map f
    rw [selG_map f r]
    split <;> rfl
theorem selG_evs : ∀ xs : List Int, selG 0 xs = AB.evs xs
  | [] => rfl
  | [a] => rfl
  | a :: b :: r => by
    show a :: selG 0 r = a :: AB.evs r
    rw [selG_evs r]
theorem selG_ods : ∀ xs : List Int, selG 1 xs = AB.ods xs
  | [] => rfl
  | [a] => rfl
  | a :: b :: r => by
    show b :: selG 1 r = b :: AB.ods r
    rw [selG_ods r]
def tStep2 (K : PySem.W.Frag) (l : Nat) (te : TE) : TE := fun σ H Q => te σ H fun x H1 => ∃ a xs, x = .ref a ∧ SqL K H1 a xs ∧ ∀ p, H1 p = none → Q (.ref p) (upd H1 p (.lst (selG l xs)))
section
variable {X : Cx}
theorem pe_step2 {e : Expr} {te : TE} {l k1 k2 : Nat} {p1 p2 p3 pos : Pos} (hl : l ≤ 1) (he : PE X e te) : PE X (.Subscript e (.Slice (some (.Constant (.int l) k1 p1)) none (some (.Constant (.int 2) k2 p2)) p3) pos) (tStep2 X.K l te) := by
  refine ⟨fun pins s σ H Q I h => ?_⟩
  refine Subscript_ (thn (he.run pins s σ H _ I h) fun v s1 ⟨x, H1, I1, r1, a, xs, ex, hx, q⟩ => ?_)
  subst ex
  cases r1
  have lo : PO X (some (.Constant (.int l) k1 p1)) (tPart (tC (.int l))) := po_some pe_int
  have st : PO X (some (.Constant (.int 2) k2 p2)) (tPart (tC (.int 2))) := po_some pe_int
  refine wpAny_Slice (thn (lo.run pins s1 σ H1 (fun o H2 => o = some (l : Int) ∧ H2 = H1) I1 ⟨l, rfl, rfl, rfl⟩) fun vl s2 ⟨o2, H2, I2, pl, eo2, eH2⟩ => ?_)
  subst eo2 eH2
  refine thn (po_none.run pins s2 σ H2 (fun o H3 => o = none ∧ H3 = H2) I2 ⟨rfl, rfl⟩) fun vu s3 ⟨o3, H3, I3, pu, eo3, eH3⟩ => ?_
  subst eo3 eH3
  refine thn (st.run pins s3 σ H3 (fun o H4 => o = some 2 ∧ H4 = H3) I3 ⟨2, rfl, rfl, rfl⟩) fun vt s4 ⟨o4, H4, I4, pt, eo4, eH4⟩ => ?_
  subst eo4 eH4
  have I5 : Inv X pins σ H4 { s4 with heap := s4.heap.push { cls := .type "slice", data := .fields #[vl, vu, vt] } } := I4.kept (t' := s4.toks) fun b ob w => Heap.get?_push_of_some _ w
  obtain ⟨its, r, ht, hz⟩ := I5.list hx
  have hlen := r.length
  show wpAny (model X.prog X.w) X.A (subscriptTail e (.Slice (some (.Constant (.int l) k1 p1)) none (some (.Constant (.int 2) k2 p2)) p3) (.ref a) (.ref s4.heap.objs.size)) (EP X pins σ Q) X.xe { s4 with heap := s4.heap.push { cls := .type "slice", data := .fields #[vl, vu, vt] } }
  refine tail_any (ops := [.ref a, .ref s4.heap.objs.size]) ht.isList.typeIs (PySem.slot_list_getitem.lookup) ?_ (by with_unfolding_all rfl)
  refine wpAny_getItem_list_slice ht.isList (Heap.IsSliceOf.new _ vl vu vt) pl pu pt (by decide) ?_ (by rw [List.size_toArray]; omega)
  rw [pick_step hl]
  have hz2 := selG_len (l := l) xs
  refine ⟨.ref _, _, I5.laid (t' := s4.toks) (o := .lst (selG l xs)) (fun b ob w => Heap.get?_push_of_some _ w) (Nat.le_refl _) ?_, rfl, q _ (I5.hok.fresh (Nat.le_refl _))⟩
  exact ⟨Nat.le_trans hz2 hz, _, 0, sel_vals r, Heap.get?_push_size _ rfl⟩
end
theorem gv_step2 {K : PySem.W.Frag} {σ : L2.St} {H : Hp} {ta : TE} {l : Nat} {as : List Int} (ha : Gv ta σ H (RowK true K as)) : Gv (tStep2 K l ta) σ H (RowL (selG l as)) := fun H1 e Q q =>
  ha H1 e _ fun x H2 e2 ⟨p, ex, hs⟩ => ⟨p, as.map V.int, ex, sq_same (k := true) (vis_le _ _ _) hs, fun p2 hn => q _ _ (Same.trans e2 (same_new hn)) ⟨p2, rfl, by
    rw [vis_at (.inr (none_back e2 (by rw [hn]; rfl))), upd_same, selG_map]⟩⟩
end Ab

set_option Elab.async false
set_option linter.all false
set_option maxRecDepth 100000
set_option maxHeartbeats 2000000
/-! sorted(xs, key=f): f any call that keeps what is known, its keys lists of whole numbers -/
namespace Ab
open PySem PySem.Spec PyProof.Rows L2
section
open PySem.W PySem.Calls
variable {prog : Program} {w : World} {A : Around} {E : Value → Shared → Prop} {s : Shared} {a ks : Addr} {vs : List Value} {keys : Array Value} {e e1 : Nat} {P : PySem.Fin → Shared → Prop}
/-- all but two objects stay -/
def But2 (a c : Addr) (h h' : Heap) : Prop := ∀ b o, b ≠ a → b ≠ c → h.get? b = some o → h'.get? b = some o
theorem keyQ_tail {st : SortSt} {out : List Value} (nk : s.heap.get? ks = some (seqObj "list" keys e)) (na : s.heap.get? a = some (seqObj "list" #[] e1)) (ne : ks ≠ a) (z1 : keys.size ≤ sizeLine) (z2 : out.length ≤ sizeLine)
    (hf : failedOf st = none) (ho : (arrOf st).map (·.2) = out.toArray) (q : ∀ h' tk c, But2 a ks s.heap h' → h'.get? a = some (seqObj "list" out.toArray c) → P (.done (.ret .none)) { s with heap := h', toks := tk }) :
    wpAny (model prog w) A (ksk_tail a false e1 (.ref ks) st) P E s := by
  have u1 := Heap.SameBut.update s.heap ks (Obj.mapSeq fun _ => (#[] : Array Value))
  have na1 := (u1.2 a ne.symm).trans na
  have u2 := Heap.SameBut.update (s.heap.update ks (Obj.mapSeq fun _ => (#[] : Array Value))) a (Obj.mapSeq fun _ => out.toArray)
  have hc := get?_update_seq na1 fun _ => out.toArray
  unfold ksk_tail
  dsimp only
  rw [ho]
  refine wpAny_bind (listUpdate_at nk rfl ?_ z1 (Nat.zero_le _))
  refine wpAny_bind (wpAny_letGo (wpAny_bind (seqEpoch_at na1 rfl ?_)))
  refine wpAny_bind (listUpdate_at na1 rfl ?_ (Nat.zero_le _) (by rw [if_neg Bool.false_ne_true, List.size_toArray]; omega))
  rw [hf]
  simp only [bne_self_eq_false, Bool.false_eq_true, if_false]
  exact wpAny_pure (q _ _ _ (fun b o h1 h2 hb => (u2.2 b h1).trans ((u1.2 b h2).trans hb)) hc)
theorem keyQ_end {κ : PyProof.Rows.KeyKind} (nk : s.heap.get? ks = some (seqObj "list" keys e)) (na : s.heap.get? a = some (seqObj "list" #[] e1)) (ne : ks ≠ a) (S : SortsAt prog w A s κ keys.toList) (hs : keys.size = vs.length) (hz : vs.length ≤ sizeLine)
    (q : ∀ h' tk c, But2 a ks s.heap h' → h'.get? a = some (seqObj "list" (sortVals κ false keys.toList vs).toArray c) → P (.done (.ret .none)) { s with heap := h', toks := tk }) :
    wpAny (model prog w) A (ksk_end a false vs.toArray e1 (.ref ks) keys) P E s := by
  obtain ⟨kd, lt, kind⟩ := S.kind
  have kl : keys.toList.length = vs.length := by rw [Array.length_toList]; exact hs
  have K0 : PyProof.Rows.KeysOf κ (keys.zip vs.toArray) := keysOf_zip S.keys
  have ol : (sortVals κ false keys.toList vs).length = vs.length := sortVals_length false kl
  have zs : (keys.zip vs.toArray).size = vs.length := by rw [Array.size_zip, hs, List.size_toArray, Nat.min_self]
  have fin : ∀ st' : SortSt, (arrOf st').Perm (keys.zip vs.toArray) → SortedToK κ (arrOf st') (keys.zip vs.toArray).size → Stable κ (arrOf st') (keys.zip vs.toArray) → (arrOf st').map (·.2) = (sortVals κ false keys.toList vs).toArray := fun st' p1 p2 p3 => by
    have := congrArg List.toArray (sort_out (rev := false) (keys := keys) (items := vs.toArray) (xs := arrOf st') (κ := κ) K0 p1 p2 p3)
    rw [Array.toArray_toList, if_neg Bool.false_ne_true] at this
    exact this
  unfold ksk_end
  dsimp only
  rw [if_neg Bool.false_ne_true, if_neg Bool.false_ne_true]
  by_cases small : vs.toArray.size < 2
  · rw [if_pos small, if_pos small]
    refine wpAny_bind (wpAny_pure ?_)
    rw [StateT.run_pure]
    refine wpAny_bind (wpAny_pure ?_)
    dsimp only
    rw [List.size_toArray] at small
    refine keyQ_tail (st := SortSt.mk' general' (keys.zip vs.toArray) #[] 7 none) nk na ne (by omega) (by omega) rfl (fin _ (Array.Perm.refl _) (fun i j hij hj => ?_) (Stable.refl _)) q
    rw [zs] at hj
    have : i = j := by omega
    subst this
    exact KeyOrd.kle_refl _
  · rw [if_neg small, if_neg small]
    rw [List.size_toArray] at small
    refine wpAny_bind (kind (by omega) _ ?_)
    refine wpAny_bind (wpAny_mono (PyProof.Rows.H.wpS_sortRunsSt (κ := κ) (kd := kd) (a₀ := keys.zip vs.toArray) (st := SortSt.mk' kd (keys.zip vs.toArray) #[] 7 none)
      (Q := fun _ st' => failedOf st' = none ∧ (arrOf st').map (·.2) = (sortVals κ false keys.toList vs).toArray) lt K0 ⟨Array.Perm.refl _, rfl, rfl⟩ rfl (Stable.refl _) (by rw [zs]; omega) fun st' g1 g2 g3 g4 => ⟨g2, fin st' g1 g3 g4⟩) ?_ fun _ _ z => z)
    rintro ⟨⟨⟩, st'⟩ s' ⟨rfl, g1, g2⟩
    dsimp only at g2 ⊢
    exact keyQ_tail nk na ne (by omega) (by omega) g1 g2 q
end
end Ab
namespace Ab
open PySem PySem.Spec PyProof.Rows L2
section
open PySem.W
variable {X : Cx} {pins : List (Addr × Obj)} {σ : L2.St} {H : Hp} {s : Shared}
/-- what is told of an object that is newer than all -/
structure Newer (X : Cx) (pins : List (Addr × Obj)) (H : Hp) (b : Addr) : Prop where
  s0 : X.s_0.heap.objs.size ≤ b
  loc : b ≠ X.env.locals
  cel : ∀ x c, X.env.cells.lookup x = some c → c ≠ b
  pin : ∀ p, p ∈ X.pn ++ pins → p.1 ≠ b
  fs : b ∉ X.fs
  no : H b = none
theorem newer_of (I : Inv X pins σ H s) {b : Addr} (h : s.heap.objs.size ≤ b) : Newer X pins H b := by
  refine ⟨Nat.le_trans I.sz h, fun e => ?_, fun x c e ec => ?_, fun p hp ep => ?_, I.nofs h, I.hok.fresh h⟩
  · have := I.lt
    rw [← e] at this
    exact absurd (Nat.lt_of_lt_of_le this h) (Nat.lt_irrefl _)
  · obtain ⟨v, o, ho, _⟩ := I.cell x c e
    have := Heap.lt_size ho
    rw [ec] at this
    exact absurd (Nat.lt_of_lt_of_le this h) (Nat.lt_irrefl _)
  · have := Heap.lt_size (I.pin p hp).1
    rw [ep] at this
    exact absurd (Nat.lt_of_lt_of_le this h) (Nat.lt_irrefl _)
theorem fresh_pins {P : List (Addr × Obj)} (I : Inv X P σ H s) {new : List (Addr × Obj)} (hn : ∀ p, p ∈ new → s.heap.get? p.1 = some p.2 ∧ H p.1 = none ∧ p.1 ≠ X.env.locals ∧ p.1 ∉ X.fs ∧ ∀ v, p.2.data ≠ .cell v) : Inv X (P ++ new) σ H s :=
  I.pins_of fun p hp => (List.mem_append.mp hp).elim (fun z => I.pin p (List.mem_append_right _ z)) (hn p)
theorem seq_cell {cls : String} {xs : Array Value} {n : Nat} (v : Option Value) : (seqObj cls xs n).data ≠ .cell v := fun z => by cases z
/-- one's own object changes -/
theorem own_turn {P : List (Addr × Obj)} {it : Addr} {o : Obj} {h' : Heap} {t' : Nat} (I : Inv X (P ++ [(it, o)]) σ H s) (N : Newer X P H it) (k : ∀ b u, b ≠ it → s.heap.get? b = some u → h'.get? b = some u) : Inv X P σ H { s with heap := h', toks := t' } := by
  have I1 : Inv X P σ H s := I.unpinned
  exact I1.turned k N.no N.loc (.inr N.s0) N.cel N.pin
/-- both of one's own objects have changed, one is told now -/
theorem own_end {P : List (Addr × Obj)} {a c : Addr} {o : HO} {h' : Heap} {t' : Nat} (I : Inv X P σ H s) (Na : Newer X P H a) (Nc : Newer X P H c) (k : But2 a c s.heap h') (new : ObjOk X.prog X.w (upd H a o) h' a o) : Inv X P σ (upd H a o) { s with heap := h', toks := t' } := by
  have nin : ∀ b, b ∉ [a, c] → b ≠ a ∧ b ≠ c := fun b hb => ⟨fun e => hb (by simp [e]), fun e => hb (by simp [e])⟩
  have kk : ∀ b u, b ∉ [a, c] → s.heap.get? b = some u → h'.get? b = some u := fun b u hb e => k b u (nin b hb).1 (nin b hb).2 e
  have ne : ∀ b u, H b = some u → b ≠ a ∧ b ≠ c := fun b u e => ⟨fun z => (by rw [z, Na.no] at e; cases e), fun z => (by rw [z, Nc.no] at e; cases e)⟩
  refine I.step (g' := s.gens) (d' := s.drawn) (ch := [a, c]) (fun b hb => ?_) (fun b u _ _ hc e _ => kk b u hc e) (fun b u _ _ hc e _ => ⟨u.slots, kk b u hc e⟩) (fun b u hc _ n => by rw [upd_ne (nin b hc).1]; exact n)
    (fun b u hc e => ⟨u, kk b u hc e⟩) (fun b xs e => by rw [upd_ne (ne b _ e).1]; exact e) (fun b u v e => by rw [upd_ne (ne b _ e).1]; exact e) (fun b ps e => ⟨#[], by rw [upd_ne (ne b _ e).1, e]; simp⟩) (fun m hm => ?_) (fun b u e => ?_) I.bare
  · rcases List.mem_cons.mp hb with z | z
    · rw [z]; exact ⟨.inr Na.s0, Na.loc, Na.cel, Na.pin⟩
    · rw [List.mem_singleton.mp z]; exact ⟨.inr Nc.s0, Nc.loc, Nc.cel, Nc.pin⟩
  · obtain ⟨ob, es, ep, ho, r⟩ := hm
    exact ⟨ob, es, ep, k _ ob (fun z => Na.loc z.symm) (fun z => Nc.loc z.symm) ho, r⟩
  · by_cases hb : b = a
    · subst hb; rw [upd_same] at e; cases e; exact new
    · rw [upd_ne hb] at e
      refine (I.hok b u e).stay (fun d v hd q => ?_) (fun d q => by rw [upd_ne (ne d _ q).1]; exact q) fun d xs q => by rw [upd_ne (ne d _ q).1]; exact q
      rcases hd with z | z
      · rw [z] at q ⊢; exact k b v hb (ne b u e).2 q
      · exact k d v (ne d _ z).1 (ne d _ z).2 q
theorem lists_read {P : Program} {w : World} {h : Heap} (hok : HOk P w H h) {g : List Int → List Int} : ∀ {bs : List (List Int)} {cs : List Addr}, Paired (fun k c => H c = some (.lst ((g k).map V.int))) bs cs → EachIs (fun v d => ∃ as, Reads h v d as) (cs.map Value.ref) (bs.map fun k => encL (g k))
  | _, _, .nil => .nil
  | _, _, .cons r t => by
    obtain ⟨_, _, hr⟩ := rkl_reads hok ⟨_, rfl, r⟩
    exact .cons ⟨_, hr⟩ (lists_read hok t)
theorem Newer.at {P : List (Addr × Obj)} {H H' : Hp} {b : Addr} (N : Newer X P H b) (h : H' b = none) : Newer X P H' b := ⟨N.s0, N.loc, N.cel, N.pin, N.fs, h⟩
theorem sort_rest {t : Shared} {a c : Addr} {e1 : Nat} {ps : List Addr} {bs : List (List Int)} {g : List Int → List Int} {f : Addr} {F : List Int → Addr → Prop} {PF : PySem.Fin → Shared → Prop} {E : Value → Shared → Prop}
    (I : Inv X (pins ++ [(a, seqObj "list" #[] e1), (c, seqObj "list" #[] 0)]) σ H t) (Na : Newer X pins H a) (Nc : Newer X pins H c) (ne : c ≠ a) (hp : Paired F bs ps) (hz : ps.length ≤ sizeLine) (hu : X.A.units + 64 < cLine)
    (turn : ∀ (P : List (Addr × Obj)) (s' : Shared) (H' : Hp) (k : List Int) (b : Addr), Same H H' → Inv X P σ H' s' → k ∈ bs → F k b → wpAny (model X.prog X.w) X.A.in1.in1 (call (.ref f) [.ref b]) (EP X P σ fun v H2 => Same H' H2 ∧ ∃ c, v = .ref c ∧ H2 c = some (.lst ((g k).map V.int))) (fun _ _ => False) s')
    (q : ∀ (qs : List Addr) (H' : Hp) (s' : Shared), Same H H' → H' a = none → Inv X pins σ (upd H' a (.lst (qs.map V.ref))) s' → Paired F (bs.mergeSort (dataLe false fun k => encL (g k))) qs → PF (.done (.ret .none)) s') :
    wpAny (model X.prog X.w) X.A.in1.in1 (ksk_rest a (.ref f) false (ps.map Value.ref).toArray e1 (.ref c)) PF E t := by
  have hlen : bs.length = ps.length := Paired.length hp
  unfold ksk_rest
  refine wpAny_bind (wpAny_rule ?_)
  rw [List.forIn_toArray]
  refine wpAny_bind (ksk_fold (fun i s' => ∃ H' kA e cs, Same H H' ∧ Inv X (pins ++ [(a, seqObj "list" #[] e1), (c, seqObj "list" kA e)]) σ H' s' ∧ kA.toList = List.map Value.ref cs ∧ Paired (fun k d => H' d = some (.lst ((g k).map V.int))) (bs.take i) cs) (ps.map Value.ref) 0 t
    ⟨H, #[], 0, [], Same.refl _, I, rfl, .nil⟩ (fun j x s' hx hJ => ?_) fun s' hJ => ?_)
  · obtain ⟨H', kA, e, cs, hH, I', hk, hc⟩ := hJ
    rw [Nat.zero_add] at hc ⊢
    rw [List.getElem?_map] at hx
    cases hb : ps[j]? with
    | none => rw [hb] at hx; cases hx
    | some b =>
      rw [hb] at hx
      have hx : x = .ref b := (Option.some.inj hx).symm
      subst hx
      obtain ⟨k, hkj, hF⟩ := Paired.at hp hb
      have hj := (List.getElem?_eq_some_iff.mp hb).1
      have kz : kA.size ≤ ps.length := by
        have h1 := Paired.length hc
        have h2 := congrArg List.length hk
        rw [Array.length_toList, List.length_map] at h2
        rw [List.length_take] at h1
        omega
      refine wpAny_bind (wpAny_attempt (wpAny_mono (turn _ s' H' k b hH I' (List.mem_of_getElem? hkj) hF) (fun v s2 he => ?_) fun _ _ z => z.elim))
      obtain ⟨u, H2, I2, ru, h2, d, eu, hd⟩ := he
      subst eu
      cases ru
      have p2 := I2.pin (c, seqObj "list" kA e) (by simp)
      have nk2 : s2.heap.get? c = some (seqObj "list" kA e) := p2.1
      have pa2 := I2.pin (a, seqObj "list" #[] e1) (by simp)
      dsimp only
      refine wpAny_bind (listUpdate_at nk2 rfl ?_ (Nat.le_trans kz hz) (Nat.le_trans (Nat.le_of_eq (Array.size_push ..)) (Nat.succ_le_succ (Nat.le_trans kz hz))))
      have up := Heap.SameBut.update s2.heap c (Obj.mapSeq (·.push (.ref d)))
      obtain ⟨e2, ho2⟩ : ∃ e2, (s2.heap.update c (Obj.mapSeq (·.push (.ref d)))).get? c = some (seqObj "list" (kA.push (.ref d)) e2) := ⟨_, get?_update_seq nk2 (·.push (.ref d))⟩
      have I3 : Inv X pins σ H2 { s2 with heap := s2.heap.update c (Obj.mapSeq (·.push (.ref d))), toks := s2.toks } := by
        have I2' : Inv X pins σ H2 s2 := I2.unpinned
        have N := Nc.at p2.2.1
        exact I2'.turned (fun b' u' hb' hu' => (up.2 b' hb').trans hu') N.no N.loc (.inr N.s0) N.cel N.pin
      refine wpAny_pure ⟨rfl, H2, kA.push (.ref d), e2, cs ++ [d], Same.trans hH h2, fresh_pins I3 fun p hpp => ?_, ?_, ?_⟩
      · rcases List.mem_cons.mp hpp with z | z
        · rw [z]
          exact ⟨(up.2 a ne.symm).trans pa2.1, pa2.2.1, Na.loc, Na.fs, fun v => seq_cell v⟩
        · rw [List.mem_singleton.mp z]
          exact ⟨ho2, p2.2.1, Nc.loc, Nc.fs, fun v => seq_cell v⟩
      · rw [Array.toList_push, hk, List.map_append]; rfl
      · rw [take_step hkj]
        exact Paired.app (Paired.imp (fun x y r => h2 _ _ r) hc) (.cons hd .nil)
  · obtain ⟨H', kA, e, cs, hH, I', hk, hc⟩ := hJ
    have tk : bs.take (0 + (ps.map Value.ref).length) = bs := List.take_of_length_le (by rw [List.length_map]; omega)
    rw [tk] at hc
    have pc := I'.pin (c, seqObj "list" kA e) (by simp)
    have pa := I'.pin (a, seqObj "list" #[] e1) (by simp)
    have ksz : kA.size = (ps.map Value.ref).length := by
      have h1 := Paired.length hc
      have h2 := congrArg List.length hk
      rw [Array.length_toList, List.length_map] at h2
      rw [List.length_map]; omega
    have rd : EachIs (fun v d => ∃ as, Reads s'.heap v d as) kA.toList (bs.map fun k => encL (g k)) := by rw [hk]; exact lists_read I'.hok hc
    have al : ∀ x y : List Int, PySem.W.alike (encL (g x)) (encL (g y)) = true := fun x y => by
      show PySem.W.alike (.list ((g x).map .int)) (.list ((g y).map .int)) = true
      unfold PySem.W.alike
      exact PySem.W.alike_ints _ _
    have hal : AllAlike (bs.map fun k => encL (g k)) := AllAlike.of al
    refine wpAny_bind (listItems_at pc.1 rfl ?_)
    refine keyQ_end (κ := dataKind s'.heap (bs.map fun k => encL (g k))) pc.1 pa.1 ne (SortsAt.data rd hal (.inr fun d hd => ?_) fun d hd => ?_) ksz (by rw [List.length_map]; exact hz) fun h' tk' n b2 na' => ?_
    · obtain ⟨k, _, rfl⟩ := List.mem_map.mp hd
      exact ⟨fun z => (by cases z), fun xs z => (by cases z)⟩
    · obtain ⟨k, _, rfl⟩ := List.mem_map.mp hd
      have : (encL (g k)).depth = 1 := by
        show PyData.depth (.list ((g k).map .int)) = 1
        rw [PyData.depth, PySem.W.depth_ints]
      rw [this]
      show X.A.units + 1 + 1 + 1 < cLine
      omega
    · have ko : KeyedOut false (bs.map fun k => encL (g k)) (ps.map Value.ref) (sortVals (dataKind s'.heap (bs.map fun k => encL (g k))) false kA.toList (ps.map Value.ref)) := ⟨s'.heap, kA.toList, hal, rfl, rd⟩
      obtain ⟨qs, eq, hq⟩ := refs_F (keyedOut_each (fun k => encL (g k)) ko (each_of_paired hp))
      rw [eq] at na'
      have hql : (qs.map V.ref).length ≤ sizeLine := by
        have := Paired.length hq
        rw [List.length_mergeSort] at this
        rw [List.length_map]; omega
      exact q qs H' _ hH pa.2.1 (own_end (o := .lst (qs.map V.ref)) I'.unpinned (Na.at pa.2.1) (Nc.at pc.2.1) b2 ⟨hql, qs.map Value.ref, n, vals_refs qs, na'⟩) hq
theorem sort_key (I : Inv X pins σ H s) {ps : List Addr} {bs : List (List Int)} {g : List Int → List Int} {f a0 : Addr} {F : List Int → Addr → Prop} {Q : VK} (hs : SqL X.K H a0 (ps.map V.ref)) (hp : Paired F bs ps) (hu : X.A.units + 64 < cLine)
    (turn : ∀ (P : List (Addr × Obj)) (s' : Shared) (H' : Hp) (k : List Int) (b : Addr), Same H H' → Inv X P σ H' s' → k ∈ bs → F k b → wpAny (model X.prog X.w) X.A.in1.in1 (call (.ref f) [.ref b]) (EP X P σ fun v H2 => Same H' H2 ∧ ∃ c, v = .ref c ∧ H2 c = some (.lst ((g k).map V.int))) (fun _ _ => False) s')
    (q : ∀ (qs : List Addr) (H' : Hp) (p : Addr), Same H H' → H' p = none → Paired F (bs.mergeSort (dataLe false fun k => encL (g k))) qs → Q (.ref p) (upd H' p (.lst (qs.map V.ref)))) :
    wpAny (model X.prog X.w) X.A (call (.builtin "sorted") [.ref a0] [(Str.ofString "key", .ref f)]) (EP X pins σ Q) X.xe s := by
  obtain ⟨its, rv, hl, hz⟩ := I.list hs
  have ei := vals_ref rv
  subst ei
  have hlen : bs.length = ps.length := Paired.length hp
  rw [List.length_map] at hz
  have sz : (ps.map Value.ref).length ≤ sizeLine := by rw [List.length_map]; exact hz
  refine sorted_of_sort hl.isList sz (by unfold argsOk; kernel_rfl) (fun x => by unfold argsOk; kernel_rfl) fun E' => ?_
  rw [ksk_t1]
  have ho := copyHeap_at s.heap (ps.map Value.ref)
  have ho1 := get?_update_seq ho fun _ => (#[] : Array Value)
  unfold ksk_tree
  refine wpAny_bind (listItems_at ho rfl ?_)
  refine wpAny_bind (listUpdate_at ho rfl ?_ (by rw [List.size_toArray]; exact sz) (Nat.zero_le _))
  refine wpAny_bind (seqEpoch_at ho1 rfl ?_)
  refine wpAny_bind (wpAny_newTuple ?_ (by show (ps.map Value.ref).length ≤ _; exact sz))
  refine wpAny_bind (wpAny_newList ?_ (Nat.zero_le _))
  refine wpAny_holding ?_
  have ec : ((((copyHeap s.heap (ps.map Value.ref)).update (s.heap.objs.size + 1) (Obj.mapSeq fun _ => (#[] : Array Value))).push (seqObj "tuple" (ps.map Value.ref).toArray 0)).objs.size : Addr) = s.heap.objs.size + 3 := by
    rw [size_push', Heap.size_update]
    unfold copyHeap
    rw [size_push', Heap.size_update, size_push']
  have keep3 : ∀ b o, s.heap.get? b = some o → (sortingHeap (copyHeap s.heap (ps.map Value.ref)) (s.heap.objs.size + 1) (ps.map Value.ref)).get? b = some o := fun b o e => sorting_copy_old e
  have I3 : Inv X pins σ H { s with heap := sortingHeap (copyHeap s.heap (ps.map Value.ref)) (s.heap.objs.size + 1) (ps.map Value.ref), toks := s.toks } := I.kept keep3
  have Na : Newer X pins H (s.heap.objs.size + 1) := newer_of I (Nat.le_succ _)
  have Nc : Newer X pins H (((copyHeap s.heap (ps.map Value.ref)).update (s.heap.objs.size + 1) (Obj.mapSeq fun _ => (#[] : Array Value))).push (seqObj "tuple" (ps.map Value.ref).toArray 0)).objs.size := newer_of I (by rw [ec]; exact Nat.le_add_right _ _)
  have ne : ((((copyHeap s.heap (ps.map Value.ref)).update (s.heap.objs.size + 1) (Obj.mapSeq fun _ => (#[] : Array Value))).push (seqObj "tuple" (ps.map Value.ref).toArray 0)).objs.size : Addr) ≠ s.heap.objs.size + 1 := fun e => by rw [ec] at e; exact absurd e (by simp)
  refine sort_rest (t := { s with heap := sortingHeap (copyHeap s.heap (ps.map Value.ref)) (s.heap.objs.size + 1) (ps.map Value.ref) }) (a := s.heap.objs.size + 1) (c := (((copyHeap s.heap (ps.map Value.ref)).update (s.heap.objs.size + 1) (Obj.mapSeq fun _ => (#[] : Array Value))).push (seqObj "tuple" (ps.map Value.ref).toArray 0)).objs.size)
    (fresh_pins I3 fun p hpp => ?_) Na Nc ne hp hz hu turn fun qs H' s' hH hn I' hq => ⟨rfl, .ref _, _, I', rfl, q qs H' _ hH hn hq⟩
  rcases List.mem_cons.mp hpp with z | z
  · rw [z]
    exact ⟨Heap.get?_push_of_some _ (Heap.get?_push_of_some _ ho1), Na.no, Na.loc, Na.fs, fun v => seq_cell v⟩
  · rw [List.mem_singleton.mp z]
    exact ⟨Heap.get?_push_size _ rfl, Nc.no, Nc.loc, Nc.fs, fun v => seq_cell v⟩
end
end Ab

set_option Elab.async false
set_option linter.all false
set_option maxRecDepth 100000
set_option maxHeartbeats 2000000
/-! A def within a def whose parameter is captured by what stands in it: its entry. -/
namespace Ab
open PySem PySem.Spec PyProof.Rows L2 NdefX
abbrev emptyCell : Obj := { cls := .type "cell", data := .cell none }
def cellNames (l : List (Str × NameKind)) : List Str := (l.filter fun y => y.2 == .cell).map (·.1)
theorem no_cells : ∀ {l : List (Str × NameKind)} (n : Nat) (h : Heap) (acc : List (Str × Addr)), cellNames l = [] → cellsFrom n l acc = acc ∧ pushCells h l = h
  | [], _, _, _, _ => ⟨rfl, rfl⟩
  | (y, k) :: l, n, h, acc, e => by
    unfold cellNames at e
    rw [List.filter_cons] at e
    cases hk : (k == NameKind.cell) with
    | true => rw [show ((y, k).2 == NameKind.cell) = true from hk] at e; cases e
    | false =>
      rw [show ((y, k).2 == NameKind.cell) = false from hk] at e
      obtain ⟨h1, h2⟩ := no_cells (l := l) n h acc e
      unfold cellsFrom pushCells
      rw [hk]
      exact ⟨h1, h2⟩
theorem sole_cell {x : Str} : ∀ {l : List (Str × NameKind)} (n : Nat) (h : Heap) (acc : List (Str × Addr)), cellNames l = [x] → cellsFrom n l acc = (x, n) :: acc ∧ pushCells h l = h.push emptyCell
  | [], _, _, _, e => by cases e
  | (y, k) :: l, n, h, acc, e => by
    unfold cellNames at e
    rw [List.filter_cons] at e
    cases hk : (k == NameKind.cell) with
    | true =>
      rw [show ((y, k).2 == NameKind.cell) = true from hk] at e
      have e2 : y :: cellNames l = [x] := e
      injection e2 with e3 e4
      subst e3
      obtain ⟨h1, h2⟩ := no_cells (l := l) (n + 1) (h.push emptyCell) ((y, n) :: acc) e4
      unfold cellsFrom pushCells
      rw [hk]
      exact ⟨h1, h2⟩
    | false =>
      rw [show ((y, k).2 == NameKind.cell) = false from hk] at e
      obtain ⟨h1, h2⟩ := sole_cell (l := l) n h acc e
      unfold cellsFrom pushCells
      rw [hk]
      exact ⟨h1, h2⟩
/-- the frame's cells: one's own, then the captured ones -/
abbrev ownCl (x : Str) (L : Addr) (cl : List (Str × Addr)) : List (Str × Addr) := (x, (L + 1 : Nat)) :: cl
theorem frame_one {M : Model} {A : Around} {E : Value → Shared → Prop} {s : Shared} {scope : Scope} {x : Str} {v : Value} {globals builtins : Addr} {cl : List (Str × Addr)} {qual : Str} {func : Option Addr} {code : Value} {Q : Env → Shared → Prop}
    (hk : scope.kind = .function) (hx : scope.names.lookup x = some .cell) (h1 : cellNames scope.names = [x])
    (hQ : ∀ h', h'.Ns s.heap.objs.size (fun _ => none) → h'.IsCell (s.heap.objs.size + 1 : Nat) (some v) → (∀ b o, s.heap.get? b = some o → h'.get? b = some o) →
      Q (newEnv scope s.heap.objs.size globals (ownCl x s.heap.objs.size cl) qual func code none builtins) { s with heap := h' }) :
    wpAny M A (newFunctionEnv scope globals cl [(x, v)] qual func code none builtins) Q E s := by
  simp only [newFunctionEnv, Option.isSome_none, Bool.false_eq_true, if_false]
  refine wpAny_bind (wpAny_alloc ?_)
  refine wpAny_bind (wpAny_layCells _ (fun name kind cells => by cases z : kind == NameKind.cell <;> simp [z]) _ _ _ _ ?_)
  obtain ⟨e1, e2⟩ := sole_cell (s.heap.push { cls := .type "frame", data := .dict #[] }).objs.size (s.heap.push { cls := .type "frame", data := .dict #[] }) cl h1
  have es : (s.heap.push { cls := .type "frame", data := .dict #[] }).objs.size = s.heap.objs.size + 1 := Heap.size_push ..
  have hc : ((s.heap.push { cls := .type "frame", data := .dict #[] }).push emptyCell).IsCell (s.heap.objs.size + 1 : Nat) none := by
    rw [← es]
    exact ⟨emptyCell, Heap.get?_push_size _ rfl, rfl⟩
  have hL : ((s.heap.push { cls := .type "frame", data := .dict #[] }).push emptyCell).Ns s.heap.objs.size fun _ => none := (Heap.Ns.new s.heap (.type "frame")).keeps fun b o e => Heap.get?_push_of_some _ e
  have old : ∀ b o, s.heap.get? b = some o → ((s.heap.push { cls := .type "frame", data := .dict #[] }).push emptyCell).get? b = some o := fun b o e => Heap.get?_push_of_some _ (Heap.get?_push_of_some _ e)
  dsimp only
  rw [e1, e2, es, List.forIn_cons]
  refine wpAny_bind (wpAny_bind (wpAny_bind (wpAny_storeName_cell (env := newEnv scope s.heap.objs.size globals (ownCl x s.heap.objs.size cl) qual func code none builtins) hk hx (c := (s.heap.objs.size + 1 : Nat)) (by
      show List.lookup x ((x, _) :: cl) = _
      rw [List.lookup_cons, beq_self_eq_true]) hc fun h' q1 q2 => ?_)))
  refine wpAny_pure ?_
  dsimp only
  rw [List.forIn_nil]
  refine wpAny_pure (wpAny_pure ?_)
  refine hQ h' (hL.sameBut q2 (Nat.ne_of_lt (Nat.lt_succ_self _))) q1 fun b o e => ?_
  exact (q2.2 b fun z => by
    have := Heap.lt_size e
    rw [z] at this
    exact absurd (show s.heap.objs.size + 1 < s.heap.objs.size from this) (by omega)).trans (old b o e)
/-- its names: the parameter, the captured ones, then its locals -/
structure OScope (N : List Str) (x : Str) (fr : List Str) (sc : Scope) : Prop where
  kind : sc.kind = .function
  co : sc.isCoroutine = false
  gen : sc.isGenerator = false
  nd : N.Nodup
  pre : N.take (1 + fr.length) = x :: fr
  cel : cellNames sc.names = [x]
  par : sc.names.lookup x = some .cell
  free : ∀ y ∈ sc.names, y.2 = .free → y.1 ∈ fr
  frk : ∀ y ∈ fr, sc.names.lookup y = some .free
abbrev envO (F : NF) (f : Addr) (x : Str) (L : Addr) : Env := PySem.W.envX F.qual F.scope L f (.ref F.c) (ownCl x L F.cl)
/-- the world of its body -/
def ocx (CX : CXT) (P : Program) (w : World) (K : PySem.W.Frag) (mg : Str → Option Value) (base : Heap) (N : List Str) (F : NF) (f : Addr) (x : Str) (A : Around) (outer : List Env) (s : Shared) (H : Hp) (E : XK) : Cx :=
  { ncx CX P w K mg base N F f A outer s H E with
    A := A.deeper (envO F f x s.heap.objs.size)
    env := envO F f x s.heap.objs.size
    stack := envO F f x s.heap.objs.size :: outer
    xe := fun e s' => wpAny (model P w) (A.deeper (envO F f x s.heap.objs.size)) (leaving (envO F f x s.heap.objs.size) e) (fun _ s'' => CX outer H s E e s'') (fun e' s'' => CX outer H s E e' s'') s' }
section
variable {CX : CXT} {P : Program} {w : World} {K : PySem.W.Frag} {mg : Str → Option Value} {base : Heap} {N fr : List Str} {x : Str} {F : NF} {f : Addr} {A : Around} {outer : List Env} {s : Shared} {H : Hp} {E : XK} {u : Value} {v : V} {ws : List (Option V)}
theorem inv_one {h₁ : Heap} {tk : Nat} (S : OScope N x fr F.scope) (hd : A.handled = none) (e0 : Env0 P w K mg base A outer s H) (r : L2.RelV v u) (C : CellsAt F.cl fr ws s.heap H) (hns : h₁.Ns s.heap.objs.size fun _ => none) (own : h₁.IsCell (s.heap.objs.size + 1 : Nat) (some u))
    (kp : ∀ b o, s.heap.get? b = some o → h₁.get? b = some o) : Inv (ocx CX P w K mg base N F f x A outer s H E) [] (startF N [v] ws) H { s with heap := h₁, toks := tk } := by
  have clen := C.len
  have hpl : 1 + fr.length ≤ N.length := by
    have q := congrArg List.length S.pre
    rw [List.length_take, List.length_cons] at q
    omega
  have nex : ∀ b : Addr, b ∉ (ocx CX P w K mg base N F f x A outer s H E).ex := fun b z => absurd (show b ∈ ([] : List Addr) from z) (by simp)
  have cellK : ∀ {c : Addr} {v : Option Value}, s.heap.IsCell c v → h₁.IsCell c v := fun {c v} z => z.keeps kp
  have hcases : ∀ {y : Str} {c : Addr}, (ownCl x s.heap.objs.size F.cl).lookup y = some c → (y = x ∧ c = (s.heap.objs.size + 1 : Nat)) ∨ (y ≠ x ∧ F.cl.lookup y = some c) := fun {y c} e => by
    unfold ownCl at e
    rw [List.lookup_cons] at e
    cases hb : y == x with
    | true =>
      rw [hb] at e
      cases e
      exact .inl ⟨eq_of_beq hb, rfl⟩
    | false =>
      rw [hb] at e
      exact .inr ⟨fun z => (by rw [z, beq_self_eq_true] at hb; cases hb), e⟩
  have hown : (ownCl x s.heap.objs.size F.cl).lookup x = some (s.heap.objs.size + 1 : Nat) := by
    unfold ownCl
    rw [List.lookup_cons, beq_self_eq_true]
  have hcap : ∀ {y : Str} {c : Addr}, y ≠ x → F.cl.lookup y = some c → (ownCl x s.heap.objs.size F.cl).lookup y = some c := fun {y c} ny e => by
    unfold ownCl
    rw [List.lookup_cons, show (y == x) = false from beq_false_of_ne ny]
    exact e
  have hlt : ∀ {y : Str} {c : Addr}, F.cl.lookup y = some c → c < s.heap.objs.size := fun {y c} e => by
    obtain ⟨_, _, o, ho, _⟩ := C.all y c e
    exact Heap.lt_size ho
  have xfr : x ∉ fr := by
    have q := S.nd.sublist (List.take_sublist (1 + fr.length) N)
    rw [S.pre] at q
    exact (List.nodup_cons.mp q).1
  refine ⟨⟨e0.mod, S.kind, rfl, rfl, Nat.le_refl _, fun y z c h1 h2 => ?_, fun y hy => ?_, fun y c z _ => Bool.noConfusion (show false = true from z), fun _ => hd, Around.frames_deeper e0.frames, .inr ⟨rfl, rfl⟩, fun b z => absurd z (nex b), e0.bs, e0.bsz, fun b _ _ => nex b, fun b z => absurd z (nex b), e0.funs, e0.frf⟩,
    rfl, e0.bare, Un.kept kp, ⟨_, hns, fun i y v' h1 h2 _ => ?_⟩, fun y c h => ?_, e0.hok.fresh (Nat.le_refl _), fun y c h => ?_, fun p hp => absurd (show p ∈ ([] : List (Addr × Obj)) from hp) (by simp), e0.hok.kept kp, ?_⟩
  · rcases hcases h1 with ⟨a1, a2⟩ | ⟨a1, a2⟩ <;> rcases hcases h2 with ⟨b1, b2⟩ | ⟨b1, b2⟩
    · rw [a1, b1]
    · have := hlt b2
      rw [a2] at this
      exact absurd (show s.heap.objs.size + 1 < s.heap.objs.size from this) (by omega)
    · have := hlt a2
      rw [b2] at this
      exact absurd (show s.heap.objs.size + 1 < s.heap.objs.size from this) (by omega)
    · exact C.inj y z c a2 b2
  · have hy : F.scope.names.lookup y = some .cell ∨ F.scope.names.lookup y = some .free := hy
    rcases hy with hy | hy
    · have m : y ∈ cellNames F.scope.names := List.mem_map.mpr ⟨(y, .cell), List.mem_filter.mpr ⟨PySem.mem_of_lookup hy, rfl⟩, rfl⟩
      rw [S.cel, List.mem_singleton] at m
      rw [m]
      exact ⟨_, hown⟩
    · have m := S.free _ (PySem.mem_of_lookup hy) rfl
      obtain ⟨i, hi⟩ := List.mem_iff_getElem?.mp m
      obtain ⟨c, hc, _⟩ := C.has i y hi
      exact ⟨c, hcap (fun z => xfr (by rw [← z]; exact m)) hc⟩
  · have h1 : N[i]? = some y := h1
    unfold startF at h2
    cases i with
    | zero =>
      have hy : some y = some x := by
        have q : (N.take (1 + fr.length))[0]? = N[0]? := List.getElem?_take_of_lt (by omega)
        rw [S.pre, h1] at q
        exact q.symm
      cases hy
      have h2 : some (some v) = some (some v') := h2
      cases h2
      exact ⟨u, r, .inr ⟨.inl S.par, _, hown, own⟩⟩
    | succ i =>
      have h2 : (ws ++ List.replicate (N.length - 1 - ws.length) none)[i]? = some (some v') := h2
      by_cases hi : i < fr.length
      · rw [List.getElem?_append_left (by omega)] at h2
        have hy : fr[i]? = some y := by
          have q : (N.take (1 + fr.length))[i + 1]? = N[i + 1]? := List.getElem?_take_of_lt (by omega)
          rw [S.pre, h1] at q
          exact q
        obtain ⟨c, hc, hv⟩ := C.has i y hy
        obtain ⟨u', ru, hu⟩ := hv v' h2
        have m := List.mem_of_getElem? hy
        exact ⟨u', ru, .inr ⟨.inr (S.frk y m), c, hcap (fun z => xfr (by rw [← z]; exact m)) hc, cellK hu⟩⟩
      · rw [List.getElem?_append_right (by omega), List.getElem?_replicate] at h2
        split at h2 <;> cases h2
  · rcases hcases h with ⟨_, a2⟩ | ⟨_, a2⟩
    · rw [a2]; exact ⟨_, own⟩
    · obtain ⟨v', z⟩ := (C.all y c a2).2
      exact ⟨v', cellK z⟩
  · rcases hcases h with ⟨_, a2⟩ | ⟨_, a2⟩
    · rw [a2]; exact e0.hok.fresh (Nat.le_succ _)
    · exact (C.all y c a2).1
  · unfold startF
    show _ = N.length
    simp only [List.length_append, List.length_map, List.length_replicate, List.length_cons, List.length_nil]
    omega
end
section
variable {CX : CXT} {P : Program} {w : World} {K : PySem.W.Frag} {mg : Str → Option Value} {base : Heap} {N fr : List Str} {x : Str} {F : NF} {f : Addr} {k : Nat} {sp : List (Option V) → Sp}
/-- such a def by its body -/
theorem nok_one (S : OScope N x fr F.scope) (hb : ∀ (doc pm ctv u : Value), bindArgs (F.fd doc pm ctv) ⟨[u], []⟩ = pure [(x, u)]) (len : ∀ ws vs H Q E, sp ws vs H Q E → vs.length = [x].length)
    (hbody : ∀ (A : Around) (outer : List Env) (s : Shared) (H : Hp) (v : V) (ws : List (Option V)) (Q : VK) (E : XK), Room k (A.deeper (envO F f x s.heap.objs.size)) → ws.length = fr.length → sp ws [v] H Q E →
      ∃ t, PSs (ocx CX P w K mg base N F f x A outer s H E) F.body t ∧ t { nx := fun _ H' => Q .non H', rt := Q } (startF N [v] ws) H) :
    NOk P w K mg base CX (k + 1) f F [x] fr sp := by
  refine ⟨len, fun A outer s H us vs ws Q E hr e0 hf hc C r hsp => ?_⟩
  match vs, us, len _ _ _ _ _ hsp, r with
  | [v], [u], _, .cons rv .nil =>
    have lim : s.heap.NoLimit := e0.mod.nolimit.keeps fun b o e => (e0.bs b o e).1
    obtain ⟨od, sl, doc, pm, ctv, ho⟩ := fnO_at e0.hok hf
    refine codeAny_call_function hr.depth ho rfl S.co S.gen rfl (codeO_at e0.hok hc) ?_
    rw [hb doc pm ctv u]
    refine wpAny_pure (frame_one S.kind S.par S.cel fun h₁ hns own kp => ⟨lim.keeps kp, codeAny_func ?_⟩)
    obtain ⟨t, ht, hq⟩ := hbody A outer s H v ws Q E (hr.deeper _) C.len hsp
    have I : Inv (ocx CX P w K mg base N F f x A outer s H E) [] (startF N [v] ws) H { s with heap := h₁ } := inv_one (tk := s.toks) S hr.hd e0 rv C hns own kp
    refine wpAny_mono (ht.run [] _ (startF N [v] ws) H _ I hq) (fun fl s' hs => ?_) fun e s' hs => hs
    cases fl with
    | brk => exact hs.elim fun _ z => z.elim fun _ z => z.2.elim
    | cont => exact hs.elim fun _ z => z.elim fun _ z => z.2.elim
    | next =>
      obtain ⟨σ', H', J, q⟩ := hs
      exact ⟨.non, H', J.os, J.bare, J.base, J.hok, rfl, q⟩
    | ret u' =>
      obtain ⟨v', σ', H', J, rv', q⟩ := hs
      exact ⟨v', H', J.os, J.bare, J.base, J.hok, rv', q⟩
end
end Ab

set_option Elab.async false
set_option linter.all false
set_option maxRecDepth 100000
set_option maxHeartbeats 2000000
namespace Ab
open PySem PySem.Spec PyProof.Rows L2
theorem scCm : FnScope ["numbers", "multiple", "number"] ["numbers"] (defScope sCm) := ⟨rfl, rfl, rfl, by decide +kernel, rfl, by decide +kernel, by decide +kernel⟩
abbrev rDiv : R2 := rI CDivW fun i j => .int (i / j)
abbrev rMul : R2 := rI CMulW fun i j => .int (i * j)
section
variable {σ : L2.St} {H : Hp} {ta tb : TE} {i j : Int}
theorem gv_div (ha : Gv ta σ H (IsI i)) (hb : Gv tb σ H (IsI j)) (h0 : 0 < j) (hs : Sm 1000 j) : Gv (tOp rDiv ta tb) σ H (IsI (Int.fdiv i j)) := by
  have := gv_ii (r := rDiv) (w := .int (i / j)) ha hb fun _ => iC (wide_div h0 hs (by decide) (by decide))
  rwa [← Int.fdiv_eq_ediv_of_nonneg i (by omega)] at this
theorem gv_mul {a b : Nat} (ha : Gv ta σ H (IsI i)) (hb : Gv tb σ H (IsI j)) (si : Sm a i) (sj : Sm b j) (a0 : 0 < a) (b0 : 0 < b) (hab : a + b ≤ 100000) : Gv (tOp rMul ta tb) σ H (IsI (i * j)) :=
  gv_ii ha hb fun _ => iC (sm_mul si sj a0 b0 hab)
end
def preCm (K : PySem.W.Frag) : List Int → List V → Hp → Prop := fun g vs H => ∃ x, vs = [x] ∧ RowK true K g x H ∧ g.length ≤ 210 ∧ ∀ z, z ∈ g → 0 < z ∧ Sm 110 z
def spCm (K : PySem.W.Frag) : Sp := spG (preCm K) fun g => IsI (AB.cmul g)
theorem use_cm {K : PySem.W.Frag} {g : List Int} {x : V} {H : Hp} (rx : RowK true K g x H) (hl : g.length ≤ 210) (hz : ∀ z, z ∈ g → 0 < z ∧ Sm 110 z) : OpS (spCm K) [x] H (IsI (AB.cmul g)) :=
  ops_of (pre := preCm K) (R := fun g => IsI (AB.cmul g)) g ⟨x, rfl, rx, hl, hz⟩
theorem gcd2_le {m z : Int} (h : 0 < z) : 0 < AB.gcdL [m, z] ∧ ((AB.gcdL [m, z] : Int)).natAbs ≤ z.natAbs := by
  have h1 := AB.gcdL_pos (l := [m, z]) (x := z) (by simp) (by omega)
  have h2 := AB.gcdL_dvd (l := [m, z]) (x := z) (by simp)
  refine ⟨h1, ?_⟩
  have := Int.le_of_dvd h h2
  omega
section
variable {P : Program} {w : World} {K : PySem.W.Frag} {mg : Str → Option Value} {base : Heap}
theorem ok_cm {f fG : Addr} {fd fdG : FuncData} {k : Nat} (F : Fun K "common_multiple" "common_multiple" sCm f fd) (FG : Fun K "common_divisor" "common_divisor" sCd fG fdG) (bG : Binds K fdG ["numbers"] []) (gG : mg "common_divisor" = some (.ref fG)) (GG : FnOk P w K mg base CX0 k fG fdG ["numbers"] (spCd K)) : FnOk P w K mg base CX0 (k + 1) f fd ["numbers"] (spCm K) := by
  refine F.ok scCm (fun vs H Q E h => ?_) (fun cdv A outer s H vs Q E hr h => ?_)
  · obtain ⟨_, _, _, ⟨x, rfl, _⟩, _⟩ := h; rfl
  · obtain ⟨Hk, l, e, ⟨x, rfl, rx, hl, hz⟩, q⟩ := h
    refine ⟨_, pss_cons (ps_set (i := 1) scCm.nd rfl (.inl rfl) pe_int)
      (pss_cons (ps_for PassesOwn.never rfl (pi_list (pv 0)) (pg_name (i := 2) scCm.nd rfl (Or.inl rfl))
        (pss_one (ps_set (i := 1) scCm.nd rfl (.inl rfl) (pe_op op_mulW (pv 1) (pe_op op_fdivW (pv 2) (pe_call GG hr (by rfl) gG FG.kp bG .nil pass0 (pa_cons (pe_lst (pa_cons (pv 1) (pa_cons (pv 2) pa_nil))) pa_nil)))))))
      (pss_one (ps_ret (pv 1)))), ?_⟩
    refine seq_c (seq_for (src_seqL (RI := IsI) (as := l) (gv_var rfl (RowK.mono _) rx |>.imp fun v H' _ h => RowK.seq h) fun _ => Is.mono _) e
      (fun V2 i σ' H' => (∃ y2, σ' = [some x, some (.int (AB.cmul (l.take i))), y2]) ∧ Same H H' ∧ Same V2 H')
      (fun H2 e2 => ⟨⟨_, rfl⟩, e2, vis_le _ _ _⟩) (fun V2 i σ' H' p => p.2.2) (fun V2 i x' σ' H' H'' eV hi p e12 y => ?_) (fun V2 σ' H' eV p => ?_))
    · obtain ⟨⟨y2, rfl⟩, p1, p2⟩ := p
      obtain ⟨z, hzi, hv⟩ := y
      cases hv
      have hzm := hz z (List.mem_of_getElem? hzi)
      have sub : ∀ y, y ∈ l.take i → 0 < y ∧ y.natAbs < 2 ^ 110 := fun y hy => hz y (List.mem_of_mem_take hy)
      have gr := AB.cmul_great sub
      have tl : (l.take i).length ≤ 210 := Nat.le_trans (List.length_take_le _ _) (by omega)
      have gr2 : Sm 23101 (AB.cmul (l.take i)) := Nat.lt_of_lt_of_le gr (Nat.pow_le_pow_right (by decide) (by omega))
      obtain ⟨g0, g1⟩ := gcd2_le (m := AB.cmul (l.take i)) hzm.1
      have gS : Sm 1000 (AB.gcdL [AB.cmul (l.take i), z] : Int) := Nat.lt_of_le_of_lt g1 (hzm.2.up (by decide))
      have fS : Sm 110 (Int.fdiv z (AB.gcdL [AB.cmul (l.take i), z] : Int)) := Nat.lt_of_le_of_lt (AB.fdiv_le' (AB.gcdL_dvd (by simp)) (by omega)) hzm.2
      refine tgt_name (set_of (Hk := H'') (R := IsI (AB.cmul (l.take i) * Int.fdiv z (AB.gcdL [AB.cmul (l.take i), z] : Int))) (gv_mul (gv_v rfl) (gv_div (gv_v rfl) (gv_call (RL := R1 (RowL [AB.cmul (l.take i), z])) (gva_1 (gv_lst2 (gv_v rfl) (gv_v rfl))) (fun vs H6 _ ⟨u, hu, h⟩ => by
        subst hu
        exact use_cd h.row) (Is.mono _)) (by omega) gS) gr2 fS (by decide) (by decide) (by decide)) (Same.refl _) fun v H3 e3 hv => ?_)
      cases hv
      refine ⟨⟨some (.int z), ?_⟩, Same.trans p1 (Same.trans e12 e3), Same.trans p2 (Same.trans e12 e3)⟩
      have : AB.cmul (l.take (i + 1)) = AB.cmul (l.take i) * Int.fdiv z (AB.gcdL [AB.cmul (l.take i), z] : Int) := by
        unfold AB.cmul
        rw [take_step hzi, List.foldl_append]; rfl
      rw [this]; rfl
    · obtain ⟨⟨y2, rfl⟩, p1, p2⟩ := p
      refine ⟨_, rfl, q _ _ p1 ?_⟩
      rw [List.take_of_length_le (Nat.le_refl _)]; rfl
end
end Ab

set_option Elab.async false
set_option linter.all false
set_option maxRecDepth 100000
set_option maxHeartbeats 2000000
namespace Ab
open PySem PySem.Spec PyProof.Rows L2
theorem scPlt : FnScope ["told", "below", "number", "part"] ["told"] (defScope sPlt) := ⟨rfl, rfl, rfl, by decide +kernel, rfl, by decide +kernel, by decide +kernel⟩
def prePlt (K : PySem.W.Frag) : Nat × List Int → List V → Hp → Prop := fun g vs H => ∃ x, vs = [x] ∧ RowK true K g.2 x H ∧ g.1 ≤ 4 ∧ AB.placeOk g.1 g.2 = true
def spPlt (K : PySem.W.Frag) : Sp := spG (prePlt K) fun g => RowL (AB.plcT g.2)
theorem use_plt {K : PySem.W.Frag} {n : Nat} {p : List Int} {x : V} {H : Hp} (rx : RowK true K p x H) (hn : n ≤ 4) (ok : AB.placeOk n p = true) : OpS (spPlt K) [x] H (RowL (AB.plcT p)) :=
  ops_of (pre := prePlt K) (R := fun g => RowL (AB.plcT g.2)) (n, p) ⟨x, rfl, rx, hn, ok⟩
/-- the bounds of a place -/
structure PlB (n : Nat) (p : List Int) : Prop where
  le : (AB.evs p).length = n
  lo : (AB.ods p).length = n
  e : ∀ z, z ∈ AB.evs p → z.natAbs ≤ 100000
  o : ∀ z, z ∈ AB.ods p → 0 < z ∧ z.natAbs ≤ 1000
theorem plb_of {n : Nat} {p : List Int} (h : AB.placeOk n p = true) : PlB n p := by
  unfold AB.placeOk at h
  rw [Bool.and_eq_true, Bool.and_eq_true] at h
  obtain ⟨h1, h2, h3⟩ := h
  obtain ⟨l1, l2⟩ := AB.evs_len n p (of_decide_eq_true h1)
  refine ⟨l1, l2, fun z hz => ?_, fun z hz => ?_⟩
  · have := List.all_eq_true.mp h2 z hz
    rw [Bool.and_eq_true] at this
    have a := of_decide_eq_true this.1
    have b := of_decide_eq_true this.2
    omega
  · have := List.all_eq_true.mp h3 z hz
    rw [Bool.and_eq_true] at this
    have a := of_decide_eq_true this.1
    have b := of_decide_eq_true this.2
    omega
theorem below_ok {n : Nat} {p : List Int} (hn : n ≤ 4) (B : PlB n p) : 0 < AB.cmul (AB.ods p) ∧ Sm 41 (AB.cmul (AB.ods p)) ∧ ∀ z, z ∈ AB.ods p → z ∣ AB.cmul (AB.ods p) := by
  obtain ⟨h1, h2⟩ := AB.cmul_ok fun z hz => (B.o z hz).1
  refine ⟨h1, ?_, h2⟩
  have := AB.cmul_great (a := 10) (l := AB.ods p) fun z hz => ⟨(B.o z hz).1, Nat.lt_of_le_of_lt (B.o z hz).2 (by decide)⟩
  rw [B.lo] at this
  exact Nat.lt_of_lt_of_le this (Nat.pow_le_pow_right (by decide) (by omega))
section
variable {P : Program} {w : World} {K : PySem.W.Frag} {mg : Str → Option Value} {base : Heap}
theorem ok_plt {f fM : Addr} {fd fdM : FuncData} {k : Nat} (F : Fun K "place_told" "place_told" sPlt f fd) (FM : Fun K "common_multiple" "common_multiple" sCm fM fdM) (bM : Binds K fdM ["numbers"] []) (gM : mg "common_multiple" = some (.ref fM)) (GM : FnOk P w K mg base CX0 k fM fdM ["numbers"] (spCm K)) (mz : mg "zip" = none) : FnOk P w K mg base CX0 (k + 1) f fd ["told"] (spPlt K) := by
  refine F.ok scPlt (fun vs H Q E h => ?_) (fun cdv A outer s H vs Q E hr h => ?_)
  · obtain ⟨_, _, _, ⟨x, rfl, _⟩, _⟩ := h; rfl
  · obtain ⟨Hk, ⟨n, p⟩, e, ⟨x, rfl, rx, hn, ok⟩, q⟩ := h
    have hn : n ≤ 4 := hn
    have B : PlB n p := plb_of ok
    have rx : RowK true K p x Hk := rx
    obtain ⟨b0, bS, bd⟩ := below_ok hn B
    refine ⟨_, pss_cons (ps_set (i := 1) scPlt.nd rfl (.inr rfl) (pe_call GM hr (by rfl) gM FM.kp bM .nil pass0 (pa_cons (pe_step2 (l := 1) (by decide) (pv 0)) pa_nil)))
      (pss_one (ps_ret (pe_op op_cat
        (pe_lc (own := [("number", 2), ("part", 3)]) (g := gTup K 2 (gCons (gName 2) (gCons (gName 3) gNil))) (tt := tYes) (te := tOp rMul (tVar 2) (tOp rDiv (tVar 1) (tVar 3))) rfl scPlt.nd (pi_z (by rfl) mz (pa_cons (pe_step2 (l := 0) (by decide) (pv 0)) (pa_cons (pe_step2 (l := 1) (by decide) (pv 0)) pa_nil)))
          (blkOk_by (own := [("number", 2), ("part", 3)]) (N := ["told", "below", "number", "part"]) (sc := defScope sPlt) (by decide +kernel))
          (fun _ _ _ _ _ => pg_tup rfl (pgs_cons (pg_name (i := 2) scPlt.nd rfl (Or.inl rfl) (Or.inr rfl)) (pgs_cons (pg_name (i := 3) scPlt.nd rfl (Or.inl rfl) (Or.inr rfl)) pgs_nil)))
          (fun _ _ _ _ _ => pts_nil) (fun _ _ _ _ _ => pe_op op_mulW (pv 2) (pe_op op_fdivW (pv 1) (pv 3))))
        (pe_lst (pa_cons (pv 1) pa_nil))))), ?_⟩
    have odsR : ∀ {σ : L2.St} {M : Hp}, σ[0]? = some (some x) → Same Hk M → Gv (tStep2 K 1 (tVar 0)) σ M (RowL (AB.ods p)) := fun {σ M} h eM => by
      have := gv_step2 (K := K) (l := 1) (gv_var h (RowK.mono _) (RowK.mono _ _ _ _ eM rx))
      rwa [selG_ods] at this
    have evsR : ∀ {σ : L2.St} {M : Hp}, σ[0]? = some (some x) → Same Hk M → Gv (tStep2 K 0 (tVar 0)) σ M (RowL (AB.evs p)) := fun {σ M} h eM => by
      have := gv_step2 (K := K) (l := 0) (gv_var h (RowK.mono _) (RowK.mono _ _ _ _ eM rx))
      rwa [selG_evs] at this
    refine seq_set (Hk := Hk) (R := IsI (AB.cmul (AB.ods p))) (gv_call (RL := R1 (RowL (AB.ods p))) (gva_1 (odsR rfl (Same.refl _))) (fun vs H' _ ⟨u, hu, h⟩ => by
      subst hu
      exact use_cm h.row (by rw [B.lo]; omega) fun z hz => ⟨(B.o z hz).1, Nat.lt_of_le_of_lt (B.o z hz).2 (by decide)⟩) (Is.mono _)) e fun v H1 e1 hv => ?_
    cases hv
    refine ret_of (Hk := Hk) (R := RowL (AB.plcT p)) ?_ (Same.trans e e1) fun v H2 e2 hv => q v H2 (Same.trans e1 e2) (RowL.mono _ _ _ _ (vis_late e1) hv)
    show Gv _ _ _ (RowL (((AB.evs p).zip (AB.ods p)).map (fun (x : Int × Int) => x.1 * Int.fdiv (AB.cmul (AB.ods p)) x.2) ++ [AB.cmul (AB.ods p)]))
    refine gv_cat ?_ (gv_lst1 (K := K) (gv_v rfl)) ?_
    · refine gv_lc (R := RowL (((AB.evs p).zip (AB.ods p)).map fun (x : Int × Int) => x.1 * Int.fdiv (AB.cmul (AB.ods p)) x.2)) ((AB.evs p).zip (AB.ods p)) (fun _ => true) (fun p' => IsI (p'.1 * Int.fdiv (AB.cmul (AB.ods p)) p'.2)) (fun _ => Is.mono _) (by rw [List.length_zip, B.le]; exact Nat.lt_of_le_of_lt (Nat.le_trans (Nat.min_le_left _ _) hn) (by decide))
        (src_zip (RA := IsI) (RB := IsI) (gva_rows ((evsR rfl (Same.refl _)).imp fun v H' _ h => ⟨true, h.row⟩) ((odsR rfl (Same.refl _)).imp fun v H' _ h => ⟨true, h.row⟩)) (fun _ => Is.mono _) (fun _ => Is.mono _)) (fun i p' x' H' hp e' y => ?_) (fun p2 ys H' e' _ hp hq => ?_)
      · obtain ⟨a, b, ha, hb, T, x1, y1, rfl, hT, h1, h2⟩ := y
        cases h1
        cases h2
        rw [pairs_zip hp ha hb]
        have hbm := List.mem_of_getElem? hb
        have sb := B.o b hbm
        have sa := B.e a (List.mem_of_getElem? ha)
        have sd : Sm 41 (Int.fdiv (AB.cmul (AB.ods p)) b) := Nat.lt_of_le_of_lt (AB.fdiv_le' (bd b hbm) (by omega)) bS
        exact ⟨_, tg_pair hT, rfl, gvt_yes, fun _ => gv_mul (a := 17) (b := 41) (gv_v rfl) (gv_div (gv_v rfl) (gv_v rfl) sb.1 ((sm_of (n := 10) sb.2 (by decide)).up (by decide))) (sm_of sa (by decide)) sd (by decide) (by decide) (by decide)⟩
      · rw [filter_true] at hq
        exact (lst_map hp hq).rowL
    · rw [List.length_map, List.length_zip, B.le]
      exact Nat.le_trans (by show min n _ + 1 ≤ 5; have := Nat.min_le_left n (AB.ods p).length; omega) (by decide)
end
end Ab

set_option Elab.async false
set_option linter.all false
set_option maxRecDepth 100000
set_option maxHeartbeats 2000000
namespace Ab
open PySem PySem.Spec PyProof.Rows L2
theorem scDep : FnScope ["side", "place"] ["side", "place"] (defScope sDep) := ⟨rfl, rfl, rfl, by decide +kernel, rfl, by decide +kernel, by decide +kernel⟩
theorem getD_last {as : List Int} {n : Nat} (h : as.length = n + 1) : ∃ bs b, as = bs ++ [b] ∧ as.getD (as.length - 1) 0 = b := by
  have ne : as ≠ [] := by intro q; rw [q] at h; cases h
  obtain ⟨bs, b, rfl⟩ : ∃ bs b, as = bs ++ [b] := ⟨as.dropLast, as.getLast ne, (List.dropLast_concat_getLast ne).symm⟩
  refine ⟨bs, b, rfl, ?_⟩
  rw [List.getD_eq_getElem?_getD]
  simp
section
variable {K : PySem.W.Frag} {σ : L2.St} {H : Hp} {ta tb te : TE}
/-- the last of a list, all but the last -/
theorem gv_lastK {n : Nat} {as : List Int} (h : as.length = n + 1) (ha : Gv ta σ H (RowK true K as)) : Gv (tOp (rIx K) ta (tUn (rU fun i => .int (-i)) (tC (.int 1)))) σ H (IsI (AB.lst as)) := by
  refine gv_op (RB := IsI (-1)) ha (RowK.mono _) (fun H1 e Q q => ⟨1, rfl, q _ _ (Same.refl _) rfl⟩) (Is.mono _) (fun x y H' _ hx hy => ?_) (Is.mono _)
  cases hy
  obtain ⟨p, rfl, hs⟩ := hx
  obtain ⟨bs, b, rfl, hb⟩ := getD_last h
  rw [show AB.lst (bs ++ [b]) = b from hb]
  refine op2_val fun H1 e Q q => .inl ⟨p, _, _, _, rfl, rfl, sq_same (k := true) e hs, ?_, q⟩
  rw [List.map_append]
  exact atI_last _ _
theorem gv_initK {n : Nat} {as : List Int} (h : as.length = n + 1) (ha : Gv ta σ H (RowK true K as)) : Gv (tSl (rSlL K) ta tNoPart (tPart (tUn (rU fun i => .int (-i)) (tC (.int 1))))) σ H (RowL (AB.hd as)) := by
  have := gv_slR (lo := none) (hi := some (-1)) (tl := tNoPart) (th := tPart (tUn (rU fun i => .int (-i)) (tC (.int 1)))) ha (fun H1 Q _ h => sl_none h) (fun H1 Q _ h => ⟨1, rfl, _, rfl, h⟩)
  rwa [cut_init as (by intro q; rw [q] at h; cases h)] at this
end
/-- a side, a place: so long, so great -/
structure SidB (n : Nat) (t : List Int) : Prop where
  len : t.length = n + 1
  sm : ∀ z, z ∈ t → Sm 40 z
structure PlcB (n : Nat) (P : List Int) : Prop where
  len : P.length = n + 1
  sm : ∀ z, z ∈ P → Sm 58 z
theorem lst_mem {n : Nat} {t : List Int} (h : t.length = n + 1) : AB.lst t ∈ t := by
  unfold AB.lst
  exact getD_in (by omega)
theorem hd_mem {t : List Int} {z : Int} (h : z ∈ AB.hd t) : z ∈ t := List.mem_of_mem_take h
theorem dep_sm {n : Nat} (hn : n ≤ 4) {t P : List Int} (S : SidB n t) (L : PlcB n P) : Sm 110 (AB.depthT t P) := by
  have h1 : (AB.lst t * AB.lst P).natAbs < 2 ^ (40 + 58) := wide_lt (S.sm _ (lst_mem S.len)) (L.sm _ (lst_mem L.len))
  have h2 : (AB.tog (AB.hd t) (AB.hd P)).natAbs ≤ (AB.hd t).length * (2 ^ 40 * 2 ^ 58) := tog_le (fun z hz => Nat.le_of_lt (S.sm z (hd_mem hz))) fun z hz => Nat.le_of_lt (L.sm z (hd_mem hz))
  have h3 : (AB.hd t).length * (2 ^ 40 * 2 ^ 58) ≤ 4 * (2 ^ 40 * 2 ^ 58) := Nat.mul_le_mul_right _ (by rw [AB.hd_len S.len]; exact hn)
  unfold Sm AB.depthT
  have h4 : (2 : Nat) ^ (40 + 58) + 4 * (2 ^ 40 * 2 ^ 58) < 2 ^ 110 := by decide
  omega
def preDep (K : PySem.W.Frag) : Nat × List Int × List Int → List V → Hp → Prop := fun g vs H => ∃ x y, vs = [x, y] ∧ RowK false K g.2.1 x H ∧ RowK true K g.2.2 y H ∧ g.1 ≤ 4 ∧ SidB g.1 g.2.1 ∧ PlcB g.1 g.2.2
def spDep (K : PySem.W.Frag) : Sp := spG (preDep K) fun g => IsI (AB.depthT g.2.1 g.2.2)
theorem use_dep {K : PySem.W.Frag} {n : Nat} {t P : List Int} {x y : V} {H : Hp} (rx : RowK false K t x H) (ry : RowK true K P y H) (hn : n ≤ 4) (S : SidB n t) (L : PlcB n P) : OpS (spDep K) [x, y] H (IsI (AB.depthT t P)) :=
  ops_of (pre := preDep K) (R := fun g => IsI (AB.depthT g.2.1 g.2.2)) (n, t, P) ⟨x, y, rfl, rx, ry, hn, S, L⟩
section
variable {P : Program} {w : World} {K : PySem.W.Frag} {mg : Str → Option Value} {base : Heap}
theorem ok_dep {f fT : Addr} {fd fdT : FuncData} {k : Nat} (F : Fun K "depth" "depth" sDep f fd) (FT : Fun K "together" "together" sTog fT fdT) (bT : Binds K fdT ["numbers", "point"] []) (gT : mg "together" = some (.ref fT)) (GT : FnOk P w K mg base CX0 k fT fdT ["numbers", "point"] (spTog K)) : FnOk P w K mg base CX0 (k + 1) f fd ["side", "place"] (spDep K) := by
  refine F.ok scDep (fun vs H Q E h => ?_) (fun cdv A outer s H vs Q E hr h => ?_)
  · obtain ⟨_, _, _, ⟨x, y, rfl, _⟩, _⟩ := h; rfl
  · obtain ⟨Hk, ⟨n, t, L⟩, e, ⟨x, y, rfl, rx, ry, hn, S, B⟩, q⟩ := h
    have hn : n ≤ 4 := hn
    have S : SidB n t := S
    have B : PlcB n L := B
    refine ⟨_, pss_one (ps_ret (pe_op op_sub (pe_op op_mulW (pe_ix ix_seq (pv 0) (pe_un un_neg pe_int) (fun _ _ => rfl)) (pe_ix ix_seq (pv 1) (pe_un un_neg pe_int) (fun _ _ => rfl)))
      (pe_call GT hr (by rfl) gT FT.kp bT .nil pass0 (pa_cons (pe_slice sl_tup (pv 0) po_none (po_some (pe_un un_neg pe_int))) (pa_cons (pe_slice sl_list (pv 1) po_none (po_some (pe_un un_neg pe_int))) pa_nil))))), ?_⟩
    refine ret_of (Hk := Hk) (R := IsI (AB.depthT t L)) (gv_ii (gv_mul (a := 40) (b := 58) (gv_last S.len (gv_var rfl (RowK.mono _) rx)) (gv_lastK B.len (gv_var rfl (RowK.mono _) ry)) (S.sm _ (lst_mem S.len)) (B.sm _ (lst_mem B.len)) (by decide) (by decide) (by decide))
      (gv_call (RL := R2' (RowT (AB.hd t)) (RowL (AB.hd L))) (R := IsI (AB.tog (AB.hd t) (AB.hd L))) (gva_2 (gv_init S.len (gv_var rfl (RowK.mono _) rx)) (RowT.mono _) (gv_initK B.len (gv_var rfl (RowK.mono _) ry)) (RowL.mono _)) (fun vs H' _ ⟨u1, u2, hu, h1, h2⟩ => by
        subst hu
        exact use_tog h1.row ⟨true, h2.row⟩ (by rw [AB.hd_len S.len, AB.hd_len B.len]) (by rw [AB.hd_len S.len]; omega) (fun z hz => (S.sm z (hd_mem hz)).up (by decide)) fun z hz => (B.sm z (hd_mem hz)).up (by decide)) (Is.mono _)) fun H' => i0) e fun v H2 e2 hv => q v H2 e2 hv
end
end Ab

set_option Elab.async false
set_option linter.all false
set_option maxRecDepth 100000
set_option maxHeartbeats 2000000
namespace Ab
open PySem PySem.Spec PyProof.Rows L2
theorem scWi : FnScope ["body", "place", "side"] ["body", "place"] (defScope sWi) := ⟨rfl, rfl, rfl, by decide +kernel, rfl, by decide +kernel, by decide +kernel⟩
theorem lkF_s {n : Int} {vs vc vb : V} : (bodyF n vs vc vb).lookup ("sides" : Str) = some vs := (lk_past (by decide +kernel)).trans lk_here
abbrev sidB (n : Nat) (pts : List (List Int)) : List (List Int) := AB.sidesT n (AB.srt pts)
theorem sid_sm {n : Nat} {pts : List (List Int)} (F : Fit n pts) : ∀ t, t ∈ sidB n pts → SidB n t := fun t ht => by
  obtain ⟨h1, h2⟩ := sidesT_sm F.srt.P F.srt.sm t ht
  exact ⟨h1, h2⟩
theorem sid_few {n : Nat} {pts : List (List Int)} (F : Fit n pts) : (sidB n pts).length ≤ 210 := AB.sides_few F.P.n4 F.few
def preWi (K : PySem.W.Frag) (C : Addr) : Nat × List (List Int) × List Int → List V → Hp → Prop := fun g vs H => ∃ (p : Addr) (y : V), vs = [.ref p, y] ∧ Fit g.1 g.2.1 ∧ BodyAt C g.1 g.2.1 H p ∧ RowK true K g.2.2 y H ∧ PlcB g.1 g.2.2
def spWi (K : PySem.W.Frag) (C : Addr) : Sp := spG (preWi K C) fun g => Is (.bl (AB.withinT (sidB g.1 g.2.1) g.2.2))
theorem use_wi {K : PySem.W.Frag} {C : Addr} {n : Nat} {pts : List (List Int)} {L : List Int} {p : Addr} {y : V} {H : Hp} (F : Fit n pts) (B : BodyAt C n pts H p) (ry : RowK true K L y H) (hL : PlcB n L) : OpS (spWi K C) [.ref p, y] H (Is (.bl (AB.withinT (sidB n pts) L))) :=
  ops_of (pre := preWi K C) (R := fun g => Is (.bl (AB.withinT (sidB g.1 g.2.1) g.2.2))) (n, pts, L) ⟨p, y, rfl, F, B, ry, hL⟩
section
variable {P : Program} {w : World} {K : PySem.W.Frag} {mg : Str → Option Value} {base : Heap} {C : Addr}
theorem ok_wi {f fD : Addr} {fd fdD : FuncData} {k : Nat} (T : Txt K mg C) (F : Fun K "is_within" "is_within" sWi f fd) (FD : Fun K "depth" "depth" sDep fD fdD) (bD : Binds K fdD ["side", "place"] []) (gD : mg "depth" = some (.ref fD)) (GD : FnOk P w K mg base CX0 k fD fdD ["side", "place"] (spDep K)) (ma : mg "all" = none) : FnOk P w K mg base CX0 (k + 1) f fd ["body", "place"] (spWi K C) := by
  refine F.ok scWi (fun vs H Q E h => ?_) (fun cdv A outer s H vs Q E hr h => ?_)
  · obtain ⟨_, _, _, ⟨p, y, rfl, _⟩, _⟩ := h; rfl
  · obtain ⟨Hk, ⟨n, pts, L⟩, e, ⟨p, y, rfl, Ft, B, ry, hL⟩, q⟩ := h
    have Ft : Fit n pts := Ft
    have hL : PlcB n L := hL
    obtain ⟨dx, vs, vc, vb, hp, rc, rb, rs⟩ := B
    have rs : ListR RowT (sidB n pts) vs Hk := rs
    refine ⟨_, pss_one (ps_ret (pe_callB (cr_all rfl) (by rfl) ma (by decide +kernel) (pa_cons
      (pe_lc (own := [("side", 2)]) (g := gName 2) (tt := tYes) (te := tOp (rI0 fun i j => .bl (decide (j < i))) (tCall (spDep K) [] E0 (tCons (tVar 2) (tCons (tVar 1) tNil))) (tC (.int 0))) rfl scWi.nd (pi_list (pe_fld (pv 0) rfl))
        (blkOk_by (own := [("side", 2)]) (N := ["body", "place", "side"]) (sc := defScope sWi) (by decide +kernel))
        (fun _ _ _ _ _ => pg_name (i := 2) scWi.nd rfl (Or.inl rfl) (Or.inr rfl)) (fun _ _ _ _ _ => pts_nil)
        (fun _ _ _ _ _ => pe_cmpR op_gt (pe_call GD hr (by rfl) gD FD.kp bD .nil pass0 (pa_cons (pv 2) (pa_cons (pv 1) pa_nil))) pe_int (nomark _))) pa_nil))), ?_⟩
    have ee : AB.withinT (sidB n pts) L = ((sidB n pts).map fun t => decide (0 < AB.depthT t L)).all id := by unfold AB.withinT; rw [List.all_map]; rfl
    refine ret_of (Hk := Hk) (R := Is (.bl (AB.withinT (sidB n pts) L))) ?_ e fun v H2 e2 hv => q v H2 e2 hv
    rw [ee]
    refine gv_all (gv_lc (sidB n pts) (fun _ => true) (fun t => Is (.bl (decide (0 < AB.depthT t L)))) (fun _ => Is.mono _) (Nat.lt_of_le_of_lt (sid_few Ft) (by decide)) (src_seqL (K := K) (RI := RowT) (as := sidB n pts) ((gv_fld rfl hp T.cl T.nS lkF_s (ListR.mono (fun _ => RowT.mono _) _) rs).imp fun v H' _ h => h.seq) fun _ => RowT.mono _) (fun i t x' H5 hi e5 hy => ?_) (fun p' zs H5 e5 _ hpz hq => ?_))
    · obtain ⟨a', ha', hra⟩ := hy
      rw [hi] at ha'
      cases ha'
      exact ⟨_, tg_name, rfl, gvt_yes, fun _ => gv_ii (gv_call (RL := R2' (RowT t) (RowK true K L)) (gva_2 (gv_var rfl (RowT.mono _) hra) (RowT.mono _) (gv_var rfl (RowK.mono _) (RowK.mono _ _ _ _ e5 ry)) (RowK.mono _)) (fun vs H' _ ⟨u1, u2, hu, h1, h2⟩ => by
        subst hu
        exact use_dep h1.k h2 Ft.P.n4 (sid_sm Ft t (List.mem_of_getElem? hi)) hL) (Is.mono _)) gv_c fun _ => i0⟩
    · rw [filter_true] at hq
      exact lst_bls hpz hq
end
end Ab

set_option Elab.async false
set_option linter.all false
set_option maxRecDepth 100000
set_option maxHeartbeats 2000000
namespace Ab
open PySem PySem.Spec PyProof.Rows L2
theorem scFrt : FnScope ["above", "below", "divisor"] ["above", "below"] (defScope sFrt) := ⟨rfl, rfl, rfl, by decide +kernel, rfl, by decide +kernel, by decide +kernel⟩
def preFrt : Int × Int → List V → Hp → Prop := fun g vs _ => vs = [.int g.1, .int g.2] ∧ 0 < g.2 ∧ Sm 1000 g.2
def spFrt : Sp := spG preFrt fun g => RowL (AB.fracT g.1 g.2)
theorem use_frt {a b : Int} {H : Hp} (h0 : 0 < b) (hs : Sm 1000 b) : OpS spFrt [.int a, .int b] H (RowL (AB.fracT a b)) :=
  ops_of (pre := preFrt) (R := fun g => RowL (AB.fracT g.1 g.2)) (a, b) ⟨rfl, h0, hs⟩
section
variable {P : Program} {w : World} {K : PySem.W.Frag} {mg : Str → Option Value} {base : Heap}
theorem ok_frt {f fG : Addr} {fd fdG : FuncData} {k : Nat} (F : Fun K "fraction_told" "fraction_told" sFrt f fd) (FG : Fun K "common_divisor" "common_divisor" sCd fG fdG) (bG : Binds K fdG ["numbers"] []) (gG : mg "common_divisor" = some (.ref fG)) (GG : FnOk P w K mg base CX0 k fG fdG ["numbers"] (spCd K)) : FnOk P w K mg base CX0 (k + 1) f fd ["above", "below"] spFrt := by
  refine F.ok scFrt (fun vs H Q E h => ?_) (fun cdv A outer s H vs Q E hr h => ?_)
  · obtain ⟨_, _, _, ⟨rfl, _⟩, _⟩ := h; rfl
  · obtain ⟨Hk, ⟨a, b⟩, e, ⟨rfl, h0, hs⟩, q⟩ := h
    have h0 : 0 < b := h0
    have hs : Sm 1000 b := hs
    refine ⟨_, pss_cons (ps_set (i := 2) scFrt.nd rfl (.inl rfl) (pe_call GG hr (by rfl) gG FG.kp bG .nil pass0 (pa_cons (pe_lst (pa_cons (pv 0) (pa_cons (pv 1) pa_nil))) pa_nil)))
      (pss_one (ps_ret (pe_lst (pa_cons (pe_op op_fdivW (pv 0) (pv 2)) (pa_cons (pe_op op_fdivW (pv 1) (pv 2)) pa_nil))))), ?_⟩
    obtain ⟨g0, g1⟩ := gcd2_le (m := a) h0
    have gS : Sm 1000 (AB.gcdL [a, b] : Int) := Nat.lt_of_le_of_lt g1 hs
    refine seq_set (Hk := Hk) (R := IsI (AB.gcdL [a, b] : Int)) (gv_call (RL := R1 (RowL [a, b])) (gva_1 (gv_lst2 (gv_v rfl) (gv_v rfl))) (fun vs H6 _ ⟨u, hu, h⟩ => by
        subst hu
        exact use_cd h.row) (Is.mono _)) e fun v H1 e1 hv => ?_
    cases hv
    refine ret_of (Hk := Hk) (R := RowL (AB.fracT a b)) (gv_lst2 (gv_div (gv_v rfl) (gv_v rfl) (by omega) gS) (gv_div (gv_v rfl) (gv_v rfl) (by omega) gS)) (Same.trans e e1) fun v H2 e2 hv => q v H2 (Same.trans e1 e2) (RowL.mono _ _ _ _ (vis_late e1) hv)
end
end Ab

set_option Elab.async false
set_option linter.all false
set_option maxRecDepth 100000
set_option maxHeartbeats 2000000
namespace Ab
open PySem PySem.Spec PyProof.Rows L2
theorem scIpl : FnScope ["n", "numbers", "above_in_range", "number"] ["n", "numbers"] (defScope sIpl) := ⟨rfl, rfl, rfl, by decide +kernel, rfl, by decide +kernel, by decide +kernel⟩
def preIpl (K : PySem.W.Frag) : Nat × List Int → List V → Hp → Prop := fun g vs H => ∃ y, vs = [.int (g.1 : Int), y] ∧ RowK true K g.2 y H ∧ g.1 ≤ 4
def spIpl (K : PySem.W.Frag) : Sp := spG (preIpl K) fun g => Is (.bl (AB.placeOk g.1 g.2))
theorem use_ipl {K : PySem.W.Frag} {n : Nat} {p : List Int} {y : V} {H : Hp} (ry : RowK true K p y H) (hn : n ≤ 4) : OpS (spIpl K) [.int (n : Int), y] H (Is (.bl (AB.placeOk n p))) :=
  ops_of (pre := preIpl K) (R := fun g => Is (.bl (AB.placeOk g.1 g.2))) (n, p) ⟨y, rfl, ry, hn⟩
section
variable {P : Program} {w : World} {K : PySem.W.Frag} {mg : Str → Option Value} {base : Heap}
theorem ok_ipl {f : Addr} {fd : FuncData} {k : Nat} (F : Fun K "is_place" "is_place" sIpl f fd) (ml : mg "len" = none) (ma : mg "all" = none) : FnOk P w K mg base CX0 (k + 1) f fd ["n", "numbers"] (spIpl K) := by
  refine F.ok scIpl (fun vs H Q E h => ?_) (fun cdv A outer s H vs Q E hr h => ?_)
  · obtain ⟨_, _, _, ⟨y, rfl, _⟩, _⟩ := h; rfl
  · obtain ⟨Hk, ⟨n, p⟩, e, ⟨y, rfl, ry, hn⟩, q⟩ := h
    have hn : n ≤ 4 := hn
    have ry : RowK true K p y Hk := ry
    refine ⟨_, pss_cons (ps_if (pt_cmpR op_ne (pe_callB call_len (by rfl) ml (by decide +kernel) (pa_cons (pv 1) pa_nil)) (pe_op op_mulW pe_int (pv 0)) (nomark _)) (pss_one (ps_ret pe_bl)) pss_nil)
      (pss_cons (ps_set (i := 2) scIpl.nd rfl (.inl rfl) (pe_callB (cr_all rfl) (by rfl) ma (by decide +kernel) (pa_cons
        (pe_lc (own := [("number", 3)]) (g := gName 3) (tt := tYes) (te := tChain (rI0 fun i j => .bl (decide (i ≤ j))) (rI0 fun i j => .bl (decide (i ≤ j))) (tUn (rU fun i => .int (-i)) (tC (.int 100000))) (tVar 3) (tC (.int 100000))) rfl scIpl.nd (pi_list (pe_step2 (l := 0) (by decide) (pv 1)))
          (blkOk_by (own := [("number", 3)]) (N := ["n", "numbers", "above_in_range", "number"]) (sc := defScope sIpl) (by decide +kernel))
          (fun _ _ _ _ _ => pg_name (i := 3) scIpl.nd rfl (Or.inl rfl) (Or.inr rfl)) (fun _ _ _ _ _ => pts_nil)
          (fun _ _ _ _ _ => pe_chain op_le op_le (pe_un un_neg pe_int) (pv 3) pe_int)) pa_nil)))
      (pss_one (ps_ret (pe_and (pv 2) (pe_one (pe_callB (cr_all rfl) (by rfl) ma (by decide +kernel) (pa_cons
        (pe_lc (own := [("number", 3)]) (g := gName 3) (tt := tYes) (te := tChain (rI0 fun i j => .bl (decide (i ≤ j))) (rI0 fun i j => .bl (decide (i ≤ j))) (tC (.int 1)) (tVar 3) (tC (.int 1000))) rfl scIpl.nd (pi_list (pe_step2 (l := 1) (by decide) (pv 1)))
          (blkOk_by (own := [("number", 3)]) (N := ["n", "numbers", "above_in_range", "number"]) (sc := defScope sIpl) (by decide +kernel))
          (fun _ _ _ _ _ => pg_name (i := 3) scIpl.nd rfl (Or.inl rfl) (Or.inr rfl)) (fun _ _ _ _ _ => pts_nil)
          (fun _ _ _ _ _ => pe_chain op_le op_le pe_int (pv 3) pe_int)) pa_nil))))))), ?_⟩
    have mK : Mono (RowK true K p) := RowK.mono _
    refine seq_if (Hk := Hk) (b := !decide (V.int (p.length : Int) = V.int (2 * (n : Int)))) (gvt_test (gv_ii (gv_any_len ((gv_var rfl mK ry).imp fun v H' _ h => ⟨true, h⟩)) (gv_mul (a := 2) (b := 3) gv_c (gv_v rfl) (sm_of (N := 2) (by decide) (by decide)) (sm_of (N := 4) (by omega) (by decide)) (by decide) (by decide) (by decide)) fun _ => oNe rfl)) e (fun hb H1 e1 => ?_) (fun hb H1 e1 => ?_)
    · refine ret_of (Hk := H1) (R := Is (.bl false)) gv_c (Same.refl _) fun v H2 e2 hv => ?_
      refine q v H2 (Same.trans e1 e2) ?_
      rw [int_eq] at hb
      have : ¬ (p.length = 2 * n) := fun z => by rw [z] at hb; simp at hb
      have : AB.placeOk n p = false := by unfold AB.placeOk; rw [decide_eq_false this, Bool.false_and]
      show v = V.bl (AB.placeOk n p)
      rw [this]; exact hv
    · rw [int_eq] at hb
      have hl : p.length = 2 * n := by
        have := of_decide_eq_true (by simpa using hb : decide ((p.length : Int) = 2 * (n : Int)) = true)
        omega
      obtain ⟨l1, l2⟩ := AB.evs_len n p hl
      have E1 : Same Hk H1 := Same.trans e e1
      have odsR : ∀ {σ : L2.St} {M : Hp}, σ[1]? = some (some y) → Same Hk M → Gv (tStep2 K 1 (tVar 1)) σ M (RowL (AB.ods p)) := fun {σ M} h eM => by
        have := gv_step2 (K := K) (l := 1) (gv_var h mK (mK _ _ _ eM ry))
        rwa [selG_ods] at this
      have evsR : ∀ {σ : L2.St} {M : Hp}, σ[1]? = some (some y) → Same Hk M → Gv (tStep2 K 0 (tVar 1)) σ M (RowL (AB.evs p)) := fun {σ M} h eM => by
        have := gv_step2 (K := K) (l := 0) (gv_var h mK (mK _ _ _ eM ry))
        rwa [selG_evs] at this
      have ea : ((AB.evs p).all fun z => decide (-100000 ≤ z) && decide (z ≤ 100000)) = ((AB.evs p).map fun z => decide (-100000 ≤ z) && decide (z ≤ 100000)).all id := by rw [List.all_map]; rfl
      have eo : ((AB.ods p).all fun z => decide (1 ≤ z) && decide (z ≤ 1000)) = ((AB.ods p).map fun z => decide (1 ≤ z) && decide (z ≤ 1000)).all id := by rw [List.all_map]; rfl
      refine seq_set (Hk := Hk) (R := Is (.bl ((AB.evs p).all fun z => decide (-100000 ≤ z) && decide (z ≤ 100000)))) ?_ E1 fun v H2 e2 hv => ?_
      · rw [ea]
        refine gv_all (gv_lc (AB.evs p) (fun _ => true) (fun z => Is (.bl (decide (-100000 ≤ z) && decide (z ≤ 100000)))) (fun _ => Is.mono _) (Nat.lt_of_le_of_lt (by omega : (AB.evs p).length ≤ 4) (by decide)) (src_seqL (K := K) (RI := IsI) (as := AB.evs p) ((evsR rfl (Same.refl _)).imp fun v H' _ h => RowK.seq h.row) fun _ => Is.mono _) (fun i z x' H' hi e' hy => ?_) (fun p' zs H' e' _ hpz hq => ?_))
        · obtain ⟨a', ha', hra⟩ := hy
          rw [hi] at ha'
          cases ha'
          cases hra
          exact ⟨_, tg_name, rfl, gvt_yes, fun _ => gv_chain gv_neg (gv_v rfl) gv_c i0 i0⟩
        · rw [filter_true] at hq
          exact lst_bls hpz hq
      · cases hv
        refine ret_of (Hk := Hk) (R := Is (.bl (AB.placeOk n p))) ?_ (Same.trans E1 e2) fun v H3 e3 hv => q v H3 (Same.trans e1 (Same.trans e2 e3)) hv
        have : AB.placeOk n p = (((AB.evs p).all fun z => decide (-100000 ≤ z) && decide (z ≤ 100000)) && ((AB.ods p).all fun z => decide (1 ≤ z) && decide (z ≤ 1000))) := by
          unfold AB.placeOk
          rw [decide_eq_true hl, Bool.true_and]
        rw [this]
        refine gv_andV (gv_v rfl) fun _ => ?_
        rw [eo]
        refine gv_all (gv_lc (AB.ods p) (fun _ => true) (fun z => Is (.bl (decide (1 ≤ z) && decide (z ≤ 1000)))) (fun _ => Is.mono _) (Nat.lt_of_le_of_lt (by omega : (AB.ods p).length ≤ 4) (by decide)) (src_seqL (K := K) (RI := IsI) (as := AB.ods p) ((odsR rfl (Same.refl _)).imp fun v H' _ h => RowK.seq h.row) fun _ => Is.mono _) (fun i z x' H' hi e' hy => ?_) (fun p' zs H' e' _ hpz hq => ?_))
        · obtain ⟨a', ha', hra⟩ := hy
          rw [hi] at ha'
          cases ha'
          cases hra
          exact ⟨_, tg_name, rfl, gvt_yes, fun _ => gv_chain gv_c (gv_v rfl) gv_c i0 i0⟩
        · rw [filter_true] at hq
          exact lst_bls hpz hq
end
end Ab

set_option Elab.async false
set_option linter.all false
set_option maxRecDepth 100000
set_option maxHeartbeats 2000000
namespace Ab
open PySem PySem.Spec PyProof.Rows L2
theorem scSod : FnScope ["body", "place", "sides", "corner", "ahead", "divisor", "number", "other"] ["body", "place"] (defScope sSod) := ⟨rfl, rfl, rfl, by decide +kernel, rfl, by decide +kernel, by decide +kernel⟩
/-! ### lists of rows that are lists -/
theorem le_encL (a b : List Int) : PySem.W.dataLe false encL a b = !AB.lexI b a := by
  have h := congrFun (congrFun (PySem.W.dataLe_rows (fun r : List Int => r)) a) b
  have e : PySem.W.dataLe false encL a b = decide (a ≤ b) := h
  rw [e, lexI_lt, Bool.eq_iff_iff]
  simp only [Bool.not_eq_true', decide_eq_true_iff, decide_eq_false_iff_not]
  exact Iff.rfl
theorem msL_pair {α : Type} (g : α → List Int) (ks : List α) : (ks.mergeSort (PySem.W.dataLe false fun k => encL (g k))).Pairwise fun a b => AB.lexI (g b) (g a) = false := by
  refine (PySem.W.sort_pairwise (PySem.W.sortLe_total _ _ _) ks).imp fun {a b} h => ?_
  have h : PySem.W.dataLe false (fun k => encL (g k)) a b = true := h
  have h2 : PySem.W.dataLe false encL (g a) (g b) = true := by
    rw [PySem.W.dataLe_eq] at h ⊢
    exact h
  rw [le_encL] at h2
  simpa using h2
/-- rows in a list, by their addresses -/
theorem rows_refs {H : Hp} : ∀ {ks : List (List Int)} {ys : List V}, Paired (fun k y => RowL k y H) ks ys → ∃ ps : List Addr, ys = ps.map V.ref ∧ Paired (fun (k : List Int) b => H b = some (.lst (k.map V.int))) ks ps
  | _, _, .nil => ⟨[], rfl, .nil⟩
  | _, _, .cons ⟨p, e, h⟩ t => by
    obtain ⟨ps, e2, hp⟩ := rows_refs t
    exact ⟨p :: ps, by rw [e, e2]; rfl, .cons h hp⟩
theorem refs_rows {H : Hp} : ∀ {ks : List (List Int)} {ps : List Addr}, Paired (fun (k : List Int) b => H b = some (.lst (k.map V.int))) ks ps → Paired (fun k y => RowL k y H) ks (ps.map V.ref)
  | _, _, .nil => .nil
  | _, _, .cons h t => .cons ⟨_, rfl, h⟩ (refs_rows t)
theorem gv_sortLL {K : PySem.W.Frag} {σ : L2.St} {H : Hp} {ta : TE} {ks : List (List Int)} (ha : Gv ta σ H (ListR RowL ks)) : Gv (tCB (rSortLL K) (tCons ta tNil)) σ H (ListR RowL (ks.mergeSort (PySem.W.dataLe false encL))) :=
  gv_c1 ha (fun x H' _ ⟨q, ys, ex, hq, hp⟩ H1 e1 Q k => by
    obtain ⟨ps, ey, hpp⟩ := rows_refs hp
    subst ey
    refine ⟨q, ps, ks, fun r b => H' b = some (.lst (r.map V.int)), by rw [ex], .inl (.inl (e1 _ _ hq)), fun r b h => e1 _ _ h, hpp, fun bs p hb hn => ?_⟩
    refine new_ok (R := ListR RowL (ks.mergeSort (PySem.W.dataLe false encL))) e1 (fun p2 H'' e2 h2 => ?_) k p hn
    exact ⟨p2, _, rfl, h2, refs_rows (Paired.imp (fun r b h => e2 _ _ h) hb)⟩) (ListR.mono (fun _ => RowL.mono _) _)
theorem vis_under {X Hk H Ha Hb : Hp} (h : Same X (vis Hk H Ha)) (e1 : Same H Ha) (e2 : Same Ha Hb) : Same (vis X Ha Hb) (vis Hk H Hb) := fun b o w => by
  unfold vis at w
  split at w
  · rename_i c
    have : (Hk b).isSome = true ∨ (H b).isNone = true := by
      rcases c with c | c
      · obtain ⟨u, hu⟩ := Option.isSome_iff_exists.mp c
        have := h _ _ hu
        unfold vis at this
        split at this
        · assumption
        · cases this
      · exact .inr (none_back e1 c)
    rw [vis_at this]; exact w
  · cases w
theorem vis_first {Hk H H2 : Hp} {D : Addr} {o : HO} : Same (vis Hk (upd H D o) H2) (vis Hk H H2) := fun b u w => by
  unfold vis at w
  split at w
  · rename_i c
    rw [vis_at (c.elim .inl fun c => .inr ?_)]
    · exact w
    · unfold upd at c
      split at c
      · cases c
      · exact c
  · cases w
/-! ### the dual's sides -/
theorem cor_at {n : Nat} {pts : List (List Int)} (F : Fit n pts) {v : List Int} (hv : v ∈ AB.cornersT n pts) : v.length = n ∧ ∀ z, z ∈ v → z.natAbs ≤ 100 := ⟨AB.cornersT_len F.P v hv, F.sm v (cor_sub hv)⟩
theorem div_ok {n : Nat} {L v : List Int} {q : PhBase.Pt} (C : AB.Plc n L q) (B : PlcB n L) : 0 < AB.gcdL (AB.aheadD L v) ∧ Sm 1000 (AB.gcdL (AB.aheadD L v) : Int) := by
  have m : AB.lst L ∈ AB.aheadD L v := by unfold AB.aheadD; simp
  have h1 := AB.gcdL_pos m (by have := C.pos; omega)
  have h2 := AB.gcdL_dvd m
  have h3 := Int.le_of_dvd C.pos h2
  have h4 := B.sm _ (lst_mem B.len)
  refine ⟨h1, Nat.lt_of_le_of_lt (by have := C.pos; omega : _ ≤ (AB.lst L).natAbs) (h4.up (by decide))⟩
def preSod (K : PySem.W.Frag) (C : Addr) : Nat × List (List Int) × List Int → List V → Hp → Prop := fun g vs H => ∃ (p : Addr) (y : V) (q : PhBase.Pt), vs = [.ref p, y] ∧ Fit g.1 g.2.1 ∧ BodyAt C g.1 g.2.1 H p ∧ RowK true K g.2.2 y H ∧ PlcB g.1 g.2.2 ∧ AB.Plc g.1 g.2.2 q
def spSod (K : PySem.W.Frag) (C : Addr) : Sp := spG (preSod K C) fun g => ListR RowL (AB.dsidT g.1 g.2.1 g.2.2)
theorem use_sod {K : PySem.W.Frag} {C : Addr} {n : Nat} {pts : List (List Int)} {L : List Int} {p : Addr} {y : V} {H : Hp} {q : PhBase.Pt} (F : Fit n pts) (B : BodyAt C n pts H p) (ry : RowK true K L y H) (hL : PlcB n L) (hq : AB.Plc n L q) : OpS (spSod K C) [.ref p, y] H (ListR RowL (AB.dsidT n pts L)) :=
  ops_of (pre := preSod K C) (R := fun g => ListR RowL (AB.dsidT g.1 g.2.1 g.2.2)) (n, pts, L) ⟨p, y, q, rfl, F, B, ry, hL, hq⟩
section
variable {P : Program} {w : World} {K : PySem.W.Frag} {mg : Str → Option Value} {base : Heap} {C : Addr}
theorem ok_sod {f fG : Addr} {fd fdG : FuncData} {k : Nat} (T : Txt K mg C) (F : Fun K "sides_of_dual" "sides_of_dual" sSod f fd) (FG : Fun K "common_divisor" "common_divisor" sCd fG fdG) (bG : Binds K fdG ["numbers"] []) (gG : mg "common_divisor" = some (.ref fG)) (GG : FnOk P w K mg base CX0 k fG fdG ["numbers"] (spCd K)) (mz : mg "zip" = none) (ms : mg "sorted" = none) : FnOk P w K mg base CX0 (k + 1) f fd ["body", "place"] (spSod K C) := by
  refine F.ok scSod (fun vs H Q E h => ?_) (fun cdv A outer s H vs Q E hr h => ?_)
  · obtain ⟨_, _, _, ⟨p, y, _, rfl, _⟩, _⟩ := h; rfl
  · obtain ⟨Hk, ⟨n, pts, L⟩, e, ⟨p, y, q0, rfl, Ft, B, ry, hL, hq0⟩, q⟩ := h
    have Ft : Fit n pts := Ft
    have hL : PlcB n L := hL
    have hq0 : AB.Plc n L q0 := hq0
    have ry : RowK true K L y Hk := ry
    obtain ⟨dx, vs, vc, vb, hp, rc, rb, rs⟩ := B
    have rc : ListR RowT (AB.cornersT n pts) vc Hk := rc
    refine ⟨_, pss_cons (ps_set (i := 2) scSod.nd rfl (.inl rfl) (pe_lst pa_nil))
      (pss_cons (ps_for PassesOwn.never rfl (pi_list (pe_fld (pv 0) rfl)) (pg_name (i := 3) scSod.nd rfl (Or.inl rfl))
        (pss_cons (ps_setLc (i := 4) (own := [("number", 6), ("other", 7)]) (g := gTup K 2 (gCons (gName 6) (gCons (gName 7) gNil))) (tt := tYes) (te := tOp (rI0 fun i j => .int (i - j)) (tOp rMul (tVar 6) (tOp (rIx K) (tVar 1) (tUn (rU fun i => .int (-i)) (tC (.int 1))))) (tVar 7)) rfl scSod.nd rfl rfl (sw_true rfl rfl rfl (by decide +kernel))
            (pi_z (by rfl) mz (pa_cons (pv 3) (pa_cons (pe_slice sl_list (pv 1) po_none (po_some (pe_un un_neg pe_int))) pa_nil)))
            (blkOk_by (own := [("number", 6), ("other", 7)]) (N := ["body", "place", "sides", "corner", "ahead", "divisor", "number", "other"]) (sc := defScope sSod) (by decide +kernel))
            (fun _ _ _ _ _ => pg_tup rfl (pgs_cons (pg_name (i := 6) scSod.nd rfl (Or.inl rfl) (Or.inr rfl)) (pgs_cons (pg_name (i := 7) scSod.nd rfl (Or.inl rfl) (Or.inr rfl)) pgs_nil)))
            (fun _ _ _ _ _ => pts_nil) (fun _ _ _ _ _ => pe_op op_sub (pe_op op_mulW (pv 6) (pe_ix ix_seq (pv 1) (pe_un un_neg pe_int) (fun _ _ => rfl))) (pv 7)))
        (pss_cons (ps_set (i := 5) scSod.nd rfl (.inr rfl) (pe_call GG hr (by rfl) gG FG.kp bG .nil pass0 (pa_cons (pe_op op_cat (pv 4) (pe_lst (pa_cons (pe_ix ix_seq (pv 1) (pe_un un_neg pe_int) (fun _ _ => rfl)) pa_nil))) pa_nil)))
        (pss_one (ps_expr (pe_bm PySem.F.plainAttrs_list PySem.F.slot_list_append PySem.F.type_list_append mt_append (pv 2) (pa_cons
            (pe_lc (own := [("number", 6)]) (g := gName 6) (tt := tYes) (te := tOp rDiv (tVar 6) (tVar 5)) rfl scSod.nd (pi_list (pe_op op_cat (pv 4) (pe_lst (pa_cons (pe_ix ix_seq (pv 1) (pe_un un_neg pe_int) (fun _ _ => rfl)) pa_nil))))
              (blkOk_by (own := [("number", 6)]) (N := ["body", "place", "sides", "corner", "ahead", "divisor", "number", "other"]) (sc := defScope sSod) (by decide +kernel))
              (fun _ _ _ _ _ => pg_name (i := 6) scSod.nd rfl (Or.inl rfl) (Or.inr rfl)) (fun _ _ _ _ _ => pts_nil) (fun _ _ _ _ _ => pe_op op_fdivW (pv 6) (pv 5))) pa_nil)))))))
      (pss_one (ps_ret (pe_callB (call_sortLL hr.units) (by rfl) ms (by decide +kernel) (pa_cons (pv 2) pa_nil))))), ?_⟩
    have few := cor_few Ft
    refine seq_new fun D hD => ?_
    have dK : Hk D = none := none_of e hD
    refine seq_for (Hk := Hk) (src_seqL (K := K) (RI := RowT) (as := AB.cornersT n pts) ((gv_fld rfl hp T.cl T.nC lkF_c (ListR.mono (fun _ => RowT.mono _) _) rc).imp fun v H' _ h => h.seq) fun _ => RowT.mono _) (Same.trans e (same_new hD))
      (fun V2 i σ' H' => (∃ y3 y4 y5, σ' = [some (.ref p), some y, some (.ref D), y3, y4, y5, none, none]) ∧ Same H H' ∧ Same V2 (vis Hk H H') ∧ V2 D = none ∧ ∃ ys, H' D = some (.lst ys) ∧ Paired (fun v u => RowL (AB.dsideT L v) u (mask D (vis Hk H H'))) ((AB.cornersT n pts).take i) ys)
      (fun H2 e2 => ⟨⟨_, _, _, rfl⟩, Same.trans (same_new hD) e2, vis_first, vis_not dK upd_same, [], e2 _ _ upd_same, .nil⟩) (fun V2 i σ' H' z => Same.trans z.2.2.1 (vis_le _ _ _)) (fun V2 i x' σ' H' H'' eV hi z e12 yy => ?_) (fun V2 σ' H' eV z => ?_)
    · obtain ⟨⟨y3, y4, y5, rfl⟩, z1, z2', z3, ys, z4, z5⟩ := z
      have z2 : Same V2 H' := Same.trans z2' (vis_le _ _ _)
      obtain ⟨v, hv, rv⟩ := yy
      obtain ⟨cl, cs⟩ := cor_at Ft (List.mem_of_getElem? hv)
      have hV : Same V2 H'' := Same.trans z2 e12
      have vD : vis V2 H' H'' D = none := vis_not z3 z4
      have ryV : RowK true K L y (vis V2 H' H'') := RowK.mono _ _ _ _ (Same.trans eV (vis_base hV)) ry
      obtain ⟨g0, gS⟩ := div_ok (v := v) hq0 hL
      -- ahead
      refine tgt_name (seq_set (Hk := vis V2 H' H'') (R := RowL ((v.zip (AB.hd L)).map fun (x : Int × Int) => x.1 * AB.lst L - x.2)) ?_ (vis_le _ _ _) fun va H3 e3 ha => ?_)
      · refine gv_lc (R := RowL ((v.zip (AB.hd L)).map fun (x : Int × Int) => x.1 * AB.lst L - x.2)) (v.zip (AB.hd L)) (fun _ => true) (fun p' => IsI (p'.1 * AB.lst L - p'.2)) (fun _ => Is.mono _) (by rw [List.length_zip, cl]; exact Nat.lt_of_le_of_lt (Nat.le_trans (Nat.min_le_left _ _) Ft.P.n4) (by decide))
          (src_zip (RA := IsI) (RB := IsI) (gva_rows ((gv_var rfl (RowT.mono _) rv).imp fun v H' _ h => ⟨false, h.k⟩) ((gv_initK hL.len (gv_var rfl (RowK.mono _) ryV)).imp fun v H' _ h => ⟨true, h.row⟩)) (fun _ => Is.mono _) (fun _ => Is.mono _)) (fun i p' x' H' hp e' y => ?_) (fun p2 ys H' e' _ hp hq => ?_)
        · obtain ⟨a, b, ha, hb, T, x1, y1, rfl, hT, h1, h2⟩ := y
          cases h1
          cases h2
          rw [pairs_zip hp ha hb]
          exact ⟨_, tg_pair hT, rfl, gvt_yes, fun _ => gv_ii (gv_mul (a := 7) (b := 58) (gv_v rfl) (gv_lastK hL.len (gv_var rfl (RowK.mono _) (RowK.mono _ _ _ _ e' ryV))) (sm_of (cs a (List.mem_of_getElem? ha)) (by decide)) (hL.sm _ (lst_mem hL.len)) (by decide) (by decide) (by decide)) (gv_v rfl) fun _ => i0⟩
        · rw [filter_true] at hq
          exact (lst_map hp hq).rowL
      -- divisor
      have eA : Same (vis V2 H' H'') (vis (vis V2 H' H'') H'' H3) := vis_base (Same.trans (vis_le _ _ _) e3)
      have nD3 : vis (vis V2 H' H'') H'' H3 D = none := vis_not vD (e12 _ _ z4)
      have U3 : Same (vis (vis V2 H' H'') H'' H3) (vis Hk H H3) := vis_under (vis_under z2' z1 e12) (Same.trans z1 e12) e3
      generalize hM : vis (vis V2 H' H'') H'' H3 = M at eA nD3 ha U3
      have ryM : RowK true K L y M := RowK.mono _ _ _ _ eA ryV
      have lM : Same M H3 := by rw [← hM]; exact vis_le _ _ _
      have ahd : ∀ {σ : L2.St} {M' : Hp}, σ[1]? = some (some y) → σ[4]? = some (some va) → Same M M' → Gv (tOp rCat (tVar 4) (tLst (tCons (tOp (rIx K) (tVar 1) (tUn (rU fun i => .int (-i)) (tC (.int 1)))) tNil))) σ M' (RowL (AB.aheadD L v)) := fun {σ M'} h1 h4 eM =>
        gv_cat (gv_var h4 (RowL.mono _) (RowL.mono _ _ _ _ eM ha)) (gv_lst1 (K := K) (gv_lastK hL.len (gv_var h1 (RowK.mono _) (RowK.mono _ _ _ _ eM ryM)))) (by
          rw [List.length_map, List.length_zip, cl]
          exact Nat.le_trans (by show min n _ + 1 ≤ 5; have := Nat.min_le_left n (AB.hd L).length; have := Ft.P.n4; omega) (by decide))
      refine seq_set (Hk := M) (R := IsI (AB.gcdL (AB.aheadD L v) : Int)) (gv_call (RL := R1 (RowL (AB.aheadD L v))) (gva_1 (ahd rfl rfl (Same.refl _))) (fun vs H6 _ ⟨u, hu, h⟩ => by
        subst hu
        exact use_cd h.row) (Is.mono _)) lM fun vd H4 e4 hd => ?_
      cases hd
      -- its side
      refine st_app (R := RowL (AB.dsideT L v)) (M := M) rfl (e4 _ _ (e3 _ _ (e12 _ _ z4))) ?_ (Same.trans lM e4) ?_ fun vr H5 e5 hr5 => ?_
      · have := Paired.length z5
        rw [List.length_take] at this
        exact Nat.lt_of_le_of_lt (by omega : ys.length ≤ 10) (by decide)
      · refine gv_lc (R := RowL (AB.dsideT L v)) (AB.aheadD L v) (fun _ => true) (fun z => IsI (Int.fdiv z (AB.gcdL (AB.aheadD L v) : Int))) (fun _ => Is.mono _) (by rw [AB.ahead_len hq0 cl]; exact Nat.lt_of_le_of_lt (by have := Ft.P.n4; omega : n + 1 ≤ 5) (by decide))
          (src_seqL (K := K) (RI := IsI) (as := AB.aheadD L v) ((ahd rfl rfl (Same.refl _)).imp fun v H' _ h => RowK.seq h.row) fun _ => Is.mono _) (fun i z x' H' hi e' hy => ?_) (fun p' zs H' e' _ hpz hq => ?_)
        · obtain ⟨a', ha', hra⟩ := hy
          rw [hi] at ha'
          cases ha'
          cases hra
          exact ⟨_, tg_name, rfl, gvt_yes, fun _ => gv_div (gv_v rfl) (gv_v rfl) (by omega) gS⟩
        · rw [filter_true] at hq
          exact (lst_map hpz hq).rowL
      · have nD5 : vis M H4 H5 D = none := vis_not nD3 (e4 _ _ (e3 _ _ (e12 _ _ z4)))
        have U5 : Same (vis M H4 H5) (vis Hk H H5) := vis_under (Same.trans U3 (vis_mono e4)) (Same.trans z1 (Same.trans e12 (Same.trans e3 e4))) e5
        have big : Same (vis M H4 H5) (mask D (vis Hk H (upd H5 D (.lst (ys ++ [vr]))))) := fun b o w => by
          rw [vis_upd, mask_at (fun z => by rw [z, nD5] at w; cases w)]
          exact U5 _ _ w
        have E15 : Same H' H5 := Same.trans e12 (Same.trans e3 (Same.trans e4 e5))
        refine ⟨⟨_, _, _, rfl⟩, fun b o w => ?_, fun b o w => ?_, z3, ys ++ [vr], upd_same, ?_⟩
        · rw [upd_ne (ne_of_none w hD)]
          exact E15 _ _ (z1 _ _ w)
        · have hb := ne_of_none w z3
          have := vis_mono (H := Hk) (H1 := H) E15 _ _ (z2' _ _ w)
          unfold vis at this ⊢
          rw [upd_ne hb]; exact this
        · rw [take_step hv]
          refine Paired.app (Paired.imp (fun a u r => RowL.mono _ _ _ _ ?_ r) z5) (.cons (RowL.mono _ _ _ _ big hr5) .nil)
          rw [vis_upd]
          exact mask_mono (vis_mono E15)
    · obtain ⟨⟨y3, y4, y5, rfl⟩, z1, z2, z3, ys, z4, z5⟩ := z
      rw [List.take_of_length_le (Nat.le_refl _)] at z5
      refine ret_of (Hk := vis Hk H H') (R := ListR RowL (AB.dsidT n pts L)) ?_ (vis_le _ _ _) fun v H2 e2 hv => q v H2 (Same.trans z1 e2) (ListR.mono (fun _ => RowL.mono _) _ _ _ _ (vis_vis z1) hv)
      have eq : AB.dsidT n pts L = ((AB.cornersT n pts).map (AB.dsideT L)).mergeSort (PySem.W.dataLe false encL) := (AB.dsid_eq Ft.P hq0 (List.mergeSort_perm _ _) (msL_pair (fun r => r) _)).symm
      rw [eq]
      refine gv_sortLL (gv_var rfl (ListR.mono (fun _ => RowL.mono _) _) ⟨D, ys, rfl, ?_, Paired.map_left (Paired.imp (fun a u r => RowL.mono _ _ _ _ ?_ r) z5)⟩)
      · rw [vis_at (.inr (by rw [hD]; rfl))]; exact z4
      · exact mask_le _ _
end
end Ab

set_option Elab.async false
set_option linter.all false
set_option maxRecDepth 100000
set_option maxHeartbeats 2000000
/-! sorted(xs, key=f), f a def of the running def's own: with what f's captured names hold then. -/
namespace Ab
open PySem PySem.Spec PyProof.Rows L2 NdefX LamX
/-- a built-in's call with keywords; its reading knows the names' values -/
def CallSK (X : Cx) (f : Value) (kw : List Str) (r : L2.St → List V → List V → Hp → VK → Prop) : Prop :=
  ∀ (pins : List (Addr × Obj)) (s : Shared) (σ : L2.St) (H : Hp) (xs zs : List V) (us ws : List Value) (Q : VK), Inv X pins σ H s → Vals xs us → Vals zs ws → r σ xs zs H Q →
    wpAny (model X.prog X.w) X.A (call f us (kw.zip ws)) (EP X pins σ Q) X.xe s
def tCSk (r : L2.St → List V → List V → Hp → VK → Prop) (t tk : TA) : TE := fun σ H Q => t σ H fun vs H1 => tk σ H1 fun zs H2 => r σ vs zs H2 Q
section
variable {X : Cx} {y : Str} {p0 pos : Pos} {e0 : Expr} {el : List Expr} {kws : List Keyword} {t tk : TA} {id : String} {kw : List Str} {r : L2.St → List V → List V → Hp → VK → Prop}
theorem pe_callSK (hc : CallSK X (.builtin id) kw r) (hg : Gl X y) (hm : X.mg y = none) (hv : bootBuiltins y = some (.builtin id)) (ha : PA X (e0 :: el) t) (hk : PK X kws tk) (n1 : y ≠ "__name__" := by decide) (n2 : (y == ("__debug__" : Str)) = false := by decide)
    (a1 : backTo pos (starEach (e0 :: el) X.env) = (false, eval e0 X.env) :: backTo pos (starEach el X.env) := by rfl) (a2 : (backTo pos (starEach (e0 :: el) X.env)).any (·.1) = false := by rfl)
    (a3 : (backToKw pos (keywordEach kws X.env)).all (·.1.isSome) = true := by rfl) (a4 : (backToKw pos (keywordEach kws X.env)).any (·.1.isNone) = false := by rfl) (a5 : (backToKw pos (keywordEach kws X.env)).filterMap (·.1) = kw := by rfl) :
    PE X (.Call (.Name y p0) (e0 :: el) kws pos) (tCSk r t tk) := ⟨fun pins s σ H Q I h => by
  refine wpAny_Call_Name_kw (ld_blt I hg hm hv (callWith_kw (thn (ha.run pos pins s σ H _ I h) fun us s1 z1 => ?_) a1 a2 a3 a4) n1 n2)
  obtain ⟨vs, H1, I1, r1, q1⟩ := z1
  refine thn (hk.run pos pins s1 σ H1 _ I1 q1) fun ws s2 z2 => ?_
  obtain ⟨zs, H2, I2, r2, q2⟩ := z2
  rw [a5]
  exact hc pins s2 σ H2 vs zs us ws Q I2 r1 r2 q2⟩
end
/-- xs a list of tuples of whole numbers, the key gives lists of such -/
def rSortN (K : PySem.W.Frag) (mk : Addr → NF) (js : List Nat) (sp : List (Option V) → Sp) : L2.St → List V → List V → Hp → VK → Prop := fun σ xs zs H Q =>
  ∃ (a f c' : Addr) (ps : List Addr) (bs : List (List Int)) (F : List Int → Addr → Prop) (g : List Int → List Int), xs = [.ref a] ∧ zs = [.ref f] ∧ SqL K H a (ps.map V.ref) ∧ Paired F bs ps ∧ H f = some (FnO f (mk c')) ∧ H (mk c').c = some (CodeO (mk c').c (mk c').qual) ∧
    (∀ (H' : Hp) (k : List Int) (b : Addr), Same H H' → k ∈ bs → F k b → sp (js.map (slotAt σ)) [.ref b] H' (fun v H2 => Same H' H2 ∧ ∃ c, v = .ref c ∧ H2 c = some (.lst ((g k).map V.int))) E0) ∧
    ∀ (qs : List Addr) (H' : Hp) (p : Addr), Same H H' → H' p = none → Paired F (bs.mergeSort (PySem.W.dataLe false fun k => encL (g k))) qs → Q (.ref p) (upd H' p (.lst (qs.map V.ref)))
section
variable {X : Cx} {mk : Addr → NF} {cl : List (Str × Addr)} {fr : List Str} {js : List Nat} {k : Nat} {x : Str} {sp : List (Option V) → Sp}
theorem call_sortN (Fn : ∀ f c', NOk X.prog X.w X.K X.mg X.base CX0 k f (mk c') [x] fr sp) (hcl : ∀ c', (mk c').cl = cl) (cp : X.Ok → Caps X cl fr js) (hr : Room (k + 2) X.A) : CallSK X (.builtin "sorted") ["key"] (rSortN X.K mk js sp) := by
  rintro pins s σ H xs zs us ws Q I r1 r2 ⟨a, f, c', ps, bs, F, g, rfl, rfl, hs, hp, hf, hc, hsp, q⟩
  obtain ⟨u, rfl, rx⟩ := vals1 r1
  obtain ⟨u2, rfl, ry⟩ := vals1 r2
  cases rx
  cases ry
  refine sort_key (F := F) (g := g) I hs hp hr.units (fun P s' H' l b e I' hl hF => ?_) q
  have C : CellsAt (mk c').cl fr (js.map (slotAt σ)) s'.heap H' := by
    rw [hcl c']
    exact cells_of I' (cp I'.ok)
  refine wpAny_call (codeAny_mono ((Fn f c').run X.A.in1.in1 X.stack s' H' [.ref b] [.ref b] _ _ E0 hr.in1.in1 I'.env0.in1.in1 (e _ _ hf) (e _ _ hc) C (.cons rfl .nil) (hsp H' l b e hl hF)) fun r s'' hq => ?_)
  cases r with
  | error e => exact hq.elim
  | ok fl =>
    cases fl with
    | ret u => exact I'.after hq
    | next => exact hq.elim
    | brk => exact hq.elim
    | cont => exact hq.elim
end
/-- tuples in a list, by their addresses -/
theorem tups_refs {H : Hp} : ∀ {ks : List (List Int)} {ys : List V}, Paired (fun k y => RowT k y H) ks ys → ∃ ps : List Addr, ys = ps.map V.ref ∧ Paired (fun (k : List Int) b => H b = some (.tup (k.map V.int))) ks ps
  | _, _, .nil => ⟨[], rfl, .nil⟩
  | _, _, .cons ⟨p, e, h⟩ t => by
    obtain ⟨ps, e2, hp⟩ := tups_refs t
    exact ⟨p :: ps, by rw [e, e2]; rfl, .cons h hp⟩
theorem refs_tups {H : Hp} : ∀ {ks : List (List Int)} {ps : List Addr}, Paired (fun (k : List Int) b => H b = some (.tup (k.map V.int))) ks ps → Paired (fun k y => RowT k y H) ks (ps.map V.ref)
  | _, _, .nil => .nil
  | _, _, .cons h t => .cons ⟨_, rfl, h⟩ (refs_tups t)
theorem gv_sortN {K : PySem.W.Frag} {mk : Addr → NF} {js : List Nat} {sp : List (Option V) → Sp} {σ : L2.St} {M : Hp} {ta : TE} {i : Nat} {f c' : Addr} {ks : List (List Int)} {g : List Int → List Int} (ha : Gv ta σ M (ListR RowT ks)) (hv : σ[i]? = some (some (.ref f)))
    (hf : M f = some (FnO f (mk c'))) (hc : M (mk c').c = some (CodeO (mk c').c (mk c').qual)) (hsp : ∀ (M' : Hp) (k : List Int) (b : Addr), Same M M' → k ∈ ks → M' b = some (.tup (k.map V.int)) → OpS (sp (js.map (slotAt σ))) [.ref b] M' (RowL (g k))) :
    Gv (tCSk (rSortN K mk js sp) (tCons ta tNil) (tCons (tVar i) tNil)) σ M (ListR RowT (ks.mergeSort (PySem.W.dataLe false fun k => encL (g k)))) := fun H1 e Q q => ha H1 e _ fun v H2 e2 hr => by
  obtain ⟨a, ys, rfl, hq, hp⟩ := hr
  obtain ⟨ps, rfl, hpp⟩ := tups_refs hp
  have eM : Same M (vis M H1 H2) := vis_base (Same.trans e e2)
  refine ⟨.ref f, hv, a, f, c', ps, ks, fun k b => vis M H1 H2 b = some (.tup (k.map V.int)), g, rfl, rfl, .inl (.inl (vis_le _ _ _ _ _ hq)), hpp, e2 _ _ (e _ _ hf), e2 _ _ (e _ _ hc), fun H' k b e3 hk hb => ?_, fun qs H' p e3 hn hpq => ?_⟩
  · exact hsp (vis M H1 H2) k b eM hk hb H' (Same.trans (vis_le _ _ _) e3) _ (fun v H3 e4 ⟨c, ec, hcc⟩ => ⟨e4, c, ec, vis_le _ _ _ _ _ hcc⟩) E0
  · have n2 : H2 p = none := none_of e3 hn
    have n1 : H1 p = none := none_of e2 n2
    have up : Same H2 (upd H' p (.lst (qs.map V.ref))) := Same.trans e3 (same_new hn)
    refine q _ _ (Same.trans e2 up) ⟨p, _, rfl, ?_, refs_tups (Paired.imp (fun k b h => vis_mono up _ _ h) hpq)⟩
    rw [vis_at (.inr (by rw [n1]; rfl))]
    exact upd_same
/-- THE RULE for a def whose code object is known -/
theorem Fun.okC {P : Program} {w : World} {K : PySem.W.Frag} {mg : Str → Option Value} {base : Heap} {y qual : Str} {st : Stmt} {f c : Addr} {fd : FuncData} {N ps : List Str} {k : Nat} {sp : Sp} (F : Fun K y qual st f fd) (hc : fd.code = .ref c) (S : FnScope N ps (defScope st)) (len : ∀ vs H Q E, sp vs H Q E → vs.length = ps.length)
    (body : ∀ (A : Around) (outer : List Env) (s : Shared) (H : Hp) (vs : List V) (Q : VK) (E : XK), Room k (A.deeper (envOfC qual (defScope st) s.heap.objs.size f (.ref c))) → sp vs H Q E →
      ∃ t, PSs (cxOf CX0 P w K mg base N qual (defScope st) f (.ref c) A outer s H E).nox (defBody st) t ∧ t { nx := fun _ H' => Q .non H', rt := Q } (start N vs) H) : FnOk P w K mg base CX0 (k + 1) f fd ps sp := by
  obtain ⟨oc, od, kV, doc, pm, an, cdv, ct, osl, rfl, lk, hcd⟩ := F.ex
  have e : cdv = .ref c := hc
  subst e
  refine fn_of lk hcd S len fun A outer s H vs Q E hr h => ?_
  obtain ⟨t, h1, h2⟩ := body A outer s H vs Q E hr h
  exact ⟨t, h1.nox, h2⟩
end Ab

set_option Elab.async false
set_option linter.all false
set_option maxRecDepth 100000
set_option maxHeartbeats 2000000
namespace Ab
open PySem PySem.Spec PyProof.Rows L2 NdefX LamX
theorem scCod : FnScope ["body", "place", "side", "over_one_below", "corners", "corner", "number", "below"] ["body", "place"] (defScope sCod) := ⟨rfl, rfl, rfl, by decide +kernel, rfl, by decide +kernel, by decide +kernel⟩
/-! ### the def within -/
def nstCod : Stmt := (defBody sCod).getD 1 (.Pass ⟨0, 0, 0, 0⟩)
abbrev qCod : Str := (("corners_of_dual" : Str) ++ ".<locals>.") ++ "over_one_below"
abbrev mkObb (cl : List (Str × Addr)) : Addr → NF := NF.of nstCod "over_one_below" qCod cl
theorem scObb : OScope ["side", "below", "place", "number"] "side" ["below", "place"] (C8.fnScope nstCod) := ⟨rfl, rfl, rfl, by decide +kernel, rfl, by decide +kernel, rfl, by decide +kernel, by decide +kernel⟩
theorem ndObb : ndefB (defScope sCod) (C8.fnScope nstCod) ["below", "place"] = true := by decide +kernel
abbrev ObbG : Type := Nat × List Int × List Int × Int
def preObb (K : PySem.W.Frag) (ws : List (Option V)) : ObbG → List V → Hp → Prop := fun g vs H => ∃ x y, ws = [some (.int g.2.2.2), some y] ∧ vs = [x] ∧ RowK false K g.2.1 x H ∧ RowK true K g.2.2.1 y H ∧ g.1 ≤ 4 ∧ SidB g.1 g.2.1 ∧ PlcB g.1 g.2.2.1 ∧ 0 < AB.depthT g.2.1 g.2.2.1 ∧ AB.depthT g.2.1 g.2.2.1 ∣ g.2.2.2 ∧ Sm 23101 g.2.2.2
def spObb (K : PySem.W.Frag) (ws : List (Option V)) : Sp := spG (preObb K ws) fun g => RowL (AB.keyT g.2.2.2 g.2.2.1 g.2.1)
section
variable {P : Program} {w : World} {K : PySem.W.Frag} {mg : Str → Option Value} {base : Heap}
theorem ok_obb {f c' fD : Addr} {fdD : FuncData} {cl : List (Str × Addr)} {k : Nat} (FD : Fun K "depth" "depth" sDep fD fdD) (bD : Binds K fdD ["side", "place"] []) (gD : mg "depth" = some (.ref fD)) (GD : FnOk P w K mg base CX0 k fD fdD ["side", "place"] (spDep K)) :
    NOk P w K mg base CX0 (k + 1) f (mkObb cl c') ["side"] ["below", "place"] (spObb K) := by
  refine nok_one (N := ["side", "below", "place", "number"]) scObb (fun _ _ _ _ => rfl) (fun ws vs H Q E h => ?_) (fun A outer s H v ws Q E hr hl h => ?_)
  · obtain ⟨_, _, _, ⟨x, y, _, rfl, _⟩, _⟩ := h; rfl
  · obtain ⟨Hk, ⟨n, t, L, b⟩, e, ⟨x, y, rfl, ev, rx, ry, hn, S, B, d0, dd, bS⟩, q⟩ := h
    cases ev
    have hn : n ≤ 4 := hn
    have S : SidB n t := S
    have B : PlcB n L := B
    have d0 : 0 < AB.depthT t L := d0
    have dd : AB.depthT t L ∣ b := dd
    have bS : Sm 23101 b := bS
    have rx : RowK false K t v Hk := rx
    have ry : RowK true K L y Hk := ry
    refine ⟨_, pss_one (ps_ret (pe_lc (own := [("number", 3)]) (g := gName 3) (tt := tYes) (te := tOp rMul (tVar 3) (tOp rDiv (tVar 1) (tCall (spDep K) [] E0 (tCons (tVar 0) (tCons (tVar 2) tNil))))) rfl scObb.nd (pi_tup (pe_slice sl_tup (pv 0) po_none (po_some (pe_un un_neg pe_int))))
      (blkOk_by (own := [("number", 3)]) (N := ["side", "below", "place", "number"]) (sc := C8.fnScope nstCod) (by decide +kernel))
      (fun _ _ _ _ _ => pg_name (i := 3) scObb.nd rfl (Or.inl rfl) (Or.inr rfl)) (fun _ _ _ _ _ => pts_nil)
      (fun _ _ _ _ _ => pe_op op_mulW (pv 3) (pe_op op_fdivW (pv 1) (pe_call GD hr (by rfl) gD FD.kp bD .nil pass0 (pa_cons (pv 0) (pa_cons (pv 2) pa_nil))))))), ?_⟩
    show tRet _ _ [some v, some (.int b), some y, none] H
    have hdl : (AB.hd t).length = n := AB.hd_len S.len
    refine ret_of (Hk := Hk) (R := RowL (AB.keyT b L t)) ?_ e fun v H2 e2 hv => q v H2 e2 hv
    refine gv_lc (R := RowL (AB.keyT b L t)) (AB.hd t) (fun _ => true) (fun z => IsI (z * Int.fdiv b (AB.depthT t L))) (fun _ => Is.mono _) (by rw [hdl]; exact Nat.lt_of_le_of_lt hn (by decide))
      (src_seqT (K := K) (RI := IsI) (as := AB.hd t) ((gv_init S.len (gv_var rfl (RowK.mono _) rx)).imp fun v H' _ h => RowK.seq h.k) fun _ => Is.mono _) (fun i z x' H' hi e' hy => ?_) (fun p' zs H' e' _ hpz hq => ?_)
    · obtain ⟨a', ha', hra⟩ := hy
      rw [hi] at ha'
      cases ha'
      cases hra
      refine ⟨_, tg_name, rfl, gvt_yes, fun _ => gv_mul (a := 40) (b := 23101) (gv_v rfl) (gv_div (gv_v rfl) (gv_call (RL := R2' (RowK false K t) (RowK true K L)) (gva_2 (gv_var rfl (RowK.mono _) (RowK.mono _ _ _ _ e' rx)) (RowK.mono _) (gv_var rfl (RowK.mono _) (RowK.mono _ _ _ _ e' ry)) (RowK.mono _)) (fun vs H'' _ ⟨u1, u2, hu, h1, h2⟩ => by
        subst hu
        exact use_dep h1 h2 hn S B) (Is.mono _)) d0 ((dep_sm hn S B).up (by decide))) (S.sm _ (hd_mem (List.mem_of_getElem? hi))) ?_ (by decide) (by decide) (by decide)⟩
      exact Nat.lt_of_le_of_lt (AB.fdiv_le' dd (by omega)) bS
    · rw [filter_true] at hq
      exact (lst_map hpz hq).rowL
end
/-! ### heaps in which a code table may grow -/
def NT (H : Hp) : Prop := ∀ b ps, H b ≠ some (.tbl ps)
structure Ex (H H2 : Hp) : Prop where
  up : ExtN H H2
  nn : ∀ b, H2 b = none → H b = none
theorem Ex.same {H H2 : Hp} (e : Same H H2) : Ex H H2 := ⟨fun b o h _ => e b o h, fun b h => none_of e h⟩
theorem Ex.trans {H H1 H2 : Hp} (a : Ex H H1) (b : Ex H1 H2) : Ex H H2 := ⟨a.up.trans b.up, fun c h => a.nn c (b.nn c h)⟩
theorem NT.keep {Hk H H2 : Hp} (n : NT Hk) (e : Same Hk H) (x : Ex H H2) : Same Hk H2 := fun b o h => x.up b o (e b o h) fun ps z => n b ps (by rw [h, z])
/-- what is seen from Hk and what is new behind H, c too -/
def vz (c : Addr) (Hk H H' : Hp) : Hp := fun b => if b = c then H' b else vis Hk H H' b
section
variable {c : Addr} {X Hk H Ha Hb : Hp}
theorem vz_le : Same (vz c Hk H Ha) Ha := fun b o w => by
  unfold vz at w
  split at w
  · exact w
  · exact vis_le _ _ _ _ _ w
theorem vz_mono (e : Same Ha Hb) : Same (vz c Hk H Ha) (vz c Hk H Hb) := fun b o w => by
  unfold vz at w ⊢
  split at w
  · rename_i h
    rw [if_pos h]; exact e _ _ w
  · rename_i h
    rw [if_neg h]; exact vis_mono e _ _ w
theorem vz_under (h : Same X (vz c Hk H Ha)) (nn : ∀ b, Ha b = none → H b = none) (e : Same Ha Hb) : Same (vis X Ha Hb) (vz c Hk H Hb) := fun b o w => by
  have w2 := vis_le _ _ _ _ _ w
  unfold vz
  split
  · exact w2
  · rename_i hb
    unfold vis at w
    split at w
    · rename_i z
      have : (Hk b).isSome = true ∨ (H b).isNone = true := by
        rcases z with z | z
        · obtain ⟨u, hu⟩ := Option.isSome_iff_exists.mp z
          have := h _ _ hu
          unfold vz at this
          rw [if_neg hb] at this
          unfold vis at this
          split at this
          · assumption
          · cases this
        · exact .inr (by rw [nn b (Option.isNone_iff_eq_none.mp z)]; rfl)
      rw [vis_at this]; exact w
    · cases w
theorem vz_row {q : Str} {D : Addr} {r : List Int} {v : V} (hc : Ha c = some (CodeO c q)) (hr : RowL r v X) (h : Same X (vz c Hk H Ha)) (hD : X D = none) : RowL r v (mask D (vis Hk H Ha)) := by
  obtain ⟨p, rfl, hp⟩ := hr
  have h1 := h _ _ hp
  have h2 := vz_le _ _ h1
  have pc : p ≠ c := fun z => by
    rw [z, hc] at h2
    unfold CodeO at h2
    cases h2
  unfold vz at h1
  rw [if_neg pc] at h1
  exact ⟨p, rfl, by rw [mask_at (fun z => by rw [z, hD] at hp; cases hp)]; exact h1⟩
theorem vz_upd {D : Addr} {o : HO} (h : Same X (vz c Hk H Ha)) (hD : X D = none) : Same X (vz c Hk H (upd Ha D o)) := fun b u w => by
  have hb := ne_of_none w hD
  have := h _ _ w
  unfold vz vis at this ⊢
  rw [upd_ne hb]; exact this
end
theorem vz_first {c D : Addr} {o : HO} {Hk H H3 H2 : Hp} (nn : ∀ b, H3 b = none → H b = none) : Same (vis (vz c Hk H H3) (upd H3 D o) H2) (vz c Hk H H2) := fun b u w => by
  have w2 := vis_le _ _ _ _ _ w
  unfold vz
  split
  · exact w2
  · rename_i hb
    unfold vis at w
    split at w
    · rename_i z
      have : (Hk b).isSome = true ∨ (H b).isNone = true := by
        rcases z with z | z
        · unfold vz at z
          rw [if_neg hb] at z
          unfold vis at z
          split at z
          · assumption
          · cases z
        · have : H3 b = none := by
            unfold upd at z
            split at z
            · cases z
            · exact Option.isNone_iff_eq_none.mp z
          exact .inr (by rw [nn b this]; rfl)
      rw [vis_at this]; exact w
    · cases w
theorem RowL.asN {ns : List Int} {v : V} {H : Hp} (h : RowL ns v H) : LstN IsI ns v H := by
  obtain ⟨p, rfl, hp⟩ := h
  exact ⟨p, _, rfl, hp, Paired.of_map ns⟩
/-! ### the dual's corners -/
abbrev tabCod (Pt : Addr) : List NTab := [(Pt, fun _ _ => qCod)]
abbrev CodG : Type := Nat × List (List Int) × List Int
def preCod (K : PySem.W.Frag) (C : Addr) : CodG → List V → Hp → Prop := fun g vs H => ∃ (p : Addr) (y : V) (q : PhBase.Pt), vs = [.ref p, y] ∧ Fit g.1 g.2.1 ∧ BodyAt C g.1 g.2.1 H p ∧ RowK true K g.2.2 y H ∧ PlcB g.1 g.2.2 ∧ AB.Plc g.1 g.2.2 q ∧ AB.withinT (sidB g.1 g.2.1) g.2.2 = true
def spCod (K : PySem.W.Frag) (C Pt : Addr) : Sp := fun vs H Q _ => ∃ (Hk : Hp) (g : CodG), Same Hk H ∧ NT Hk ∧ TabsN (tabCod Pt) H ∧ preCod K C g vs Hk ∧ ∀ v H2, Ex H H2 → ListR RowL (AB.dcorT g.1 g.2.1 g.2.2) v (vis Hk H H2) → Q v H2
theorem within_pos {n : Nat} {pts : List (List Int)} {L : List Int} (h : AB.withinT (sidB n pts) L = true) : ∀ t, t ∈ sidB n pts → 0 < AB.depthT t L := fun t ht => of_decide_eq_true (List.all_eq_true.mp h t ht)
abbrev belT (n : Nat) (pts : List (List Int)) (L : List Int) : Int := AB.cmul ((sidB n pts).map fun t => AB.depthT t L)
theorem bel_ok {n : Nat} {pts : List (List Int)} {L : List Int} (F : Fit n pts) (B : PlcB n L) (W : ∀ t, t ∈ sidB n pts → 0 < AB.depthT t L) : 0 < belT n pts L ∧ Sm 23101 (belT n pts L) ∧ ∀ t, t ∈ sidB n pts → AB.depthT t L ∣ belT n pts L := by
  have hz : ∀ z, z ∈ (sidB n pts).map (fun t => AB.depthT t L) → 0 < z ∧ z.natAbs < 2 ^ 110 := fun z hz => by
    obtain ⟨t, ht, rfl⟩ := List.mem_map.mp hz
    exact ⟨W t ht, dep_sm F.P.n4 (sid_sm F t ht) B⟩
  obtain ⟨h1, h2⟩ := AB.cmul_ok fun z h => (hz z h).1
  refine ⟨h1, ?_, fun t ht => h2 _ (List.mem_map_of_mem ht)⟩
  have := AB.cmul_great hz
  rw [List.length_map] at this
  have hf := sid_few F
  exact Nat.lt_of_lt_of_le this (Nat.pow_le_pow_right (by decide) (by omega))
section
variable {P : Program} {w : World} {K : PySem.W.Frag} {mg : Str → Option Value} {base : Heap} {C : Addr}
theorem ok_cod {f fM fD fF c Pt : Addr} {fd fdM fdD fdF : FuncData} {k : Nat} (T : Txt K mg C) (F : Fun K "corners_of_dual" "corners_of_dual" sCod f fd) (hcode : fd.code = .ref c) (TB : TabB base mg c Pt)
    (FM : Fun K "common_multiple" "common_multiple" sCm fM fdM) (bM : Binds K fdM ["numbers"] []) (gM : mg "common_multiple" = some (.ref fM)) (GM : FnOk P w K mg base CX0 k fM fdM ["numbers"] (spCm K))
    (FD : Fun K "depth" "depth" sDep fD fdD) (bD : Binds K fdD ["side", "place"] []) (gD : mg "depth" = some (.ref fD)) (GD : FnOk P w K mg base CX0 k fD fdD ["side", "place"] (spDep K))
    (FF : Fun K "fraction_told" "fraction_told" sFrt fF fdF) (bF : Binds K fdF ["above", "below"] []) (gF : mg "fraction_told" = some (.ref fF)) (GF : FnOk P w K mg base CX0 k fF fdF ["above", "below"] spFrt) (ms : mg "sorted" = none) :
    FnOk P w K mg base CX0 (k + 4) f fd ["body", "place"] (spCod K C Pt) := by
  refine Fun.okC F hcode scCod (fun vs H Q E h => ?_) (fun A outer s H vs Q E hr h => ?_)
  · obtain ⟨_, _, _, _, _, ⟨p, y, _, rfl, _⟩, _⟩ := h; rfl
  · obtain ⟨Hk, ⟨n, pts, L⟩, e, nt, hT, ⟨p, y, q0, rfl, Ft, B, ry, hL, hq0, hw⟩, q⟩ := h
    have Ft : Fit n pts := Ft
    have hL : PlcB n L := hL
    have hq0 : AB.Plc n L q0 := hq0
    have ry : RowK true K L y Hk := ry
    have W := within_pos (n := n) (pts := pts) (L := L) hw
    obtain ⟨b0, bS, bd⟩ := bel_ok Ft hL W
    obtain ⟨dx, vs, vc, vb, hp, rc, rb, rs⟩ := B
    have rs : ListR RowT (sidB n pts) vs Hk := rs
    have hr1 : Room k (A.deeper (envOfC "corners_of_dual" (defScope sCod) s.heap.objs.size f (.ref c))) := hr.mono (by omega)
    refine ⟨_, pss_cons (ps_set (i := 7) scCod.nd rfl (.inr rfl) (pe_call GM hr1 (by rfl) gM FM.kp bM .nil pass0 (pa_cons
        (pe_lc (own := [("side", 2)]) (g := gName 2) (tt := tYes) (te := tCall (spDep K) [] E0 (tCons (tVar 2) (tCons (tVar 1) tNil))) rfl scCod.nd (pi_list (pe_fld (pv 0) rfl))
          (blkOk_by (own := [("side", 2)]) (N := ["body", "place", "side", "over_one_below", "corners", "corner", "number", "below"]) (sc := defScope sCod) (by decide +kernel))
          (fun _ _ _ _ _ => pg_name (i := 2) scCod.nd rfl (Or.inl rfl) (Or.inr rfl)) (fun _ _ _ _ _ => pts_nil)
          (fun _ _ _ _ _ => pe_call GD hr1 (by rfl) gD FD.kp bD .nil pass0 (pa_cons (pv 2) (pa_cons (pv 1) pa_nil)))) pa_nil)))
      (pss_cons (ps_ndefMS (st := nstCod) (T := tabCod Pt) (i := 3) rfl TB rfl (List.mem_singleton.mpr rfl) rfl (fun p hp _ => by rw [List.mem_singleton.mp hp]) (ndef_free ndObb) rfl rfl rfl scCod.nd rfl (.inl rfl) (.inr rfl))
      (pss_cons (ps_set (i := 4) scCod.nd rfl (.inl rfl) (pe_lst pa_nil))
      (pss_cons (ps_for PassesOwn.never rfl (pi_list (pe_callSK (call_sortN (mk := mkObb (cloFrom (cellsFrom (s.heap.objs.size + 1) (defScope sCod).names []) (C8.fnScope nstCod).names [])) (k := k + 1) (fr := ["below", "place"]) (js := [7, 1]) (fun f c' => ok_obb FD bD gD GD) (fun _ => rfl) (fun ok => Caps.made ok (ndef_free ndObb) (ndef_fr ndObb) rfl) hr) (by rfl) ms (by decide +kernel) (pa_cons (pe_fld (pv 0) rfl) pa_nil) (pk_cons (pv 3) pk_nil))) (pg_name (i := 2) scCod.nd rfl (Or.inl rfl))
        (pss_cons (ps_set (i := 5) scCod.nd rfl (.inl rfl) (pe_lst pa_nil))
        (pss_cons (ps_for PassesOwn.never rfl (pi_tup (pe_slice sl_tup (pv 2) po_none (po_some (pe_un un_neg pe_int)))) (pg_name (i := 6) scCod.nd rfl (Or.inl rfl))
          (pss_one (ps_expr (pe_bm PySem.F.plainAttrs_list PySem.F.slot_list_extend PySem.F.type_list_extend mt_extend (pv 5) (pa_cons (pe_call GF hr1 (by rfl) gF FF.kp bF .nil pass0 (pa_cons (pe_op op_mulW (pv 6) (pe_ix ix_seq (pv 1) (pe_un un_neg pe_int) (fun _ _ => rfl))) (pa_cons (pe_call GD hr1 (by rfl) gD FD.kp bD .nil pass0 (pa_cons (pv 2) (pa_cons (pv 1) pa_nil))) pa_nil))) pa_nil)))))
        (pss_one (ps_expr (pe_bm PySem.F.plainAttrs_list PySem.F.slot_list_append PySem.F.type_list_append mt_append (pv 4) (pa_cons (pv 5) pa_nil)))))))
      (pss_one (ps_ret (pv 4)))))), ?_⟩
    have mT : ∀ as : List (List Int), Mono (ListR RowT as) := fun as => ListR.mono (fun _ => RowT.mono _) as
    have few := sid_few Ft
    refine seq_set (Hk := Hk) (R := IsI (belT n pts L)) ?_ e fun v H2 e2 hv => ?_
    · refine gv_call (RL := R1 (RowL ((sidB n pts).map fun t => AB.depthT t L))) (gva_1 (gv_lc (R := RowL ((sidB n pts).map fun t => AB.depthT t L)) (sidB n pts) (fun _ => true) (fun t => IsI (AB.depthT t L)) (fun _ => Is.mono _) (Nat.lt_of_le_of_lt few (by decide)) (src_seqL (K := K) (RI := RowT) (as := sidB n pts) ((gv_fld rfl hp T.cl T.nS lkF_s (mT _) rs).imp fun v H' _ h => h.seq) fun _ => RowT.mono _) (fun i t x' H5 hi e5 hy => ?_) (fun p' zs H5 e5 _ hpz hq => ?_))) (fun vs H' _ ⟨u, hu, h⟩ => ?_) (Is.mono _)
      · obtain ⟨a', ha', hra⟩ := hy
        rw [hi] at ha'
        cases ha'
        exact ⟨_, tg_name, rfl, gvt_yes, fun _ => gv_call (RL := R2' (RowT t) (RowK true K L)) (gva_2 (gv_var rfl (RowT.mono _) hra) (RowT.mono _) (gv_var rfl (RowK.mono _) (RowK.mono _ _ _ _ e5 ry)) (RowK.mono _)) (fun vs H' _ ⟨u1, u2, hu, h1, h2⟩ => by
          subst hu
          exact use_dep h1.k h2 Ft.P.n4 (sid_sm Ft t (List.mem_of_getElem? hi)) hL) (Is.mono _)⟩
      · rw [filter_true] at hq
        exact (lst_map hpz hq).rowL
      · subst hu
        exact use_cm h.row (by rw [List.length_map]; exact few) fun z hz => by
          obtain ⟨t, ht, rfl⟩ := List.mem_map.mp hz
          exact ⟨W t ht, dep_sm Ft.P.n4 (sid_sm Ft t ht) hL⟩
    cases hv
    -- the def within
    refine seq_of ⟨hT.ext e2, fun f' c' H3 eN nn3 _ f0 f1 c1 => ?_⟩
    have X3 : Ex H H3 := (Ex.same e2).trans ⟨eN, nn3⟩
    have k3 : Same Hk H3 := nt.keep e X3
    have fH : H f' = none := none_of e2 f0
    have c1 : H3 c' = some (CodeO c' qCod) := c1
    have fM : vz c' Hk H H3 f' = some (FnO f' (mkObb (cloFrom (cellsFrom (s.heap.objs.size + 1) (defScope sCod).names []) (C8.fnScope nstCod).names []) c')) := by
      unfold vz
      split
      · exact f1
      · rw [vis_at (.inr (by rw [fH]; rfl))]; exact f1
    have cM : vz c' Hk H H3 c' = some (CodeO c' qCod) := (if_pos rfl).trans c1
    have kM : Same Hk (vz c' Hk H H3) := fun b o w => by
      unfold vz
      split
      · exact k3 _ _ w
      · rw [vis_at (.inl (by rw [w]; rfl))]; exact k3 _ _ w
    refine seq_new fun D hD => ?_
    have DH : H D = none := X3.nn D hD
    obtain ⟨ss, hss⟩ : ∃ ss, ss = (sidB n pts).mergeSort (PySem.W.dataLe false fun k => encL (AB.keyT (belT n pts L) L k)) := ⟨_, rfl⟩
    have pss : ss.Perm (sidB n pts) := by rw [hss]; exact List.mergeSort_perm _ _
    have hres : ss.map (AB.dcT L) = AB.dcorT n pts L := AB.dcor_eq Ft.P hq0 W b0 bd pss (by rw [hss]; exact msL_pair _ _)
    have hsl : ss.length ≤ 210 := by rw [pss.length_eq]; exact few
    refine seq_for (Hk := vz c' Hk H H3) (n := ss.length) (src_seqL (K := K) (RI := RowT) (as := ss) (by
        rw [hss]
        exact (gv_sortN (mk := mkObb (cloFrom (cellsFrom (s.heap.objs.size + 1) (defScope sCod).names []) (C8.fnScope nstCod).names [])) (c' := c') (g := AB.keyT (belT n pts L) L) (gv_fld rfl (kM _ _ hp) T.cl T.nS lkF_s (mT _) (mT _ _ _ _ kM rs)) rfl fM cM fun M' t b eM ht hb =>
          ops_of (pre := preObb K _) (R := fun g => RowL (AB.keyT g.2.2.2 g.2.2.1 g.2.1)) (n, t, L, belT n pts L) ⟨.ref b, y, rfl, rfl, RowT.k ⟨b, rfl, hb⟩, RowK.mono _ _ _ _ (Same.trans kM eM) ry, Ft.P.n4, sid_sm Ft t ht, hL, W t ht, bd t ht, bS⟩).imp fun v H' _ h => h.seq) fun _ => RowT.mono _) (Same.trans vz_le (same_new hD))
      (fun V2 i σ' H' => (∃ y2 y5 y6, σ' = [some (.ref p), some y, y2, some (.ref f'), some (.ref D), y5, y6, some (.int (belT n pts L))]) ∧ Same H3 H' ∧ Same V2 (vz c' Hk H H') ∧ V2 D = none ∧ ∃ ys, H' D = some (.lst ys) ∧ Paired (fun t u => RowL (AB.dcT L t) u (mask D (vis Hk H H'))) (ss.take i) ys)
      (fun H4 e4 => ⟨⟨_, _, _, rfl⟩, Same.trans (same_new hD) e4, vz_first X3.nn, vis_not (none_of vz_le hD) upd_same, [], e4 _ _ upd_same, .nil⟩) (fun V2 i σ' H' z => Same.trans z.2.2.1 vz_le) (fun V2 i x' σ' H' H'' eV hi z e12 yy => ?_) (fun V2 σ' H' eV z => ?_)
    · obtain ⟨⟨y2, y5, y6, rfl⟩, z1, z2', z3, ys, z4, z5⟩ := z
      obtain ⟨t, ht, rt⟩ := yy
      have tm : t ∈ sidB n pts := pss.mem_iff.mp (List.mem_of_getElem? ht)
      have S := sid_sm Ft t tm
      have d0 := W t tm
      have z2 : Same V2 H' := Same.trans z2' vz_le
      have hV : Same V2 H'' := Same.trans z2 e12
      have X1 : Ex H H' := X3.trans (Ex.same z1)
      have X2 : Ex H H'' := X1.trans (Ex.same e12)
      have U0 : Same (vis V2 H' H'') (vz c' Hk H H'') := vz_under z2' X1.nn e12
      have vD : vis V2 H' H'' D = none := vis_not z3 z4
      have l0 : Same (vis V2 H' H'') H'' := vis_le _ _ _
      have k0 : Same Hk (vis V2 H' H'') := Same.trans kM (Same.trans eV (vis_base hV))
      generalize vis V2 H' H'' = M0 at rt U0 vD l0 k0
      have ry0 : RowK true K L y M0 := RowK.mono _ _ _ _ k0 ry
      -- the corner's list
      refine tgt_name (seq_new fun E1 hE => ?_)
      have eH : H E1 = none := X2.nn E1 hE
      have hdl : (AB.hd t).length = n := AB.hd_len S.len
      refine seq_for (Hk := M0) (src_seqT (K := K) (RI := IsI) (as := AB.hd t) ((gv_init S.len (gv_var rfl (RowK.mono _) rt.k)).imp fun v H' _ h => RowK.seq h.k) fun _ => Is.mono _) (Same.trans l0 (same_new hE))
        (fun V3 j σ3 Ha => (∃ w6, σ3 = [some (.ref p), some y, some x', some (.ref f'), some (.ref D), some (.ref E1), w6, some (.int (belT n pts L))]) ∧ Same H'' Ha ∧ Same V3 Ha ∧ V3 E1 = none ∧ Ha E1 = some (.lst ((((AB.hd t).take j).flatMap fun z => AB.fracT (z * AB.lst L) (AB.depthT t L)).map V.int)))
        (fun H4 e4 => ⟨⟨_, rfl⟩, Same.trans (same_new hE) e4, vis_le _ _ _, vis_not (none_of l0 hE) upd_same, e4 _ _ upd_same⟩) (fun V3 j σ3 Ha z => z.2.2.1) (fun V3 j x3 σ3 Ha Hb eW hj z e34 yy => ?_) (fun V3 σ3 Ha eW z => ?_)
      · obtain ⟨⟨w6, rfl⟩, q1, q2, q3, q4⟩ := z
        obtain ⟨a, ha, hx⟩ := yy
        cases hx
        have hVb : Same V3 Hb := Same.trans q2 e34
        have rt3 : RowK false K t x' V3 := RowK.mono _ _ _ _ eW rt.k
        have ry3 : RowK true K L y V3 := RowK.mono _ _ _ _ eW ry0
        have hfl : (((AB.hd t).take j).flatMap fun z => AB.fracT (z * AB.lst L) (AB.depthT t L)).length ≤ 8 := by
          rw [List.length_flatMap]
          have : ∀ l : List Int, (l.map fun z => (AB.fracT (z * AB.lst L) (AB.depthT t L)).length).sum = 2 * l.length := fun l => by
            induction l with
            | nil => rfl
            | cons z l ih => rw [List.map_cons, List.sum_cons, ih, List.length_cons]; show 2 + _ = _; omega
          rw [this, List.length_take]
          have := Ft.P.n4
          omega
        refine tgt_name (st_ext (K := K) (M := V3) (RE := IsI) (as := AB.fracT (a * AB.lst L) (AB.depthT t L)) rfl (e34 _ _ q4) ?_ hVb ((gv_call (RL := R2' (IsI (a * AB.lst L)) (IsI (AB.depthT t L))) (gva_2 (gv_mul (a := 40) (b := 58) (gv_v rfl) (gv_lastK hL.len (gv_var rfl (RowK.mono _) ry3)) (S.sm _ (hd_mem (List.mem_of_getElem? ha))) (hL.sm _ (lst_mem hL.len)) (by decide) (by decide) (by decide)) (Is.mono _)
            (gv_call (RL := R2' (RowK false K t) (RowK true K L)) (gva_2 (gv_var rfl (RowK.mono _) rt3) (RowK.mono _) (gv_var rfl (RowK.mono _) ry3) (RowK.mono _)) (fun vs H' _ ⟨u1, u2, hu, h1, h2⟩ => by
              subst hu
              exact use_dep h1 h2 Ft.P.n4 S hL) (Is.mono _)) (Is.mono _)) (fun vs H' _ ⟨u1, u2, hu, h1, h2⟩ => by
          subst hu
          cases h1
          cases h2
          exact use_frt d0 ((dep_sm Ft.P.n4 S hL).up (by decide))) (RowL.mono _)).imp fun v H' _ h => h.asN) fun b2 zs Hc ec _ hz => ?_)
        · rw [List.length_map]
          exact Nat.le_trans (by show _ + 2 ≤ 10; omega) (by decide)
        · have hzs : zs = (AB.fracT (a * AB.lst L) (AB.depthT t L)).map V.int := Paired.map_is (f := fun a => V.int a) hz
          refine ⟨⟨_, rfl⟩, fun b o w => ?_, fun b o w => ?_, q3, ?_⟩
          · rw [upd_ne (ne_of_none w hE)]
            exact ec _ _ (e34 _ _ (q1 _ _ w))
          · rw [upd_ne (ne_of_none w q3)]
            exact ec _ _ (hVb _ _ w)
          · rw [upd_same, hzs, take_step ha, List.flatMap_append, ← List.map_append, List.flatMap_cons, List.flatMap_nil, List.append_nil]
      · obtain ⟨⟨w6, rfl⟩, q1, q2, q3, q4⟩ := z
        rw [List.take_length] at q4
        have q4 : Ha E1 = some (.lst ((AB.dcT L t).map V.int)) := q4
        have XA : Ex H Ha := X2.trans (Ex.same q1)
        have DA : Ha D = some (.lst ys) := q1 _ _ (e12 _ _ z4)
        have DE : D ≠ E1 := fun z => by
          have := e12 _ _ z4
          rw [z, hE] at this
          cases this
        have onE : Same (fun b => if b = E1 then Ha b else none) (vz c' Hk H Ha) := fun b o w => by
          have w : (if b = E1 then Ha b else none) = some o := w
          split at w
          · rename_i hb
            unfold vz
            split
            · exact w
            · rw [hb, vis_at (.inr (by rw [eH]; rfl)), ← hb]; exact w
          · cases w
        refine st_app (R := RowL (AB.dcT L t)) (M := fun b => if b = E1 then Ha b else none) rfl DA ?_ (Same.trans onE vz_le) (gv_var rfl (RowL.mono _) ⟨E1, rfl, (if_pos rfl).trans q4⟩) fun vr H5 e5 hr5 => ?_
        · have := Paired.length z5
          rw [List.length_take] at this
          exact Nat.lt_of_le_of_lt (by omega : ys.length ≤ 210) (by decide)
        · have E15 : Same H' H5 := Same.trans e12 (Same.trans q1 e5)
          have nD : vis (fun b => if b = E1 then Ha b else none) Ha H5 D = none := vis_not (if_neg DE) DA
          have U5 := vz_under onE XA.nn e5
          have c5 : H5 c' = some (CodeO c' qCod) := E15 _ _ (z1 _ _ c1)
          refine ⟨⟨_, _, _, rfl⟩, fun b o w => ?_, vz_upd (Same.trans z2' (vz_mono E15)) z3, z3, ys ++ [vr], upd_same, ?_⟩
          · rw [upd_ne (ne_of_none w hD)]
            exact E15 _ _ (z1 _ _ w)
          · rw [take_step ht]
            refine Paired.app (Paired.imp (fun a u r => RowL.mono _ _ _ _ ?_ r) z5) (.cons ?_ .nil)
            · rw [vis_upd]
              exact mask_mono (vis_mono E15)
            · rw [vis_upd]
              exact vz_row c5 hr5 U5 nD
    · obtain ⟨⟨y2, y5, y6, rfl⟩, z1, z2', z3, ys, z4, z5⟩ := z
      rw [List.take_of_length_le (Nat.le_refl _)] at z5
      refine ⟨_, rfl, q _ _ (X3.trans (Ex.same z1)) ?_⟩
      show ListR RowL (AB.dcorT n pts L) _ _
      rw [← hres]
      refine ⟨D, ys, rfl, ?_, Paired.map_left (Paired.imp (fun a u r => RowL.mono _ _ _ _ (mask_le _ _) r) z5)⟩
      rw [vis_at (.inr (by rw [DH]; rfl))]; exact z4
end
end Ab

set_option Elab.async false
set_option linter.all false
set_option maxRecDepth 100000
set_option maxHeartbeats 2000000
namespace Ab
open PySem PySem.Spec PyProof.Rows L2 NdefX LamX
theorem scDual : FnScope ["n", "place", "points", "refused", "body", "about", "answer", "rows", "row"] ["n", "place", "points"] (defScope sDual) := ⟨rfl, rfl, rfl, by decide +kernel, rfl, by decide +kernel, by decide +kernel⟩
/-! ### without the code tables -/
def nt (H : Hp) : Hp := fun b => match H b with
  | some (.tbl _) => none
  | o => o
theorem nt_le {H : Hp} : Same (nt H) H := fun b o w => by
  unfold nt at w
  split at w
  · cases w
  · exact w
theorem nt_nt {H : Hp} : NT (nt H) := fun b ps w => by
  unfold nt at w
  split at w
  · cases w
  · rename_i h
    exact h ps w
theorem nt_at {H : Hp} {b : Addr} {o : HO} (h : H b = some o) (n : ∀ ps, o ≠ .tbl ps) : nt H b = some o := by
  unfold nt
  split
  · rename_i ps e
    rw [h] at e
    exact absurd (Option.some.inj e) (n ps)
  · exact h
theorem nt_none {H : Hp} {b : Addr} (h : H b = none) : nt H b = none := by
  unfold nt
  rw [h]
theorem RowT.nt {H : Hp} {r : List Int} {v : V} (h : RowT r v H) : RowT r v (nt H) := by
  obtain ⟨p, e, h⟩ := h
  exact ⟨p, e, nt_at h fun _ z => by cases z⟩
theorem RowL.nt {H : Hp} {r : List Int} {v : V} (h : RowL r v H) : RowL r v (nt H) := by
  obtain ⟨p, e, h⟩ := h
  exact ⟨p, e, nt_at h fun _ z => by cases z⟩
theorem ListR.nt {α : Type} {RI : α → Rel} {H : Hp} {as : List α} {v : V} (hI : ∀ a v, RI a v H → RI a v (nt H)) (h : ListR RI as v H) : ListR RI as v (nt H) := by
  obtain ⟨q, ys, e, h, hp⟩ := h
  exact ⟨q, ys, e, nt_at h (fun _ z => by cases z), Paired.imp hI hp⟩
theorem BodyAt.nt {C : Addr} {n : Nat} {pts : List (List Int)} {H : Hp} {p : Addr} (h : BodyAt C n pts H p) : BodyAt C n pts (nt H) p := by
  obtain ⟨dx, vs, vc, vb, hp, rc, rb, rs⟩ := h
  exact ⟨dx, vs, vc, vb, nt_at hp (fun _ z => by cases z), ListR.nt (fun _ _ => RowT.nt) rc, ListR.nt (fun _ _ => RowT.nt) rb, ListR.nt (fun _ _ => RowT.nt) rs⟩
/-! ### the place's numbers aren't great -/
theorem plc_sm {n : Nat} {p : List Int} (hn : n ≤ 4) (ok : AB.placeOk n p = true) : PlcB n (AB.plcT p) := by
  have B := plb_of ok
  obtain ⟨b0, bS, bd⟩ := below_ok hn B
  refine ⟨(AB.plc_ok ok).len, fun z hz => ?_⟩
  unfold AB.plcT at hz
  rcases List.mem_append.mp hz with h | h
  · obtain ⟨⟨a, b⟩, hab, rfl⟩ := List.mem_map.mp h
    obtain ⟨ha, hb⟩ := List.of_mem_zip hab
    have sb := B.o b hb
    have sd : Sm 41 (Int.fdiv (AB.cmul (AB.ods p)) b) := Nat.lt_of_le_of_lt (AB.fdiv_le' (bd b hb) (by omega)) bS
    have sa : Sm 17 a := sm_of (B.e a ha) (by decide)
    have : (a * Int.fdiv (AB.cmul (AB.ods p)) b).natAbs < 2 ^ (17 + 41) := wide_lt sa sd
    exact this
  · rw [List.mem_singleton.mp h]
    exact bS.up (by decide)
/-! ### how long the rows are -/
theorem told_len : ∀ q : List Rat, (PhBase.toldPt q).length = 2 * q.length
  | [] => rfl
  | x :: q => by
    show (PhBase.told x ++ PhBase.toldPt q).length = _
    rw [List.length_append, told_len q, List.length_cons]
    show 2 + 2 * q.length = _
    omega
theorem dcor_row {n : Nat} {pts : List (List Int)} {L : List Int} (F : Fit n pts) : ∀ r, r ∈ AB.dcorT n pts L → r.length ≤ 8 := fun r hr => by
  unfold AB.dcorT at hr
  obtain ⟨q, hq, rfl⟩ := List.mem_map.mp hr
  rw [AB.sorted_gsort, AB.gsort_mem] at hq
  rcases hq with hq | hq
  · cases hq
  · obtain ⟨t, ht, rfl⟩ := List.mem_map.mp hq
    rw [told_len]
    have : (AB.dptT L t).length = n := AB.dpt_len t (AB.sidesT_len F.P.srt t ht)
    have := F.P.n4
    omega
theorem dsid_row {n : Nat} {pts : List (List Int)} {L : List Int} {q : PhBase.Pt} (F : Fit n pts) (C : AB.Plc n L q) : (AB.dsidT n pts L).length ≤ 10 ∧ ∀ r, r ∈ AB.dsidT n pts L → r.length ≤ 8 := by
  refine ⟨?_, fun r hr => ?_⟩
  · unfold AB.dsidT
    exact Nat.le_trans (AB.srt_len _) (by rw [List.length_map]; exact cor_few F)
  · have := AB.dside_all F.P C r hr
    have := F.P.n4
    omega
theorem flat_le {m : Nat} : ∀ (l : List (List Int)), (∀ r, r ∈ l → r.length ≤ m) → l.flatten.length ≤ l.length * m
  | [], _ => by simp
  | r :: l, h => by
    rw [List.flatten_cons, List.length_append, List.length_cons, Nat.succ_mul]
    have h1 := h r (List.mem_cons_self ..)
    have h2 := flat_le l fun s hs => h s (List.mem_cons_of_mem _ hs)
    omega
/-! ### dual -/
def outT (ls : List (List (List Int))) : List Int := ls.flatMap fun l => (l.length : Int) :: l.flatten
theorem outT_app (a : List (List (List Int))) (l : List (List Int)) : outT (a ++ [l]) = outT a ++ (l.length : Int) :: l.flatten := by
  unfold outT
  rw [List.flatMap_append, List.flatMap_cons, List.flatMap_nil, List.append_nil]
theorem outT_le : ∀ (ls : List (List (List Int))), (∀ l, l ∈ ls → l.length ≤ 210 ∧ ∀ r, r ∈ l → r.length ≤ 8) → (outT ls).length ≤ ls.length * 1700
  | [], _ => by simp [outT]
  | l :: ls, h => by
    have h1 := h l (List.mem_cons_self ..)
    have h2 := outT_le ls fun a ha => h a (List.mem_cons_of_mem _ ha)
    have h3 := flat_le l h1.2
    have : outT (l :: ls) = (l.length : Int) :: l.flatten ++ outT ls := by unfold outT; rw [List.flatMap_cons]
    rw [this, List.length_append, List.length_cons, List.length_cons]
    have h4 := h1.1
    omega
theorem for_rawT {K : PySem.W.Frag} {te : TE} {g : TG} {tb : TS} {D : Ends} {σ : L2.St} {H : Hp} (h : te σ H fun v H1 => tFor (iTup K (tC v)) g tb D σ H1) : tFor (iTup K te) g tb D σ H := h
def spDual (Pt : Addr) (K : PySem.W.Frag) : Sp := fun vs H Q _ => ∃ (n : Int) (x y : V) (p : List Int) (pts : List (List Int)), vs = [.int n, x, y] ∧ RowK true K p x H ∧ RowsL K pts y H ∧ TabsN (tabCod Pt) H ∧ ∀ (v : V) (H' : Hp), RowL (AB.dualT n p pts) v H' → Q v H'
section
variable {P : Program} {w : World} {K : PySem.W.Frag} {mg : Str → Option Value} {base : Heap} {C Pt : Addr}
theorem ok_dual {f fR fI fP fA fW fC fS : Addr} {fd fdR fdI fdP fdA fdW fdC fdS : FuncData} {k : Nat} (T : Txt K mg C) (M : Mk K C fI) (F : Fun K "dual" "dual" sDual f fd) (FR : Fun K "refusal_of_points" "refusal_of_points" sRef fR fdR) (bR : Binds K fdR ["n", "points"] []) (gR : mg "refusal_of_points" = some (.ref fR)) (GR : FnOk P w K mg base CX0 k fR fdR ["n", "points"] (spRef K))
    (bI : Binds K fdI ["self", "n", "points"] []) (GI : FnOk P w K mg base CX0 k fI fdI ["self", "n", "points"] (spInit K C))
    (FP : Fun K "is_place" "is_place" sIpl fP fdP) (bP : Binds K fdP ["n", "numbers"] []) (gP : mg "is_place" = some (.ref fP)) (GP : FnOk P w K mg base CX0 k fP fdP ["n", "numbers"] (spIpl K))
    (FA : Fun K "place_told" "place_told" sPlt fA fdA) (bA : Binds K fdA ["told"] []) (gA : mg "place_told" = some (.ref fA)) (GA : FnOk P w K mg base CX0 k fA fdA ["told"] (spPlt K))
    (FW : Fun K "is_within" "is_within" sWi fW fdW) (bW : Binds K fdW ["body", "place"] []) (gW : mg "is_within" = some (.ref fW)) (GW : FnOk P w K mg base CX0 k fW fdW ["body", "place"] (spWi K C))
    (FC : Fun K "corners_of_dual" "corners_of_dual" sCod fC fdC) (bC : Binds K fdC ["body", "place"] []) (gC : mg "corners_of_dual" = some (.ref fC)) (GC : FnOk P w K mg base CX0 k fC fdC ["body", "place"] (spCod K C Pt))
    (FS : Fun K "sides_of_dual" "sides_of_dual" sSod fS fdS) (bS : Binds K fdS ["body", "place"] []) (gS : mg "sides_of_dual" = some (.ref fS)) (GS : FnOk P w K mg base CX0 k fS fdS ["body", "place"] (spSod K C)) (ml : mg "len" = none) :
    FnOk P w K mg base CX0 (k + 2) f fd ["n", "place", "points"] (spDual Pt K) := by
  refine F.ok scDual (fun vs H Q E h => ?_) (fun cdv A outer s H vs Q E hr h => ?_)
  · obtain ⟨n, x, y, p, pts, rfl, _⟩ := h; rfl
  · obtain ⟨n, x, y, p, pts, rfl, rx, ry, hT, q⟩ := h
    have hr1 : Room k _ := hr.mono (Nat.le_succ k)
    refine ⟨_, pss_cons (ps_set (i := 3) scDual.nd rfl (.inl rfl) (pe_call GR hr1 (by rfl) gR FR.kp bR .nil pass0 (pa_cons (pv 0) (pa_cons (pv 2) pa_nil))))
      (pss_cons (ps_if (pt_cmpR op_lt (pv 3) pe_int (nomark _)) (pss_one (ps_ret (pe_lst (pa_cons (pv 3) pa_nil)))) pss_nil)
      (pss_cons (ps_if (pt_not (pt_val (pe_call GP hr1 (by rfl) gP FP.kp bP .nil pass0 (pa_cons (pv 0) (pa_cons (pv 1) pa_nil))))) (pss_one (ps_ret (pe_lst (pa_cons (pe_un un_neg pe_int) pa_nil)))) pss_nil)
      (pss_cons (ps_set (i := 4) scDual.nd rfl (.inl rfl) (pe_make M GI hr (by rfl) T.gC bI .nil pass0 (pa_cons (pv 0) (pa_cons (pv 2) pa_nil))))
      (pss_cons (ps_set (i := 5) scDual.nd rfl (.inl rfl) (pe_call GA hr1 (by rfl) gA FA.kp bA .nil pass0 (pa_cons (pv 1) pa_nil)))
      (pss_cons (ps_if (pt_not (pt_val (pe_call GW hr1 (by rfl) gW FW.kp bW .nil pass0 (pa_cons (pv 4) (pa_cons (pv 5) pa_nil))))) (pss_one (ps_ret (pe_lst (pa_cons (pe_un un_neg pe_int) pa_nil)))) pss_nil)
      (pss_cons (ps_set (i := 6) scDual.nd rfl (.inl rfl) (pe_lst pa_nil))
      (pss_cons (ps_for PassesOwn.never rfl (pi_tup (pe_tup (pa_cons (pe_call GC hr1 (by rfl) gC FC.kp bC .nil pass0 (pa_cons (pv 4) (pa_cons (pv 5) pa_nil))) (pa_cons (pe_call GS hr1 (by rfl) gS FS.kp bS .nil pass0 (pa_cons (pv 4) (pa_cons (pv 5) pa_nil))) pa_nil)))) (pg_name (i := 7) scDual.nd rfl (Or.inl rfl))
        (pss_cons (ps_expr (pe_bm PySem.F.plainAttrs_list PySem.F.slot_list_append PySem.F.type_list_append mt_append (pv 6) (pa_cons (pe_callB call_len (by rfl) ml (by decide +kernel) (pa_cons (pv 7) pa_nil)) pa_nil)))
        (pss_one (ps_for PassesOwn.never rfl (pi_list (pv 7)) (pg_name (i := 8) scDual.nd rfl (Or.inl rfl))
          (pss_one (ps_expr (pe_bm PySem.F.plainAttrs_list PySem.F.slot_list_extend PySem.F.type_list_extend mt_extend (pv 6) (pa_cons (pv 8) pa_nil))))))))
      (pss_one (ps_ret (pv 6)))))))))), ?_⟩
    refine seq_set (Hk := H) (R := IsI (AB.refT n pts)) (gv_call (RL := R2' (IsI n) (RowsL K pts)) (gva_2 (gv_v rfl) (Is.mono _) (gv_var rfl (RowsL.mono _) ry) (RowsL.mono _)) (fun vs H' _ ⟨u1, u2, hu, h1, h2⟩ => by
      subst hu
      cases h1
      exact use_ref h2) (Is.mono _)) (Same.refl H) fun v H1 e1 hv => ?_
    cases hv
    refine seq_if (Hk := H) (b := decide (AB.refT n pts < 0)) (gvt_test (gv_ii (gv_v rfl) gv_c fun _ => i0)) e1 (fun hb H2 e2 => ?_) (fun hb H2 e2 => ?_)
    · have h0 := of_decide_eq_true hb
      refine ret_of (Hk := H2) (R := RowL [AB.refT n pts]) (gv_lstE (gv_v rfl)) (Same.refl _) fun v H3 e3 hv => q v H3 ?_
      unfold AB.dualT
      rw [if_pos h0]; exact RowL.mono _ _ _ _ (vis_le _ _ _) hv
    have h0 := of_decide_eq_false hb
    obtain ⟨Ft, hn⟩ := fit_of h0
    have hn4 : n.toNat ≤ 4 := Ft.P.n4
    have E2 : Same H H2 := Same.trans e1 e2
    refine seq_if (Hk := H2) (b := !AB.placeOk n.toNat p) (gvt_not (gvt_B (gv_call (RL := R2' (IsI n) (RowK true K p)) (gva_2 (gv_v rfl) (Is.mono _) (gv_var rfl (RowK.mono _) (RowK.mono _ _ _ _ E2 rx)) (RowK.mono _)) (fun vs H' e' ⟨u1, u2, hu, h1, h2⟩ => by
      subst hu
      cases h1
      have := use_ipl h2 hn4
      rwa [hn] at this) (Is.mono _)))) (Same.refl _) (fun hb2 H3 e3 => ?_) (fun hb2 H3 e3 => ?_)
    · have ok : AB.placeOk n.toNat p = false := by simpa using hb2
      refine ret_of (Hk := H3) (R := RowL [-4]) (gv_lstE gv_neg) (Same.refl _) fun v H4 e4 hv => q v H4 ?_
      unfold AB.dualT
      rw [if_neg h0, if_pos ok]; exact RowL.mono _ _ _ _ (vis_le _ _ _) hv
    have ok : AB.placeOk n.toNat p = true := by simpa using hb2
    have E3 : Same H H3 := Same.trans E2 e3
    -- the body
    refine seq_raw ⟨_, rfl, _, rfl, fun b dx hx hdx hne => ?_⟩
    have ins : upd (upd H3 dx (.own b)) b (.ins C dx []) b = some (.ins C dx []) := upd_same
    have km : Same H3 (mask b (upd (upd H3 dx (.own b)) b (.ins C dx []))) := make_same hx hdx
    refine ⟨b, dx, n.toNat, y, pts, by rw [hn]; rfl, ins, RowsL.mono _ _ _ _ (Same.trans E3 km) ry, Ft, fun H4 e4 B4 => ⟨rfl, ?_⟩⟩
    have E4 : Same H H4 := Same.trans E3 (Same.trans km e4)
    -- the place
    refine seq_set (Hk := H4) (R := RowL (AB.plcT p)) (gv_call (RL := R1 (RowK true K p)) (gva_1 (gv_var rfl (RowK.mono _) (RowK.mono _ _ _ _ E4 rx))) (fun vs H' e' ⟨u1, hu, h1⟩ => by
      subst hu
      exact use_plt h1 hn4 ok) (RowL.mono _)) (Same.refl _) fun va H5 e5 ra => ?_
    have ra : RowL (AB.plcT p) va H5 := RowL.mono _ _ _ _ (vis_le _ _ _) ra
    have B5 := B4.up e5
    have hP := plc_sm hn4 ok
    have hq := AB.plc_ok ok
    refine seq_if (Hk := H5) (b := !AB.withinT (sidB n.toNat pts) (AB.plcT p)) (gvt_not (gvt_B (gv_call (RL := R2' (Is (.ref b)) (RowL (AB.plcT p))) (gva_2 (gv_v rfl) (Is.mono _) (gv_var rfl (RowL.mono _) ra) (RowL.mono _)) (fun vs H' e' ⟨u1, u2, hu, h1, h2⟩ => by
      subst hu
      cases h1
      exact use_wi Ft (B5.up e') h2.row hP) (Is.mono _)))) (Same.refl _) (fun hb3 H6 e6 => ?_) (fun hb3 H6 e6 => ?_)
    · have wi : AB.withinT (sidB n.toNat pts) (AB.plcT p) = false := by simpa using hb3
      refine ret_of (Hk := H6) (R := RowL [-6]) (gv_lstE gv_neg) (Same.refl _) fun v H7 e7 hv => q v H7 ?_
      unfold AB.dualT
      rw [if_neg h0, if_neg (by rw [ok]; exact fun z => by cases z), if_pos wi]; exact RowL.mono _ _ _ _ (vis_le _ _ _) hv
    have wi : AB.withinT (sidB n.toNat pts) (AB.plcT p) = true := by simpa using hb3
    have B6 := B5.up e6
    have ra6 : RowL (AB.plcT p) va H6 := RowL.mono _ _ _ _ e6 ra
    have E6 : Same H H6 := Same.trans E4 (Same.trans e5 e6)
    -- the rows
    refine seq_new fun D hD => ?_
    have t6 : Same (nt H6) (upd H6 D (.lst [])) := Same.trans nt_le (same_new hD)
    refine seq_of (for_rawT ⟨.ref b, rfl, va, rfl, nt H6, (n.toNat, pts, AB.plcT p), t6, nt_nt, hT.ext (Same.trans E6 (same_new hD)), ⟨b, va, _, rfl, Ft, B6.nt, ra6.nt.row, hP, hq, wi⟩, fun v1 H8 X8 r1 => ?_⟩)
    have k8 : Same (nt H6) H8 := nt_nt.keep t6 X8
    have D8 : H8 D = some (.lst []) := X8.up _ _ upd_same fun _ z => by cases z
    have r1 : ListR RowL (AB.dcorT n.toNat pts (AB.plcT p)) v1 (vis (nt H6) (upd H6 D (.lst [])) H8) := r1
    refine ⟨.ref b, rfl, va, rfl, nt H6, (n.toNat, pts, AB.plcT p), k8, ⟨b, va, _, rfl, Ft, B6.nt, ra6.nt.row, hP, hq⟩, fun v2 H9 e9 r2 => ⟨by show 2 ≤ sizeLine; decide, fun T2 hT2 => ?_⟩⟩
    have r2 : ListR RowL (AB.dsidT n.toNat pts (AB.plcT p)) v2 (vis (nt H6) H8 H9) := r2
    have nD : nt H6 D = none := nt_none hD
    have D9 : H9 D = some (.lst []) := e9 _ _ D8
    have a1 : Same (vis (nt H6) (upd H6 D (.lst [])) H8) (mask D (upd H9 T2 (.tup [v1, v2]))) := fun c o z => by
      have hc : c ≠ D := fun h => by
        rw [h, vis_not nD upd_same] at z
        cases z
      rw [mask_at hc]
      exact same_new hT2 _ _ (e9 _ _ (vis_le _ _ _ _ _ z))
    have a2 : Same (vis (nt H6) H8 H9) (mask D (upd H9 T2 (.tup [v1, v2]))) := fun c o z => by
      have hc : c ≠ D := fun h => by
        rw [h, vis_not nD D8] at z
        cases z
      rw [mask_at hc]
      exact same_new hT2 _ _ (vis_le _ _ _ _ _ z)
    have mL : ∀ as : List (List Int), Mono (ListR RowL as) := fun as => ListR.mono (fun _ => RowL.mono _) as
    have r1 := mL _ _ _ _ a1 r1
    have r2 := mL _ _ _ _ a2 r2
    have TD : T2 ≠ D := fun h => by
      rw [h, D9] at hT2
      cases hT2
    have hTM : mask D (upd H9 T2 (.tup [v1, v2])) T2 = some (.tup [v1, v2]) := by
      rw [mask_at TD]; exact upd_same
    have hD10 : upd H9 T2 (.tup [v1, v2]) D = some (.lst []) := by
      rw [upd_ne TD.symm]; exact D9
    have few : ∀ l, l ∈ [AB.dcorT n.toNat pts (AB.plcT p), AB.dsidT n.toNat pts (AB.plcT p)] → l.length ≤ 210 ∧ ∀ r, r ∈ l → r.length ≤ 8 := fun l hl => by
      rcases List.mem_cons.mp hl with h | h
      · rw [h]; exact ⟨AB.dcor_len hn4 Ft.few, dcor_row Ft⟩
      · rw [List.mem_singleton.mp h]
        obtain ⟨d1, d2⟩ := dsid_row Ft hq
        exact ⟨by omega, d2⟩
    have hout : AB.dualT n p pts = outT [AB.dcorT n.toNat pts (AB.plcT p), AB.dsidT n.toNat pts (AB.plcT p)] := by
      unfold AB.dualT
      rw [if_neg h0, if_neg (by rw [ok]; exact fun z => by cases z), if_neg (by rw [wi]; exact fun z => by cases z)]
      unfold outT
      rw [List.flatMap_cons, List.flatMap_cons, List.flatMap_nil, List.append_nil]
    generalize hls : [AB.dcorT n.toNat pts (AB.plcT p), AB.dsidT n.toNat pts (AB.plcT p)] = ls at few hout
    have hll : ls.length = 2 := by rw [← hls]; rfl
    have rT : SeqR false K (ListR RowL) ls (.ref T2) (mask D (upd H9 T2 (.tup [v1, v2]))) := by
      rw [← hls]
      exact ⟨T2, [v1, v2], rfl, .inl (.inl hTM), .cons r1 (.cons r2 .nil)⟩
    generalize upd H9 T2 (.tup [v1, v2]) = HA at rT hD10
    refine for_src (Hk := mask D HA) (src_seqT (K := K) (RI := ListR RowL) (as := ls) (gv_cst (SeqR.mono mL _) rT) mL) (mask_le _ _)
      (fun V2 i σ' H' => (∃ y7 y8, σ' = [some (.int n), some x, some y, some (.int (AB.refT n pts)), some (.ref b), some va, some (.ref D), y7, y8]) ∧ Same V2 H' ∧ V2 D = none ∧ H' D = some (.lst ((outT (ls.take i)).map V.int)))
      (fun H2 e2 => ⟨⟨_, _, rfl⟩, vis_le _ _ _, vis_not mask_self hD10, e2 _ _ hD10⟩) (fun V2 i σ' H' z => z.2.1) (fun V2 i x' σ' H' H'' eV hi z e12 yy => ?_) (fun V2 σ' H' eV z => ?_)
    · obtain ⟨⟨y7, y8, rfl⟩, z1, z2, z3⟩ := z
      obtain ⟨l, hl, rl⟩ := yy
      have hV : Same V2 H'' := Same.trans z1 e12
      have lD : vis V2 H' H'' D = none := vis_not z2 z3
      have lM : Same (vis V2 H' H'') H'' := vis_le _ _ _
      have kV : Same V2 (vis V2 H' H'') := vis_base hV
      generalize vis V2 H' H'' = M0 at rl lD lM kV
      obtain ⟨f1, f2⟩ := few l (List.mem_of_getElem? hl)
      have ho : (outT (ls.take i)).length ≤ 3400 := by
        have := outT_le (ls.take i) fun a ha => few a (List.mem_of_mem_take ha)
        rw [List.length_take, hll] at this
        have : min i 2 * 1700 ≤ 2 * 1700 := Nat.mul_le_mul_right _ (Nat.min_le_right _ _)
        omega
      have hfl : ∀ j, ((l.take j).flatten).length ≤ 1680 := fun j => by
        have := flat_le (l.take j) fun r hr => f2 r (List.mem_of_mem_take hr)
        have h3 : (l.take j).length ≤ 210 := Nat.le_trans (List.length_take_le' _ _) f1
        omega
      refine tgt_name (seq_app (M := M0) (R := IsI (l.length : Int)) rfl (e12 _ _ z3) (by rw [List.length_map]; exact Nat.lt_of_le_of_lt ho (by decide)) lM (gv_len (K := K) (k := true) (RI := RowL) ((gv_var rfl (mL _) rl).imp fun v H' _ h => h.seq)) fun v H3 e3 hv => ?_)
      cases hv
      have hM3 : Same M0 (upd H3 D (.lst ((outT (ls.take i)).map V.int ++ [V.int (l.length : Int)]))) := fun c o w => by
        rw [upd_ne (ne_of_none w lD)]
        exact e3 _ _ (lM _ _ w)
      refine for_src (Hk := M0) (src_seqL (K := K) (RI := RowL) (as := l) ((gv_var rfl (mL _) rl).imp fun v H' _ h => h.seq) fun _ => RowL.mono _) hM3
        (fun V3 j σ3 Ha => (∃ w8, σ3 = [some (.int n), some x, some y, some (.int (AB.refT n pts)), some (.ref b), some va, some (.ref D), some x', w8]) ∧ Same M0 Ha ∧ Same V3 Ha ∧ V3 D = none ∧ Ha D = some (.lst ((outT (ls.take i) ++ (l.length : Int) :: (l.take j).flatten).map V.int)))
        (fun H4 e4 => ⟨⟨_, rfl⟩, Same.trans hM3 e4, vis_le _ _ _, vis_not lD upd_same, ?_⟩) (fun V3 j σ3 Ha w => w.2.2.1) (fun V3 j x3 σ3 Ha Hb eW hj w e34 yy => ?_) (fun V3 σ3 Ha eW w => ?_)
      · rw [e4 _ _ upd_same, List.map_append]
        rfl
      · obtain ⟨⟨w8, rfl⟩, q0, q1, q2, q3⟩ := w
        obtain ⟨r, hr, rr⟩ := yy
        have bD : vis V3 Ha Hb D = none := vis_not q2 q3
        refine tgt_name (st_ext (K := K) (M := vis V3 Ha Hb) (RE := IsI) (as := r) rfl (e34 _ _ q3) ?_ (vis_le _ _ _) ((gv_var rfl (RowL.mono _) rr).imp fun v H' _ h => h.asN) fun b2 zs Hc ec _ hz => ?_)
        · rw [List.length_map, List.length_append, List.length_cons]
          have h1 := hfl j
          have h2 := f2 r (List.mem_of_getElem? hr)
          exact Nat.le_trans (by omega : _ ≤ 20000) (by decide)
        · have hzs : zs = r.map V.int := Paired.map_is (f := fun a => V.int a) hz
          refine ⟨⟨_, rfl⟩, fun c o u => ?_, fun c o u => ?_, q2, ?_⟩
          · rw [upd_ne (ne_of_none u lD)]
            exact ec _ _ (e34 _ _ (q0 _ _ u))
          · rw [upd_ne (ne_of_none u q2)]
            exact ec _ _ (e34 _ _ (q1 _ _ u))
          · rw [upd_same, hzs, take_step hr, ← List.map_append, List.append_assoc, List.cons_append, List.flatten_append, List.flatten_cons, List.flatten_nil, List.append_nil]
      · obtain ⟨⟨w8, rfl⟩, q0, q1, q2, q3⟩ := w
        refine ⟨⟨_, _, rfl⟩, Same.trans kV q0, z2, ?_⟩
        rw [q3, take_step hl, outT_app, List.take_length]
    · obtain ⟨⟨y7, y8, rfl⟩, z1, z2, z3⟩ := z
      refine ⟨_, rfl, q _ _ ⟨D, rfl, ?_⟩⟩
      rw [z3, List.take_length, hout]
end
end Ab

set_option Elab.async false
set_option linter.all false
set_option maxRecDepth 100000
set_option maxHeartbeats 2000000
/-! The end of a row where one def of the text makes a def: its code table. -/
namespace Ab
open PySem PySem.Spec PyProof.Rows L2 LamX
open PySem.W (WData Codec OpenSpec Well WellAll ReadsW)
mutual
theorem dw_up {K : PySem.W.Frag} {H H' : Hp} (e : ∀ b o, H b = some o → H' b = some o) : ∀ (d : WData) (v : V), Dw K H v d → Dw K H' v d
  | .none, _, x => by cases x; exact .non
  | .bool b, _, x => by cases x; exact .bl b
  | .int i, _, x => by cases x; exact .int i
  | .str t, _, x => by cases x; exact .str t
  | .bytes b, _, x => by cases x; exact .byt _
  | .list ds, _, x => by
    cases x with
    | lst hs ha => exact .lst (hs.elim (fun z => z.elim (fun z => .inl (.inl (e _ _ z))) fun ⟨o, z⟩ => .inl (.inr ⟨o, e _ _ z⟩)) .inr) (dw_upAll e ds _ ha)
  | .tuple ds, _, x => by
    cases x with
    | tup hs ha => exact .tup (hs.elim (fun z => z.elim (fun z => .inl (.inl (e _ _ z))) fun ⟨o, z⟩ => .inl (.inr ⟨o, e _ _ z⟩)) .inr) (dw_upAll e ds _ ha)
  | .float _, _, x => by cases x
  | .dict _, _, x => by cases x
  | .bytearray _, _, x => by cases x
  | .set _, _, x => by cases x
  | .frozenset _, _, x => by cases x
  | .obj _ _, _, x => by cases x
theorem dw_upAll {K : PySem.W.Frag} {H H' : Hp} (e : ∀ b o, H b = some o → H' b = some o) : ∀ (ds : List WData) (vs : List V), DwAll K H vs ds → DwAll K H' vs ds
  | [], _, x => by cases x; exact .nil
  | d :: ds, _, x => by
    cases x with
    | cons a b => exact .cons (dw_up e d _ a) (dw_upAll e ds _ b)
end
/-- the arguments and the table -/
def tabH (Pt : Addr) (G : Hp) : Hp := fun b => if b = Pt then some (.tbl #[]) else G b
theorem tabH_ne {Pt b : Addr} {G : Hp} (h : b ≠ Pt) : tabH Pt G b = G b := if_neg h
theorem lookup_none {K : PySem.W.Frag} {h : Heap} {Pt : Addr} (KX : K.In h) (nT : PySem.W.noTabs K = true) (ht : h.get? Pt = some (PySem.W.tabObj #[])) : K.lookup Pt = none := by
  cases q : K.lookup Pt with
  | none => rfl
  | some o =>
    have e := KX _ _ q
    rw [ht] at e
    have e : PySem.W.tabObj #[] = o := Option.some.inj e
    subst e
    have z := List.all_eq_true.mp nT _ (PySem.W.mem_of_lookupK q)
    exact Bool.noConfusion (show false = true from z)
theorem spec_callT {P : Program} {w : World} {K : PySem.W.Frag} {mg mb : Str → Option Value} {CX : CXT} {k : Nat} {fa c Pt : Addr} {fd : FuncData} {ps : List Str} {sp : Sp} {t : Shared} {us : List Value} {ds : List WData} {R : PySem.W.WRecords} {cl : Str → Option Addr} {d0 : WData}
    (KX : K.In t.heap) (hns : t.heap.Ns mainGlobals mg) (hb : t.heap.Ns builtinsNs mb) (hbb : ∀ x : Str, x ≠ "__name__" → mb x = bootBuiltins x) (hlim : t.heap.NoLimit) (hg : t.gens = #[]) (nT : PySem.W.noTabs K = true) (hc : PySem.W.CodeHd t.heap c Pt) (ht : t.heap.get? Pt = some (PySem.W.tabObj #[]))
    (hbm : ∃ (bm : Addr) (ob : Obj), mg "__builtins__" = some (.ref bm) ∧ bm ≠ builtinsNs ∧ t.heap.get? bm = some ob ∧ ob.cls = .type "module" ∧ ob.dict = some builtinsNs ∧ ob.data = .plain)
    (hwl : WellAll w.params t.heap us ds) (hpl : plWs ds = true) (hwt : ∀ d ∈ ds, d.weight ≤ 1048576) (hr : Room k callerA)
    (F : ∀ base : Heap, K.In base → base.Ns mainGlobals mg → TabB base mg c Pt → FnOk P w K mg base CX k fa fd ps sp) (hbind : ∀ (s : Shared) (us : List Value), us.length = ps.length → BindsTo s fd ⟨us, []⟩ (ps.zip us)) (hlen : ds.length = ps.length)
    (hsp : ∀ (H : Hp) (xs : List V), H Pt = some (.tbl #[]) → DwAll K H xs ds → sp xs H (fun v H' => Dw K H' v d0) fun _ _ _ => False) (hCX : ∀ H e t', CX [] H t (fun _ _ _ => False) e t' → False) :
    codeAny (model P w) callerA (.call (.ref fa) ⟨us, []⟩) (fun r t' => ∃ u as, r = .ok (.ret u) ∧ ReadsW R cl t'.heap u d0 as ∧ OldK t.heap t'.heap ∧ t'.os = t.os ∧ AllBare t'.gens) t := by
  obtain ⟨A, ho, ar⟩ := area_all ds us hwl hpl hwt
  have kP : K.lookup Pt = none := lookup_none KX nT ht
  have aP : ∀ b u, argH K t.heap A b = some u → b ≠ Pt := fun b u q z => by
    rcases argH_is ar q with ⟨_, vs, _, _, ⟨e, _⟩ | ⟨e, _⟩⟩ <;>
    · rw [z, ht] at e
      have e := congrArg Obj.data (Option.some.inj e)
      cases e
  have seqOnly : ∀ b u, argH K t.heap A b = some u → K.lookup b = none ∧ (∃ o v, u = .frz o v) ∧ ∀ o, t.heap.get? b = some o → ∃ vs n, o.data = .seq vs n := fun b u q => by
    obtain ⟨h1, vs, _, _, ⟨e, e2⟩ | ⟨e, e2⟩⟩ := argH_is ar q <;>
    · refine ⟨h1, ⟨_, _, e2⟩, fun o z => ?_⟩
      rw [e] at z
      cases z
      exact ⟨_, _, rfl⟩
  have hS := dw_upAll (H' := tabH Pt (argH K t.heap A)) (fun b o z => by rw [tabH_ne (aP b o z)]; exact z) ds _ (dw_all KX ar ds us hwl hpl ho)
  have hok : HOk P w (tabH Pt (argH K t.heap A)) t.heap := fun b u q => by
    by_cases z : b = Pt
    · subst z
      have q : some (HO.tbl #[]) = some u := (if_pos rfl).symm.trans q
      cases q
      exact ht
    · rw [tabH_ne z] at q
      obtain ⟨_, vs, h1, h2, ⟨e, rfl⟩ | ⟨e, rfl⟩⟩ := argH_is ar q
      · exact ⟨e, by rw [List.length_map]; exact h1, vs, _, vals_toV h2, e⟩
      · exact ⟨e, by rw [List.length_map]; exact h1, vs, vals_toV h2, _, e, rfl, _, rfl⟩
  have hP : tabH Pt (argH K t.heap A) Pt = some (.tbl #[]) := if_pos rfl
  have cases_of : ∀ b u, tabH Pt (argH K t.heap A) b = some u → b = Pt ∨ argH K t.heap A b = some u := fun b u q => by
    by_cases z : b = Pt
    · exact .inl z
    · rw [tabH_ne z] at q; exact .inr q
  generalize tabH Pt (argH K t.heap A) = H at hS hok hP cases_of
  -- what is hidden
  have free_of : ∀ {b : Addr} {o : Obj}, t.heap.get? b = some o → (∀ vs n, o.data ≠ .seq vs n) → o.data ≠ .fields #[] → H b = none := fun {b o} e n1 n2 => by
    cases q : H b with
    | none => rfl
    | some u =>
      rcases cases_of b u q with z | z
      · rw [z, ht] at e
        cases e
        exact absurd rfl n2
      · obtain ⟨vs, n, d⟩ := (seqOnly b u z).2.2 o e
        exact absurd d (n1 vs n)
  have at_base : ∀ {b : Addr} {o : Obj}, t.heap.get? b = some o → H b = none → (hidT t.heap H).get? b = some o := fun e n => hidT_get e n
  have nsB : ∀ {b : Addr} {m : Str → Option Value}, t.heap.Ns b m → (hidT t.heap H).Ns b m := fun {b m} ⟨o, es, ep, e, d, r⟩ => ⟨o, es, ep, at_base e (free_of e (fun vs n z => by rw [d] at z; cases z) fun z => by rw [d] at z; cases z), d, r⟩
  have kH : ∀ b o, K.lookup b = some o → H b = none := fun b o e => by
    cases q : H b with
    | none => rfl
    | some u =>
      rcases cases_of b u q with z | z
      · rw [z, kP] at e; cases e
      · rw [(seqOnly b u z).1] at e; cases e
  have KB : K.In (hidT t.heap H) := fun b o e => at_base (KX b o e) (kH b o e)
  have hM : Mod K mg (hidT t.heap H) := ⟨KB, nsB hns, ⟨mb, nsB hb, hbb⟩, hlim.elim fun mc z => ⟨mc, nsB z.1, z.2⟩⟩
  have TB : TabB (hidT t.heap H) mg c Pt := by
    refine ⟨?_, ?_, fun z => ?_⟩
    · obtain ⟨o, vs, file, tf, flags, tg, inF, text, tt, e1, r1, r2, r3, r4, r5, r6, r7, r8, r9⟩ := hc
      refine ⟨o, vs, file, tf, flags, tg, inF, text, tt, at_base e1 (free_of e1 (fun a n z => by rw [r2] at z; cases z) fun z => ?_), r1, r2, r3, r4, r5, r6, r7, r8, r9⟩
      rw [r2] at z
      cases z
      simp at r3
    · obtain ⟨bm, ob, b1, b2, b3, b4, b5, b6⟩ := hbm
      refine ⟨bm, ob, b1, b2, fun z => ?_, fun z => ?_, at_base b3 (free_of b3 (fun a n z => by rw [b6] at z; cases z) fun z => by rw [b6] at z; cases z), b4, b5, b6⟩
      · obtain ⟨o, es, ep, e, d, _⟩ := hns
        rw [z, e] at b3
        cases b3
        rw [d] at b6
        cases b6
      · rw [z, ht] at b3
        cases b3
        cases b6
    · obtain ⟨o, es, ep, e, d, _⟩ := hns
      rw [z, ht] at e
      cases e
      cases d
  have e0 : Env0 P w K mg (hidT t.heap H) callerA [] t H := ⟨rfl, hM, fun b o z => of_hidT z, Nat.le_of_eq (hidT_size _ _), trivial, fun b z => absurd (show b ∈ ([] : List Addr) from z) (by simp), hok, .of_eq hg⟩
  have hl : us.length = ps.length := (wellAll_len hwl).trans hlen
  refine codeAny_mono ((F _ KB (nsB hns) TB).run callerA [] t H ⟨us, []⟩ us (us.map toV) _ _ hr e0 (hbind t us hl) (vals_toV ho) (hsp H _ hP hS)) fun r t' x => ?_
  match r, x with
  | .error e, x => exact (hCX H e t' x).elim
  | .ok .next, x => exact False.elim x
  | .ok .brk, x => exact False.elim x
  | .ok .cont, x => exact False.elim x
  | .ok (.ret u), x =>
    obtain ⟨v, H', os, bare, un, hok', rv, q⟩ := x
    have stays : ∀ b o, b ≠ Pt → t.heap.get? b = some o → t'.heap.get? b = some o := fun b o nb e => by
      cases q2 : H b with
      | none => exact un.keep b o e q2 (fun z => absurd (show b ∈ ([] : List Addr) from z) (by simp)) (by simp)
      | some u2 =>
        rcases cases_of b u2 q2 with z | z
        · exact absurd z nb
        · obtain ⟨_, ⟨ob, u3, e3⟩, _⟩ := seqOnly b u2 z
          subst e3
          have e1 := (hok b _ q2).1
          have e2 := (hok' b _ (un.frzs b ob _ q2)).1
          rw [e] at e1
          cases e1
          exact e2
    obtain ⟨more, hmore⟩ := un.tbls Pt #[] hP
    have grown : t'.heap.get? Pt = some { cls := .none, data := .fields (#[] ++ more) } := hok' Pt _ hmore
    have KX' : K.In t'.heap := fun b o e => stays b o (fun z => by rw [z, kP] at e; cases e) (KX b o e)
    obtain ⟨as, hrd⟩ := Dw.reads (R := R) (cl := cl) hok' KX' d0 v u q rv
    refine ⟨u, as, rfl, hrd, ⟨fun b o e => ?_, fun b o e => ?_⟩, os, bare⟩
    · by_cases z : b = Pt
      · rw [z] at e ⊢
        rw [ht] at e
        cases e
        exact .inr (.inl ⟨(hc.tab ht).isCodeTable, rfl, #[], more, rfl, grown⟩)
      · exact .inl (stays b o z e)
    · by_cases z : b = Pt
      · rw [z]; exact ⟨_, grown⟩
      · exact ⟨o, stays b o z e⟩
/-- the row's end, one table -/
theorem walk_specT {r : OpenSpec} {k : Nat} {q : Program} {loose : List Str} {XP : (Str → Option Value) → Heap → Prop} {YP : World → Heap → Prop} {d dt : DefRec} {K : Params → PySem.W.Frag} {CX : CXT} {ps : List Str} {c Pt : Addr} {y : Str} {sp : PySem.W.Frag → Sp}
    (hwell : r.wellSaid = true) (hdf : d.params.defaults = []) (hlen : r.args.length = ps.length) (hr : Room k callerA) (hY : ∀ (w : World) (h : Heap), YP w h → (K w.params).In h) (hrec : (recsOf q).find? (fun e => e.name == y) = some dt)
    (F : ∀ (w : World) (mg : Str → Option Value) (fa : Addr) (h : Heap), YP w h → (K w.params).In h → h.Ns mainGlobals mg → mg d.name = some (.ref fa) → PySem.W.tabIn (K w.params) y = some (c, Pt) ∧ PySem.W.noTabs (K w.params) = true ∧
      ∃ fd : FuncData, (∀ (s : Shared) (us : List Value), us.length = ps.length → BindsTo s fd ⟨us, []⟩ (ps.zip us)) ∧ ∀ base : Heap, (K w.params).In base → base.Ns mainGlobals mg → TabB base mg c Pt → FnOk r.prog w (K w.params) mg base CX k fa fd ps (sp (K w.params)))
    (hsp : ∀ (K : PySem.W.Frag) (H : Hp) (xs : List V) (a : Codec.denoteAll r.args), H Pt = some (.tbl #[]) → Codec.withinAll r.args a = true → Codec.app r.args r.asked a = true → DwAll K H xs (Codec.encAll r.args a) →
      sp K xs H (fun v H' => Dw K H' v (r.ret.enc (Codec.app r.args r.f a))) fun _ _ _ => False)
    (hCX : ∀ (H : Hp) (s : Shared) (e : Value) (s' : Shared), CX [] H s (fun _ _ _ => False) e s' → False) :
    PySem.W.WalkOS q loose XP YP r d [] (fun f vs => PySem.call f vs) := by
  intro w s₀ s₁ mg mb G Y fa o pm cd doc dV kV ho hd hcd hD hmg hg args vals as hpre hlay hrd hwl hlo
  obtain ⟨a, e1, e2⟩ := PySem.W.os_pre_some hpre
  obtain ⟨e3, hwi⟩ := Codec.encAll_of_decAll r.args args a e1
  subst e3
  have KX := hY w _ Y
  obtain ⟨ht, nT, fd, hb, hF⟩ := F w mg fa _ Y KX G.T.g hmg
  obtain ⟨hc, hP⟩ := PySem.W.tab_of G.T KX hrec ht
  have call := spec_callT (R := []) (cl := classAt s₀.heap) (d0 := r.ret.enc (Codec.app r.args r.f a)) KX G.T.g G.T.b G.T.builtins G.T.nolimit hg nT hc hP G.T.bmain hwl (pl_encAll _ _) (layable_weight hlay) hr hF hb (by rw [encAll_len]; exact hlen) (fun H xs hO hS => hsp _ H xs a hO hwi e2 hS) fun H e s' => hCX H s₁ e s'
  refine PySem.W.enter_call (codeAny_mono call fun r' s' hq => ?_)
  obtain ⟨u, as', rfl, h1, h2, h3, h4⟩ := hq
  exact ⟨.inl ⟨u, _, as', rfl, fun _ => rfl, h1, (OpenSpec.post_iff hwell hwi _ _).mpr rfl, fun z => Bool.noConfusion (show false = true from z)⟩, h2, h3, h4⟩
end Ab

set_option Elab.async false
set_option linter.all false
set_option maxRecDepth 100000
set_option maxHeartbeats 2000000
namespace Ab
open PySem PySem.Spec PyProof.Rows L2
section
variable {P : Program} {w : World} {K : PySem.W.Frag} {mg : Str → Option Value} {base : Heap}
theorem fn_never {x qual : Str} {st : Stmt} {f : Addr} {fd : FuncData} {N ps : List Str} {k : Nat} (F : Fun K x qual st f fd) (S : FnScope N ps (defScope st)) : FnOk P w K mg base CX0 (k + 1) f fd ps (fun _ _ _ _ => False) := F.ok S (fun _ _ _ _ h => h.elim) fun _ _ _ _ _ _ _ _ _ h => h.elim
theorem fn_any {k : Nat} {f : Addr} {fd : FuncData} {ps : List Str} {sp : Nat → Sp} (h : ∀ m, FnOk P w K mg base CX0 k f fd ps (sp m)) : FnOk P w K mg base CX0 k f fd ps (fun vs H Q E => ∃ m, sp m vs H Q E) :=
  ⟨fun vs H Q E ⟨m, q⟩ => (h m).len vs H Q E q, fun A outer s H args us vs Q E hr e0 hb r ⟨m, q⟩ => (h m).run A outer s H args us vs Q E hr e0 hb r q⟩
end
/-- what the top has written -/
structure Top (K : PySem.W.Frag) (mg : Str → Option Value) where
  C : Addr
  aTog : Addr
  dTog : FuncData
  aDir : Addr
  dDir : FuncData
  aFnz : Addr
  dFnz : FuncData
  aClr : Addr
  dClr : FuncData
  aHmf : Addr
  dHmf : FuncData
  aDims : Addr
  dDims : FuncData
  aDet : Addr
  dDet : FuncData
  aCrs : Addr
  dCrs : FuncData
  aCd : Addr
  dCd : FuncData
  aCm : Addr
  dCm : FuncData
  aPlt : Addr
  dPlt : FuncData
  aDep : Addr
  dDep : FuncData
  aWi : Addr
  dWi : FuncData
  aCod : Addr
  dCod : FuncData
  aSod : Addr
  dSod : FuncData
  aFrt : Addr
  dFrt : FuncData
  aSides : Addr
  dSides : FuncData
  aRc : Addr
  dRc : FuncData
  aSide : Addr
  dSide : FuncData
  aOb : Addr
  dOb : FuncData
  aNo : Addr
  dNo : FuncData
  aCor : Addr
  dCor : FuncData
  aDual : Addr
  dDual : FuncData
  aRef : Addr
  dRef : FuncData
  aPt : Addr
  dPt : FuncData
  aIpl : Addr
  dIpl : FuncData
  aInit : Addr
  dInit : FuncData
/-- and how it stands -/
structure TopOk {K : PySem.W.Frag} {mg : Str → Option Value} (t : Top K mg) : Prop where
  T : Txt K mg t.C
  fTog : Fun K "together" "together" sTog t.aTog t.dTog
  bTog : Binds K t.dTog ["numbers", "point"] []
  gTog : mg "together" = some (.ref t.aTog)
  fDir : Fun K "direction" "direction" sDir t.aDir t.dDir
  bDir : Binds K t.dDir ["start", "end"] []
  gDir : mg "direction" = some (.ref t.aDir)
  fFnz : Fun K "first_not_zero" "first_not_zero" sFnz t.aFnz t.dFnz
  bFnz : Binds K t.dFnz ["numbers"] []
  gFnz : mg "first_not_zero" = some (.ref t.aFnz)
  fClr : Fun K "cleared" "cleared" sClr t.aClr t.dClr
  bClr : Binds K t.dClr ["row", "lead", "place"] []
  gClr : mg "cleared" = some (.ref t.aClr)
  fHmf : Fun K "how_many_free" "how_many_free" sHmf t.aHmf t.dHmf
  bHmf : Binds K t.dHmf ["directions"] []
  gHmf : mg "how_many_free" = some (.ref t.aHmf)
  fDims : Fun K "dimensions_of" "dimensions_of" sDims t.aDims t.dDims
  bDims : Binds K t.dDims ["points"] []
  gDims : mg "dimensions_of" = some (.ref t.aDims)
  fDet : Fun K "determinant" "determinant" sDet t.aDet t.dDet
  bDet : Binds K t.dDet ["rows"] []
  gDet : mg "determinant" = some (.ref t.aDet)
  fCrs : Fun K "crossing" "crossing" sCrs t.aCrs t.dCrs
  bCrs : Binds K t.dCrs ["rows"] []
  gCrs : mg "crossing" = some (.ref t.aCrs)
  fCd : Fun K "common_divisor" "common_divisor" sCd t.aCd t.dCd
  bCd : Binds K t.dCd ["numbers"] []
  gCd : mg "common_divisor" = some (.ref t.aCd)
  fCm : Fun K "common_multiple" "common_multiple" sCm t.aCm t.dCm
  bCm : Binds K t.dCm ["numbers"] []
  gCm : mg "common_multiple" = some (.ref t.aCm)
  fPlt : Fun K "place_told" "place_told" sPlt t.aPlt t.dPlt
  bPlt : Binds K t.dPlt ["told"] []
  gPlt : mg "place_told" = some (.ref t.aPlt)
  fDep : Fun K "depth" "depth" sDep t.aDep t.dDep
  bDep : Binds K t.dDep ["side", "place"] []
  gDep : mg "depth" = some (.ref t.aDep)
  fWi : Fun K "is_within" "is_within" sWi t.aWi t.dWi
  bWi : Binds K t.dWi ["body", "place"] []
  gWi : mg "is_within" = some (.ref t.aWi)
  fCod : Fun K "corners_of_dual" "corners_of_dual" sCod t.aCod t.dCod
  bCod : Binds K t.dCod ["body", "place"] []
  gCod : mg "corners_of_dual" = some (.ref t.aCod)
  fSod : Fun K "sides_of_dual" "sides_of_dual" sSod t.aSod t.dSod
  bSod : Binds K t.dSod ["body", "place"] []
  gSod : mg "sides_of_dual" = some (.ref t.aSod)
  fFrt : Fun K "fraction_told" "fraction_told" sFrt t.aFrt t.dFrt
  bFrt : Binds K t.dFrt ["above", "below"] []
  gFrt : mg "fraction_told" = some (.ref t.aFrt)
  fSides : Fun K "sides_of" "sides_of" sSides t.aSides t.dSides
  bSides : Binds K t.dSides ["n", "points"] []
  gSides : mg "sides_of" = some (.ref t.aSides)
  fRc : Fun K "rising_choices" "rising_choices" sRc t.aRc t.dRc
  bRc : Binds K t.dRc ["how_many", "size"] []
  gRc : mg "rising_choices" = some (.ref t.aRc)
  fSide : Fun K "side_through" "side_through" sSide t.aSide t.dSide
  bSide : Binds K t.dSide ["few", "points"] []
  gSide : mg "side_through" = some (.ref t.aSide)
  fOb : Fun K "is_on_bound" "is_on_bound" sOb t.aOb t.dOb
  bOb : Binds K t.dOb ["side", "point"] []
  gOb : mg "is_on_bound" = some (.ref t.aOb)
  fNo : Fun K "numbers_on" "numbers_on" sNo t.aNo t.dNo
  bNo : Binds K t.dNo ["side", "corners"] []
  gNo : mg "numbers_on" = some (.ref t.aNo)
  fCor : Fun K "is_corner" "is_corner" sCor t.aCor t.dCor
  bCor : Binds K t.dCor ["point", "sides"] []
  gCor : mg "is_corner" = some (.ref t.aCor)
  fDual : Fun K "dual" "dual" sDual t.aDual t.dDual
  bDual : Binds K t.dDual ["n", "place", "points"] []
  gDual : mg "dual" = some (.ref t.aDual)
  fRef : Fun K "refusal_of_points" "refusal_of_points" sRef t.aRef t.dRef
  bRef : Binds K t.dRef ["n", "points"] []
  gRef : mg "refusal_of_points" = some (.ref t.aRef)
  fPt : Fun K "is_point" "is_point" sPt t.aPt t.dPt
  bPt : Binds K t.dPt ["n", "numbers"] []
  gPt : mg "is_point" = some (.ref t.aPt)
  fIpl : Fun K "is_place" "is_place" sIpl t.aIpl t.dIpl
  bIpl : Binds K t.dIpl ["n", "numbers"] []
  gIpl : mg "is_place" = some (.ref t.aIpl)
  fInit : Fun K "__init__" "Body.__init__" sInit t.aInit t.dInit
  bInit : Binds K t.dInit ["self", "n", "points"] []
  M : Mk K t.C t.aInit
  n_zip : mg "zip" = none
  n_sum : mg "sum" = none
  n_enumerate : mg "enumerate" = none
  n_list : mg "list" = none
  n_range : mg "range" = none
  n_len : mg "len" = none
  n_abs : mg "abs" = none
  n_any : mg "any" = none
  n_min : mg "min" = none
  n_max : mg "max" = none
  n_tuple : mg "tuple" = none
  n_all : mg "all" = none
  n_sorted : mg "sorted" = none
  n_set : mg "set" = none
section
variable {P : Program} {w : World} {K : PySem.W.Frag} {mg : Str → Option Value} {base : Heap}
theorem dc_all {t : Top K mg} (o : TopOk t) : ∀ m, FnOk P w K mg base CX0 (2 * m + 2) t.aDet t.dDet ["rows"] (spDet K m) ∧ FnOk P w K mg base CX0 (2 * m + 3) t.aCrs t.dCrs ["rows"] (spCrs K m)
  | 0 => by
    have G : FnOk P w K mg base CX0 1 t.aCrs t.dCrs ["rows"] (fun _ _ _ _ => False) := fn_never o.fCrs scCrs
    have D : FnOk P w K mg base CX0 2 t.aDet t.dDet ["rows"] (spDet K 0) := ok_det 0 o.fDet o.fTog o.bTog o.gTog o.fCrs o.bCrs o.gCrs G (fun m' e => by cases e) o.n_zip o.n_sum
    exact ⟨D, ok_crs 0 o.fCrs o.fDet o.bDet o.gDet D o.n_range o.n_len⟩
  | m + 1 => by
    have G := (dc_all o m).2
    have D : FnOk P w K mg base CX0 (2 * (m + 1) + 2) t.aDet t.dDet ["rows"] (spDet K (m + 1)) := ok_det (m + 1) (k := 2 * m + 2) o.fDet o.fTog o.bTog o.gTog o.fCrs o.bCrs o.gCrs G (fun m' e => by cases e; rfl) o.n_zip o.n_sum
    exact ⟨D, ok_crs (m + 1) o.fCrs o.fDet o.bDet o.gDet D o.n_range o.n_len⟩
theorem all_crs {t : Top K mg} (o : TopOk t) : FnOk P w K mg base CX0 9 t.aCrs t.dCrs ["rows"] (spCrsA K) := fn_any fun m => by
  by_cases h : m ≤ 3
  · exact (dc_all o m).2.mono (by omega)
  · exact (fn_never (k := 8) o.fCrs scCrs).imp fun vs H Q E z => by
      obtain ⟨_, _, _, ⟨_, _, _, _, h3, _⟩, _⟩ := z
      exact h h3
theorem l_Hmf {t : Top K mg} (o : TopOk t) : FnOk P w K mg base CX0 2 t.aHmf t.dHmf ["directions"] (spHmf K) := ok_hmf o.fHmf o.fFnz o.bFnz o.gFnz o.fClr o.bClr o.gClr o.n_list o.n_zip o.n_enumerate
theorem l_Dims {t : Top K mg} (o : TopOk t) : FnOk P w K mg base CX0 3 t.aDims t.dDims ["points"] (spDims K) := ok_dims o.fDims o.fDir o.bDir o.gDir o.fHmf o.bHmf o.gHmf (l_Hmf o) o.n_zip
theorem l_Side {t : Top K mg} (o : TopOk t) : FnOk P w K mg base CX0 10 t.aSide t.dSide ["few", "points"] (spSide K) := ok_side o.fSide o.fTog o.bTog o.gTog o.fCrs o.bCrs o.gCrs o.fDir o.bDir o.gDir o.fCd o.bCd o.gCd (all_crs o) o.n_zip o.n_sum o.n_abs o.n_any o.n_min o.n_max o.n_tuple
theorem l_Sides {t : Top K mg} (o : TopOk t) : FnOk P w K mg base CX0 11 t.aSides t.dSides ["n", "points"] (spSides K) := ok_sides o.fSides o.fSide o.bSide o.gSide (l_Side o) o.fRc o.bRc o.gRc o.n_range o.n_len o.n_sorted
theorem l_Ob {t : Top K mg} (o : TopOk t) : FnOk P w K mg base CX0 2 t.aOb t.dOb ["side", "point"] (spOb K) := ok_ob o.fOb o.fTog o.bTog o.gTog o.n_zip o.n_sum
theorem l_Cor {t : Top K mg} (o : TopOk t) : FnOk P w K mg base CX0 3 t.aCor t.dCor ["point", "sides"] (spCor K) := ok_cor o.fCor o.fOb o.bOb o.gOb (l_Ob o) o.fHmf o.bHmf o.gHmf (l_Hmf o) o.n_len
theorem l_No {t : Top K mg} (o : TopOk t) : FnOk P w K mg base CX0 3 t.aNo t.dNo ["side", "corners"] (spNo K) := ok_no o.fNo o.fOb o.bOb o.gOb o.fTog o.bTog o.gTog o.n_zip o.n_sum o.n_enumerate o.n_tuple
theorem l_Init {t : Top K mg} (o : TopOk t) : FnOk P w K mg base CX0 12 t.aInit t.dInit ["self", "n", "points"] (spInit K t.C) := ok_init o.T o.fInit o.fSides o.bSides o.gSides (l_Sides o) o.fCor o.bCor o.gCor ((l_Cor o).mono (by decide)) o.fNo o.bNo o.gNo ((l_No o).mono (by decide)) o.n_sorted o.n_set o.n_tuple
theorem l_Ref {t : Top K mg} (o : TopOk t) : FnOk P w K mg base CX0 4 t.aRef t.dRef ["n", "points"] (spRef K) := ok_ref o.fRef o.fPt o.bPt o.gPt o.fDims o.bDims o.gDims (l_Dims o) o.n_len o.n_all

theorem l_CdL {t : Top K mg} (o : TopOk t) : FnOk P w K mg base CX0 1 t.aCd t.dCd ["numbers"] (spCd K) := ok_cd o.fCd o.n_abs
theorem l_TogL {t : Top K mg} (o : TopOk t) : FnOk P w K mg base CX0 1 t.aTog t.dTog ["numbers", "point"] (spTog K) := ok_tog o.fTog o.n_zip o.n_sum
theorem l_Cm {t : Top K mg} (o : TopOk t) : FnOk P w K mg base CX0 2 t.aCm t.dCm ["numbers"] (spCm K) := ok_cm o.fCm o.fCd o.bCd o.gCd (l_CdL o)
theorem l_Plt {t : Top K mg} (o : TopOk t) : FnOk P w K mg base CX0 3 t.aPlt t.dPlt ["told"] (spPlt K) := ok_plt o.fPlt o.fCm o.bCm o.gCm (l_Cm o) o.n_zip
theorem l_Dep {t : Top K mg} (o : TopOk t) : FnOk P w K mg base CX0 2 t.aDep t.dDep ["side", "place"] (spDep K) := ok_dep o.fDep o.fTog o.bTog o.gTog (l_TogL o)
theorem l_Wi {t : Top K mg} (o : TopOk t) : FnOk P w K mg base CX0 3 t.aWi t.dWi ["body", "place"] (spWi K t.C) := ok_wi o.T o.fWi o.fDep o.bDep o.gDep (l_Dep o) o.n_all
theorem l_Frt {t : Top K mg} (o : TopOk t) : FnOk P w K mg base CX0 2 t.aFrt t.dFrt ["above", "below"] spFrt := ok_frt o.fFrt o.fCd o.bCd o.gCd (l_CdL o)
theorem l_Ipl {t : Top K mg} (o : TopOk t) : FnOk P w K mg base CX0 1 t.aIpl t.dIpl ["n", "numbers"] (spIpl K) := ok_ipl o.fIpl o.n_len o.n_all
theorem l_Sod {t : Top K mg} (o : TopOk t) : FnOk P w K mg base CX0 2 t.aSod t.dSod ["body", "place"] (spSod K t.C) := ok_sod o.T o.fSod o.fCd o.bCd o.gCd (l_CdL o) o.n_zip o.n_sorted
theorem l_Cod {t : Top K mg} (o : TopOk t) {c Pt : Addr} (hc : t.dCod.code = .ref c) (TB : LamX.TabB base mg c Pt) : FnOk P w K mg base CX0 6 t.aCod t.dCod ["body", "place"] (spCod K t.C Pt) := ok_cod o.T o.fCod hc TB o.fCm o.bCm o.gCm (l_Cm o) o.fDep o.bDep o.gDep (l_Dep o) o.fFrt o.bFrt o.gFrt (l_Frt o) o.n_sorted
theorem all_dual {t : Top K mg} (o : TopOk t) {c Pt : Addr} (hc : t.dCod.code = .ref c) (TB : LamX.TabB base mg c Pt) : FnOk P w K mg base CX0 14 t.aDual t.dDual ["n", "place", "points"] (spDual Pt K) :=
  ok_dual o.T o.M o.fDual o.fRef o.bRef o.gRef ((l_Ref o).mono (by decide)) o.bInit (l_Init o) o.fIpl o.bIpl o.gIpl ((l_Ipl o).mono (by decide)) o.fPlt o.bPlt o.gPlt ((l_Plt o).mono (by decide)) o.fWi o.bWi o.gWi ((l_Wi o).mono (by decide)) o.fCod o.bCod o.gCod ((l_Cod o hc TB).mono (by decide)) o.fSod o.bSod o.gSod ((l_Sod o).mono (by decide)) o.n_len
end
end Ab

set_option Elab.async false
set_option linter.all false
set_option maxRecDepth 100000
set_option maxHeartbeats 2000000
namespace Ab
open PySem PySem.Spec PyProof.Rows L2
open PySem.W (Codec)
theorem rows_of_dw {K : PySem.W.Frag} {H : Hp} : ∀ (pts : List (List Int)) (xs : List V), DwAll K H xs (pts.map fun r => PySem.W.WData.list (r.map PySem.W.WData.int)) → Paired (fun a y => RowK true K a y H) pts xs
  | [], xs, h => by
    cases h
    exact .nil
  | r :: pts, xs, h => by
    cases h with
    | cons h1 h2 =>
      refine .cons ?_ (rows_of_dw pts _ h2)
      cases h1 with
      | lst hs ha =>
        have e := ints_dw r _ ha
        subst e
        exact ⟨_, rfl, hs⟩
theorem all_mk {P : Program} {w : World} {K : PySem.W.Frag} {h : Heap} {mg : Str → Option Value} {fa C a_Tog a_Dir a_Fnz a_Clr a_Hmf a_Dims a_Det a_Crs a_Cd a_Cm a_Plt a_Dep a_Wi a_Cod a_Sod a_Frt a_Sides a_Rc a_Side a_Ob a_No a_Cor a_Dual a_Ref a_Pt a_Ipl a_Init : Addr} (X : K.In h) (G : h.Ns mainGlobals mg) (hfa : mg "dual" = some (.ref fa))
    {od_Tog an_Tog : Option Addr} {sl_Tog : Array (Option Value)} {oc_Tog kV_Tog dc_Tog pm_Tog cd_Tog ct_Tog : Value}
    {od_Dir an_Dir : Option Addr} {sl_Dir : Array (Option Value)} {oc_Dir kV_Dir dc_Dir pm_Dir cd_Dir ct_Dir : Value}
    {od_Fnz an_Fnz : Option Addr} {sl_Fnz : Array (Option Value)} {oc_Fnz kV_Fnz dc_Fnz pm_Fnz cd_Fnz ct_Fnz : Value}
    {od_Clr an_Clr : Option Addr} {sl_Clr : Array (Option Value)} {oc_Clr kV_Clr dc_Clr pm_Clr cd_Clr ct_Clr : Value}
    {od_Hmf an_Hmf : Option Addr} {sl_Hmf : Array (Option Value)} {oc_Hmf kV_Hmf dc_Hmf pm_Hmf cd_Hmf ct_Hmf : Value}
    {od_Dims an_Dims : Option Addr} {sl_Dims : Array (Option Value)} {oc_Dims kV_Dims dc_Dims pm_Dims cd_Dims ct_Dims : Value}
    {od_Det an_Det : Option Addr} {sl_Det : Array (Option Value)} {oc_Det kV_Det dc_Det pm_Det cd_Det ct_Det : Value}
    {od_Crs an_Crs : Option Addr} {sl_Crs : Array (Option Value)} {oc_Crs kV_Crs dc_Crs pm_Crs cd_Crs ct_Crs : Value}
    {od_Cd an_Cd : Option Addr} {sl_Cd : Array (Option Value)} {oc_Cd kV_Cd dc_Cd pm_Cd cd_Cd ct_Cd : Value}
    {od_Cm an_Cm : Option Addr} {sl_Cm : Array (Option Value)} {oc_Cm kV_Cm dc_Cm pm_Cm cd_Cm ct_Cm : Value}
    {od_Plt an_Plt : Option Addr} {sl_Plt : Array (Option Value)} {oc_Plt kV_Plt dc_Plt pm_Plt cd_Plt ct_Plt : Value}
    {od_Dep an_Dep : Option Addr} {sl_Dep : Array (Option Value)} {oc_Dep kV_Dep dc_Dep pm_Dep cd_Dep ct_Dep : Value}
    {od_Wi an_Wi : Option Addr} {sl_Wi : Array (Option Value)} {oc_Wi kV_Wi dc_Wi pm_Wi cd_Wi ct_Wi : Value}
    {od_Cod an_Cod : Option Addr} {sl_Cod : Array (Option Value)} {oc_Cod kV_Cod dc_Cod pm_Cod cd_Cod ct_Cod : Value}
    {od_Sod an_Sod : Option Addr} {sl_Sod : Array (Option Value)} {oc_Sod kV_Sod dc_Sod pm_Sod cd_Sod ct_Sod : Value}
    {od_Frt an_Frt : Option Addr} {sl_Frt : Array (Option Value)} {oc_Frt kV_Frt dc_Frt pm_Frt cd_Frt ct_Frt : Value}
    {od_Sides an_Sides : Option Addr} {sl_Sides : Array (Option Value)} {oc_Sides kV_Sides dc_Sides pm_Sides cd_Sides ct_Sides : Value}
    {od_Rc an_Rc : Option Addr} {sl_Rc : Array (Option Value)} {oc_Rc kV_Rc dc_Rc pm_Rc cd_Rc ct_Rc : Value}
    {od_Side an_Side : Option Addr} {sl_Side : Array (Option Value)} {oc_Side kV_Side dc_Side pm_Side cd_Side ct_Side : Value}
    {od_Ob an_Ob : Option Addr} {sl_Ob : Array (Option Value)} {oc_Ob kV_Ob dc_Ob pm_Ob cd_Ob ct_Ob : Value}
    {od_No an_No : Option Addr} {sl_No : Array (Option Value)} {oc_No kV_No dc_No pm_No cd_No ct_No : Value}
    {od_Cor an_Cor : Option Addr} {sl_Cor : Array (Option Value)} {oc_Cor kV_Cor dc_Cor pm_Cor cd_Cor ct_Cor : Value}
    {od_Dual an_Dual : Option Addr} {sl_Dual : Array (Option Value)} {oc_Dual kV_Dual dc_Dual pm_Dual cd_Dual ct_Dual : Value}
    {od_Ref an_Ref : Option Addr} {sl_Ref : Array (Option Value)} {oc_Ref kV_Ref dc_Ref pm_Ref cd_Ref ct_Ref : Value}
    {od_Pt an_Pt : Option Addr} {sl_Pt : Array (Option Value)} {oc_Pt kV_Pt dc_Pt pm_Pt cd_Pt ct_Pt : Value}
    {od_Ipl an_Ipl : Option Addr} {sl_Ipl : Array (Option Value)} {oc_Ipl kV_Ipl dc_Ipl pm_Ipl cd_Ipl ct_Ipl : Value}
    {od_Init an_Init : Option Addr} {sl_Init : Array (Option Value)} {oc_Init kV_Init dc_Init pm_Init cd_Init ct_Init : Value}
    (A_Tog : PySem.W.nsIn K mainGlobals "together" = some (some (.ref a_Tog)))
    (L_Tog : K.lookup a_Tog = some ⟨oc_Tog, od_Tog, .func (PySem.W.fnOf "together" "together" (defArgs sTog) (defBody sTog) (defScope sTog) .none kV_Tog dc_Tog pm_Tog an_Tog cd_Tog ct_Tog), sl_Tog⟩) (D_Tog : PySem.W.codeIn K cd_Tog "together" = true) (P_Tog : PySem.W.keepIn K (.ref a_Tog) = true)
    (A_Dir : PySem.W.nsIn K mainGlobals "direction" = some (some (.ref a_Dir)))
    (L_Dir : K.lookup a_Dir = some ⟨oc_Dir, od_Dir, .func (PySem.W.fnOf "direction" "direction" (defArgs sDir) (defBody sDir) (defScope sDir) .none kV_Dir dc_Dir pm_Dir an_Dir cd_Dir ct_Dir), sl_Dir⟩) (D_Dir : PySem.W.codeIn K cd_Dir "direction" = true) (P_Dir : PySem.W.keepIn K (.ref a_Dir) = true)
    (A_Fnz : PySem.W.nsIn K mainGlobals "first_not_zero" = some (some (.ref a_Fnz)))
    (L_Fnz : K.lookup a_Fnz = some ⟨oc_Fnz, od_Fnz, .func (PySem.W.fnOf "first_not_zero" "first_not_zero" (defArgs sFnz) (defBody sFnz) (defScope sFnz) .none kV_Fnz dc_Fnz pm_Fnz an_Fnz cd_Fnz ct_Fnz), sl_Fnz⟩) (D_Fnz : PySem.W.codeIn K cd_Fnz "first_not_zero" = true) (P_Fnz : PySem.W.keepIn K (.ref a_Fnz) = true)
    (A_Clr : PySem.W.nsIn K mainGlobals "cleared" = some (some (.ref a_Clr)))
    (L_Clr : K.lookup a_Clr = some ⟨oc_Clr, od_Clr, .func (PySem.W.fnOf "cleared" "cleared" (defArgs sClr) (defBody sClr) (defScope sClr) .none kV_Clr dc_Clr pm_Clr an_Clr cd_Clr ct_Clr), sl_Clr⟩) (D_Clr : PySem.W.codeIn K cd_Clr "cleared" = true) (P_Clr : PySem.W.keepIn K (.ref a_Clr) = true)
    (A_Hmf : PySem.W.nsIn K mainGlobals "how_many_free" = some (some (.ref a_Hmf)))
    (L_Hmf : K.lookup a_Hmf = some ⟨oc_Hmf, od_Hmf, .func (PySem.W.fnOf "how_many_free" "how_many_free" (defArgs sHmf) (defBody sHmf) (defScope sHmf) .none kV_Hmf dc_Hmf pm_Hmf an_Hmf cd_Hmf ct_Hmf), sl_Hmf⟩) (D_Hmf : PySem.W.codeIn K cd_Hmf "how_many_free" = true) (P_Hmf : PySem.W.keepIn K (.ref a_Hmf) = true)
    (A_Dims : PySem.W.nsIn K mainGlobals "dimensions_of" = some (some (.ref a_Dims)))
    (L_Dims : K.lookup a_Dims = some ⟨oc_Dims, od_Dims, .func (PySem.W.fnOf "dimensions_of" "dimensions_of" (defArgs sDims) (defBody sDims) (defScope sDims) .none kV_Dims dc_Dims pm_Dims an_Dims cd_Dims ct_Dims), sl_Dims⟩) (D_Dims : PySem.W.codeIn K cd_Dims "dimensions_of" = true) (P_Dims : PySem.W.keepIn K (.ref a_Dims) = true)
    (A_Det : PySem.W.nsIn K mainGlobals "determinant" = some (some (.ref a_Det)))
    (L_Det : K.lookup a_Det = some ⟨oc_Det, od_Det, .func (PySem.W.fnOf "determinant" "determinant" (defArgs sDet) (defBody sDet) (defScope sDet) .none kV_Det dc_Det pm_Det an_Det cd_Det ct_Det), sl_Det⟩) (D_Det : PySem.W.codeIn K cd_Det "determinant" = true) (P_Det : PySem.W.keepIn K (.ref a_Det) = true)
    (A_Crs : PySem.W.nsIn K mainGlobals "crossing" = some (some (.ref a_Crs)))
    (L_Crs : K.lookup a_Crs = some ⟨oc_Crs, od_Crs, .func (PySem.W.fnOf "crossing" "crossing" (defArgs sCrs) (defBody sCrs) (defScope sCrs) .none kV_Crs dc_Crs pm_Crs an_Crs cd_Crs ct_Crs), sl_Crs⟩) (D_Crs : PySem.W.codeIn K cd_Crs "crossing" = true) (P_Crs : PySem.W.keepIn K (.ref a_Crs) = true)
    (A_Cd : PySem.W.nsIn K mainGlobals "common_divisor" = some (some (.ref a_Cd)))
    (L_Cd : K.lookup a_Cd = some ⟨oc_Cd, od_Cd, .func (PySem.W.fnOf "common_divisor" "common_divisor" (defArgs sCd) (defBody sCd) (defScope sCd) .none kV_Cd dc_Cd pm_Cd an_Cd cd_Cd ct_Cd), sl_Cd⟩) (D_Cd : PySem.W.codeIn K cd_Cd "common_divisor" = true) (P_Cd : PySem.W.keepIn K (.ref a_Cd) = true)
    (A_Cm : PySem.W.nsIn K mainGlobals "common_multiple" = some (some (.ref a_Cm)))
    (L_Cm : K.lookup a_Cm = some ⟨oc_Cm, od_Cm, .func (PySem.W.fnOf "common_multiple" "common_multiple" (defArgs sCm) (defBody sCm) (defScope sCm) .none kV_Cm dc_Cm pm_Cm an_Cm cd_Cm ct_Cm), sl_Cm⟩) (D_Cm : PySem.W.codeIn K cd_Cm "common_multiple" = true) (P_Cm : PySem.W.keepIn K (.ref a_Cm) = true)
    (A_Plt : PySem.W.nsIn K mainGlobals "place_told" = some (some (.ref a_Plt)))
    (L_Plt : K.lookup a_Plt = some ⟨oc_Plt, od_Plt, .func (PySem.W.fnOf "place_told" "place_told" (defArgs sPlt) (defBody sPlt) (defScope sPlt) .none kV_Plt dc_Plt pm_Plt an_Plt cd_Plt ct_Plt), sl_Plt⟩) (D_Plt : PySem.W.codeIn K cd_Plt "place_told" = true) (P_Plt : PySem.W.keepIn K (.ref a_Plt) = true)
    (A_Dep : PySem.W.nsIn K mainGlobals "depth" = some (some (.ref a_Dep)))
    (L_Dep : K.lookup a_Dep = some ⟨oc_Dep, od_Dep, .func (PySem.W.fnOf "depth" "depth" (defArgs sDep) (defBody sDep) (defScope sDep) .none kV_Dep dc_Dep pm_Dep an_Dep cd_Dep ct_Dep), sl_Dep⟩) (D_Dep : PySem.W.codeIn K cd_Dep "depth" = true) (P_Dep : PySem.W.keepIn K (.ref a_Dep) = true)
    (A_Wi : PySem.W.nsIn K mainGlobals "is_within" = some (some (.ref a_Wi)))
    (L_Wi : K.lookup a_Wi = some ⟨oc_Wi, od_Wi, .func (PySem.W.fnOf "is_within" "is_within" (defArgs sWi) (defBody sWi) (defScope sWi) .none kV_Wi dc_Wi pm_Wi an_Wi cd_Wi ct_Wi), sl_Wi⟩) (D_Wi : PySem.W.codeIn K cd_Wi "is_within" = true) (P_Wi : PySem.W.keepIn K (.ref a_Wi) = true)
    (A_Cod : PySem.W.nsIn K mainGlobals "corners_of_dual" = some (some (.ref a_Cod)))
    (L_Cod : K.lookup a_Cod = some ⟨oc_Cod, od_Cod, .func (PySem.W.fnOf "corners_of_dual" "corners_of_dual" (defArgs sCod) (defBody sCod) (defScope sCod) .none kV_Cod dc_Cod pm_Cod an_Cod cd_Cod ct_Cod), sl_Cod⟩) (D_Cod : PySem.W.codeIn K cd_Cod "corners_of_dual" = true) (P_Cod : PySem.W.keepIn K (.ref a_Cod) = true)
    (A_Sod : PySem.W.nsIn K mainGlobals "sides_of_dual" = some (some (.ref a_Sod)))
    (L_Sod : K.lookup a_Sod = some ⟨oc_Sod, od_Sod, .func (PySem.W.fnOf "sides_of_dual" "sides_of_dual" (defArgs sSod) (defBody sSod) (defScope sSod) .none kV_Sod dc_Sod pm_Sod an_Sod cd_Sod ct_Sod), sl_Sod⟩) (D_Sod : PySem.W.codeIn K cd_Sod "sides_of_dual" = true) (P_Sod : PySem.W.keepIn K (.ref a_Sod) = true)
    (A_Frt : PySem.W.nsIn K mainGlobals "fraction_told" = some (some (.ref a_Frt)))
    (L_Frt : K.lookup a_Frt = some ⟨oc_Frt, od_Frt, .func (PySem.W.fnOf "fraction_told" "fraction_told" (defArgs sFrt) (defBody sFrt) (defScope sFrt) .none kV_Frt dc_Frt pm_Frt an_Frt cd_Frt ct_Frt), sl_Frt⟩) (D_Frt : PySem.W.codeIn K cd_Frt "fraction_told" = true) (P_Frt : PySem.W.keepIn K (.ref a_Frt) = true)
    (A_Sides : PySem.W.nsIn K mainGlobals "sides_of" = some (some (.ref a_Sides)))
    (L_Sides : K.lookup a_Sides = some ⟨oc_Sides, od_Sides, .func (PySem.W.fnOf "sides_of" "sides_of" (defArgs sSides) (defBody sSides) (defScope sSides) .none kV_Sides dc_Sides pm_Sides an_Sides cd_Sides ct_Sides), sl_Sides⟩) (D_Sides : PySem.W.codeIn K cd_Sides "sides_of" = true) (P_Sides : PySem.W.keepIn K (.ref a_Sides) = true)
    (A_Rc : PySem.W.nsIn K mainGlobals "rising_choices" = some (some (.ref a_Rc)))
    (L_Rc : K.lookup a_Rc = some ⟨oc_Rc, od_Rc, .func (PySem.W.fnOf "rising_choices" "rising_choices" (defArgs sRc) (defBody sRc) (defScope sRc) .none kV_Rc dc_Rc pm_Rc an_Rc cd_Rc ct_Rc), sl_Rc⟩) (D_Rc : PySem.W.codeIn K cd_Rc "rising_choices" = true) (P_Rc : PySem.W.keepIn K (.ref a_Rc) = true)
    (A_Side : PySem.W.nsIn K mainGlobals "side_through" = some (some (.ref a_Side)))
    (L_Side : K.lookup a_Side = some ⟨oc_Side, od_Side, .func (PySem.W.fnOf "side_through" "side_through" (defArgs sSide) (defBody sSide) (defScope sSide) .none kV_Side dc_Side pm_Side an_Side cd_Side ct_Side), sl_Side⟩) (D_Side : PySem.W.codeIn K cd_Side "side_through" = true) (P_Side : PySem.W.keepIn K (.ref a_Side) = true)
    (A_Ob : PySem.W.nsIn K mainGlobals "is_on_bound" = some (some (.ref a_Ob)))
    (L_Ob : K.lookup a_Ob = some ⟨oc_Ob, od_Ob, .func (PySem.W.fnOf "is_on_bound" "is_on_bound" (defArgs sOb) (defBody sOb) (defScope sOb) .none kV_Ob dc_Ob pm_Ob an_Ob cd_Ob ct_Ob), sl_Ob⟩) (D_Ob : PySem.W.codeIn K cd_Ob "is_on_bound" = true) (P_Ob : PySem.W.keepIn K (.ref a_Ob) = true)
    (A_No : PySem.W.nsIn K mainGlobals "numbers_on" = some (some (.ref a_No)))
    (L_No : K.lookup a_No = some ⟨oc_No, od_No, .func (PySem.W.fnOf "numbers_on" "numbers_on" (defArgs sNo) (defBody sNo) (defScope sNo) .none kV_No dc_No pm_No an_No cd_No ct_No), sl_No⟩) (D_No : PySem.W.codeIn K cd_No "numbers_on" = true) (P_No : PySem.W.keepIn K (.ref a_No) = true)
    (A_Cor : PySem.W.nsIn K mainGlobals "is_corner" = some (some (.ref a_Cor)))
    (L_Cor : K.lookup a_Cor = some ⟨oc_Cor, od_Cor, .func (PySem.W.fnOf "is_corner" "is_corner" (defArgs sCor) (defBody sCor) (defScope sCor) .none kV_Cor dc_Cor pm_Cor an_Cor cd_Cor ct_Cor), sl_Cor⟩) (D_Cor : PySem.W.codeIn K cd_Cor "is_corner" = true) (P_Cor : PySem.W.keepIn K (.ref a_Cor) = true)
    (A_Dual : PySem.W.nsIn K mainGlobals "dual" = some (some (.ref a_Dual)))
    (L_Dual : K.lookup a_Dual = some ⟨oc_Dual, od_Dual, .func (PySem.W.fnOf "dual" "dual" (defArgs sDual) (defBody sDual) (defScope sDual) .none kV_Dual dc_Dual pm_Dual an_Dual cd_Dual ct_Dual), sl_Dual⟩) (D_Dual : PySem.W.codeIn K cd_Dual "dual" = true) (P_Dual : PySem.W.keepIn K (.ref a_Dual) = true)
    (A_Ref : PySem.W.nsIn K mainGlobals "refusal_of_points" = some (some (.ref a_Ref)))
    (L_Ref : K.lookup a_Ref = some ⟨oc_Ref, od_Ref, .func (PySem.W.fnOf "refusal_of_points" "refusal_of_points" (defArgs sRef) (defBody sRef) (defScope sRef) .none kV_Ref dc_Ref pm_Ref an_Ref cd_Ref ct_Ref), sl_Ref⟩) (D_Ref : PySem.W.codeIn K cd_Ref "refusal_of_points" = true) (P_Ref : PySem.W.keepIn K (.ref a_Ref) = true)
    (A_Pt : PySem.W.nsIn K mainGlobals "is_point" = some (some (.ref a_Pt)))
    (L_Pt : K.lookup a_Pt = some ⟨oc_Pt, od_Pt, .func (PySem.W.fnOf "is_point" "is_point" (defArgs sPt) (defBody sPt) (defScope sPt) .none kV_Pt dc_Pt pm_Pt an_Pt cd_Pt ct_Pt), sl_Pt⟩) (D_Pt : PySem.W.codeIn K cd_Pt "is_point" = true) (P_Pt : PySem.W.keepIn K (.ref a_Pt) = true)
    (A_Ipl : PySem.W.nsIn K mainGlobals "is_place" = some (some (.ref a_Ipl)))
    (L_Ipl : K.lookup a_Ipl = some ⟨oc_Ipl, od_Ipl, .func (PySem.W.fnOf "is_place" "is_place" (defArgs sIpl) (defBody sIpl) (defScope sIpl) .none kV_Ipl dc_Ipl pm_Ipl an_Ipl cd_Ipl ct_Ipl), sl_Ipl⟩) (D_Ipl : PySem.W.codeIn K cd_Ipl "is_place" = true) (P_Ipl : PySem.W.keepIn K (.ref a_Ipl) = true)
    (A_Init : PySem.W.findIn K (.ref C) "__init__" = some (some (.ref a_Init))) (I_Init : PySem.W.isFn K (.ref a_Init) = true)
    (L_Init : K.lookup a_Init = some ⟨oc_Init, od_Init, .func (PySem.W.fnOf "__init__" "Body.__init__" (defArgs sInit) (defBody sInit) (defScope sInit) .none kV_Init dc_Init pm_Init an_Init cd_Init ct_Init), sl_Init⟩) (D_Init : PySem.W.codeIn K cd_Init "Body.__init__" = true) (P_Init : PySem.W.keepIn K (.ref a_Init) = true)
    {cc Pt : Addr} (hcc : cd_Cod = .ref cc)
    (aC : PySem.W.nsIn K mainGlobals "Body" = some (some (.ref C)))
    (pg : PySem.W.plainGet K C Str.empty = true)
    (hd : PySem.W.hasDictIn K C = true)
    (po : PySem.W.plainOver K C = true)
    (sa : PySem.W.findIn K (.ref C) "__setattr__" = some (some (.builtin "object.__setattr__")))
    (mk : PySem.W.makesIn K C = true)
    (kc : PySem.W.keepIn K (.ref C) = true)
    (n_n : PySem.W.findIn K (.ref C) "n" = some none)
    (n_sides : PySem.W.findIn K (.ref C) "sides" = some none)
    (n_corners : PySem.W.findIn K (.ref C) "corners" = some none)
    (n_bounds : PySem.W.findIn K (.ref C) "bounds" = some none)
    (B_zip : PySem.W.nsIn K mainGlobals "zip" = some none)
    (B_sum : PySem.W.nsIn K mainGlobals "sum" = some none)
    (B_enumerate : PySem.W.nsIn K mainGlobals "enumerate" = some none)
    (B_list : PySem.W.nsIn K mainGlobals "list" = some none)
    (B_range : PySem.W.nsIn K mainGlobals "range" = some none)
    (B_len : PySem.W.nsIn K mainGlobals "len" = some none)
    (B_abs : PySem.W.nsIn K mainGlobals "abs" = some none)
    (B_any : PySem.W.nsIn K mainGlobals "any" = some none)
    (B_min : PySem.W.nsIn K mainGlobals "min" = some none)
    (B_max : PySem.W.nsIn K mainGlobals "max" = some none)
    (B_tuple : PySem.W.nsIn K mainGlobals "tuple" = some none)
    (B_all : PySem.W.nsIn K mainGlobals "all" = some none)
    (B_sorted : PySem.W.nsIn K mainGlobals "sorted" = some none)
    (B_set : PySem.W.nsIn K mainGlobals "set" = some none)
    : ∃ fd : FuncData, (∀ (s : Shared) (us : List Value), us.length = (["n", "place", "points"] : List Str).length → BindsTo s fd ⟨us, []⟩ ((["n", "place", "points"] : List Str).zip us)) ∧ ∀ base : Heap, K.In base → base.Ns mainGlobals mg → LamX.TabB base mg cc Pt → FnOk P w K mg base CX0 14 fa fd ["n", "place", "points"] (spDual Pt K) := by
  have e := (PySem.W.mg_of X G A_Dual).symm.trans hfa
  injection e with e
  injection e with e
  subst e
  have T : Txt K mg C := ⟨⟨pg, hd, po, sa⟩, n_n, n_sides, n_corners, n_bounds, PySem.W.mg_of X G aC⟩
  have F_Tog := fun_mk (st := sTog) L_Tog D_Tog P_Tog
  have b_Tog := F_Tog.binds (ps := ["numbers", "point"]) fun _ _ _ _ _ _ us hl => match us, hl with | [_, _], _ => rfl
  have F_Dir := fun_mk (st := sDir) L_Dir D_Dir P_Dir
  have b_Dir := F_Dir.binds (ps := ["start", "end"]) fun _ _ _ _ _ _ us hl => match us, hl with | [_, _], _ => rfl
  have F_Fnz := fun_mk (st := sFnz) L_Fnz D_Fnz P_Fnz
  have b_Fnz := F_Fnz.binds (ps := ["numbers"]) fun _ _ _ _ _ _ us hl => match us, hl with | [_], _ => rfl
  have F_Clr := fun_mk (st := sClr) L_Clr D_Clr P_Clr
  have b_Clr := F_Clr.binds (ps := ["row", "lead", "place"]) fun _ _ _ _ _ _ us hl => match us, hl with | [_, _, _], _ => rfl
  have F_Hmf := fun_mk (st := sHmf) L_Hmf D_Hmf P_Hmf
  have b_Hmf := F_Hmf.binds (ps := ["directions"]) fun _ _ _ _ _ _ us hl => match us, hl with | [_], _ => rfl
  have F_Dims := fun_mk (st := sDims) L_Dims D_Dims P_Dims
  have b_Dims := F_Dims.binds (ps := ["points"]) fun _ _ _ _ _ _ us hl => match us, hl with | [_], _ => rfl
  have F_Det := fun_mk (st := sDet) L_Det D_Det P_Det
  have b_Det := F_Det.binds (ps := ["rows"]) fun _ _ _ _ _ _ us hl => match us, hl with | [_], _ => rfl
  have F_Crs := fun_mk (st := sCrs) L_Crs D_Crs P_Crs
  have b_Crs := F_Crs.binds (ps := ["rows"]) fun _ _ _ _ _ _ us hl => match us, hl with | [_], _ => rfl
  have F_Cd := fun_mk (st := sCd) L_Cd D_Cd P_Cd
  have b_Cd := F_Cd.binds (ps := ["numbers"]) fun _ _ _ _ _ _ us hl => match us, hl with | [_], _ => rfl
  have F_Cm := fun_mk (st := sCm) L_Cm D_Cm P_Cm
  have b_Cm := F_Cm.binds (ps := ["numbers"]) fun _ _ _ _ _ _ us hl => match us, hl with | [_], _ => rfl
  have F_Plt := fun_mk (st := sPlt) L_Plt D_Plt P_Plt
  have b_Plt := F_Plt.binds (ps := ["told"]) fun _ _ _ _ _ _ us hl => match us, hl with | [_], _ => rfl
  have F_Dep := fun_mk (st := sDep) L_Dep D_Dep P_Dep
  have b_Dep := F_Dep.binds (ps := ["side", "place"]) fun _ _ _ _ _ _ us hl => match us, hl with | [_, _], _ => rfl
  have F_Wi := fun_mk (st := sWi) L_Wi D_Wi P_Wi
  have b_Wi := F_Wi.binds (ps := ["body", "place"]) fun _ _ _ _ _ _ us hl => match us, hl with | [_, _], _ => rfl
  have F_Cod := fun_mk (st := sCod) L_Cod D_Cod P_Cod
  have b_Cod := F_Cod.binds (ps := ["body", "place"]) fun _ _ _ _ _ _ us hl => match us, hl with | [_, _], _ => rfl
  have F_Sod := fun_mk (st := sSod) L_Sod D_Sod P_Sod
  have b_Sod := F_Sod.binds (ps := ["body", "place"]) fun _ _ _ _ _ _ us hl => match us, hl with | [_, _], _ => rfl
  have F_Frt := fun_mk (st := sFrt) L_Frt D_Frt P_Frt
  have b_Frt := F_Frt.binds (ps := ["above", "below"]) fun _ _ _ _ _ _ us hl => match us, hl with | [_, _], _ => rfl
  have F_Sides := fun_mk (st := sSides) L_Sides D_Sides P_Sides
  have b_Sides := F_Sides.binds (ps := ["n", "points"]) fun _ _ _ _ _ _ us hl => match us, hl with | [_, _], _ => rfl
  have F_Rc := fun_mk (st := sRc) L_Rc D_Rc P_Rc
  have b_Rc := F_Rc.binds (ps := ["how_many", "size"]) fun _ _ _ _ _ _ us hl => match us, hl with | [_, _], _ => rfl
  have F_Side := fun_mk (st := sSide) L_Side D_Side P_Side
  have b_Side := F_Side.binds (ps := ["few", "points"]) fun _ _ _ _ _ _ us hl => match us, hl with | [_, _], _ => rfl
  have F_Ob := fun_mk (st := sOb) L_Ob D_Ob P_Ob
  have b_Ob := F_Ob.binds (ps := ["side", "point"]) fun _ _ _ _ _ _ us hl => match us, hl with | [_, _], _ => rfl
  have F_No := fun_mk (st := sNo) L_No D_No P_No
  have b_No := F_No.binds (ps := ["side", "corners"]) fun _ _ _ _ _ _ us hl => match us, hl with | [_, _], _ => rfl
  have F_Cor := fun_mk (st := sCor) L_Cor D_Cor P_Cor
  have b_Cor := F_Cor.binds (ps := ["point", "sides"]) fun _ _ _ _ _ _ us hl => match us, hl with | [_, _], _ => rfl
  have F_Dual := fun_mk (st := sDual) L_Dual D_Dual P_Dual
  have b_Dual := F_Dual.binds (ps := ["n", "place", "points"]) fun _ _ _ _ _ _ us hl => match us, hl with | [_, _, _], _ => rfl
  have F_Ref := fun_mk (st := sRef) L_Ref D_Ref P_Ref
  have b_Ref := F_Ref.binds (ps := ["n", "points"]) fun _ _ _ _ _ _ us hl => match us, hl with | [_, _], _ => rfl
  have F_Pt := fun_mk (st := sPt) L_Pt D_Pt P_Pt
  have b_Pt := F_Pt.binds (ps := ["n", "numbers"]) fun _ _ _ _ _ _ us hl => match us, hl with | [_, _], _ => rfl
  have F_Ipl := fun_mk (st := sIpl) L_Ipl D_Ipl P_Ipl
  have b_Ipl := F_Ipl.binds (ps := ["n", "numbers"]) fun _ _ _ _ _ _ us hl => match us, hl with | [_, _], _ => rfl
  have F_Init := fun_mk (st := sInit) L_Init D_Init P_Init
  have b_Init := F_Init.binds (ps := ["self", "n", "points"]) fun _ _ _ _ _ _ us hl => match us, hl with | [_, _, _], _ => rfl
  have ok : TopOk (K := K) (mg := mg) { C := C, aTog := a_Tog, dTog := PySem.W.fnOf "together" "together" (defArgs sTog) (defBody sTog) (defScope sTog) .none kV_Tog dc_Tog pm_Tog an_Tog cd_Tog ct_Tog, aDir := a_Dir, dDir := PySem.W.fnOf "direction" "direction" (defArgs sDir) (defBody sDir) (defScope sDir) .none kV_Dir dc_Dir pm_Dir an_Dir cd_Dir ct_Dir, aFnz := a_Fnz, dFnz := PySem.W.fnOf "first_not_zero" "first_not_zero" (defArgs sFnz) (defBody sFnz) (defScope sFnz) .none kV_Fnz dc_Fnz pm_Fnz an_Fnz cd_Fnz ct_Fnz, aClr := a_Clr, dClr := PySem.W.fnOf "cleared" "cleared" (defArgs sClr) (defBody sClr) (defScope sClr) .none kV_Clr dc_Clr pm_Clr an_Clr cd_Clr ct_Clr, aHmf := a_Hmf, dHmf := PySem.W.fnOf "how_many_free" "how_many_free" (defArgs sHmf) (defBody sHmf) (defScope sHmf) .none kV_Hmf dc_Hmf pm_Hmf an_Hmf cd_Hmf ct_Hmf, aDims := a_Dims, dDims := PySem.W.fnOf "dimensions_of" "dimensions_of" (defArgs sDims) (defBody sDims) (defScope sDims) .none kV_Dims dc_Dims pm_Dims an_Dims cd_Dims ct_Dims, aDet := a_Det, dDet := PySem.W.fnOf "determinant" "determinant" (defArgs sDet) (defBody sDet) (defScope sDet) .none kV_Det dc_Det pm_Det an_Det cd_Det ct_Det, aCrs := a_Crs, dCrs := PySem.W.fnOf "crossing" "crossing" (defArgs sCrs) (defBody sCrs) (defScope sCrs) .none kV_Crs dc_Crs pm_Crs an_Crs cd_Crs ct_Crs, aCd := a_Cd, dCd := PySem.W.fnOf "common_divisor" "common_divisor" (defArgs sCd) (defBody sCd) (defScope sCd) .none kV_Cd dc_Cd pm_Cd an_Cd cd_Cd ct_Cd, aCm := a_Cm, dCm := PySem.W.fnOf "common_multiple" "common_multiple" (defArgs sCm) (defBody sCm) (defScope sCm) .none kV_Cm dc_Cm pm_Cm an_Cm cd_Cm ct_Cm, aPlt := a_Plt, dPlt := PySem.W.fnOf "place_told" "place_told" (defArgs sPlt) (defBody sPlt) (defScope sPlt) .none kV_Plt dc_Plt pm_Plt an_Plt cd_Plt ct_Plt, aDep := a_Dep, dDep := PySem.W.fnOf "depth" "depth" (defArgs sDep) (defBody sDep) (defScope sDep) .none kV_Dep dc_Dep pm_Dep an_Dep cd_Dep ct_Dep, aWi := a_Wi, dWi := PySem.W.fnOf "is_within" "is_within" (defArgs sWi) (defBody sWi) (defScope sWi) .none kV_Wi dc_Wi pm_Wi an_Wi cd_Wi ct_Wi, aCod := a_Cod, dCod := PySem.W.fnOf "corners_of_dual" "corners_of_dual" (defArgs sCod) (defBody sCod) (defScope sCod) .none kV_Cod dc_Cod pm_Cod an_Cod cd_Cod ct_Cod, aSod := a_Sod, dSod := PySem.W.fnOf "sides_of_dual" "sides_of_dual" (defArgs sSod) (defBody sSod) (defScope sSod) .none kV_Sod dc_Sod pm_Sod an_Sod cd_Sod ct_Sod, aFrt := a_Frt, dFrt := PySem.W.fnOf "fraction_told" "fraction_told" (defArgs sFrt) (defBody sFrt) (defScope sFrt) .none kV_Frt dc_Frt pm_Frt an_Frt cd_Frt ct_Frt, aSides := a_Sides, dSides := PySem.W.fnOf "sides_of" "sides_of" (defArgs sSides) (defBody sSides) (defScope sSides) .none kV_Sides dc_Sides pm_Sides an_Sides cd_Sides ct_Sides, aRc := a_Rc, dRc := PySem.W.fnOf "rising_choices" "rising_choices" (defArgs sRc) (defBody sRc) (defScope sRc) .none kV_Rc dc_Rc pm_Rc an_Rc cd_Rc ct_Rc, aSide := a_Side, dSide := PySem.W.fnOf "side_through" "side_through" (defArgs sSide) (defBody sSide) (defScope sSide) .none kV_Side dc_Side pm_Side an_Side cd_Side ct_Side, aOb := a_Ob, dOb := PySem.W.fnOf "is_on_bound" "is_on_bound" (defArgs sOb) (defBody sOb) (defScope sOb) .none kV_Ob dc_Ob pm_Ob an_Ob cd_Ob ct_Ob, aNo := a_No, dNo := PySem.W.fnOf "numbers_on" "numbers_on" (defArgs sNo) (defBody sNo) (defScope sNo) .none kV_No dc_No pm_No an_No cd_No ct_No, aCor := a_Cor, dCor := PySem.W.fnOf "is_corner" "is_corner" (defArgs sCor) (defBody sCor) (defScope sCor) .none kV_Cor dc_Cor pm_Cor an_Cor cd_Cor ct_Cor, aDual := a_Dual, dDual := PySem.W.fnOf "dual" "dual" (defArgs sDual) (defBody sDual) (defScope sDual) .none kV_Dual dc_Dual pm_Dual an_Dual cd_Dual ct_Dual, aRef := a_Ref, dRef := PySem.W.fnOf "refusal_of_points" "refusal_of_points" (defArgs sRef) (defBody sRef) (defScope sRef) .none kV_Ref dc_Ref pm_Ref an_Ref cd_Ref ct_Ref, aPt := a_Pt, dPt := PySem.W.fnOf "is_point" "is_point" (defArgs sPt) (defBody sPt) (defScope sPt) .none kV_Pt dc_Pt pm_Pt an_Pt cd_Pt ct_Pt, aIpl := a_Ipl, dIpl := PySem.W.fnOf "is_place" "is_place" (defArgs sIpl) (defBody sIpl) (defScope sIpl) .none kV_Ipl dc_Ipl pm_Ipl an_Ipl cd_Ipl ct_Ipl, aInit := a_Init, dInit := PySem.W.fnOf "__init__" "Body.__init__" (defArgs sInit) (defBody sInit) (defScope sInit) .none kV_Init dc_Init pm_Init an_Init cd_Init ct_Init } := { T := T, fTog := F_Tog, bTog := b_Tog, gTog := PySem.W.mg_of X G A_Tog, fDir := F_Dir, bDir := b_Dir, gDir := PySem.W.mg_of X G A_Dir, fFnz := F_Fnz, bFnz := b_Fnz, gFnz := PySem.W.mg_of X G A_Fnz, fClr := F_Clr, bClr := b_Clr, gClr := PySem.W.mg_of X G A_Clr, fHmf := F_Hmf, bHmf := b_Hmf, gHmf := PySem.W.mg_of X G A_Hmf, fDims := F_Dims, bDims := b_Dims, gDims := PySem.W.mg_of X G A_Dims, fDet := F_Det, bDet := b_Det, gDet := PySem.W.mg_of X G A_Det, fCrs := F_Crs, bCrs := b_Crs, gCrs := PySem.W.mg_of X G A_Crs, fCd := F_Cd, bCd := b_Cd, gCd := PySem.W.mg_of X G A_Cd, fCm := F_Cm, bCm := b_Cm, gCm := PySem.W.mg_of X G A_Cm, fPlt := F_Plt, bPlt := b_Plt, gPlt := PySem.W.mg_of X G A_Plt, fDep := F_Dep, bDep := b_Dep, gDep := PySem.W.mg_of X G A_Dep, fWi := F_Wi, bWi := b_Wi, gWi := PySem.W.mg_of X G A_Wi, fCod := F_Cod, bCod := b_Cod, gCod := PySem.W.mg_of X G A_Cod, fSod := F_Sod, bSod := b_Sod, gSod := PySem.W.mg_of X G A_Sod, fFrt := F_Frt, bFrt := b_Frt, gFrt := PySem.W.mg_of X G A_Frt, fSides := F_Sides, bSides := b_Sides, gSides := PySem.W.mg_of X G A_Sides, fRc := F_Rc, bRc := b_Rc, gRc := PySem.W.mg_of X G A_Rc, fSide := F_Side, bSide := b_Side, gSide := PySem.W.mg_of X G A_Side, fOb := F_Ob, bOb := b_Ob, gOb := PySem.W.mg_of X G A_Ob, fNo := F_No, bNo := b_No, gNo := PySem.W.mg_of X G A_No, fCor := F_Cor, bCor := b_Cor, gCor := PySem.W.mg_of X G A_Cor, fDual := F_Dual, bDual := b_Dual, gDual := PySem.W.mg_of X G A_Dual, fRef := F_Ref, bRef := b_Ref, gRef := PySem.W.mg_of X G A_Ref, fPt := F_Pt, bPt := b_Pt, gPt := PySem.W.mg_of X G A_Pt, fIpl := F_Ipl, bIpl := b_Ipl, gIpl := PySem.W.mg_of X G A_Ipl, fInit := F_Init, bInit := b_Init, M := ⟨mk, A_Init, I_Init, kc⟩, n_zip := PySem.W.mg_none_of X G B_zip, n_sum := PySem.W.mg_none_of X G B_sum, n_enumerate := PySem.W.mg_none_of X G B_enumerate, n_list := PySem.W.mg_none_of X G B_list, n_range := PySem.W.mg_none_of X G B_range, n_len := PySem.W.mg_none_of X G B_len, n_abs := PySem.W.mg_none_of X G B_abs, n_any := PySem.W.mg_none_of X G B_any, n_min := PySem.W.mg_none_of X G B_min, n_max := PySem.W.mg_none_of X G B_max, n_tuple := PySem.W.mg_none_of X G B_tuple, n_all := PySem.W.mg_none_of X G B_all, n_sorted := PySem.W.mg_none_of X G B_sorted, n_set := PySem.W.mg_none_of X G B_set }
  exact ⟨_, fun s us hu => match us, hu with | [_, _, _], _ => .of_eq rfl, fun base _ _ TB => all_dual ok hcc TB⟩
end Ab
open PySem PySem.W PyProof.Rows
set_option maxRecDepth 100000 in
set_option maxHeartbeats 0 in
theorem PySem.Challenge.cw_alikebodies_s07_dual_holds : PySem.Challenge.rw_alikebodies_s07_dual.Holds := by
  w_on; k_headS; (case hw => exact ⟨[.int 0, .list [], .list []], by decide +kernel, by decide +kernel⟩)
  k_fillS
  refine Ab.walk_specT (r := PySem.Challenge.rw_alikebodies_s07_dual) (k := 14) (CX := L2.CX0) (ps := ["n", "place", "points"]) (c := 100) (Pt := 98) (y := "corners_of_dual") (sp := Ab.spDual 98) (by decide +kernel) rfl rfl ⟨rfl, by decide, by decide⟩ (fun w h Y => PySem.W.kIn_of Y) rfl ?F ?S (fun _ _ _ _ z => z)
  case F =>
    intro w mg fa h Y KX G hmg
    refine ⟨by kernel_rfl, by kernel_rfl, ?_⟩
    refine' Ab.all_mk KX G hmg ?A_Tog ?L_Tog ?D_Tog ?P_Tog ?A_Dir ?L_Dir ?D_Dir ?P_Dir ?A_Fnz ?L_Fnz ?D_Fnz ?P_Fnz ?A_Clr ?L_Clr ?D_Clr ?P_Clr ?A_Hmf ?L_Hmf ?D_Hmf ?P_Hmf ?A_Dims ?L_Dims ?D_Dims ?P_Dims ?A_Det ?L_Det ?D_Det ?P_Det ?A_Crs ?L_Crs ?D_Crs ?P_Crs ?A_Cd ?L_Cd ?D_Cd ?P_Cd ?A_Cm ?L_Cm ?D_Cm ?P_Cm ?A_Plt ?L_Plt ?D_Plt ?P_Plt ?A_Dep ?L_Dep ?D_Dep ?P_Dep ?A_Wi ?L_Wi ?D_Wi ?P_Wi ?A_Cod ?L_Cod ?D_Cod ?P_Cod ?A_Sod ?L_Sod ?D_Sod ?P_Sod ?A_Frt ?L_Frt ?D_Frt ?P_Frt ?A_Sides ?L_Sides ?D_Sides ?P_Sides ?A_Rc ?L_Rc ?D_Rc ?P_Rc ?A_Side ?L_Side ?D_Side ?P_Side ?A_Ob ?L_Ob ?D_Ob ?P_Ob ?A_No ?L_No ?D_No ?P_No ?A_Cor ?L_Cor ?D_Cor ?P_Cor ?A_Dual ?L_Dual ?D_Dual ?P_Dual ?A_Ref ?L_Ref ?D_Ref ?P_Ref ?A_Pt ?L_Pt ?D_Pt ?P_Pt ?A_Ipl ?L_Ipl ?D_Ipl ?P_Ipl ?A_Init ?I_Init ?L_Init ?D_Init ?P_Init ?hcc ?aC ?pg ?hd ?po ?sa ?mk ?kc ?n_n ?n_sides ?n_corners ?n_bounds ?B_zip ?B_sum ?B_enumerate ?B_list ?B_range ?B_len ?B_abs ?B_any ?B_min ?B_max ?B_tuple ?B_all ?B_sorted ?B_set
    (case aC => k_is)
    (case A_Tog => k_is)
    (case L_Tog => k_is)
    (case D_Tog => k_is)
    (case P_Tog => k_is)
    (case A_Dir => k_is)
    (case L_Dir => k_is)
    (case D_Dir => k_is)
    (case P_Dir => k_is)
    (case A_Fnz => k_is)
    (case L_Fnz => k_is)
    (case D_Fnz => k_is)
    (case P_Fnz => k_is)
    (case A_Clr => k_is)
    (case L_Clr => k_is)
    (case D_Clr => k_is)
    (case P_Clr => k_is)
    (case A_Hmf => k_is)
    (case L_Hmf => k_is)
    (case D_Hmf => k_is)
    (case P_Hmf => k_is)
    (case A_Dims => k_is)
    (case L_Dims => k_is)
    (case D_Dims => k_is)
    (case P_Dims => k_is)
    (case A_Det => k_is)
    (case L_Det => k_is)
    (case D_Det => k_is)
    (case P_Det => k_is)
    (case A_Crs => k_is)
    (case L_Crs => k_is)
    (case D_Crs => k_is)
    (case P_Crs => k_is)
    (case A_Cd => k_is)
    (case L_Cd => k_is)
    (case D_Cd => k_is)
    (case P_Cd => k_is)
    (case A_Cm => k_is)
    (case L_Cm => k_is)
    (case D_Cm => k_is)
    (case P_Cm => k_is)
    (case A_Plt => k_is)
    (case L_Plt => k_is)
    (case D_Plt => k_is)
    (case P_Plt => k_is)
    (case A_Dep => k_is)
    (case L_Dep => k_is)
    (case D_Dep => k_is)
    (case P_Dep => k_is)
    (case A_Wi => k_is)
    (case L_Wi => k_is)
    (case D_Wi => k_is)
    (case P_Wi => k_is)
    (case A_Cod => k_is)
    (case L_Cod => k_is)
    (case D_Cod => k_is)
    (case P_Cod => k_is)
    (case A_Sod => k_is)
    (case L_Sod => k_is)
    (case D_Sod => k_is)
    (case P_Sod => k_is)
    (case A_Frt => k_is)
    (case L_Frt => k_is)
    (case D_Frt => k_is)
    (case P_Frt => k_is)
    (case A_Sides => k_is)
    (case L_Sides => k_is)
    (case D_Sides => k_is)
    (case P_Sides => k_is)
    (case A_Rc => k_is)
    (case L_Rc => k_is)
    (case D_Rc => k_is)
    (case P_Rc => k_is)
    (case A_Side => k_is)
    (case L_Side => k_is)
    (case D_Side => k_is)
    (case P_Side => k_is)
    (case A_Ob => k_is)
    (case L_Ob => k_is)
    (case D_Ob => k_is)
    (case P_Ob => k_is)
    (case A_No => k_is)
    (case L_No => k_is)
    (case D_No => k_is)
    (case P_No => k_is)
    (case A_Cor => k_is)
    (case L_Cor => k_is)
    (case D_Cor => k_is)
    (case P_Cor => k_is)
    (case A_Dual => k_is)
    (case L_Dual => k_is)
    (case D_Dual => k_is)
    (case P_Dual => k_is)
    (case A_Ref => k_is)
    (case L_Ref => k_is)
    (case D_Ref => k_is)
    (case P_Ref => k_is)
    (case A_Pt => k_is)
    (case L_Pt => k_is)
    (case D_Pt => k_is)
    (case P_Pt => k_is)
    (case A_Ipl => k_is)
    (case L_Ipl => k_is)
    (case D_Ipl => k_is)
    (case P_Ipl => k_is)
    (case A_Init => k_is)
    (case I_Init => k_is)
    (case L_Init => k_is)
    (case D_Init => k_is)
    (case P_Init => k_is)
    (case hcc => rfl)
    (case pg => k_is)
    (case hd => k_is)
    (case po => k_is)
    (case sa => k_is)
    (case mk => k_is)
    (case kc => k_is)
    (case n_n => k_is)
    (case n_sides => k_is)
    (case n_corners => k_is)
    (case n_bounds => k_is)
    (case B_zip => k_is)
    (case B_sum => k_is)
    (case B_enumerate => k_is)
    (case B_list => k_is)
    (case B_range => k_is)
    (case B_len => k_is)
    (case B_abs => k_is)
    (case B_any => k_is)
    (case B_min => k_is)
    (case B_max => k_is)
    (case B_tuple => k_is)
    (case B_all => k_is)
    (case B_sorted => k_is)
    (case B_set => k_is)
  case S =>
    intro K H xs a hT hwi hask hx
    cases hx with
    | cons h1 h2 =>
      cases h2 with
      | cons h3 h4 =>
        cases h4 with
        | cons h5 h6 =>
          cases h6
          cases h1
          cases h3 with
          | lst hc hd =>
            cases h5 with
            | lst hs ha =>
              have ec := L2.ints_dw a.2.1 _ hd
              subst ec
              refine ⟨_, _, _, a.2.1, a.2.2.1, rfl, ⟨_, rfl, hc⟩, ⟨_, _, rfl, hs, Ab.rows_of_dw _ _ ha⟩, fun p hp => ?_, fun v H' hv => ?_⟩
              · rw [List.mem_singleton.mp hp]
                exact NdefX.TabN.nil hT
              · obtain ⟨p, rfl, hp⟩ := hv
                rw [← AB.dual_due] at hp
                exact .lst (L2.SqL.of hp) (L2.dw_ints _)

