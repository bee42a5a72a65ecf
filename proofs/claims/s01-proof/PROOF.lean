import PyProof.Rows.All
import Wide.All
import OpenK.AllK
import Wide.FinOn
import Open.SpecLaws
import KE.OsGo
import HandS.ForSpec
import HandS.ForMost
import HandS.Wide
import HandS.CallLocal
import HandS.RevRange
import HandS.Zip
import HandS.Rev
import HandS.Walk
import PySem.Challenge.RW_familychain_s01_answers
set_option Elab.async false
set_option linter.all false
set_option maxRecDepth 100000
set_option maxHeartbeats 4000000
/-! Fractions of the specification as rational numbers. -/
namespace Fc
open Lf02 (Frac State Chain Word)

theorem gcd_eq : ∀ (f a b : Nat), b < f → Lf02.gcd_ f a b = Nat.gcd a b
  | 0, _, _, h => by omega
  | f + 1, a, 0, _ => by simp [Lf02.gcd_]
  | f + 1, a, b + 1, h => by
    have hm : a % (b + 1) < b + 1 := Nat.mod_lt _ (by omega)
    rw [Lf02.gcd_, gcd_eq f (b + 1) (a % (b + 1)) (by omega), Nat.gcd_comm a (b + 1), Nat.gcd_rec (b + 1) a, Nat.gcd_comm]
    exact fun h => by omega

def q (f : Frac) : Rat := mkRat f.n f.d
def ofR (r : Rat) : Frac := ⟨r.num.toNat, r.den⟩
def Good (f : Frac) : Prop := 0 < f.d ∧ Nat.gcd f.n f.d = 1

theorem frac_of {n d : Nat} (h : 0 < d) : Lf02.frac n d = ⟨n / Nat.gcd n d, d / Nat.gcd n d⟩ := by
  unfold Lf02.frac
  simp only [gcd_eq (n + d + 1) n d (by omega)]
  split
  · rename_i e
    subst e
    rw [Nat.gcd_zero_left, Nat.zero_div, Nat.div_self h]
  · rfl

theorem frac_eq {n d : Nat} (h : 0 < d) : Lf02.frac n d = ofR (mkRat n d) := by
  have h0 : d ≠ 0 := by omega
  rw [frac_of h]
  unfold ofR
  rw [Rat.num_mkRat, Rat.den_mkRat, if_neg h0, if_neg h0, Int.natAbs_natCast, Nat.gcd_comm]
  congr 1
theorem good_frac {n d : Nat} (h : 0 < d) : Good (Lf02.frac n d) := by
  rw [frac_of h]
  have hg : 0 < Nat.gcd n d := Nat.gcd_pos_of_pos_right _ h
  refine ⟨Nat.div_pos (Nat.gcd_le_right _ h) hg, ?_⟩
  show Nat.gcd (n / Nat.gcd n d) (d / Nat.gcd n d) = 1
  rw [Nat.gcd_div (Nat.gcd_dvd_left _ _) (Nat.gcd_dvd_right _ _), Nat.div_self hg]
theorem q_frac {n d : Nat} (h : 0 < d) : q (Lf02.frac n d) = mkRat n d := by
  rw [frac_of h]
  have hg : 0 < Nat.gcd n d := Nat.gcd_pos_of_pos_right _ h
  show mkRat _ _ = _
  have e := Rat.mkRat_mul_left (n := ((n / Nat.gcd n d : Nat) : Int)) (d := d / Nat.gcd n d) (a := Nat.gcd n d) (by omega)
  rw [← e, ← Int.natCast_mul, Nat.mul_div_cancel' (Nat.gcd_dvd_left _ _), Nat.mul_div_cancel' (Nat.gcd_dvd_right _ _)]
theorem q_inj {a b : Frac} (ha : Good a) (hb : Good b) (h : q a = q b) : a = b := by
  have e : ∀ f : Frac, Good f → (q f).num = f.n ∧ (q f).den = f.d := fun f ⟨h1, h2⟩ => by
    unfold q
    have h0 : f.d ≠ 0 := by omega
    rw [Rat.num_mkRat, Rat.den_mkRat, if_neg h0, if_neg h0, Int.natAbs_natCast, Nat.gcd_comm, h2]
    exact ⟨by simp, by simp⟩
  have a1 := e a ha
  have b1 := e b hb
  rw [h] at a1
  cases a; cases b
  simp only [Frac.mk.injEq]
  exact ⟨Int.ofNat.inj (a1.1.symm.trans b1.1), a1.2.symm.trans b1.2⟩
theorem q_def {f : Frac} : q f = (f.n : Rat) / (f.d : Rat) := by
  unfold q
  rw [Rat.mkRat_eq_div]
  rfl
theorem q_zero : q ⟨0, 1⟩ = 0 := by decide
theorem q_one : q ⟨1, 1⟩ = 1 := by decide
theorem good_zero : Good ⟨0, 1⟩ := ⟨by decide, by decide⟩
theorem good_one : Good ⟨1, 1⟩ := ⟨by decide, by decide⟩
theorem q_nonneg (f : Frac) : 0 ≤ q f := by
  unfold q
  rw [← Rat.divInt_ofNat]
  exact Rat.divInt_nonneg (by omega) (by omega)
theorem q_eq_zero {f : Frac} (h : Good f) : q f = 0 ↔ f.n = 0 := by
  unfold q
  rw [Rat.mkRat_eq_zero (by have := h.1; omega)]
  omega
theorem good_times {a b : Frac} (ha : 0 < a.d) (hb : 0 < b.d) : Good (Lf02.times a b) := good_frac (Nat.mul_pos ha hb)
theorem q_times {a b : Frac} (ha : 0 < a.d) (hb : 0 < b.d) : q (Lf02.times a b) = q a * q b := by
  unfold Lf02.times
  rw [q_frac (Nat.mul_pos ha hb)]
  unfold q
  rw [Rat.mkRat_mul_mkRat]
  rw [Int.natCast_mul]
theorem good_plus {a b : Frac} (ha : 0 < a.d) (hb : 0 < b.d) : Good (Lf02.plus a b) := good_frac (Nat.mul_pos ha hb)
theorem q_plus {a b : Frac} (ha : 0 < a.d) (hb : 0 < b.d) : q (Lf02.plus a b) = q a + q b := by
  unfold Lf02.plus
  rw [q_frac (Nat.mul_pos ha hb)]
  unfold q
  rw [Rat.mkRat_add_mkRat _ _ (by omega) (by omega)]
  congr 1
theorem lessF_iff {a b : Frac} (ha : 0 < a.d) (hb : 0 < b.d) : Lf02.lessF a b = true ↔ q a < q b := by
  unfold Lf02.lessF
  rw [decide_eq_true_iff, q_def, q_def]
  have pa : (0 : Rat) < (a.d : Rat) := Rat.natCast_pos.mpr ha
  have pb : (0 : Rat) < (b.d : Rat) := Rat.natCast_pos.mpr hb
  rw [Rat.div_lt_iff pa, ← Rat.natCast_lt_natCast, Rat.natCast_mul, Rat.natCast_mul]
  have e : (b.n : Rat) / (b.d : Rat) * (a.d : Rat) = (b.n : Rat) * (a.d : Rat) / (b.d : Rat) := by
    rw [Rat.div_def, Rat.div_def]
    grind
  rw [e, Rat.lt_div_iff pb]
theorem good_sum : ∀ (l : List Frac) (z : Frac), Good z → (∀ x ∈ l, 0 < x.d) → Good (l.foldl Lf02.plus z)
  | [], z, hz, _ => hz
  | x :: l, z, hz, h => good_sum l _ (good_plus hz.1 (h x (List.mem_cons_self ..))) fun y hy => h y (List.mem_cons_of_mem _ hy)
theorem q_foldl : ∀ (l : List Frac) (z : Frac), Good z → (∀ x ∈ l, 0 < x.d) → q (l.foldl Lf02.plus z) = q z + (l.map q).sum
  | [], z, _, _ => by simp [Rat.add_zero]
  | x :: l, z, hz, h => by
    rw [List.foldl_cons, q_foldl l _ (good_plus hz.1 (h x (List.mem_cons_self ..))) fun y hy => h y (List.mem_cons_of_mem _ hy), q_plus hz.1 (h x (List.mem_cons_self ..)), List.map_cons, List.sum_cons, Rat.add_assoc]
theorem good_sumF {l : List Frac} (h : ∀ x ∈ l, 0 < x.d) : Good (Lf02.sumF l) := good_sum l _ good_zero h
theorem q_sumF {l : List Frac} (h : ∀ x ∈ l, 0 < x.d) : q (Lf02.sumF l) = (l.map q).sum := by
  unfold Lf02.sumF
  rw [q_foldl l _ good_zero h, q_zero, Rat.zero_add]
end Fc

/-! The likeliest of several ways, their sum, their number: of what is put together. -/
namespace Fc
open Lf02 (Frac State Chain Word)
abbrev Way := List State × Frac
def pick (b y : Way) : Way := if Lf02.lessF b.2 y.2 = true then y else b
def bst : List Way → Option Way
  | [] => none
  | x :: l => some (l.foldl pick x)
def Pos (L : List Way) : Prop := ∀ y ∈ L, Good y.2 ∧ y.2.n ≠ 0
def topOf (L : List Way) : Frac := match bst L with
  | none => ⟨0, 1⟩
  | some b => b.2
def pathOf (L : List Way) : List State := match bst L with
  | none => []
  | some b => b.1
def tiesOf (L : List Way) (f : Frac) : Nat := (L.filter fun y => y.2 == f).length
structure R where
  total : Frac
  ways : Nat
  best : Frac
  ties : Nat
  path : List State
def rOf (L : List Way) : R := ⟨Lf02.sumF (L.map fun x => x.2), L.length, topOf L, tiesOf L (topOf L), pathOf L⟩
theorem r_le_lt {a b c : Rat} (h1 : a ≤ b) (h2 : b < c) : a < c := by grind
theorem r_lt_ne {a b c : Rat} (h1 : a ≤ b) (h2 : ¬ c < b) (h3 : b ≠ c) : a < c := by grind
theorem pick_lt {a b : Way} (ha : 0 < a.2.d) (hb : 0 < b.2.d) (h : q a.2 < q b.2) : pick a b = b := if_pos ((lessF_iff ha hb).mpr h)
theorem pick_ge {a b : Way} (ha : 0 < a.2.d) (hb : 0 < b.2.d) (h : q b.2 ≤ q a.2) : pick a b = a := if_neg fun z => by
  exact (Rat.not_le.mpr ((lessF_iff ha hb).mp z)) h
theorem pick_cases (a b : Way) : pick a b = a ∨ pick a b = b := by
  unfold pick
  split
  · exact .inr rfl
  · exact .inl rfl
theorem pick_d {a b : Way} (ha : 0 < a.2.d) (hb : 0 < b.2.d) : 0 < (pick a b).2.d := by
  rcases pick_cases a b with h | h <;> rw [h] <;> assumption
theorem pick_assoc {a y z : Way} (ha : 0 < a.2.d) (hy : 0 < y.2.d) (hz : 0 < z.2.d) : pick (pick a y) z = pick a (pick y z) := by
  by_cases h1 : q a.2 < q y.2
  · rw [pick_lt ha hy h1]
    by_cases h2 : q y.2 < q z.2
    · rw [pick_lt hy hz h2, pick_lt ha hz (by grind)]
    · rw [pick_ge hy hz (by grind), pick_lt ha hy h1]
  · rw [pick_ge ha hy (by grind)]
    by_cases h2 : q y.2 < q z.2
    · rw [pick_lt hy hz h2]
    · rw [pick_ge hy hz (by grind), pick_ge ha hy (by grind), pick_ge ha hz (by grind)]
theorem pick_fold_d : ∀ (l : List Way) (x : Way), 0 < x.2.d → (∀ y ∈ l, 0 < y.2.d) → 0 < (l.foldl pick x).2.d
  | [], x, h, _ => h
  | y :: l, x, h, hl => pick_fold_d l _ (pick_d h (hl y (List.mem_cons_self ..))) fun z hz => hl z (List.mem_cons_of_mem _ hz)
theorem pick_fold : ∀ (l : List Way) (a y : Way), 0 < a.2.d → 0 < y.2.d → (∀ z ∈ l, 0 < z.2.d) → l.foldl pick (pick a y) = pick a (l.foldl pick y)
  | [], a, y, _, _, _ => rfl
  | z :: l, a, y, ha, hy, hl => by
    have hz := hl z (List.mem_cons_self ..)
    have hl' : ∀ z ∈ l, 0 < z.2.d := fun t ht => hl t (List.mem_cons_of_mem _ ht)
    rw [List.foldl_cons, List.foldl_cons, pick_assoc ha hy hz, pick_fold l a (pick y z) ha (pick_d hy hz) hl']
theorem bst_append {A B : List Way} (hA : Pos A) (hB : Pos B) : bst (A ++ B) = match bst A, bst B with
    | none, b => b
    | some a, none => some a
    | some a, some b => some (pick a b) := by
  cases A with
  | nil => rfl
  | cons x l =>
    cases B with
    | nil => rw [List.append_nil]; rfl
    | cons y m =>
      have d1 : ∀ z ∈ l, 0 < z.2.d := fun z hz => (hA z (List.mem_cons_of_mem _ hz)).1.1
      have d2 : ∀ z ∈ m, 0 < z.2.d := fun z hz => (hB z (List.mem_cons_of_mem _ hz)).1.1
      have dx := (hA x (List.mem_cons_self ..)).1.1
      have dy := (hB y (List.mem_cons_self ..)).1.1
      show some ((l ++ y :: m).foldl pick x) = some (pick (l.foldl pick x) (m.foldl pick y))
      rw [List.foldl_append, List.foldl_cons, pick_fold m _ y (pick_fold_d l x dx d1) dy d2]
theorem fold_mem : ∀ (l : List Way) (x : Way), l.foldl pick x = x ∨ l.foldl pick x ∈ l
  | [], x => .inl rfl
  | y :: l, x => by
    rw [List.foldl_cons]
    rcases fold_mem l (pick x y) with h | h
    · rcases pick_cases x y with e | e
      · exact .inl (by rw [h, e])
      · exact .inr (by rw [h, e]; exact List.mem_cons_self ..)
    · exact .inr (List.mem_cons_of_mem _ h)
theorem bst_mem {L : List Way} {b : Way} (h : bst L = some b) : b ∈ L := by
  cases L with
  | nil => cases h
  | cons x l =>
    have e : l.foldl pick x = b := Option.some.inj h
    rcases fold_mem l x with z | z
    · rw [← e, z]; exact List.mem_cons_self ..
    · rw [← e]; exact List.mem_cons_of_mem _ z
theorem fold_le : ∀ (l : List Way) (x : Way), 0 < x.2.d → (∀ y ∈ l, 0 < y.2.d) → q x.2 ≤ q (l.foldl pick x).2 ∧ ∀ y ∈ l, q y.2 ≤ q (l.foldl pick x).2
  | [], x, _, _ => ⟨Rat.le_refl, fun y hy => by cases hy⟩
  | y :: l, x, hx, hl => by
    have hy := hl y (List.mem_cons_self ..)
    have hl' : ∀ z ∈ l, 0 < z.2.d := fun t ht => hl t (List.mem_cons_of_mem _ ht)
    have ih := fold_le l (pick x y) (pick_d hx hy) hl'
    have p : q x.2 ≤ q (pick x y).2 ∧ q y.2 ≤ q (pick x y).2 := by
      by_cases h : q x.2 < q y.2
      · rw [pick_lt hx hy h]; exact ⟨Rat.le_of_lt h, Rat.le_refl⟩
      · rw [pick_ge hx hy (by grind)]; exact ⟨Rat.le_refl, by grind⟩
    rw [List.foldl_cons]
    refine ⟨Rat.le_trans p.1 ih.1, fun z hz => ?_⟩
    rcases List.mem_cons.mp hz with e | e
    · rw [e]; exact Rat.le_trans p.2 ih.1
    · exact ih.2 z e
theorem bst_le {L : List Way} {b : Way} (hL : Pos L) (h : bst L = some b) : ∀ y ∈ L, q y.2 ≤ q b.2 := by
  cases L with
  | nil => cases h
  | cons x l =>
    have e : l.foldl pick x = b := Option.some.inj h
    have z := fold_le l x (hL x (List.mem_cons_self ..)).1.1 fun y hy => (hL y (List.mem_cons_of_mem _ hy)).1.1
    rw [e] at z
    intro y hy
    rcases List.mem_cons.mp hy with e | e
    · rw [e]; exact z.1
    · exact z.2 y e
theorem bst_none {L : List Way} : bst L = none ↔ L = [] := by
  cases L with
  | nil => exact ⟨fun _ => rfl, fun _ => rfl⟩
  | cons x l => exact ⟨(fun h => nomatch h), (fun h => nomatch h)⟩
theorem q_pos {f : Frac} (h : Good f) (h0 : f.n ≠ 0) : 0 < q f := by
  have a := q_nonneg f
  have b : q f ≠ 0 := fun z => h0 ((q_eq_zero h).mp z)
  exact Rat.lt_of_le_of_ne a fun e => b e.symm
/-- every way of a list made longer by what stands ahead of it -/
def ext (g : List State → List State) (x : Frac) (L : List Way) : List Way := L.map fun y => (g y.1, Lf02.times x y.2)
theorem pos_times {x y : Frac} (hx : Good x) (hx0 : x.n ≠ 0) (hy : Good y) (hy0 : y.n ≠ 0) : Good (Lf02.times x y) ∧ (Lf02.times x y).n ≠ 0 := by
  refine ⟨good_times hx.1 hy.1, fun z => ?_⟩
  have e := (q_eq_zero (good_times hx.1 hy.1)).mpr z
  rw [q_times hx.1 hy.1] at e
  rcases Rat.mul_eq_zero.mp e with h | h
  · exact hx0 ((q_eq_zero hx).mp h)
  · exact hy0 ((q_eq_zero hy).mp h)
theorem pos_ext {g : List State → List State} {x : Frac} {L : List Way} (hx : Good x) (hx0 : x.n ≠ 0) (hL : Pos L) : Pos (ext g x L) := by
  intro y hy
  obtain ⟨z, hz, rfl⟩ := List.mem_map.mp hy
  exact pos_times hx hx0 (hL z hz).1 (hL z hz).2
theorem fold_ext {g : List State → List State} {x : Frac} (hx : Good x) (hx0 : x.n ≠ 0) : ∀ (l : List Way) (a : Way), 0 < a.2.d → (∀ y ∈ l, 0 < y.2.d) →
    (ext g x l).foldl pick (g a.1, Lf02.times x a.2) = (g (l.foldl pick a).1, Lf02.times x (l.foldl pick a).2)
  | [], a, _, _ => rfl
  | y :: l, a, ha, hl => by
    have hy := hl y (List.mem_cons_self ..)
    have hl' : ∀ z ∈ l, 0 < z.2.d := fun t ht => hl t (List.mem_cons_of_mem _ ht)
    have px := q_pos hx hx0
    have e : pick (g a.1, Lf02.times x a.2) (g y.1, Lf02.times x y.2) = (g (pick a y).1, Lf02.times x (pick a y).2) := by
      by_cases h : q a.2 < q y.2
      · rw [pick_lt ha hy h, pick_lt (good_times hx.1 ha).1 (good_times hx.1 hy).1]
        show q (Lf02.times x a.2) < q (Lf02.times x y.2)
        rw [q_times hx.1 ha, q_times hx.1 hy]
        exact (Rat.mul_lt_mul_left px).mpr h
      · rw [pick_ge ha hy (by grind), pick_ge (good_times hx.1 ha).1 (good_times hx.1 hy).1]
        show q (Lf02.times x y.2) ≤ q (Lf02.times x a.2)
        rw [q_times hx.1 ha, q_times hx.1 hy]
        exact Rat.mul_le_mul_of_nonneg_left (by grind) (Rat.le_of_lt px)
    show (ext g x l).foldl pick (pick (g a.1, Lf02.times x a.2) (g y.1, Lf02.times x y.2)) = _
    rw [e, fold_ext hx hx0 l (pick a y) (pick_d ha hy) hl']
    rfl
theorem bst_ext {g : List State → List State} {x : Frac} {L : List Way} (hx : Good x) (hx0 : x.n ≠ 0) (hL : Pos L) : bst (ext g x L) = (bst L).map fun y => (g y.1, Lf02.times x y.2) := by
  cases L with
  | nil => rfl
  | cons a l => exact congrArg some (fold_ext hx hx0 l a (hL a (List.mem_cons_self ..)).1.1 fun y hy => (hL y (List.mem_cons_of_mem _ hy)).1.1)
theorem times_inj {x a b : Frac} (hx : Good x) (hx0 : x.n ≠ 0) (ha : Good a) (hb : Good b) (h : Lf02.times x a = Lf02.times x b) : a = b := by
  refine q_inj ha hb ?_
  have e : q x * q a = q x * q b := by rw [← q_times hx.1 ha.1, ← q_times hx.1 hb.1, h]
  have p := q_pos hx hx0
  by_cases h1 : q a < q b
  · exact absurd e (Rat.ne_of_lt ((Rat.mul_lt_mul_left p).mpr h1))
  · by_cases h2 : q b < q a
    · exact absurd e (Rat.ne_of_gt ((Rat.mul_lt_mul_left p).mpr h2))
    · exact Rat.le_antisymm (Rat.not_lt.mp h2) (Rat.not_lt.mp h1)
theorem ties_ext {g : List State → List State} {x : Frac} {L : List Way} {f : Frac} (hx : Good x) (hx0 : x.n ≠ 0) (hL : Pos L) (hf : Good f) : tiesOf (ext g x L) (Lf02.times x f) = tiesOf L f := by
  unfold tiesOf ext
  rw [List.filter_map, List.length_map]
  congr 1
  refine List.filter_congr fun y hy => ?_
  show (Lf02.times x y.2 == Lf02.times x f) = (y.2 == f)
  by_cases h : y.2 = f
  · rw [h, beq_self_eq_true, beq_self_eq_true]
  · rw [beq_eq_false_iff_ne.mpr h, beq_eq_false_iff_ne]
    exact fun z => h (times_inj hx hx0 (hL y hy).1 hf z)
theorem ties_append {A B : List Way} {f : Frac} : tiesOf (A ++ B) f = tiesOf A f + tiesOf B f := by
  unfold tiesOf
  rw [List.filter_append, List.length_append]
theorem ties_none {A : List Way} {f : Frac} (h : ∀ y ∈ A, q y.2 < q f) : tiesOf A f = 0 := by
  unfold tiesOf
  rw [List.length_eq_zero_iff, List.filter_eq_nil_iff]
  intro y hy z
  have e : y.2 = f := by simpa using z
  have := h y hy
  rw [e] at this
  exact Rat.lt_irrefl this
theorem good_top {L : List Way} (hL : Pos L) : Good (topOf L) := by
  unfold topOf
  cases h : bst L with
  | none => exact good_zero
  | some b => exact (hL b (bst_mem h)).1
theorem top_pos {L : List Way} (hL : Pos L) (h0 : L ≠ []) : (topOf L).n ≠ 0 := by
  unfold topOf
  cases h : bst L with
  | none => exact absurd (bst_none.mp h) h0
  | some b => exact (hL b (bst_mem h)).2
theorem top_le {L : List Way} (hL : Pos L) : ∀ y ∈ L, q y.2 ≤ q (topOf L) := by
  intro y hy
  unfold topOf
  cases h : bst L with
  | none => rw [bst_none.mp h] at hy; cases hy
  | some b => exact bst_le hL h y hy
theorem top_nil : topOf [] = ⟨0, 1⟩ := rfl
theorem sum_map_mul (c : Rat) : ∀ l : List Rat, (l.map fun x => c * x).sum = c * l.sum
  | [] => by simp
  | x :: l => by rw [List.map_cons, List.sum_cons, List.sum_cons, sum_map_mul c l, Rat.mul_add]
theorem sum_ext {g : List State → List State} {x : Frac} {L : List Way} (hx : Good x) (hL : Pos L) : (((ext g x L).map fun y => y.2).map q).sum = q x * ((L.map fun y => y.2).map q).sum := by
  rw [← sum_map_mul]
  congr 1
  unfold ext
  simp only [List.map_map]
  refine List.map_congr_left fun y hy => ?_
  exact q_times hx.1 (hL y hy).1.1
/-- one more step's ways: what is reached by it, given what is known of the ways behind it -/
def addStep (r : R) (x : Frac) (g : List State → List State) (a : R) : R :=
  if a.ways = 0 then r else
    let t := Lf02.plus r.total (Lf02.times x a.total)
    let w := r.ways + a.ways
    let z := Lf02.times x a.best
    if Lf02.lessF r.best z = true then ⟨t, w, z, a.ties, g a.path⟩
    else if z = r.best then ⟨t, w, r.best, r.ties + a.ties, r.path⟩
    else ⟨t, w, r.best, r.ties, r.path⟩
theorem add_none {r a : R} {x : Frac} {g : List State → List State} (h : a.ways = 0) : addStep r x g a = r := if_pos h
theorem add_lt {r a : R} {x : Frac} {g : List State → List State} (h : a.ways ≠ 0) (h1 : Lf02.lessF r.best (Lf02.times x a.best) = true) :
    addStep r x g a = ⟨Lf02.plus r.total (Lf02.times x a.total), r.ways + a.ways, Lf02.times x a.best, a.ties, g a.path⟩ := by
  unfold addStep
  rw [if_neg h, if_pos h1]
theorem add_eq {r a : R} {x : Frac} {g : List State → List State} (h : a.ways ≠ 0) (h1 : ¬ Lf02.lessF r.best (Lf02.times x a.best) = true) (h2 : Lf02.times x a.best = r.best) :
    addStep r x g a = ⟨Lf02.plus r.total (Lf02.times x a.total), r.ways + a.ways, r.best, r.ties + a.ties, r.path⟩ := by
  unfold addStep
  rw [if_neg h, if_neg h1, if_pos h2]
theorem add_gt {r a : R} {x : Frac} {g : List State → List State} (h : a.ways ≠ 0) (h1 : ¬ Lf02.lessF r.best (Lf02.times x a.best) = true) (h2 : ¬ Lf02.times x a.best = r.best) :
    addStep r x g a = ⟨Lf02.plus r.total (Lf02.times x a.total), r.ways + a.ways, r.best, r.ties, r.path⟩ := by
  unfold addStep
  rw [if_neg h, if_neg h1, if_neg h2]
theorem r_eq {a b : R} (h1 : a.total = b.total) (h2 : a.ways = b.ways) (h3 : a.best = b.best) (h4 : a.ties = b.ties) (h5 : a.path = b.path) : a = b := by
  cases a; cases b
  simp_all
theorem total_add {g : List State → List State} {x : Frac} {A B : List Way} (hx : Good x) (hx0 : x.n ≠ 0) (hA : Pos A) (hB : Pos B) :
    Lf02.sumF ((A ++ ext g x B).map fun y => y.2) = Lf02.plus (Lf02.sumF (A.map fun y => y.2)) (Lf02.times x (Lf02.sumF (B.map fun y => y.2))) := by
  have dA : ∀ y ∈ A.map (fun y : Way => y.2), 0 < y.d := fun y hy => by obtain ⟨z, hz, rfl⟩ := List.mem_map.mp hy; exact (hA z hz).1.1
  have dB : ∀ y ∈ B.map (fun y : Way => y.2), 0 < y.d := fun y hy => by obtain ⟨z, hz, rfl⟩ := List.mem_map.mp hy; exact (hB z hz).1.1
  have dE : ∀ y ∈ (ext g x B).map (fun y : Way => y.2), 0 < y.d := fun y hy => by obtain ⟨z, hz, rfl⟩ := List.mem_map.mp hy; exact (pos_ext hx hx0 hB z hz).1.1
  have dAE : ∀ y ∈ (A ++ ext g x B).map (fun y : Way => y.2), 0 < y.d := fun y hy => by
    rw [List.map_append] at hy
    rcases List.mem_append.mp hy with h | h
    · exact dA y h
    · exact dE y h
  have gA := good_sumF dA
  have gB := good_sumF dB
  refine q_inj (good_sumF dAE) (good_plus gA.1 (good_times hx.1 gB.1).1) ?_
  rw [q_sumF dAE, q_plus gA.1 (good_times hx.1 gB.1).1, q_times hx.1 gB.1, q_sumF dA, q_sumF dB, List.map_append, List.map_append, List.sum_append, sum_ext hx hB]
theorem ext_len {g : List State → List State} {x : Frac} {A B : List Way} : (A ++ ext g x B).length = A.length + B.length := by
  rw [List.length_append]
  unfold ext
  rw [List.length_map]
theorem some_of {L : List Way} (h : L ≠ []) : ∃ b, bst L = some b := by
  cases e : bst L with
  | none => exact absurd (bst_none.mp e) h
  | some b => exact ⟨b, rfl⟩
theorem top_some {L : List Way} {b : Way} (h : bst L = some b) : topOf L = b.2 := by unfold topOf; rw [h]
theorem path_some {L : List Way} {b : Way} (h : bst L = some b) : pathOf L = b.1 := by unfold pathOf; rw [h]
theorem rOf_best {L : List Way} : (rOf L).best = topOf L := rfl
theorem rOf_lt {g : List State → List State} {x : Frac} {A B : List Way} {b : Way} (hx : Good x) (hx0 : x.n ≠ 0) (hA : Pos A) (hB : Pos B) (hb : bst B = some b)
    (h1 : q (topOf A) < q (Lf02.times x b.2)) : rOf (A ++ ext g x B) = addStep (rOf A) x g (rOf B) := by
  have gb := (hB b (bst_mem hb)).1
  have pz := pos_times hx hx0 gb (hB b (bst_mem hb)).2
  have gA := good_top hA
  have pE := pos_ext (g := g) hx hx0 hB
  have eb : bst (ext g x B) = some (g b.1, Lf02.times x b.2) := by rw [bst_ext hx hx0 hB, hb]; rfl
  have tb := top_some hb
  have w0 : (rOf B).ways ≠ 0 := fun z => by
    have e : B = [] := List.length_eq_zero_iff.mp z
    rw [e] at hb
    cases hb
  have e : bst (A ++ ext g x B) = some (g b.1, Lf02.times x b.2) := by
    rw [bst_append hA pE, eb]
    cases hA2 : bst A with
    | none => rfl
    | some a =>
      rw [top_some hA2] at h1 gA
      exact congrArg some (pick_lt gA.1 pz.1.1 h1)
  have t : topOf (A ++ ext g x B) = Lf02.times x b.2 := top_some e
  refine Eq.trans ?_ (add_lt w0 ?_).symm
  · refine r_eq (total_add hx hx0 hA hB) ext_len ?_ ?_ ?_
    · show topOf (A ++ ext g x B) = Lf02.times x (topOf B)
      rw [t, tb]
    · show tiesOf (A ++ ext g x B) (topOf (A ++ ext g x B)) = tiesOf B (topOf B)
      rw [t, tb, ties_append, ties_ext hx hx0 hB gb, ties_none (A := A) (fun y hy => r_le_lt (top_le hA y hy) h1), Nat.zero_add]
    · show pathOf (A ++ ext g x B) = g (pathOf B)
      rw [path_some e, path_some hb]
  · show Lf02.lessF (topOf A) (Lf02.times x (topOf B)) = true
    rw [tb]
    exact (lessF_iff gA.1 pz.1.1).mpr h1
theorem rOf_ge {g : List State → List State} {x : Frac} {A B : List Way} {b : Way} (hx : Good x) (hx0 : x.n ≠ 0) (hA : Pos A) (hB : Pos B) (hb : bst B = some b)
    (h1 : ¬ q (topOf A) < q (Lf02.times x b.2)) : rOf (A ++ ext g x B) = addStep (rOf A) x g (rOf B) := by
  have gb := (hB b (bst_mem hb)).1
  have pz := pos_times hx hx0 gb (hB b (bst_mem hb)).2
  have gA := good_top hA
  have pE := pos_ext (g := g) hx hx0 hB
  have eb : bst (ext g x B) = some (g b.1, Lf02.times x b.2) := by rw [bst_ext hx hx0 hB, hb]; rfl
  have tb := top_some hb
  have w0 : (rOf B).ways ≠ 0 := fun z => by
    have e : B = [] := List.length_eq_zero_iff.mp z
    rw [e] at hb
    cases hb
  have hA0 : A ≠ [] := fun z => by
    rw [z, top_nil, q_zero] at h1
    exact h1 (q_pos pz.1 pz.2)
  obtain ⟨a, ha⟩ := some_of hA0
  have ta := top_some ha
  have e : bst (A ++ ext g x B) = some a := by
    rw [bst_append hA pE, eb, ha]
    rw [ta] at h1 gA
    exact congrArg some (pick_ge gA.1 pz.1.1 (Rat.not_lt.mp h1))
  have t : topOf (A ++ ext g x B) = topOf A := by rw [ta]; exact top_some e
  have p : pathOf (A ++ ext g x B) = pathOf A := by rw [path_some e, path_some ha]
  have nl : ¬ Lf02.lessF (rOf A).best (Lf02.times x (rOf B).best) = true := by
    rw [rOf_best, rOf_best, tb]
    exact fun z => h1 ((lessF_iff gA.1 pz.1.1).mp z)
  have leE := bst_le pE eb
  dsimp only at leE
  by_cases h2 : Lf02.times x b.2 = topOf A
  · have h3 : Lf02.times x (rOf B).best = (rOf A).best := by
      rw [rOf_best, rOf_best, tb]
      exact h2
    have c4 : tiesOf (A ++ ext g x B) (topOf (A ++ ext g x B)) = tiesOf A (topOf A) + tiesOf B (topOf B) := by
      rw [t, tb, ties_append]
      exact congrArg (fun n => tiesOf A (topOf A) + n) (by rw [← h2, ties_ext hx hx0 hB gb])
    rw [add_eq (r := rOf A) (x := x) (g := g) (a := rOf B) w0 nl h3]
    exact r_eq (total_add hx hx0 hA hB) ext_len t c4 p
  · have h3 : ¬ Lf02.times x (rOf B).best = (rOf A).best := by
      rw [rOf_best, rOf_best, tb]
      exact h2
    have c4 : tiesOf (A ++ ext g x B) (topOf (A ++ ext g x B)) = tiesOf A (topOf A) := by
      rw [t, ties_append, ties_none (A := ext g x B) (fun y hy => r_lt_ne (leE y hy) h1 fun z => h2 (q_inj pz.1 gA z)), Nat.add_zero]
    rw [add_gt (r := rOf A) (x := x) (g := g) (a := rOf B) w0 nl h3]
    exact r_eq (total_add hx hx0 hA hB) ext_len t c4 p
theorem rOf_add {g : List State → List State} {x : Frac} {A B : List Way} (hx : Good x) (hx0 : x.n ≠ 0) (hA : Pos A) (hB : Pos B) :
    rOf (A ++ ext g x B) = addStep (rOf A) x g (rOf B) := by
  by_cases hB0 : B = []
  · subst hB0
    have e : (rOf ([] : List Way)).ways = 0 := rfl
    rw [add_none e]
    show rOf (A ++ []) = _
    rw [List.append_nil]
  · obtain ⟨b, hb⟩ := some_of hB0
    by_cases h1 : q (topOf A) < q (Lf02.times x b.2)
    · exact rOf_lt hx hx0 hA hB hb h1
    · exact rOf_ge hx hx0 hA hB hb h1
end Fc

/-! The ways from a state on: one turn of the recursion, enough steps, that all of them may be. -/
namespace Fc
open Lf02 (Frac State Chain Word)
/-- the chain is as the calls leave it -/
structure OkC (c : Chain) : Prop where
  k1 : 1 ≤ c.k
  k4 : c.k ≤ 4
  ll : c.letters.length = c.k
  l4 : ∀ l ∈ c.letters, l.length = 4 ∧ (∀ a ∈ l, a ≤ 99) ∧ 0 < Lf02.sum l
  g4 : c.ground.length = 4 ∧ (∀ a ∈ c.ground, a ≤ 99) ∧ 0 < Lf02.sum c.ground
  mv : ∀ s, Lf02.isState c.k s = true → (Lf02.movesOf c s).1 ≤ 99 ∧ (Lf02.movesOf c s).2.1 ≤ 99 ∧ (Lf02.movesOf c s).2.2 ≤ 99 ∧ 0 < (Lf02.movesOf c s).1 + (Lf02.movesOf c s).2.2 ∧ (s.place = c.k → (Lf02.movesOf c s).2.2 = 0)
def IsS (k : Nat) (s : State) : Prop := s.sort ≤ 2 ∧ s.place ≤ k ∧ (s.sort = 2 → 0 < s.place)
theorem isS_iff {k : Nat} {s : State} : Lf02.isState k s = true ↔ IsS k s := by
  unfold Lf02.isState IsS
  simp only [Bool.and_eq_true, decide_eq_true_iff, Bool.or_eq_true, bne_iff_ne]
  constructor
  · rintro ⟨h1, h2, h3⟩
    exact ⟨h1, h2, fun h => h3.resolve_left (fun z => z h)⟩
  · rintro ⟨h1, h2, h3⟩
    refine ⟨h1, h2, ?_⟩
    by_cases h : s.sort = 2
    · exact .inr (h3 h)
    · exact .inl h
/-- together with 1: as many steps as there can be from here -/
def fu (c : Chain) (s : State) (w : Word) : Nat := c.k - s.place + w.length
theorem mem_nexts {c : Chain} {s : State} {w : Word} {x : Option State × Word × Frac} (hs : s.place ≤ c.k) (h : x ∈ Lf02.nexts c s w) :
    (x = (none, [], Lf02.move c s 0) ∧ s.place = c.k ∧ w = []) ∨
    (∃ a r, w = a :: r ∧ s.place < c.k ∧ x = (some ⟨0, s.place + 1⟩, r, Lf02.times (Lf02.move c s 0) (Lf02.letter c ⟨0, s.place + 1⟩ a))) ∨
    (∃ a r, w = a :: r ∧ x = (some ⟨1, s.place⟩, r, Lf02.times (Lf02.move c s 1) (Lf02.letter c ⟨1, s.place⟩ a))) ∨
    (s.place < c.k ∧ x = (some ⟨2, s.place + 1⟩, w, Lf02.move c s 2)) := by
  unfold Lf02.nexts at h
  rcases List.mem_append.mp h with h | h
  · rcases List.mem_append.mp h with h | h
    · by_cases hk : s.place < c.k
      · rw [if_pos hk] at h
        cases w with
        | nil => cases h
        | cons a r => exact .inr (.inl ⟨a, r, rfl, hk, by simpa using h⟩)
      · rw [if_neg hk] at h
        cases w with
        | nil => exact .inl ⟨by simpa using h, by omega, rfl⟩
        | cons a r =>
          have z : (a :: r).isEmpty = false := rfl
          rw [z, if_neg (by decide)] at h
          cases h
    · cases w with
      | nil => cases h
      | cons a r => exact .inr (.inr (.inl ⟨a, r, rfl, by simpa using h⟩))
  · by_cases hk : s.place < c.k
    · rw [if_pos hk] at h
      exact .inr (.inr (.inr ⟨hk, by simpa using h⟩))
    · rw [if_neg hk] at h
      cases h
theorem next_some {c : Chain} {s t : State} {w r : Word} {f : Frac} (hs : s.place ≤ c.k) (h : (some t, r, f) ∈ Lf02.nexts c s w) :
    t.place ≤ c.k ∧ fu c t r + 1 ≤ fu c s w ∧ t.sort ≤ 2 ∧ (t.sort = 2 → 0 < t.place) := by
  unfold fu
  rcases mem_nexts hs h with ⟨e, _, _⟩ | ⟨a, r', rfl, hk, e⟩ | ⟨a, r', rfl, e⟩ | ⟨hk, e⟩
  · cases e
  · cases e
    refine ⟨hk, ?_, by show (0 : Nat) ≤ 2; omega, fun z => by cases z⟩
    show c.k - (s.place + 1) + r.length + 1 ≤ c.k - s.place + (r.length + 1)
    omega
  · cases e
    refine ⟨hs, ?_, by show (1 : Nat) ≤ 2; omega, fun z => by cases z⟩
    show c.k - s.place + r.length + 1 ≤ c.k - s.place + (r.length + 1)
    omega
  · cases e
    refine ⟨hk, ?_, by show (2 : Nat) ≤ 2; omega, fun z => Nat.succ_pos _⟩
    show c.k - (s.place + 1) + w.length + 1 ≤ c.k - s.place + w.length
    omega
theorem flatMap_eq {α β : Type} {f g : α → List β} : ∀ {l : List α}, (∀ x ∈ l, f x = g x) → l.flatMap f = l.flatMap g
  | [], _ => rfl
  | x :: l, h => by
    rw [List.flatMap_cons, List.flatMap_cons, h x (List.mem_cons_self ..), flatMap_eq fun y hy => h y (List.mem_cons_of_mem _ hy)]
theorem ways_more {c : Chain} : ∀ (f : Nat) (s : State) (w : Word), s.place ≤ c.k → fu c s w + 1 ≤ f → Lf02.waysFrom c (f + 1) s w = Lf02.waysFrom c f s w
  | 0, s, w, _, h => by omega
  | f + 1, s, w, hs, h => by
    rw [Lf02.waysFrom, Lf02.waysFrom]
    refine flatMap_eq fun x hx => ?_
    obtain ⟨o, r, p⟩ := x
    cases o with
    | none => rfl
    | some t =>
      have n := next_some hs (List.mem_filter.mp hx).1
      dsimp only
      rw [ways_more f t r n.1 (by omega)]
theorem ways_enough {c : Chain} {s : State} {w : Word} (hs : s.place ≤ c.k) : ∀ (d : Nat), Lf02.waysFrom c (fu c s w + 1 + d) s w = Lf02.waysFrom c (fu c s w + 1) s w
  | 0 => rfl
  | d + 1 => by
    show Lf02.waysFrom c (fu c s w + 1 + d + 1) s w = _
    rw [ways_more _ s w hs (by omega), ways_enough hs d]
/-- the ways from a state on -/
def wf (c : Chain) (s : State) (w : Word) : List Way := Lf02.waysFrom c (fu c s w + 1) s w
theorem ways_wf {c : Chain} {s : State} {w : Word} {f : Nat} (hs : s.place ≤ c.k) (h : fu c s w + 1 ≤ f) : Lf02.waysFrom c f s w = wf c s w := by
  obtain ⟨d, rfl⟩ := Nat.exists_eq_add_of_le h
  exact ways_enough hs d
theorem ways_eq {c : Chain} {w : Word} : Lf02.ways c w = wf c ⟨0, 0⟩ w := by
  unfold Lf02.ways
  refine ways_wf (Nat.zero_le _) ?_
  show c.k - 0 + w.length + 1 ≤ _
  omega
def goOn (o : Option State) (p : List State) : List State := match o with
  | none => p
  | some t => t :: p
def behind (c : Chain) (o : Option State) (r : Word) : List Way := match o with
  | none => [([], ⟨1, 1⟩)]
  | some t => wf c t r
def cand (c : Chain) (s : State) (w : Word) : List (Option State × Word × Frac) := (Lf02.nexts c s w).filter fun x => x.2.2.n != 0
theorem times_one {x : Frac} (h : Good x) : Lf02.times x ⟨1, 1⟩ = x := by
  refine q_inj (good_times h.1 (by decide)) h ?_
  rw [q_times h.1 (by decide), q_one, Rat.mul_one]
theorem sum_eq : ∀ (l : List Nat) (z : Nat), l.foldl (fun a b => a + b) z = z + l.sum
  | [], z => rfl
  | x :: l, z => by rw [List.foldl_cons, sum_eq l, List.sum_cons, Nat.add_assoc]
theorem sum_is (l : List Nat) : Lf02.sum l = l.sum := by
  unfold Lf02.sum
  rw [sum_eq, Nat.zero_add]
theorem move_pos {c : Chain} (h : OkC c) {s : State} (hs : IsS c.k s) : 0 < (Lf02.movesOf c s).1 + (Lf02.movesOf c s).2.1 + (Lf02.movesOf c s).2.2 := by
  have := (h.mv s (isS_iff.mpr hs)).2.2.2.1
  omega
theorem good_move {c : Chain} (h : OkC c) {s : State} (hs : IsS c.k s) (m : Nat) : Good (Lf02.move c s m) := good_frac (move_pos h hs)
/-- the letters' weights that a state has -/
def lw (c : Chain) (s : State) : List Nat := if s.sort = 0 then c.letters.getD (s.place - 1) [] else c.ground
theorem lw_ok {c : Chain} (h : OkC c) {s : State} (h1 : s.sort = 0 → 0 < s.place ∧ s.place ≤ c.k) : (lw c s).length = 4 ∧ (∀ a ∈ lw c s, a ≤ 99) ∧ 0 < Lf02.sum (lw c s) := by
  unfold lw
  split
  · rename_i e
    have p := h1 e
    have i : s.place - 1 < c.letters.length := by rw [h.ll]; omega
    rw [List.getD_eq_getElem?_getD, List.getElem?_eq_getElem i, Option.getD_some]
    exact h.l4 _ (List.getElem_mem i)
  · exact h.g4
theorem good_letter {c : Chain} (h : OkC c) {s : State} (h1 : s.sort = 0 → 0 < s.place ∧ s.place ≤ c.k) (a : Nat) : Good (Lf02.letter c s a) := good_frac (lw_ok h h1).2.2
theorem good_next {c : Chain} (h : OkC c) {s : State} (hs : IsS c.k s) {w : Word} {x : Option State × Word × Frac} (hx : x ∈ Lf02.nexts c s w) : Good x.2.2 := by
  rcases mem_nexts hs.2.1 hx with ⟨e, _, _⟩ | ⟨a, r', rfl, hk, e⟩ | ⟨a, r', rfl, e⟩ | ⟨hk, e⟩
  · rw [e]; exact good_move h hs 0
  · rw [e]; exact good_times (good_move h hs 0).1 (good_letter h (s := ⟨0, s.place + 1⟩) (fun _ => ⟨Nat.succ_pos _, hk⟩) a).1
  · rw [e]; exact good_times (good_move h hs 1).1 (good_letter h (s := ⟨1, s.place⟩) (fun z => by cases z) a).1
  · rw [e]; exact good_move h hs 2
theorem isS_next {c : Chain} {s t : State} {w r : Word} {f : Frac} (hs : IsS c.k s) (h : (some t, r, f) ∈ Lf02.nexts c s w) : IsS c.k t := by
  have n := next_some hs.2.1 h
  exact ⟨n.2.2.1, n.1, n.2.2.2⟩
/-- one turn -/
theorem wf_step {c : Chain} (h : OkC c) {s : State} (hs : IsS c.k s) (w : Word) : wf c s w = (cand c s w).flatMap fun x => ext (goOn x.1) x.2.2 (behind c x.1 x.2.1) := by
  unfold wf cand
  rw [Lf02.waysFrom]
  refine flatMap_eq fun x hx => ?_
  have hm := (List.mem_filter.mp hx).1
  obtain ⟨o, r, p⟩ := x
  cases o with
  | none =>
    show [([], p)] = [([], Lf02.times p ⟨1, 1⟩)]
    rw [times_one (good_next h hs hm)]
  | some t =>
    have n := next_some hs.2.1 hm
    show (Lf02.waysFrom c (fu c s w) t r).map _ = ext (goOn (some t)) p (wf c t r)
    rw [ways_wf n.1 (by omega)]
    rfl
theorem pos_flat {c : Chain} {s : State} {w : Word} {F : Option State → Word → List Way} (hg : ∀ x ∈ Lf02.nexts c s w, Good x.2.2) (hF : ∀ x ∈ Lf02.nexts c s w, Pos (F x.1 x.2.1)) :
    Pos ((cand c s w).flatMap fun x => ext (goOn x.1) x.2.2 (F x.1 x.2.1)) := by
  intro y hy
  obtain ⟨x, hx, hy⟩ := List.mem_flatMap.mp hy
  have m := List.mem_filter.mp hx
  exact pos_ext (hg x m.1) (by simpa using m.2) (hF x m.1) y hy
theorem pos_wf {c : Chain} (h : OkC c) : ∀ (f : Nat) (s : State) (w : Word), IsS c.k s → fu c s w ≤ f → Pos (wf c s w)
  | f, s, w, hs, hf => by
    rw [wf_step h hs]
    refine pos_flat (fun x hx => good_next h hs hx) fun x hx => ?_
    obtain ⟨o, r, p⟩ := x
    cases o with
    | none =>
      intro y hy
      have e : y = ([], ⟨1, 1⟩) := by simpa [behind] using hy
      rw [e]
      exact ⟨good_one, by decide⟩
    | some t =>
      have n := next_some hs.2.1 hx
      match f, hf with
      | 0, hf => omega
      | f + 1, hf => exact pos_wf h f t r (isS_next hs hx) (by omega)
theorem pos_ways {c : Chain} (h : OkC c) {s : State} {w : Word} (hs : IsS c.k s) : Pos (wf c s w) := pos_wf h _ s w hs (Nat.le_refl _)
theorem pos_behind {c : Chain} (h : OkC c) {s : State} {w : Word} (hs : IsS c.k s) {x : Option State × Word × Frac} (hx : x ∈ Lf02.nexts c s w) : Pos (behind c x.1 x.2.1) := by
  obtain ⟨o, r, p⟩ := x
  cases o with
  | none =>
    intro y hy
    have e : y = ([], ⟨1, 1⟩) := by simpa [behind] using hy
    rw [e]
    exact ⟨good_one, by decide⟩
  | some t => exact pos_ways h (isS_next hs hx)
/-- what is known of the ways from a state on, step by step -/
theorem rOf_fold {F : Option State → Word → List Way} : ∀ (l : List (Option State × Word × Frac)) (A : List Way), Pos A → (∀ x ∈ l, Good x.2.2 ∧ x.2.2.n ≠ 0 ∧ Pos (F x.1 x.2.1)) →
    rOf (A ++ l.flatMap fun x => ext (goOn x.1) x.2.2 (F x.1 x.2.1)) = l.foldl (fun r x => addStep r x.2.2 (goOn x.1) (rOf (F x.1 x.2.1))) (rOf A)
  | [], A, _, _ => by rw [List.flatMap_nil, List.append_nil, List.foldl_nil]
  | x :: l, A, hA, h => by
    have hx := h x (List.mem_cons_self ..)
    have hp : Pos (A ++ ext (goOn x.1) x.2.2 (F x.1 x.2.1)) := fun y hy => by
      rcases List.mem_append.mp hy with z | z
      · exact hA y z
      · exact pos_ext hx.1 hx.2.1 hx.2.2 y z
    rw [List.flatMap_cons, ← List.append_assoc, rOf_fold l _ hp fun y hy => h y (List.mem_cons_of_mem _ hy), rOf_add hx.1 hx.2.1 hA hx.2.2, List.foldl_cons]
theorem rOf_wf {c : Chain} (h : OkC c) {s : State} (hs : IsS c.k s) (w : Word) :
    rOf (wf c s w) = (cand c s w).foldl (fun r x => addStep r x.2.2 (goOn x.1) (rOf (behind c x.1 x.2.1))) (rOf []) := by
  rw [wf_step h hs w]
  refine rOf_fold (F := behind c) (cand c s w) [] (fun y hy => by cases hy) fun x hx => ?_
  have m := List.mem_filter.mp hx
  exact ⟨good_next h hs m.1, by simpa using m.2, pos_behind h hs m.1⟩
end Fc

/-! How great the numbers can grow: every chance is a whole multiple of 1 / N ^ e. -/
namespace Fc
open Lf02 (Frac State Chain Word)
/-- a whole number of D-ths -/
def Di (D : Nat) (r : Rat) : Prop := ∃ k : Nat, r * (D : Rat) = (k : Rat)
theorem Di.add {D : Nat} {a b : Rat} (ha : Di D a) (hb : Di D b) : Di D (a + b) := by
  obtain ⟨x, hx⟩ := ha
  obtain ⟨y, hy⟩ := hb
  refine ⟨x + y, ?_⟩
  rw [Rat.add_mul, hx, hy, Rat.natCast_add]
theorem Di.mul {D E : Nat} {a b : Rat} (ha : Di D a) (hb : Di E b) : Di (D * E) (a * b) := by
  obtain ⟨x, hx⟩ := ha
  obtain ⟨y, hy⟩ := hb
  refine ⟨x * y, ?_⟩
  rw [Rat.natCast_mul, Rat.natCast_mul, ← hx, ← hy]
  grind
theorem Di.zero {D : Nat} : Di D 0 := ⟨0, by rw [Rat.zero_mul]; rfl⟩
theorem Di.one {D : Nat} : Di D 1 := ⟨D, by rw [Rat.one_mul]⟩
theorem Di.up {D E : Nat} {a : Rat} (ha : Di D a) : Di (D * E) a := by
  have h := ha.mul (Di.one (D := E))
  rw [Rat.mul_one] at h
  exact h
theorem Di.dvd {D E : Nat} {a : Rat} (ha : Di D a) (h : D ∣ E) : Di E a := by
  obtain ⟨k, rfl⟩ := h
  exact ha.up
theorem Di.sum {D : Nat} : ∀ {l : List Rat}, (∀ x ∈ l, Di D x) → Di D l.sum
  | [], _ => Di.zero
  | x :: l, h => by
    rw [List.sum_cons]
    exact (h x (List.mem_cons_self ..)).add (Di.sum fun y hy => h y (List.mem_cons_of_mem _ hy))
theorem d_dvd {f : Frac} (hf : Good f) {D : Nat} (h : Di D (q f)) : f.d ∣ D := by
  obtain ⟨k, hk⟩ := h
  have pd : (f.d : Rat) ≠ 0 := fun z => by
    have := Rat.natCast_eq_zero_iff.mp z
    have := hf.1
    omega
  have e : (f.n : Rat) * (D : Rat) = (k : Rat) * (f.d : Rat) := by
    rw [← hk, q_def, Rat.mul_assoc, Rat.mul_comm (D : Rat), ← Rat.mul_assoc, Rat.div_mul_cancel pd]
  rw [← Rat.natCast_mul, ← Rat.natCast_mul] at e
  have e' : f.n * D = k * f.d := Rat.natCast_inj.mp e
  have hd : f.d ∣ f.n * D := ⟨k, by rw [e', Nat.mul_comm]⟩
  have co : Nat.Coprime f.d f.n := by
    show Nat.gcd f.d f.n = 1
    rw [Nat.gcd_comm]
    exact hf.2
  exact Nat.Coprime.dvd_of_dvd_mul_left co hd
theorem di_of_d {f : Frac} (hf : 0 < f.d) : Di f.d (q f) := by
  refine ⟨f.n, ?_⟩
  rw [q_def, Rat.div_mul_cancel]
  exact fun z => by
    have := Rat.natCast_eq_zero_iff.mp z
    omega
theorem n_le {f : Frac} (hf : 0 < f.d) {B : Nat} (h : q f ≤ (B : Rat)) : f.n ≤ B * f.d := by
  have pd : (0 : Rat) < (f.d : Rat) := Rat.natCast_pos.mpr hf
  have h2 := Rat.mul_le_mul_of_nonneg_right (c := (f.d : Rat)) h (Rat.le_of_lt pd)
  rw [q_def, Rat.div_mul_cancel (Rat.ne_of_gt pd), ← Rat.natCast_mul] at h2
  exact Rat.natCast_le_natCast.mp h2
theorem q_le_one {n d : Nat} (h : 0 < d) (hn : n ≤ d) : q (Lf02.frac n d) ≤ 1 := by
  have pd : (0 : Rat) < (d : Rat) := Rat.natCast_pos.mpr h
  rw [q_frac h, Rat.mkRat_eq_div]
  refine Rat.not_lt.mp fun z => ?_
  have z2 := (Rat.lt_div_iff pd).mp z
  rw [Rat.one_mul] at z2
  have z3 : ((d : Nat) : Rat) < ((n : Nat) : Rat) := z2
  have := Rat.natCast_lt_natCast.mp z3
  omega
theorem di_frac {n d : Nat} (h : 0 < d) : Di d (q (Lf02.frac n d)) := by
  rw [q_frac h, Rat.mkRat_eq_div]
  refine ⟨n, ?_⟩
  rw [Rat.div_mul_cancel]
  · rfl
  · exact fun z => by
      have := Rat.natCast_eq_zero_iff.mp z
      omega
theorem mul_le_one {a b : Rat} (ha0 : 0 ≤ a) (ha : a ≤ 1) (hb0 : 0 ≤ b) (hb : b ≤ 1) : a * b ≤ 1 := by
  have h := Rat.mul_le_mul_of_nonneg_right ha hb0
  rw [Rat.one_mul] at h
  exact Rat.le_trans h hb
/-! the common denominator -/
def prod : List Nat → Nat
  | [] => 1
  | x :: l => x * prod l
theorem dvd_prod : ∀ {l : List Nat} {x : Nat}, x ∈ l → x ∣ prod l
  | [], x, h => by cases h
  | y :: l, x, h => by
    rcases List.mem_cons.mp h with e | e
    · subst e
      exact ⟨prod l, rfl⟩
    · exact Nat.dvd_trans (dvd_prod e) ⟨y, by rw [prod, Nat.mul_comm]⟩
theorem prod_pos : ∀ {l : List Nat}, (∀ x ∈ l, 0 < x) → 0 < prod l
  | [], _ => by decide
  | x :: l, h => Nat.mul_pos (h x (List.mem_cons_self ..)) (prod_pos fun y hy => h y (List.mem_cons_of_mem _ hy))
theorem prod_le {B : Nat} : ∀ {l : List Nat}, (∀ x ∈ l, x ≤ B) → prod l ≤ B ^ l.length
  | [], _ => Nat.le_refl _
  | x :: l, h => by
    rw [prod, List.length_cons, Nat.pow_succ, Nat.mul_comm (B ^ l.length)]
    exact Nat.mul_le_mul (h x (List.mem_cons_self ..)) (prod_le fun y hy => h y (List.mem_cons_of_mem _ hy))
def msum (c : Chain) (s : State) : Nat := (Lf02.movesOf c s).1 + (Lf02.movesOf c s).2.1 + (Lf02.movesOf c s).2.2
def den (c : Chain) : Nat := prod ((Lf02.states c.k).map (msum c)) * prod ((c.ground :: c.letters).map Lf02.sum)
theorem mem_states {k : Nat} {s : State} : s ∈ Lf02.states k ↔ IsS k s := by
  obtain ⟨so, p⟩ := s
  unfold Lf02.states IsS
  simp only [List.mem_flatMap, List.mem_range]
  constructor
  · rintro ⟨i, hi, h⟩
    by_cases e : i = 0
    · rw [if_pos e] at h
      simp only [List.mem_cons, List.mem_nil_iff, or_false, State.mk.injEq] at h
      omega
    · rw [if_neg e] at h
      simp only [List.mem_cons, List.mem_nil_iff, or_false, State.mk.injEq] at h
      omega
  · rintro ⟨h1, h2, h3⟩
    refine ⟨p, by show p < k + 1; omega, ?_⟩
    have h1' : so ≤ 2 := h1
    have h3' : so = 2 → 0 < p := h3
    by_cases e : p = 0
    · rw [if_pos e]
      simp only [List.mem_cons, List.mem_nil_iff, or_false, State.mk.injEq]
      omega
    · rw [if_neg e]
      simp only [List.mem_cons, List.mem_nil_iff, or_false, State.mk.injEq, and_true]
      omega
theorem msum_dvd {c : Chain} {s : State} (hs : IsS c.k s) : msum c s ∣ den c := Nat.dvd_trans (dvd_prod (List.mem_map_of_mem (mem_states.mpr hs))) ⟨_, rfl⟩
theorem lw_mem {c : Chain} (h : OkC c) {s : State} (h1 : s.sort = 0 → 0 < s.place ∧ s.place ≤ c.k) : lw c s ∈ c.ground :: c.letters := by
  unfold lw
  split
  · rename_i e
    have p := h1 e
    have i : s.place - 1 < c.letters.length := by rw [h.ll]; omega
    rw [List.getD_eq_getElem?_getD, List.getElem?_eq_getElem i, Option.getD_some]
    exact List.mem_cons_of_mem _ (List.getElem_mem i)
  · exact List.mem_cons_self ..
/-- one move and one letter together -/
theorem ml_dvd {c : Chain} (h : OkC c) {s t : State} (hs : IsS c.k s) (h1 : t.sort = 0 → 0 < t.place ∧ t.place ≤ c.k) : msum c s * Lf02.sum (lw c t) ∣ den c :=
  Nat.mul_dvd_mul (dvd_prod (List.mem_map_of_mem (mem_states.mpr hs))) (dvd_prod (List.mem_map_of_mem (lw_mem h h1)))
theorem states_length (k : Nat) : (Lf02.states k).length = 3 * k + 2 := by
  induction k with
  | zero => rfl
  | succ k ih =>
    have e : Lf02.states (k + 1) = Lf02.states k ++ [⟨0, k + 1⟩, ⟨1, k + 1⟩, ⟨2, k + 1⟩] := by
      unfold Lf02.states
      rw [List.range_succ, List.flatMap_append]
      rfl
    rw [e, List.length_append, ih]
    show 3 * k + 2 + 3 = _
    omega
theorem le_sum : ∀ {l : List Nat} {x : Nat}, x ∈ l → x ≤ l.sum
  | [], x, h => by cases h
  | y :: l, x, h => by
    rw [List.sum_cons]
    rcases List.mem_cons.mp h with e | e
    · omega
    · have := le_sum e
      omega
theorem sum99 : ∀ l : List Nat, (∀ a ∈ l, a ≤ 99) → l.sum ≤ 99 * l.length
  | [], _ => Nat.le_refl 0
  | x :: l, h => by
    have h1 := h x (List.mem_cons_self ..)
    have h2 := sum99 l fun a ha => h a (List.mem_cons_of_mem _ ha)
    rw [List.sum_cons, List.length_cons]
    omega
theorem den_pos {c : Chain} (h : OkC c) : 0 < den c := by
  refine Nat.mul_pos (prod_pos fun x hx => ?_) (prod_pos fun x hx => ?_)
  · obtain ⟨s, hs, rfl⟩ := List.mem_map.mp hx
    exact move_pos h (mem_states.mp hs)
  · obtain ⟨l, hl, rfl⟩ := List.mem_map.mp hx
    rcases List.mem_cons.mp hl with e | e
    · rw [e]; exact h.g4.2.2
    · exact (h.l4 l e).2.2
theorem den_le {c : Chain} (h : OkC c) : den c ≤ 2 ^ 171 := by
  have h1 : prod ((Lf02.states c.k).map (msum c)) ≤ 512 ^ 14 := by
    refine Nat.le_trans (prod_le (B := 512) fun x hx => ?_) ?_
    · obtain ⟨s, hs, rfl⟩ := List.mem_map.mp hx
      have z := h.mv s (isS_iff.mpr (mem_states.mp hs))
      unfold msum
      omega
    · rw [List.length_map, states_length]
      have := h.k4
      exact Nat.pow_le_pow_right (by decide) (by omega)
  have h2 : prod ((c.ground :: c.letters).map Lf02.sum) ≤ 512 ^ 5 := by
    refine Nat.le_trans (prod_le (B := 512) fun x hx => ?_) ?_
    · obtain ⟨l, hl, rfl⟩ := List.mem_map.mp hx
      rw [sum_is]
      rcases List.mem_cons.mp hl with e | e
      · have z := sum99 l (e ▸ h.g4.2.1)
        have y : l.length = 4 := e ▸ h.g4.1
        omega
      · have z := sum99 l (h.l4 l e).2.1
        have y := (h.l4 l e).1
        omega
    · rw [List.length_map, List.length_cons, h.ll]
      have := h.k4
      exact Nat.pow_le_pow_right (by decide) (by omega)
  have h3 : (512 : Nat) ^ 14 * 512 ^ 5 = 2 ^ 171 := by decide
  rw [← h3]
  exact Nat.mul_le_mul h1 h2
/-- every next step -/
theorem next_di {c : Chain} (h : OkC c) {s : State} (hs : IsS c.k s) {w : Word} {x : Option State × Word × Frac} (hx : x ∈ Lf02.nexts c s w) : Di (den c) (q x.2.2) ∧ q x.2.2 ≤ 1 := by
  have hm : ∀ m, Di (msum c s) (q (Lf02.move c s m)) ∧ q (Lf02.move c s m) ≤ 1 := fun m => by
    refine ⟨di_frac (move_pos h hs), q_le_one (move_pos h hs) ?_⟩
    show (if m = 0 then _ else if m = 1 then _ else _) ≤ _
    split
    · omega
    · split <;> omega
  have hl : ∀ (t : State) (a : Nat), (t.sort = 0 → 0 < t.place ∧ t.place ≤ c.k) → Di (Lf02.sum (lw c t)) (q (Lf02.letter c t a)) ∧ q (Lf02.letter c t a) ≤ 1 := fun t a h1 => by
    have kk := lw_ok h h1
    refine ⟨di_frac kk.2.2, q_le_one kk.2.2 ?_⟩
    show (lw c t).getD a 0 ≤ Lf02.sum (lw c t)
    rw [sum_is, List.getD_eq_getElem?_getD]
    cases e : (lw c t)[a]? with
    | none => exact Nat.zero_le _
    | some y =>
      have : y ∈ lw c t := List.mem_of_getElem? e
      exact le_sum this
  have ml : ∀ (m a : Nat) (t : State), (t.sort = 0 → 0 < t.place ∧ t.place ≤ c.k) → Di (den c) (q (Lf02.times (Lf02.move c s m) (Lf02.letter c t a))) ∧ q (Lf02.times (Lf02.move c s m) (Lf02.letter c t a)) ≤ 1 := fun m a t h1 => by
    rw [q_times (good_move h hs m).1 (good_letter h h1 a).1]
    exact ⟨((hm m).1.mul (hl t a h1).1).dvd (ml_dvd h hs h1), mul_le_one (q_nonneg _) (hm m).2 (q_nonneg _) (hl t a h1).2⟩
  rcases mem_nexts hs.2.1 hx with ⟨e, _, _⟩ | ⟨a, r', rfl, hk, e⟩ | ⟨a, r', rfl, e⟩ | ⟨hk, e⟩
  · rw [e]; exact ⟨(hm 0).1.dvd (msum_dvd hs), (hm 0).2⟩
  · rw [e]; exact ml 0 a ⟨0, s.place + 1⟩ (fun _ => ⟨Nat.succ_pos _, hk⟩)
  · rw [e]; exact ml 1 a ⟨1, s.place⟩ (fun z => by cases z)
  · rw [e]; exact ⟨(hm 2).1.dvd (msum_dvd hs), (hm 2).2⟩
/-- a list of ways within bounds -/
structure Wb (D n : Nat) (L : List Way) : Prop where
  pos : Pos L
  di : ∀ y ∈ L, Di D (q y.2)
  le : ∀ y ∈ L, q y.2 ≤ 1
  len : L.length ≤ n
theorem cand_len {c : Chain} {s : State} {w : Word} : (cand c s w).length ≤ 3 := by
  refine Nat.le_trans (List.length_filter_le _ _) ?_
  unfold Lf02.nexts
  cases w <;> (by_cases e : s.place < c.k) <;> simp [e]
theorem flat_len {α β : Type} {f : α → List β} {n : Nat} : ∀ {l : List α}, (∀ x ∈ l, (f x).length ≤ n) → (l.flatMap f).length ≤ l.length * n
  | [], _ => by simp
  | x :: l, h => by
    have h1 := h x (List.mem_cons_self ..)
    have h2 := flat_len fun y hy => h y (List.mem_cons_of_mem _ hy)
    rw [List.flatMap_cons, List.length_append, List.length_cons, Nat.add_mul, Nat.one_mul]
    omega
theorem wb_behind {c : Chain} (o : Option State) (r : Word) (D n : Nat) (hn : 1 ≤ n) (h : ∀ t, o = some t → Wb D n (wf c t r)) : Wb D n (behind c o r) := by
  cases o with
  | some t => exact h t rfl
  | none =>
    have a : ∀ y ∈ behind c none r, y = ([], ⟨1, 1⟩) := fun y hy => by simpa [behind] using hy
    refine ⟨fun y hy => ?_, fun y hy => ?_, fun y hy => ?_, hn⟩
    · rw [a y hy]; exact ⟨good_one, by decide⟩
    · rw [a y hy]; show Di D (q ⟨1, 1⟩); rw [q_one]; exact Di.one
    · rw [a y hy]; show q ⟨1, 1⟩ ≤ 1; rw [q_one]; exact Rat.le_refl
theorem wb_wf {c : Chain} (h : OkC c) : ∀ (f : Nat) (s : State) (w : Word), IsS c.k s → fu c s w ≤ f → Wb (den c ^ (f + 1)) (3 ^ (f + 1)) (wf c s w)
  | f, s, w, hs, hf => by
    have key : ∀ x ∈ Lf02.nexts c s w, Wb (den c ^ f) (3 ^ f) (behind c x.1 x.2.1) := fun x hx => by
      refine wb_behind x.1 x.2.1 _ _ (Nat.one_le_pow _ _ (by decide)) fun t ht => ?_
      have hx' : (some t, x.2.1, x.2.2) ∈ Lf02.nexts c s w := by rw [← ht]; exact hx
      have n := next_some hs.2.1 hx'
      match f, hf with
      | 0, hf => omega
      | f + 1, hf => exact wb_wf h f t _ (isS_next hs hx') (by omega)
    have all : ∀ y ∈ wf c s w, Di (den c ^ (f + 1)) (q y.2) ∧ q y.2 ≤ 1 := fun y hy => by
      rw [wf_step h hs w] at hy
      obtain ⟨x, hx, hy⟩ := List.mem_flatMap.mp hy
      have hm := (List.mem_filter.mp hx).1
      obtain ⟨z, hz, rfl⟩ := List.mem_map.mp hy
      have kx := key x hm
      have nd := next_di h hs hm
      show Di _ (q (Lf02.times x.2.2 z.2)) ∧ q (Lf02.times x.2.2 z.2) ≤ 1
      rw [q_times (good_next h hs hm).1 (kx.pos z hz).1.1]
      refine ⟨?_, mul_le_one (q_nonneg _) nd.2 (q_nonneg _) (kx.le z hz)⟩
      rw [Nat.pow_succ, Nat.mul_comm]
      exact nd.1.mul (kx.di z hz)
    refine ⟨pos_ways h hs, fun y hy => (all y hy).1, fun y hy => (all y hy).2, ?_⟩
    rw [wf_step h hs w]
    refine Nat.le_trans (flat_len (n := 3 ^ f) fun x hx => ?_) ?_
    · show (ext _ _ _).length ≤ _
      unfold ext
      rw [List.length_map]
      exact (key x (List.mem_filter.mp hx).1).len
    · rw [Nat.pow_succ, Nat.mul_comm]
      exact Nat.mul_le_mul_left _ cand_len
theorem sum_le_len : ∀ {l : List Rat}, (∀ x ∈ l, x ≤ 1) → l.sum ≤ (l.length : Rat)
  | [], _ => Rat.le_refl
  | x :: l, h => by
    have h1 := h x (List.mem_cons_self ..)
    have h2 := sum_le_len fun y hy => h y (List.mem_cons_of_mem _ hy)
    rw [List.sum_cons, List.length_cons, Rat.natCast_add]
    have e : ((1 : Nat) : Rat) = 1 := rfl
    rw [e]
    grind
/-- what is reckoned of a list within bounds -/
theorem wb_total {D n : Nat} {L : List Way} (hD : 0 < D) (h : Wb D n L) : Good (Lf02.sumF (L.map fun y => y.2)) ∧ (Lf02.sumF (L.map fun y => y.2)).d ≤ D ∧ (Lf02.sumF (L.map fun y => y.2)).n ≤ n * D := by
  have dL : ∀ y ∈ L.map (fun y : Way => y.2), 0 < y.d := fun y hy => by obtain ⟨z, hz, rfl⟩ := List.mem_map.mp hy; exact (h.pos z hz).1.1
  have g := good_sumF dL
  have e := q_sumF dL
  have di : Di D (q (Lf02.sumF (L.map fun y => y.2))) := by
    rw [e]
    refine Di.sum fun x hx => ?_
    obtain ⟨y, hy, rfl⟩ := List.mem_map.mp hx
    obtain ⟨z, hz, rfl⟩ := List.mem_map.mp hy
    exact h.di z hz
  have dd := Nat.le_of_dvd hD (d_dvd g di)
  have le : q (Lf02.sumF (L.map fun y => y.2)) ≤ ((L.length : Nat) : Rat) := by
    rw [e]
    refine Rat.le_trans (sum_le_len fun x hx => ?_) ?_
    · obtain ⟨y, hy, rfl⟩ := List.mem_map.mp hx
      obtain ⟨z, hz, rfl⟩ := List.mem_map.mp hy
      exact h.le z hz
    · rw [List.length_map, List.length_map]; exact Rat.le_refl
  refine ⟨g, dd, Nat.le_trans (n_le g.1 le) (Nat.mul_le_mul h.len dd)⟩
theorem one_b {D : Nat} (hD : 0 < D) {f : Frac} (g : Good f) (di : Di D (q f)) (le : q f ≤ 1) : f.d ≤ D ∧ f.n ≤ D := by
  have dd := Nat.le_of_dvd hD (d_dvd g di)
  have l1 : q f ≤ ((1 : Nat) : Rat) := le
  have := n_le g.1 l1
  exact ⟨dd, by omega⟩
theorem wb_top {D n : Nat} {L : List Way} (hD : 0 < D) (h : Wb D n L) : Good (topOf L) ∧ (topOf L).d ≤ D ∧ (topOf L).n ≤ D := by
  refine ⟨good_top h.pos, ?_⟩
  cases e : bst L with
  | none =>
    have t : topOf L = ⟨0, 1⟩ := by unfold topOf; rw [e]
    rw [t]
    exact ⟨hD, Nat.zero_le _⟩
  | some b =>
    rw [top_some e]
    have m := bst_mem e
    exact one_b hD (h.pos b m).1 (h.di b m) (h.le b m)
theorem Wb.sub {D n : Nat} {L M : List Way} (h : Wb D n L) (hs : ∀ y ∈ M, y ∈ L) (hl : M.length ≤ L.length) : Wb D n M :=
  ⟨fun y hy => h.pos y (hs y hy), fun y hy => h.di y (hs y hy), fun y hy => h.le y (hs y hy), Nat.le_trans hl h.len⟩
theorem Wb.ext {D E n : Nat} {L : List Way} {x : Frac} {g : List State → List State} (h : Wb D n L) (gx : Good x) (x0 : x.n ≠ 0) (dx : Di E (q x)) (lx : q x ≤ 1) : Wb (E * D) n (ext g x L) := by
  have a : ∀ y ∈ Fc.ext g x L, Di (E * D) (q y.2) ∧ q y.2 ≤ 1 := fun y hy => by
    obtain ⟨z, hz, rfl⟩ := List.mem_map.mp hy
    show Di _ (q (Lf02.times x z.2)) ∧ q (Lf02.times x z.2) ≤ 1
    rw [q_times gx.1 (h.pos z hz).1.1]
    exact ⟨dx.mul (h.di z hz), mul_le_one (q_nonneg _) lx (q_nonneg _) (h.le z hz)⟩
  refine ⟨pos_ext gx x0 h.pos, fun y hy => (a y hy).1, fun y hy => (a y hy).2, ?_⟩
  unfold Fc.ext
  rw [List.length_map]
  exact h.len
end Fc

/-! Calls read from one list, step by step. -/
namespace Fc
def nOf (p : Int) : Nat := if p = 2 then 5 else if p = 0 ∨ p = 1 ∨ p = 6 ∨ p = 7 then 1 else 0
def hasRow (p : Int) : Bool := decide (p = 1 ∨ p = 3 ∨ p = 4 ∨ p = 5 ∨ p = 6 ∨ p = 8)
theorem shape_is {p : Int} {n k : Nat} (h : PyLf02.shape p = some (n, k)) : 0 ≤ p ∧ p ≤ 10 ∧ n = nOf p ∧ k = (if hasRow p = true then 1 else 0) := by
  by_cases h0 : 0 ≤ p ∧ p ≤ 10
  · refine ⟨h0.1, h0.2, ?_⟩
    have hp : p = 0 ∨ p = 1 ∨ p = 2 ∨ p = 3 ∨ p = 4 ∨ p = 5 ∨ p = 6 ∨ p = 7 ∨ p = 8 ∨ p = 9 ∨ p = 10 := by omega
    rcases hp with rfl | rfl | rfl | rfl | rfl | rfl | rfl | rfl | rfl | rfl | rfl <;>
      (have e : _ = some (n, k) := h; simp [PyLf02.shape] at e; exact ⟨e.1.symm, e.2.symm⟩)
  · exfalso
    unfold PyLf02.shape at h
    iterate 11 rw [if_neg (by omega)] at h
    cases h
def rowL : Option (List Int) → List Int
  | none => []
  | some r => (r.length : Int) :: r
/-- one call of the list: its place, its numbers, its row -/
structure Part (l : List Int) (p : Int) (nums : List Int) (row : Option (List Int)) (rest : List Int) : Prop where
  lo : 0 ≤ p
  hi : p ≤ 10
  len : nums.length = nOf p
  has : row.isSome = hasRow p
  eq : l = p :: (nums ++ rowL row ++ rest)
def rawOf (p : Int) (nums : List Int) (row : Option (List Int)) : List (List Int) := (p :: nums) :: (match row with
  | none => []
  | some r => [r])
theorem take_len {α : Type} {l : List α} {n : Nat} (h : ¬ l.length < n) : (l.take n).length = n := by
  rw [List.length_take]
  omega
theorem calls_step {f : Nat} {l : List Int} {cs : List (List (List Int))} (h : PyFlat.calls PyLf02.shape f l = some cs) (hl : l ≠ []) :
    ∃ f' p nums row rest cs', Part l p nums row rest ∧ cs = rawOf p nums row :: cs' ∧ PyFlat.calls PyLf02.shape f' rest = some cs' := by
  cases l with
  | nil => exact absurd rfl hl
  | cons p r =>
    cases f with
    | zero => simp [PyFlat.calls] at h
    | succ f =>
      rw [PyFlat.calls] at h
      cases hc : PyFlat.call PyLf02.shape (p :: r) with
      | none => rw [hc] at h; cases h
      | some ct =>
        obtain ⟨c, t⟩ := ct
        rw [hc] at h
        cases hr : PyFlat.calls PyLf02.shape f t with
        | none => simp [hr] at h
        | some cs' =>
          simp [hr] at h
          subst h
          rw [PyFlat.call] at hc
          cases hs : PyLf02.shape p with
          | none => rw [hs] at hc; cases hc
          | some nk =>
            obtain ⟨n, k⟩ := nk
            obtain ⟨lo, hi, hn, hk⟩ := shape_is hs
            rw [hs] at hc
            simp only at hc
            by_cases hlen : r.length < n
            · rw [if_pos hlen] at hc; cases hc
            · rw [if_neg hlen] at hc
              by_cases hrow : hasRow p = true
              · rw [if_pos hrow] at hk
                subst hk
                simp only [PyFlat.rows] at hc
                cases hd : r.drop n with
                | nil => rw [hd] at hc; simp [PyFlat.row] at hc
                | cons m s =>
                  rw [hd] at hc
                  by_cases hm : 0 ≤ m ∧ m.toNat ≤ s.length
                  · simp only [PyFlat.row, if_pos hm] at hc
                    have e := Option.some.inj hc
                    injection e with e1 e2
                    refine ⟨f, p, r.take n, some (s.take m.toNat), t, cs', ⟨lo, hi, ?_, by rw [hrow]; rfl, ?_⟩, ?_, hr⟩
                    · rw [take_len hlen, hn]
                    · have em : (((s.take m.toNat).length : Nat) : Int) = m := by
                        rw [List.length_take]
                        omega
                      show p :: r = p :: (r.take n ++ (((s.take m.toNat).length : Int) :: s.take m.toNat) ++ t)
                      rw [em, ← e2, List.append_assoc, List.cons_append, List.take_append_drop, ← hd, List.take_append_drop]
                    · rw [← e1]; rfl
                  · simp only [PyFlat.row, if_neg hm] at hc
                    cases hc
              · have hrow' : hasRow p = false := by simpa using hrow
                rw [if_neg hrow] at hk
                subst hk
                simp only [PyFlat.rows] at hc
                have e := Option.some.inj hc
                injection e with e1 e2
                refine ⟨f, p, r.take n, none, t, cs', ⟨lo, hi, ?_, by rw [hrow']; rfl, ?_⟩, ?_, hr⟩
                · rw [take_len hlen, hn]
                · show p :: r = p :: (r.take n ++ [] ++ t)
                  rw [← e2, List.append_nil, List.take_append_drop]
                · rw [← e1]; rfl
theorem calls_nil {f : Nat} {cs : List (List (List Int))} (h : PyFlat.calls PyLf02.shape f [] = some cs) : cs = [] := by
  cases f <;> (simp [PyFlat.calls] at h; first | exact h | exact h.symm)
theorem whole_is {p : Int} {nums : List Int} {row : Option (List Int)} (lo : 0 ≤ p) (hi : p ≤ 10) (hn : nums.length = nOf p) (hr : row.isSome = hasRow p) :
    (PyLf02.whole (rawOf p nums row)).headD [] = p :: (nums ++ row.getD []) := by
  have hp : p = 0 ∨ p = 1 ∨ p = 2 ∨ p = 3 ∨ p = 4 ∨ p = 5 ∨ p = 6 ∨ p = 7 ∨ p = 8 ∨ p = 9 ∨ p = 10 := by omega
  have l0 : ∀ {x : List Int}, x.length = 0 → x = [] := fun h => List.length_eq_zero_iff.mp h
  rcases hp with rfl | rfl | rfl | rfl | rfl | rfl | rfl | rfl | rfl | rfl | rfl
  · cases row with
    | some r => cases hr
    | none => match nums, hn with | [a], _ => rfl
  · cases row with
    | none => cases hr
    | some r => match nums, hn with | [a], _ => rfl
  · cases row with
    | some r => cases hr
    | none => match nums, hn with | [a, b, c, d, e], _ => rfl
  · cases row with
    | none => cases hr
    | some r => match nums, hn with | [], _ => rfl
  · cases row with
    | none => cases hr
    | some r => match nums, hn with | [], _ => rfl
  · cases row with
    | none => cases hr
    | some r => match nums, hn with | [], _ => rfl
  · cases row with
    | none => cases hr
    | some r => match nums, hn with | [a], _ => rfl
  · cases row with
    | some r => cases hr
    | none => match nums, hn with | [a], _ => rfl
  · cases row with
    | none => cases hr
    | some r => match nums, hn with | [], _ => rfl
  · cases row with
    | some r => cases hr
    | none => match nums, hn with | [], _ => rfl
  · cases row with
    | some r => cases hr
    | none => match nums, hn with | [], _ => rfl
/-- what a machine answers, from a state on -/
def tellFrom (s : Lf02.St) (cs : List (List (List Int))) : List Int := PyFlat.told (PyFlat.played (fun s c => Lf02Neutral.step s (c.headD [])) s (cs.map PyLf02.whole))
theorem tell_nil (s : Lf02.St) : tellFrom s [] = [] := rfl
theorem tell_cons (s : Lf02.St) (c : List (List Int)) (cs : List (List (List Int))) : tellFrom s (c :: cs) =
    ((Lf02Neutral.step s ((PyLf02.whole c).headD [])).2.length : Int) :: (Lf02Neutral.step s ((PyLf02.whole c).headD [])).2 ++ tellFrom (Lf02Neutral.step s ((PyLf02.whole c).headD [])).1 cs := rfl
theorem inside_row {p : Int} {nums : List Int} {r : List Int} (lo : 0 ≤ p) (hi : p ≤ 10) (hr : hasRow p = true) (h : PyInside.call PyLf02.bound (rawOf p nums (some r)) = true) : r.length ≤ 12 := by
  have hp : p = 0 ∨ p = 1 ∨ p = 2 ∨ p = 3 ∨ p = 4 ∨ p = 5 ∨ p = 6 ∨ p = 7 ∨ p = 8 ∨ p = 9 ∨ p = 10 := by omega
  rcases hp with rfl | rfl | rfl | rfl | rfl | rfl | rfl | rfl | rfl | rfl | rfl <;> first | (exact absurd hr (by decide)) | (simp [rawOf, PyInside.call, PyLf02.bound, PyInside.lists] at h; omega)
end Fc

/-! What the calls keep: the chain's weights stay as they should, what is counted stays small. -/
namespace Fc
open Lf02 (Frac State Chain Word)
structure TOk (k : Nat) (t : Lf02.Tally) : Prop where
  few : t.moves.length ≤ 91
  less : t.letters.length + t.ground.length ≤ t.moves.length
structure OkSt (s : Lf02.St) : Prop where
  c : OkC s.chain
  t : TOk s.chain.k s.tally
theorem noTally_ok (k : Nat) : TOk k Lf02.noTally := ⟨Nat.zero_le _, Nat.le_refl _⟩
theorem plain_ok {k : Nat} (h1 : 1 ≤ k) (h4 : k ≤ 4) : OkC (Lf02.plainChain k) := by
  have w : ([1, 1, 1, 1] : List Nat).length = 4 ∧ (∀ a ∈ ([1, 1, 1, 1] : List Nat), a ≤ 99) ∧ 0 < Lf02.sum [1, 1, 1, 1] := ⟨rfl, by decide, by decide⟩
  refine ⟨h1, h4, List.length_replicate, fun l hl => ?_, w, fun s _ => ?_⟩
  · rw [(List.mem_replicate.mp hl).2]
    exact w
  · show 1 ≤ 99 ∧ 1 ≤ 99 ∧ (if s.place = k then 0 else 1) ≤ 99 ∧ 0 < 1 + (if s.place = k then 0 else 1) ∧ (s.place = k → (if s.place = k then 0 else 1) = 0)
    refine ⟨by decide, by decide, by split <;> decide, by split <;> decide, fun e => by rw [if_pos e]⟩
theorem init_ok : OkSt Lf02.init := ⟨plain_ok (by decide) (by decide), noTally_ok _⟩
theorem weights_ok {l : List Nat} (h : Lf02.areWeights l = true) : l.length = 4 ∧ (∀ a ∈ l, a ≤ 99) ∧ 0 < Lf02.sum l := by
  unfold Lf02.areWeights at h
  simp only [Bool.and_eq_true, beq_iff_eq, List.all_eq_true, decide_eq_true_iff] at h
  exact ⟨h.1, h.2.1, h.2.2⟩
theorem mem_set {α : Type} {l : List α} {i : Nat} {x y : α} (h : y ∈ l.set i x) : y = x ∨ y ∈ l := by
  rcases List.mem_or_eq_of_mem_set h with h | h
  · exact .inr h
  · exact .inl h
/-- what the moves are behind a store -/
theorem find_put (l : List (State × (Nat × Nat × Nat))) (s t : State) (m : Nat × Nat × Nat) : (Lf02.putMoves l s m).find? (fun x => x.1 == t) = if t = s then some (s, m) else l.find? (fun x => x.1 == t) := by
  unfold Lf02.putMoves
  rw [List.find?_append]
  by_cases e : t = s
  · subst e
    rw [if_pos rfl]
    have h : (l.filter fun x => x.1 != t).find? (fun x => x.1 == t) = none := by
      rw [List.find?_eq_none]
      intro x hx
      have := (List.mem_filter.mp hx).2
      simp only [bne_iff_ne] at this
      simp [this]
    rw [h]
    simp
  · rw [if_neg e]
    have h : (l.filter fun x => x.1 != s).find? (fun x => x.1 == t) = l.find? (fun x => x.1 == t) := by
      induction l with
      | nil => rfl
      | cons x l ih =>
        by_cases e1 : x.1 = s
        · have h1 : (x.1 != s) = false := by simp [e1]
          rw [List.filter_cons_of_neg (by simp [h1]), ih, List.find?_cons_of_neg]
          simp only [beq_iff_eq]
          exact fun z => e (z.symm.trans e1)
        · have h1 : (x.1 != s) = true := by simp [e1]
          rw [List.filter_cons_of_pos (by simpa using e1)]
          by_cases e2 : x.1 = t
          · rw [List.find?_cons_of_pos (by simp [e2]), List.find?_cons_of_pos (by simp [e2])]
          · rw [List.find?_cons_of_neg (by simp [e2]), List.find?_cons_of_neg (by simp [e2]), ih]
    rw [h]
    have h2 : [(s, m)].find? (fun x => x.1 == t) = none := by
      rw [List.find?_eq_none]
      intro x hx
      rw [List.mem_singleton.mp hx]
      simp only [beq_iff_eq]
      exact fun z => e z.symm
    rw [h2]
    cases l.find? (fun x => x.1 == t) <;> rfl
theorem moves_put (c : Chain) (s t : State) (m : Nat × Nat × Nat) : Lf02.movesOf ⟨c.k, c.letters, c.ground, Lf02.putMoves c.moves s m⟩ t = if t = s then m else Lf02.movesOf c t := by
  unfold Lf02.movesOf
  rw [find_put]
  by_cases e : t = s
  · rw [if_pos e, if_pos e]; rfl
  · rw [if_neg e, if_neg e]
theorem letters_ok {c : Chain} (h : OkC c) {i : Nat} {l : List Nat} (hl : Lf02.areWeights l = true) : OkC ⟨c.k, c.letters.set i l, c.ground, c.moves⟩ ∧ OkC ⟨c.k, c.letters, l, c.moves⟩ := by
  have w := weights_ok hl
  refine ⟨⟨h.k1, h.k4, by show (c.letters.set i l).length = c.k; rw [List.length_set]; exact h.ll, fun x hx => ?_, h.g4, h.mv⟩, ⟨h.k1, h.k4, h.ll, h.l4, w, h.mv⟩⟩
  rcases mem_set hx with e | e
  · rw [e]; exact w
  · exact h.l4 x e
theorem moves_ok {c : Chain} (h : OkC c) {s : State} {a b d : Nat} (h1 : ¬ 99 < a) (h2 : ¬ 99 < b) (h3 : ¬ 99 < d) (h4 : ¬ (s.place = c.k ∧ d ≠ 0)) (h5 : a + d ≠ 0) : OkC ⟨c.k, c.letters, c.ground, Lf02.putMoves c.moves s (a, b, d)⟩ := by
  refine ⟨h.k1, h.k4, h.ll, h.l4, h.g4, fun t ht => ?_⟩
  rw [moves_put]
  by_cases e : t = s
  · rw [if_pos e]
    subst e
    show a ≤ 99 ∧ b ≤ 99 ∧ d ≤ 99 ∧ 0 < a + d ∧ (t.place = c.k → d = 0)
    refine ⟨by omega, by omega, by omega, by omega, fun z => ?_⟩
    by_cases d0 : d = 0
    · exact d0
    · exact absurd ⟨z, d0⟩ h4
  · rw [if_neg e]
    exact h.mv t ht
/-! what is learnt -/
theorem find_map (k : Nat) (g : State → Nat × Nat × Nat) (s : State) (hs : s ∈ Lf02.states k) : ((Lf02.states k).map fun s => (s, g s)).find? (fun x => x.1 == s) = some (s, g s) := by
  revert hs
  generalize Lf02.states k = L
  intro hs
  induction L with
  | nil => cases hs
  | cons x l ih =>
    rw [List.map_cons]
    by_cases e : x = s
    · subst e
      rw [List.find?_cons_of_pos (by simp)]
    · rw [List.find?_cons_of_neg (by simpa using e)]
      exact ih ((List.mem_cons.mp hs).resolve_left fun z => e z.symm)
def cnt (t : Lf02.Tally) (s : State) (m : Nat) : Nat := (t.moves.filter fun x => x == (s, m)).length
def wts (k : Nat) (t : Lf02.Tally) (s : State) : Nat × Nat × Nat := (cnt t s 0 + 1, cnt t s 1 + 1, if s.place = k then 0 else cnt t s 2 + 1)
theorem moves_learnt {k : Nat} {t : Lf02.Tally} {s : State} (hs : IsS k s) : Lf02.movesOf (Lf02.learnt k t) s = wts k t s := by
  have e : (Lf02.learnt k t).moves = (Lf02.states k).map fun s => (s, wts k t s) := rfl
  unfold Lf02.movesOf
  rw [e, find_map k (wts k t) s (mem_states.mpr hs)]
  rfl
theorem sum_pos1 {l : List Nat} (h : ∀ a ∈ l, 1 ≤ a) (h0 : l ≠ []) : 0 < Lf02.sum l := by
  rw [sum_is]
  cases l with
  | nil => exact absurd rfl h0
  | cons x l =>
    have := h x (List.mem_cons_self ..)
    rw [List.sum_cons]
    omega
theorem learnt_ok {k : Nat} {t : Lf02.Tally} (h1 : 1 ≤ k) (h4 : k ≤ 4) (ht : TOk k t) : OkC (Lf02.learnt k t) := by
  have few := ht.few
  have less := ht.less
  have four : ∀ g : Nat → Nat, (∀ a, g a ≤ 91) → ((List.range 4).map fun a => g a + 1).length = 4 ∧ (∀ x ∈ (List.range 4).map fun a => g a + 1, x ≤ 99) ∧ 0 < Lf02.sum ((List.range 4).map fun a => g a + 1) := fun g hg => by
    refine ⟨by rw [List.length_map, List.length_range], fun x hx => ?_, sum_pos1 (fun x hx => ?_) (fun z => by have := congrArg List.length z; rw [List.length_map, List.length_range] at this; cases this)⟩
    · obtain ⟨a, _, rfl⟩ := List.mem_map.mp hx
      have := hg a
      omega
    · obtain ⟨a, _, rfl⟩ := List.mem_map.mp hx
      omega
  refine ⟨h1, h4, by show ((List.range k).map _).length = k; rw [List.length_map, List.length_range], fun l hl => ?_, ?_, fun s hs => ?_⟩
  · obtain ⟨i, _, rfl⟩ := List.mem_map.mp hl
    exact four (fun a => (t.letters.filter fun x => x == (i + 1, a)).length) fun a => Nat.le_trans (List.length_filter_le _ _) (by omega)
  · exact four (fun a => (t.ground.filter fun x => x == a).length) fun a => Nat.le_trans (List.length_filter_le _ _) (by omega)
  · have hs' : IsS k s := isS_iff.mp hs
    rw [moves_learnt hs']
    have c : ∀ m, cnt t s m ≤ 91 := fun m => Nat.le_trans (List.length_filter_le _ _) few
    have c0 := c 0
    have c1 := c 1
    have c2 := c 2
    show cnt t s 0 + 1 ≤ 99 ∧ cnt t s 1 + 1 ≤ 99 ∧ (if s.place = k then 0 else cnt t s 2 + 1) ≤ 99 ∧ 0 < cnt t s 0 + 1 + (if s.place = k then 0 else cnt t s 2 + 1) ∧ (s.place = k → (if s.place = k then 0 else cnt t s 2 + 1) = 0)
    by_cases e : s.place = k
    · rw [if_pos e]
      exact ⟨by omega, by omega, by omega, by omega, fun _ => rfl⟩
    · rw [if_neg e]
      exact ⟨by omega, by omega, by omega, by omega, fun z => absurd z e⟩
theorem movesIn_len : ∀ (p : List State) (s : State), (Lf02.movesIn s p).length = p.length + 1
  | [], s => rfl
  | t :: p, s => by
    show (Lf02.movesIn t p).length + 1 = _
    rw [movesIn_len p t]
    rfl
theorem makes_len : ∀ (p : List State) (w : Word), (Lf02.makes p w).length ≤ p.length
  | [], w => Nat.le_refl _
  | s :: p, w => by
    unfold Lf02.makes
    split
    · have := makes_len p w
      rw [List.length_cons]; omega
    · cases w with
      | nil => exact Nat.zero_le _
      | cons a r =>
        show (Lf02.makes p r).length + 1 ≤ p.length + 1
        have := makes_len p r
        omega
theorem filter_two {α : Type} (f g : α → Bool) (h : ∀ x, ¬ (f x = true ∧ g x = true)) : ∀ l : List α, (l.filter f).length + (l.filter g).length ≤ l.length
  | [] => Nat.le_refl _
  | x :: l => by
    have ih := filter_two f g h l
    have hx := h x
    rw [List.filter_cons, List.filter_cons, List.length_cons]
    by_cases e1 : f x = true
    · have e2 : ¬ g x = true := fun z => hx ⟨e1, z⟩
      rw [if_pos e1, if_neg e2, List.length_cons]
      omega
    · rw [if_neg e1]
      by_cases e2 : g x = true
      · rw [if_pos e2, List.length_cons]; omega
      · rw [if_neg e2]; omega
theorem counted_ok {k : Nat} {t : Lf02.Tally} (h : TOk k t) {p : List State} {w : Word} (hp : ¬ 90 < t.moves.length + p.length) : TOk k (Lf02.counted t p w) := by
  have hm : (Lf02.counted t p w).moves.length = t.moves.length + (p.length + 1) := by
    show (t.moves ++ Lf02.movesIn ⟨0, 0⟩ p).length = _
    rw [List.length_append, movesIn_len]
  refine ⟨by omega, ?_⟩
  rw [hm]
  show (t.letters ++ ((Lf02.makes p w).filter fun x => x.1.sort == 0).map fun x => (x.1.place, x.2)).length + (t.ground ++ ((Lf02.makes p w).filter fun x => x.1.sort == 1).map fun x => x.2).length ≤ _
  rw [List.length_append, List.length_append, List.length_map, List.length_map]
  have f2 := filter_two (fun x : State × Nat => x.1.sort == 0) (fun x => x.1.sort == 1) (fun x z => by
    have a : x.1.sort = 0 := by simpa using z.1
    have b : x.1.sort = 1 := by simpa using z.2
    omega) (Lf02.makes p w)
  have ml := makes_len p w
  have := h.less
  omega
theorem step_ok {s : Lf02.St} (h : OkSt s) (c : Lf02.Call) : OkSt (Lf02.step s c).1 := by
  cases c with
  | start k =>
    show OkSt (if k = 0 ∨ 4 < k then (s, [-1]) else _).1
    split
    · exact h
    · rename_i e
      exact ⟨plain_ok (by omega) (by omega), noTally_ok _⟩
  | emit i l =>
    show OkSt (if s.chain.k < i ∨ Lf02.areWeights l = false then (s, [-1]) else _).1
    split
    · exact h
    · rename_i e
      have hl : Lf02.areWeights l = true := by
        cases z : Lf02.areWeights l with
        | true => rfl
        | false => exact absurd (.inr z) e
      have w := letters_ok h.c (i := i - 1) hl
      show OkSt ⟨if i = 0 then _ else _, s.tally⟩
      split
      · exact ⟨w.2, h.t⟩
      · exact ⟨w.1, h.t⟩
  | moves t i a b d =>
    show OkSt (if Lf02.isState s.chain.k ⟨t, i⟩ = false ∨ 99 < a ∨ 99 < b ∨ 99 < d ∨ (i = s.chain.k ∧ d ≠ 0) ∨ a + d = 0 then (s, [-1]) else _).1
    split
    · exact h
    · rename_i e
      refine ⟨moves_ok h.c (fun z => e (.inr (.inl z))) (fun z => e (.inr (.inr (.inl z)))) (fun z => e (.inr (.inr (.inr (.inl z))))) (fun z => e (.inr (.inr (.inr (.inr (.inl z)))))) (fun z => e (.inr (.inr (.inr (.inr (.inr z)))))), h.t⟩
  | total w => exact h
  | best w => exact h
  | count w => exact h
  | place i w => exact h
  | lengths n => exact h
  | learn w =>
    show OkSt (if Lf02.isWord w = false then (s, [-1]) else (match Lf02.best s.chain w with
      | none => (s, [-6])
      | some x => if 90 < s.tally.moves.length + x.1.1.length then (s, [-5]) else (⟨s.chain, Lf02.counted s.tally x.1.1 w⟩, Lf02.toldWay x.1.1))).1
    split
    · exact h
    · cases Lf02.best s.chain w with
      | none => exact h
      | some x =>
        show OkSt (if 90 < s.tally.moves.length + x.1.1.length then (s, [-5]) else ((⟨s.chain, Lf02.counted s.tally x.1.1 w⟩ : Lf02.St), Lf02.toldWay x.1.1)).1
        split
        · exact h
        · rename_i e
          exact ⟨h.c, counted_ok h.t e⟩
  | take => exact ⟨learnt_ok h.c.k1 h.c.k4 h.t, noTally_ok _⟩
  | shows => exact h
theorem nstep_ok {s : Lf02.St} (h : OkSt s) (c : List Int) : OkSt (Lf02Neutral.step s c).1 := by
  unfold Lf02Neutral.step
  cases Lf02Neutral.callOf c with
  | none => exact h
  | some x => exact step_ok h x
end Fc

/-! How likely so many letters are: enough steps, one turn, bounds. -/
namespace Fc
open Lf02 (Frac State Chain Word)
def fl (c : Chain) (s : State) (n : Nat) : Nat := c.k - s.place + n
def lA (c : Chain) (s : State) (n : Nat) (g : State → Nat → Frac) : Frac := if s.place < c.k then (match n with
  | 0 => ⟨0, 1⟩
  | m + 1 => Lf02.times (Lf02.move c s 0) (g ⟨0, s.place + 1⟩ m)) else if n = 0 then Lf02.move c s 0 else ⟨0, 1⟩
def lB (c : Chain) (s : State) (n : Nat) (g : State → Nat → Frac) : Frac := match n with
  | 0 => ⟨0, 1⟩
  | m + 1 => Lf02.times (Lf02.move c s 1) (g ⟨1, s.place⟩ m)
def lC (c : Chain) (s : State) (n : Nat) (g : State → Nat → Frac) : Frac := if s.place < c.k then Lf02.times (Lf02.move c s 2) (g ⟨2, s.place + 1⟩ n) else ⟨0, 1⟩
/-- one turn, of what stands behind the moves -/
def lstep (c : Chain) (s : State) (n : Nat) (g : State → Nat → Frac) : Frac := Lf02.plus (Lf02.plus (Lf02.plus ⟨0, 1⟩ (lA c s n g)) (lB c s n g)) (lC c s n g)
theorem len_step (c : Chain) (f : Nat) (s : State) (n : Nat) : Lf02.lengthFrom c (f + 1) s n = lstep c s n (Lf02.lengthFrom c f) := by
  cases n <;> rfl
theorem lstep_eq {c : Chain} {s : State} {n : Nat} {g h : State → Nat → Frac} (e : ∀ t m, t.place ≤ c.k → fl c t m + 1 ≤ fl c s n → g t m = h t m) (hs : s.place ≤ c.k) : lstep c s n g = lstep c s n h := by
  unfold lstep lA lB lC
  have e0 : s.place < c.k → ∀ m, n = m + 1 → g ⟨0, s.place + 1⟩ m = h ⟨0, s.place + 1⟩ m := fun hk m hm => e _ _ hk (by unfold fl; show c.k - (s.place + 1) + m + 1 ≤ c.k - s.place + n; omega)
  have e1 : ∀ m, n = m + 1 → g ⟨1, s.place⟩ m = h ⟨1, s.place⟩ m := fun m hm => e _ _ hs (by unfold fl; show c.k - s.place + m + 1 ≤ c.k - s.place + n; omega)
  have e2 : s.place < c.k → g ⟨2, s.place + 1⟩ n = h ⟨2, s.place + 1⟩ n := fun hk => e _ _ hk (by unfold fl; show c.k - (s.place + 1) + n + 1 ≤ c.k - s.place + n; omega)
  by_cases hk : s.place < c.k
  · simp only [if_pos hk]
    rw [e2 hk]
    cases n with
    | zero => rfl
    | succ m =>
      dsimp only
      rw [e0 hk m rfl, e1 m rfl]
  · simp only [if_neg hk]
    cases n with
    | zero => rfl
    | succ m =>
      dsimp only
      rw [e1 m rfl]
theorem len_more {c : Chain} : ∀ (f : Nat) (s : State) (n : Nat), s.place ≤ c.k → fl c s n + 1 ≤ f → Lf02.lengthFrom c (f + 1) s n = Lf02.lengthFrom c f s n
  | 0, s, n, _, h => by omega
  | f + 1, s, n, hs, h => by
    rw [len_step, len_step]
    exact lstep_eq (fun t m ht hm => len_more f t m ht (by omega)) hs
def lf (c : Chain) (s : State) (n : Nat) : Frac := Lf02.lengthFrom c (fl c s n + 1) s n
theorem len_enough {c : Chain} {s : State} {n : Nat} (hs : s.place ≤ c.k) : ∀ d : Nat, Lf02.lengthFrom c (fl c s n + 1 + d) s n = lf c s n
  | 0 => rfl
  | d + 1 => by
    show Lf02.lengthFrom c (fl c s n + 1 + d + 1) s n = _
    rw [len_more _ s n hs (by omega), len_enough hs d]
theorem len_lf {c : Chain} {s : State} {n f : Nat} (hs : s.place ≤ c.k) (h : fl c s n + 1 ≤ f) : Lf02.lengthFrom c f s n = lf c s n := by
  obtain ⟨d, rfl⟩ := Nat.exists_eq_add_of_le h
  exact len_enough hs d
theorem lengths_lf (c : Chain) (n : Nat) : Lf02.lengths c n = lf c ⟨0, 0⟩ n := by
  unfold Lf02.lengths
  refine len_lf (Nat.zero_le _) ?_
  show c.k - 0 + n + 1 ≤ c.k + n + 1
  omega
theorem lf_step {c : Chain} {s : State} (hs : s.place ≤ c.k) (n : Nat) : lf c s n = lstep c s n (lf c) := by
  rw [lf, len_step]
  exact lstep_eq (fun t m ht hm => len_lf ht hm) hs
/-- within bounds -/
structure Lb (D B : Nat) (f : Frac) : Prop where
  g : Good f
  di : Di D (q f)
  le : q f ≤ (B : Rat)
theorem Lb.zero {D B : Nat} : Lb D B ⟨0, 1⟩ := ⟨good_zero, by rw [q_zero]; exact Di.zero, by rw [q_zero]; exact Rat.natCast_nonneg⟩
theorem Lb.plus {D A B : Nat} {x y : Frac} (hx : Lb D A x) (hy : Lb D B y) : Lb D (A + B) (Lf02.plus x y) := by
  refine ⟨good_plus hx.g.1 hy.g.1, ?_, ?_⟩
  · rw [q_plus hx.g.1 hy.g.1]; exact hx.di.add hy.di
  · rw [q_plus hx.g.1 hy.g.1, Rat.natCast_add]
    have a := hx.le
    have b := hy.le
    grind
theorem move_lb {c : Chain} (h : OkC c) {s : State} (hs : IsS c.k s) (m : Nat) : Good (Lf02.move c s m) ∧ Di (den c) (q (Lf02.move c s m)) ∧ q (Lf02.move c s m) ≤ 1 := by
  refine ⟨good_move h hs m, (di_frac (move_pos h hs)).dvd (msum_dvd hs), q_le_one (move_pos h hs) ?_⟩
  show (if m = 0 then _ else if m = 1 then _ else _) ≤ _
  split
  · omega
  · split <;> omega
theorem Lb.times {D B : Nat} {c : Chain} (h : OkC c) {s : State} (hs : IsS c.k s) (m : Nat) {y : Frac} (hy : Lb D B y) : Lb (den c * D) B (Lf02.times (Lf02.move c s m) y) := by
  have z := move_lb h hs m
  refine ⟨good_times z.1.1 hy.g.1, ?_, ?_⟩
  · rw [q_times z.1.1 hy.g.1]; exact z.2.1.mul hy.di
  · rw [q_times z.1.1 hy.g.1]
    have a := Rat.mul_le_mul_of_nonneg_right (c := q y) z.2.2 (q_nonneg y)
    rw [Rat.one_mul] at a
    exact Rat.le_trans a hy.le
theorem lb_lf {c : Chain} (h : OkC c) : ∀ (f : Nat) (s : State) (n : Nat), IsS c.k s → fl c s n ≤ f → Lb (den c ^ (f + 1)) (3 ^ (f + 1)) (lf c s n)
  | f, s, n, hs, hf => by
    have key : ∀ t m, IsS c.k t → fl c t m + 1 ≤ fl c s n → Lb (den c ^ f) (3 ^ f) (lf c t m) := fun t m ht hm => by
      match f, hf with
      | 0, hf => omega
      | f + 1, hf => exact lb_lf h f t m ht (by omega)
    have tm : ∀ i t m, IsS c.k t → fl c t m + 1 ≤ fl c s n → Lb (den c ^ (f + 1)) (3 ^ f) (Lf02.times (Lf02.move c s i) (lf c t m)) := fun i t m ht hm => by
      rw [Nat.pow_succ, Nat.mul_comm]
      exact (key t m ht hm).times h hs i
    have one : Lb (den c ^ (f + 1)) (3 ^ f) (Lf02.move c s 0) := by
      have z := move_lb h hs 0
      refine ⟨z.1, ?_, ?_⟩
      · rw [Nat.pow_succ, Nat.mul_comm]; exact z.2.1.up
      · refine Rat.le_trans z.2.2 ?_
        have : (1 : Nat) ≤ 3 ^ f := Nat.one_le_pow _ _ (by decide)
        exact Rat.natCast_le_natCast.mpr this
    have hpl := hs.2.1
    have S0 : s.place < c.k → IsS c.k ⟨0, s.place + 1⟩ := fun hk => ⟨Nat.zero_le _, hk, fun z => by cases z⟩
    have S1 : IsS c.k ⟨1, s.place⟩ := ⟨by show 1 ≤ 2; decide, hs.2.1, fun z => by cases z⟩
    have S2 : s.place < c.k → IsS c.k ⟨2, s.place + 1⟩ := fun hk => ⟨Nat.le_refl _, hk, fun _ => Nat.succ_pos _⟩
    have A : Lb (den c ^ (f + 1)) (3 ^ f) (lA c s n (lf c)) := by
      unfold lA
      by_cases hk : s.place < c.k
      · rw [if_pos hk]
        cases n with
        | zero => exact Lb.zero
        | succ m => exact tm 0 _ m (S0 hk) (by unfold fl; show c.k - (s.place + 1) + m + 1 ≤ c.k - s.place + (m + 1); omega)
      · rw [if_neg hk]
        split
        · exact one
        · exact Lb.zero
    have B : Lb (den c ^ (f + 1)) (3 ^ f) (lB c s n (lf c)) := by
      unfold lB
      cases n with
      | zero => exact Lb.zero
      | succ m => exact tm 1 _ m S1 (by unfold fl; show c.k - s.place + m + 1 ≤ c.k - s.place + (m + 1); omega)
    have C : Lb (den c ^ (f + 1)) (3 ^ f) (lC c s n (lf c)) := by
      unfold lC
      by_cases hk : s.place < c.k
      · rw [if_pos hk]
        exact tm 2 _ n (S2 hk) (by unfold fl; show c.k - (s.place + 1) + n + 1 ≤ c.k - s.place + n; omega)
      · rw [if_neg hk]; exact Lb.zero
    have z := ((Lb.zero (D := den c ^ (f + 1)) (B := 0)).plus A).plus B |>.plus C
    have e3 : 0 + 3 ^ f + 3 ^ f + 3 ^ f = 3 ^ (f + 1) := by rw [Nat.pow_succ]; omega
    rw [e3] at z
    rw [lf_step hs.2.1 n]
    exact z
end Fc

/-! Where ways lead; lengths as words over a chain of one letter; what is counted, move by move. -/
namespace Fc
open Lf02 (Frac State Chain Word)
/-- a way's states from s on, and the word that they make -/
inductive Goes (k : Nat) : State → List State → Word → Prop where
  | fin {s : State} : s.place = k → Goes k s [] []
  | on {s : State} {p : List State} {a : Nat} {r : Word} : s.place < k → Goes k ⟨0, s.place + 1⟩ p r → Goes k s (⟨0, s.place + 1⟩ :: p) (a :: r)
  | put {s : State} {p : List State} {a : Nat} {r : Word} : Goes k ⟨1, s.place⟩ p r → Goes k s (⟨1, s.place⟩ :: p) (a :: r)
  | leave {s : State} {p : List State} {w : Word} : s.place < k → Goes k ⟨2, s.place + 1⟩ p w → Goes k s (⟨2, s.place + 1⟩ :: p) w
theorem goes_from {c : Chain} : ∀ (f : Nat) (s : State) (w : Word) (y : Way), s.place ≤ c.k → y ∈ Lf02.waysFrom c f s w → Goes c.k s y.1 w
  | 0, _, _, _, _, h => by cases h
  | f + 1, s, w, y, hs, h => by
    rw [Lf02.waysFrom] at h
    obtain ⟨x, hx, hy⟩ := List.mem_flatMap.mp h
    have hm := (List.mem_filter.mp hx).1
    rcases mem_nexts hs hm with ⟨e, hk, hw⟩ | ⟨a, r, hw, hk, e⟩ | ⟨a, r, hw, e⟩ | ⟨hk, e⟩
    · subst e
      have e2 : y = ([], Lf02.move c s 0) := by simpa using hy
      rw [e2, hw]
      exact .fin hk
    · subst e hw
      obtain ⟨z, hz, rfl⟩ := List.mem_map.mp hy
      exact .on hk (goes_from f _ r z hk hz)
    · subst e hw
      obtain ⟨z, hz, rfl⟩ := List.mem_map.mp hy
      exact .put (goes_from f _ r z hs hz)
    · subst e
      obtain ⟨z, hz, rfl⟩ := List.mem_map.mp hy
      exact .leave hk (goes_from f _ w z hk hz)
theorem goes_cons {k : Nat} {l s : State} {p : List State} {w : Word} (h : Goes k l (s :: p) w) (hl : l.place ≤ k) :
    IsS k s ∧ s ≠ ⟨0, 0⟩ ∧ ((s.sort = 2 ∧ l.place < k ∧ Goes k s p w) ∨ (s.sort ≠ 2 ∧ ∃ a r, w = a :: r ∧ Goes k s p r)) := by
  cases h with
  | on hk h => exact ⟨⟨Nat.zero_le _, hk, fun z => by cases z⟩, fun z => (by injection z with _ z; exact absurd z (Nat.succ_ne_zero _)), .inr ⟨by show (0 : Nat) ≠ 2; decide, _, _, rfl, h⟩⟩
  | put h => exact ⟨⟨by show (1 : Nat) ≤ 2; decide, hl, fun z => by cases z⟩, fun z => (by injection z with z; cases z), .inr ⟨by show (1 : Nat) ≠ 2; decide, _, _, rfl, h⟩⟩
  | leave hk h => exact ⟨⟨Nat.le_refl _, hk, fun _ => Nat.succ_pos _⟩, fun z => (by injection z with z; cases z), .inl ⟨rfl, hk, h⟩⟩
theorem goes_nil {k : Nat} {l : State} {w : Word} (h : Goes k l [] w) : l.place = k ∧ w = [] := by
  cases h with
  | fin h => exact ⟨h, rfl⟩
theorem goes_mem {k : Nat} : ∀ (p : List State) (l : State) (w : Word), Goes k l p w → l.place ≤ k → ∀ t ∈ p, IsS k t ∧ t ≠ ⟨0, 0⟩
  | [], _, _, _, _, t, ht => by cases ht
  | s :: p, l, w, h, hl, t, ht => by
    have g := goes_cons h hl
    rcases List.mem_cons.mp ht with e | e
    · rw [e]; exact ⟨g.1, g.2.1⟩
    · rcases g.2.2 with ⟨_, _, h2⟩ | ⟨_, a, r, _, h2⟩
      · exact goes_mem p s w h2 g.1.2.1 t e
      · exact goes_mem p s r h2 g.1.2.1 t e
theorem maker_mem : ∀ (p : List State) (i : Nat) (t : State), Lf02.maker p i = some t → t ∈ p ∧ t.sort ≠ 2
  | [], i, t, h => by cases h
  | s :: p, i, t, h => by
    have e : Lf02.maker (s :: p) i = if s.sort = 2 then Lf02.maker p i else match i with
      | 0 => some s
      | i + 1 => Lf02.maker p i := by cases i <;> rfl
    rw [e] at h
    by_cases h2 : s.sort = 2
    · rw [if_pos h2] at h
      have z := maker_mem p i t h
      exact ⟨List.mem_cons_of_mem _ z.1, z.2⟩
    · rw [if_neg h2] at h
      cases i with
      | zero =>
        have e : s = t := Option.some.inj h
        rw [← e]
        exact ⟨List.mem_cons_self .., h2⟩
      | succ i =>
        have z := maker_mem p i t h
        exact ⟨List.mem_cons_of_mem _ z.1, z.2⟩
theorem goes_maker {k : Nat} : ∀ (p : List State) (l : State) (w : Word), Goes k l p w → l.place ≤ k → ∀ i, i < w.length → ∃ t, Lf02.maker p i = some t
  | [], l, w, h, hl, i, hi => by
    rw [(goes_nil h).2] at hi
    cases hi
  | s :: p, l, w, h, hl, i, hi => by
    have g := goes_cons h hl
    have e : Lf02.maker (s :: p) i = if s.sort = 2 then Lf02.maker p i else match i with
      | 0 => some s
      | i + 1 => Lf02.maker p i := by cases i <;> rfl
    rw [e]
    rcases g.2.2 with ⟨h2, _, h3⟩ | ⟨h2, a, r, hw, h3⟩
    · rw [if_pos h2]; exact goes_maker p s w h3 g.1.2.1 i hi
    · rw [if_neg h2]
      cases i with
      | zero => exact ⟨s, rfl⟩
      | succ i =>
        rw [hw] at hi
        exact goes_maker p s r h3 g.1.2.1 i (Nat.lt_of_succ_lt_succ hi)
/-! lengths -/
def flatC (c : Chain) : Chain := ⟨c.k, List.replicate c.k [1, 0, 0, 0], [1, 0, 0, 0], c.moves⟩
theorem flat_moves (c : Chain) (s : State) : Lf02.movesOf (flatC c) s = Lf02.movesOf c s := rfl
theorem flat_ok {c : Chain} (h : OkC c) : OkC (flatC c) := by
  have w : ([1, 0, 0, 0] : List Nat).length = 4 ∧ (∀ a ∈ ([1, 0, 0, 0] : List Nat), a ≤ 99) ∧ 0 < Lf02.sum [1, 0, 0, 0] := ⟨rfl, by decide, by decide⟩
  refine ⟨h.k1, h.k4, List.length_replicate, fun l hl => ?_, w, h.mv⟩
  rw [(List.mem_replicate.mp hl).2]
  exact w
theorem flat_lw {c : Chain} {s : State} (h : s.sort = 0 → 0 < s.place ∧ s.place ≤ c.k) : lw (flatC c) s = [1, 0, 0, 0] := by
  unfold lw
  split
  · rename_i e
    have p := h e
    show (List.replicate c.k [1, 0, 0, 0]).getD (s.place - 1) [] = _
    rw [List.getD_eq_getElem?_getD, List.getElem?_replicate, if_pos (by omega)]
    rfl
  · rfl
theorem flat_letter {c : Chain} {s : State} (h : s.sort = 0 → 0 < s.place ∧ s.place ≤ c.k) : Lf02.letter (flatC c) s 0 = ⟨1, 1⟩ := by
  show Lf02.frac ((lw (flatC c) s).getD 0 0) (Lf02.sum (lw (flatC c) s)) = _
  rw [flat_lw h]
  rfl
/-- the chances of some ways together -/
def SQ (L : List Way) : Rat := (L.map fun y => q y.2).sum
theorem sq_append (A B : List Way) : SQ (A ++ B) = SQ A + SQ B := by
  unfold SQ
  rw [List.map_append, List.sum_append]
theorem sq_ext {g : List State → List State} {x : Frac} {L : List Way} (hx : Good x) (hL : Pos L) : SQ (ext g x L) = q x * SQ L := by
  unfold SQ ext
  rw [← sum_map_mul, List.map_map, List.map_map]
  congr 1
  refine List.map_congr_left fun y hy => ?_
  exact q_times hx.1 (hL y hy).1.1
theorem sq_flat {F : Option State → Word → List Way} : ∀ (l : List (Option State × Word × Frac)), (∀ x ∈ l, Good x.2.2 ∧ Pos (F x.1 x.2.1)) →
    SQ ((l.filter fun x => x.2.2.n != 0).flatMap fun x => ext (goOn x.1) x.2.2 (F x.1 x.2.1)) = (l.map fun x => q x.2.2 * SQ (F x.1 x.2.1)).sum
  | [], _ => rfl
  | x :: l, h => by
    have hx := h x (List.mem_cons_self ..)
    have ih := sq_flat l fun y hy => h y (List.mem_cons_of_mem _ hy)
    rw [List.map_cons, List.sum_cons]
    by_cases e : x.2.2.n = 0
    · rw [List.filter_cons_of_neg (by simp [e]), ih, (q_eq_zero hx.1).mpr e, Rat.zero_mul, Rat.zero_add]
    · rw [List.filter_cons_of_pos (by simp [e]), List.flatMap_cons, sq_append, sq_ext hx.1 hx.2, ih]
theorem sq_wf {c : Chain} (h : OkC c) {s : State} (hs : IsS c.k s) (w : Word) : SQ (wf c s w) = ((Lf02.nexts c s w).map fun x => q x.2.2 * SQ (behind c x.1 x.2.1)).sum := by
  rw [wf_step h hs w]
  exact sq_flat (F := behind c) _ fun x hx => ⟨good_next h hs hx, pos_behind h hs hx⟩
theorem sq_none {c : Chain} (r : Word) : SQ (behind c none r) = 1 := by
  show q ⟨1, 1⟩ + 0 = 1
  rw [q_one, Rat.add_zero]
theorem good_lf {c : Chain} (h : OkC c) {s : State} (hs : IsS c.k s) (n : Nat) : Good (lf c s n) := (lb_lf h _ s n hs (Nat.le_refl _)).g
theorem tot_lf {c : Chain} (h : OkC c) : ∀ (f : Nat) (s : State) (n : Nat), IsS c.k s → fl c s n ≤ f → SQ (wf (flatC c) s (List.replicate n 0)) = q (lf c s n)
  | f, s, n, hs, hf => by
    have hF := flat_ok h
    have hsF : IsS (flatC c).k s := hs
    have key : ∀ t m, IsS c.k t → fl c t m + 1 ≤ fl c s n → SQ (wf (flatC c) t (List.replicate m 0)) = q (lf c t m) := fun t m ht hm => by
      match f, hf with
      | 0, hf => omega
      | f + 1, hf => exact tot_lf h f t m ht (by omega)
    have hpl := hs.2.1
    have S0 : s.place < c.k → IsS c.k ⟨0, s.place + 1⟩ := fun hk => ⟨Nat.zero_le _, hk, fun z => by cases z⟩
    have S1 : IsS c.k ⟨1, s.place⟩ := ⟨by show 1 ≤ 2; decide, hs.2.1, fun z => by cases z⟩
    have S2 : s.place < c.k → IsS c.k ⟨2, s.place + 1⟩ := fun hk => ⟨Nat.le_refl _, hk, fun _ => Nat.succ_pos _⟩
    have gm : ∀ i, Good (Lf02.move c s i) := fun i => good_move h hs i
    have mm : ∀ i, Lf02.move (flatC c) s i = Lf02.move c s i := fun i => rfl
    have t1 : ∀ i, Lf02.times (Lf02.move c s i) ⟨1, 1⟩ = Lf02.move c s i := fun i => times_one (gm i)
    have qt : ∀ i t m, IsS c.k t → q (Lf02.times (Lf02.move c s i) (lf c t m)) = q (Lf02.move c s i) * q (lf c t m) := fun i t m ht => q_times (gm i).1 (good_lf h ht m).1
    rw [sq_wf hF hsF, lf_step hs.2.1 n]
    have gA : 0 < (lA c s n (lf c)).d ∧ 0 < (lB c s n (lf c)).d ∧ 0 < (lC c s n (lf c)).d := by
      refine ⟨?_, ?_, ?_⟩
      · unfold lA
        split
        · rename_i hk
          cases n with
          | zero => exact Nat.zero_lt_one
          | succ m => exact (good_times (gm 0).1 (good_lf h (S0 hk) m).1).1
        · split
          · exact (gm 0).1
          · exact Nat.zero_lt_one
      · unfold lB
        cases n with
        | zero => exact Nat.zero_lt_one
        | succ m => exact (good_times (gm 1).1 (good_lf h S1 m).1).1
      · unfold lC
        split
        · rename_i hk
          exact (good_times (gm 2).1 (good_lf h (S2 hk) n).1).1
        · exact Nat.zero_lt_one
    have eq3 : q (lstep c s n (lf c)) = q (lA c s n (lf c)) + q (lB c s n (lf c)) + q (lC c s n (lf c)) := by
      unfold lstep
      have g1 := good_plus (a := ⟨0, 1⟩) (b := lA c s n (lf c)) (by decide) gA.1
      have g2 := good_plus g1.1 gA.2.1
      rw [q_plus g2.1 gA.2.2, q_plus g1.1 gA.2.1, q_plus (by decide) gA.1, q_zero, Rat.zero_add]
    rw [eq3]
    have lt0 : s.place < c.k → Lf02.letter (flatC c) ⟨0, s.place + 1⟩ 0 = ⟨1, 1⟩ := fun hk => flat_letter fun _ => ⟨Nat.succ_pos _, hk⟩
    have lt1 : Lf02.letter (flatC c) ⟨1, s.place⟩ 0 = ⟨1, 1⟩ := flat_letter fun z => by cases z
    by_cases hk : s.place < c.k
    · have hk' : s.place < (flatC c).k := hk
      have e2 := key _ n (S2 hk) (by unfold fl; show c.k - (s.place + 1) + n + 1 ≤ c.k - s.place + n; omega)
      cases n with
      | zero =>
        have en : Lf02.nexts (flatC c) s (List.replicate 0 0) = [(some ⟨2, s.place + 1⟩, [], Lf02.move c s 2)] := by
          unfold Lf02.nexts
          rw [if_pos hk', if_pos hk']
          rfl
        rw [en]
        have eA : lA c s 0 (lf c) = ⟨0, 1⟩ := by unfold lA; rw [if_pos hk]
        have eB : lB c s 0 (lf c) = ⟨0, 1⟩ := rfl
        have eC : lC c s 0 (lf c) = Lf02.times (Lf02.move c s 2) (lf c ⟨2, s.place + 1⟩ 0) := by unfold lC; rw [if_pos hk]
        rw [eA, eB, eC, q_zero, qt 2 _ 0 (S2 hk), ← e2]
        show q (Lf02.move c s 2) * SQ (wf (flatC c) ⟨2, s.place + 1⟩ []) + 0 = _
        show _ = 0 + 0 + q (Lf02.move c s 2) * SQ (wf (flatC c) ⟨2, s.place + 1⟩ [])
        grind
      | succ m =>
        have e0 := key _ m (S0 hk) (by unfold fl; show c.k - (s.place + 1) + m + 1 ≤ c.k - s.place + (m + 1); omega)
        have e1 := key _ m S1 (by unfold fl; show c.k - s.place + m + 1 ≤ c.k - s.place + (m + 1); omega)
        have en : Lf02.nexts (flatC c) s (List.replicate (m + 1) 0) = [(some ⟨0, s.place + 1⟩, List.replicate m 0, Lf02.move c s 0), (some ⟨1, s.place⟩, List.replicate m 0, Lf02.move c s 1), (some ⟨2, s.place + 1⟩, List.replicate (m + 1) 0, Lf02.move c s 2)] := by
          unfold Lf02.nexts
          rw [if_pos hk', if_pos hk', List.replicate_succ]
          show [(some (⟨0, s.place + 1⟩ : State), List.replicate m 0, Lf02.times (Lf02.move (flatC c) s 0) (Lf02.letter (flatC c) ⟨0, s.place + 1⟩ 0))] ++ [(some (⟨1, s.place⟩ : State), List.replicate m 0, Lf02.times (Lf02.move (flatC c) s 1) (Lf02.letter (flatC c) ⟨1, s.place⟩ 0))] ++ _ = _
          rw [lt0 hk, lt1, mm, mm, t1, t1]
          rfl
        rw [en]
        have eA : lA c s (m + 1) (lf c) = Lf02.times (Lf02.move c s 0) (lf c ⟨0, s.place + 1⟩ m) := by unfold lA; rw [if_pos hk]
        have eB : lB c s (m + 1) (lf c) = Lf02.times (Lf02.move c s 1) (lf c ⟨1, s.place⟩ m) := rfl
        have eC : lC c s (m + 1) (lf c) = Lf02.times (Lf02.move c s 2) (lf c ⟨2, s.place + 1⟩ (m + 1)) := by unfold lC; rw [if_pos hk]
        rw [eA, eB, eC, qt 0 _ m (S0 hk), qt 1 _ m S1, qt 2 _ (m + 1) (S2 hk), ← e2, ← e1, ← e0]
        show q (Lf02.move c s 0) * SQ (wf (flatC c) ⟨0, s.place + 1⟩ (List.replicate m 0)) + (q (Lf02.move c s 1) * SQ (wf (flatC c) ⟨1, s.place⟩ (List.replicate m 0)) + (q (Lf02.move c s 2) * SQ (wf (flatC c) ⟨2, s.place + 1⟩ (List.replicate (m + 1) 0)) + 0)) = _
        grind
    · have hk' : ¬ s.place < (flatC c).k := hk
      have eC : ∀ n, lC c s n (lf c) = ⟨0, 1⟩ := fun n => by unfold lC; rw [if_neg hk]
      rw [eC n, q_zero]
      cases n with
      | zero =>
        have en : Lf02.nexts (flatC c) s (List.replicate 0 0) = [(none, [], Lf02.move c s 0)] := by
          unfold Lf02.nexts
          rw [if_neg hk', if_neg hk']
          rfl
        rw [en]
        have eA : lA c s 0 (lf c) = Lf02.move c s 0 := by unfold lA; rw [if_neg hk, if_pos rfl]
        have eB : lB c s 0 (lf c) = ⟨0, 1⟩ := rfl
        rw [eA, eB, q_zero]
        show q (Lf02.move c s 0) * SQ (behind (flatC c) none []) + 0 = _
        rw [sq_none]
        grind
      | succ m =>
        have e1 := key _ m S1 (by unfold fl; show c.k - s.place + m + 1 ≤ c.k - s.place + (m + 1); omega)
        have en : Lf02.nexts (flatC c) s (List.replicate (m + 1) 0) = [(some ⟨1, s.place⟩, List.replicate m 0, Lf02.move c s 1)] := by
          unfold Lf02.nexts
          rw [if_neg hk', if_neg hk', List.replicate_succ]
          show [] ++ [(some (⟨1, s.place⟩ : State), List.replicate m 0, Lf02.times (Lf02.move (flatC c) s 1) (Lf02.letter (flatC c) ⟨1, s.place⟩ 0))] ++ [] = _
          rw [lt1, mm, t1]
          rfl
        rw [en]
        have eA : lA c s (m + 1) (lf c) = ⟨0, 1⟩ := by unfold lA; rw [if_neg hk, if_neg (Nat.succ_ne_zero m)]
        have eB : lB c s (m + 1) (lf c) = Lf02.times (Lf02.move c s 1) (lf c ⟨1, s.place⟩ m) := rfl
        rw [eA, eB, q_zero, qt 1 _ m S1, ← e1]
        show q (Lf02.move c s 1) * SQ (wf (flatC c) ⟨1, s.place⟩ (List.replicate m 0)) + 0 = _
        grind
theorem isS_begin (k : Nat) : IsS k ⟨0, 0⟩ := ⟨Nat.zero_le _, Nat.zero_le _, fun z => by cases z⟩
/-- how likely a length is: as one word of one letter -/
theorem lengths_total {c : Chain} (h : OkC c) (n : Nat) : Lf02.total (flatC c) (List.replicate n 0) = Lf02.lengths c n := by
  have hF := flat_ok h
  have P := pos_ways hF (w := List.replicate n 0) (isS_begin c.k)
  have dL : ∀ y ∈ (Lf02.ways (flatC c) (List.replicate n 0)).map (fun y : Way => y.2), 0 < y.d := fun y hy => by
    obtain ⟨z, hz, rfl⟩ := List.mem_map.mp hy
    rw [ways_eq] at hz
    exact (P z hz).1.1
  rw [lengths_lf]
  refine q_inj (good_sumF dL) (good_lf h (isS_begin c.k) n) ?_
  rw [← tot_lf h _ ⟨0, 0⟩ n (isS_begin c.k) (Nat.le_refl _)]
  show q (Lf02.sumF _) = _
  rw [q_sumF dL, List.map_map, ways_eq]
  rfl
/-! what is counted -/
def addMove (t : Lf02.Tally) (s : State) (m : Nat) : Lf02.Tally := ⟨t.letters, t.ground, t.moves ++ [(s, m)]⟩
def addLetter (t : Lf02.Tally) (s : State) (a : Nat) : Lf02.Tally := if s.sort = 0 then ⟨t.letters ++ [(s.place, a)], t.ground, t.moves⟩ else ⟨t.letters, t.ground ++ [a], t.moves⟩
/-- what is counted once the rest of a way is, from l on -/
def finT (t : Lf02.Tally) (l : State) (p : List State) (w : Word) : Lf02.Tally :=
  ⟨t.letters ++ ((Lf02.makes p w).filter fun x => x.1.sort == 0).map fun x => (x.1.place, x.2), t.ground ++ ((Lf02.makes p w).filter fun x => x.1.sort == 1).map fun x => x.2, t.moves ++ Lf02.movesIn l p⟩
theorem finT_all (t : Lf02.Tally) (p : List State) (w : Word) : finT t ⟨0, 0⟩ p w = Lf02.counted t p w := rfl
theorem finT_nil (t : Lf02.Tally) (l : State) : finT t l [] [] = addMove t l 0 := by
  unfold finT addMove
  show (⟨t.letters ++ [], t.ground ++ [], t.moves ++ [(l, 0)]⟩ : Lf02.Tally) = _
  rw [List.append_nil, List.append_nil]
theorem finT_leave {t : Lf02.Tally} {l s : State} {p : List State} {w : Word} (h : s.sort = 2) : finT (addMove t l s.sort) s p w = finT t l (s :: p) w := by
  have e : Lf02.makes (s :: p) w = Lf02.makes p w := by
    simp only [Lf02.makes, if_pos h]
  unfold finT addMove
  rw [e]
  show (⟨_, _, (t.moves ++ [(l, s.sort)]) ++ Lf02.movesIn s p⟩ : Lf02.Tally) = ⟨_, _, t.moves ++ ((l, s.sort) :: Lf02.movesIn s p)⟩
  rw [List.append_assoc]
  rfl
theorem finT_make {t : Lf02.Tally} {l s : State} {p : List State} {a : Nat} {r : Word} (h : s.sort ≠ 2) (h1 : s.sort ≤ 2) : finT (addLetter (addMove t l s.sort) s a) s p r = finT t l (s :: p) (a :: r) := by
  have e : Lf02.makes (s :: p) (a :: r) = (s, a) :: Lf02.makes p r := by
    simp only [Lf02.makes, if_neg h]
  unfold finT
  rw [e]
  have em : ∀ t' : Lf02.Tally, t'.moves = t.moves ++ [(l, s.sort)] → t'.moves ++ Lf02.movesIn s p = t.moves ++ ((l, s.sort) :: Lf02.movesIn s p) := fun t' ht => by
    rw [ht, List.append_assoc]
    rfl
  by_cases h0 : s.sort = 0
  · have f0 : (fun x : State × Nat => x.1.sort == 0) (s, a) = true := by simp [h0]
    have f1 : ¬ (fun x : State × Nat => x.1.sort == 1) (s, a) = true := by simp [h0]
    rw [List.filter_cons_of_pos (p := fun x : State × Nat => x.1.sort == 0) f0, List.filter_cons_of_neg (p := fun x : State × Nat => x.1.sort == 1) f1]
    unfold addLetter
    rw [if_pos h0]
    show (⟨(t.letters ++ [(s.place, a)]) ++ _, t.ground ++ _, (t.moves ++ [(l, s.sort)]) ++ _⟩ : Lf02.Tally) = ⟨_, _, t.moves ++ ((l, s.sort) :: Lf02.movesIn s p)⟩
    rw [List.append_assoc, List.append_assoc]
    rfl
  · have f0 : ¬ (fun x : State × Nat => x.1.sort == 0) (s, a) = true := by simp [h0]
    have f1 : (fun x : State × Nat => x.1.sort == 1) (s, a) = true := by
      show (s.sort == 1) = true
      rw [beq_iff_eq]
      omega
    rw [List.filter_cons_of_neg (p := fun x : State × Nat => x.1.sort == 0) f0, List.filter_cons_of_pos (p := fun x : State × Nat => x.1.sort == 1) f1]
    unfold addLetter
    rw [if_neg h0]
    show (⟨t.letters ++ _, (t.ground ++ [a]) ++ _, (t.moves ++ [(l, s.sort)]) ++ _⟩ : Lf02.Tally) = ⟨_, _, t.moves ++ ((l, s.sort) :: Lf02.movesIn s p)⟩
    rw [List.append_assoc, List.append_assoc]
    rfl
theorem cnt_add (t : Lf02.Tally) (l s : State) (m i : Nat) : cnt (addMove t l m) s i = cnt t s i + (if (l, m) = (s, i) then 1 else 0) := by
  unfold cnt addMove
  show ((t.moves ++ [(l, m)]).filter _).length = _
  rw [List.filter_append, List.length_append]
  congr 1
  by_cases e : (l, m) = (s, i)
  · rw [if_pos e, List.filter_cons_of_pos (by simpa using e)]; rfl
  · rw [if_neg e, List.filter_cons_of_neg (by simpa using e)]; rfl
theorem wts_other {k : Nat} {t : Lf02.Tally} {l s : State} {m : Nat} (h : s ≠ l) : wts k (addMove t l m) s = wts k t s := by
  unfold wts
  have e : ∀ i, cnt (addMove t l m) s i = cnt t s i := fun i => by
    rw [cnt_add, if_neg fun z => h (by injection z with z1; exact z1.symm), Nat.add_zero]
  rw [e, e, e]
def w3 (v : Nat × Nat × Nat) : List Nat := [v.1, v.2.1, v.2.2]
theorem wts_same {k : Nat} {t : Lf02.Tally} {l : State} {m : Nat} (hm : m ≤ 2) (h : m = 2 → l.place ≠ k) : w3 (wts k (addMove t l m) l) = (w3 (wts k t l)).set m ((w3 (wts k t l)).getD m 0 + 1) := by
  have e : ∀ i, i ≠ m → cnt (addMove t l m) l i = cnt t l i := fun i hi => by
    rw [cnt_add, if_neg fun z => hi (by injection z with z1 z2; exact z2.symm), Nat.add_zero]
  have e1 : cnt (addMove t l m) l m = cnt t l m + 1 := by rw [cnt_add, if_pos rfl]
  unfold w3 wts
  have hm' : m = 0 ∨ m = 1 ∨ m = 2 := by omega
  rcases hm' with rfl | rfl | rfl
  · dsimp only
    rw [e 1 (by decide), e 2 (by decide), e1]; rfl
  · dsimp only
    rw [e 0 (by decide), e 2 (by decide), e1]; rfl
  · dsimp only
    rw [e 0 (by decide), e 1 (by decide), e1, if_neg (h rfl), if_neg (h rfl)]; rfl
theorem wts_letter {k : Nat} {t : Lf02.Tally} {s u : State} {a : Nat} : wts k (addLetter t s a) u = wts k t u := by
  have e : (addLetter t s a).moves = t.moves := by unfold addLetter; split <;> rfl
  unfold wts cnt
  rw [e]
theorem learnt_letters_move {k : Nat} {t : Lf02.Tally} {l : State} {m : Nat} : (Lf02.learnt k (addMove t l m)).ground :: (Lf02.learnt k (addMove t l m)).letters = (Lf02.learnt k t).ground :: (Lf02.learnt k t).letters := rfl
/-- how often a letter was counted: in states 1 (0), at a place -/
def lc (t : Lf02.Tally) (j a : Nat) : Nat := if j = 0 then (t.ground.filter fun x => x == a).length else (t.letters.filter fun x => x == (j, a)).length
def gl (k : Nat) (t : Lf02.Tally) : List (List Nat) := (Lf02.learnt k t).ground :: (Lf02.learnt k t).letters
theorem gl_get {k : Nat} {t : Lf02.Tally} {j : Nat} (h : j ≤ k) : (gl k t)[j]? = some ((List.range 4).map fun a => lc t j a + 1) := by
  unfold gl
  cases j with
  | zero => rfl
  | succ j =>
    rw [List.getElem?_cons_succ]
    show ((List.range k).map _)[j]? = _
    rw [List.getElem?_map, List.getElem?_range (by omega)]
    rfl
theorem gl_len (k : Nat) (t : Lf02.Tally) : (gl k t).length = k + 1 := by
  show ((List.range k).map _).length + 1 = k + 1
  rw [List.length_map, List.length_range]
theorem lc_add {t : Lf02.Tally} {s : State} {a j b : Nat} (hs : s.sort = 0 → s.place ≠ 0) : lc (addLetter t s a) j b = lc t j b + (if j = (if s.sort = 0 then s.place else 0) ∧ b = a then 1 else 0) := by
  unfold addLetter lc
  by_cases h0 : s.sort = 0
  · have hp := hs h0
    rw [if_pos h0, if_pos h0]
    by_cases hj : j = 0
    · rw [if_pos hj, if_pos hj, if_neg (fun z => hp (z.1.symm.trans hj))]
      rfl
    · rw [if_neg hj, if_neg hj]
      show ((t.letters ++ [(s.place, a)]).filter _).length = _
      rw [List.filter_append, List.length_append]
      congr 1
      by_cases e : j = s.place ∧ b = a
      · rw [if_pos e, List.filter_cons_of_pos (by simp [e.1, e.2])]; rfl
      · rw [if_neg e, List.filter_cons_of_neg (by simp; exact fun z1 z2 => e ⟨z1.symm, z2.symm⟩)]; rfl
  · rw [if_neg h0, if_neg h0]
    by_cases hj : j = 0
    · rw [if_pos hj, if_pos hj]
      show ((t.ground ++ [a]).filter _).length = _
      rw [List.filter_append, List.length_append]
      congr 1
      by_cases e : b = a
      · rw [if_pos ⟨hj, e⟩, List.filter_cons_of_pos (by simp [e])]; rfl
      · rw [if_neg (fun z => e z.2), List.filter_cons_of_neg (by simp; exact fun z => e z.symm)]; rfl
    · rw [if_neg hj, if_neg hj, if_neg (fun z => hj z.1)]
      rfl
theorem gl_other {k : Nat} {t : Lf02.Tally} {s : State} {a j : Nat} (hs : s.sort = 0 → s.place ≠ 0) (hj : j ≤ k) (h : j ≠ (if s.sort = 0 then s.place else 0)) : (gl k (addLetter t s a))[j]? = (gl k t)[j]? := by
  rw [gl_get hj, gl_get hj]
  congr 1
  refine List.map_congr_left fun b _ => ?_
  rw [lc_add hs, if_neg fun z => h z.1]
theorem gl_same {k : Nat} {t : Lf02.Tally} {s : State} {a : Nat} (hs : s.sort = 0 → s.place ≠ 0) (hk : s.place ≤ k) (h4 : a < 4) : ∃ x, (gl k t)[if s.sort = 0 then s.place else 0]? = some x ∧ x.length = 4 ∧ (gl k (addLetter t s a))[if s.sort = 0 then s.place else 0]? = some (x.set a (x.getD a 0 + 1)) := by
  have hj : (if s.sort = 0 then s.place else 0) ≤ k := by split <;> omega
  have la : ∀ b, lc (addLetter t s a) (if s.sort = 0 then s.place else 0) b = lc t (if s.sort = 0 then s.place else 0) b + (if b = a then 1 else 0) := fun b => by
    rw [lc_add hs]
    congr 1
    by_cases e : b = a
    · rw [if_pos ⟨rfl, e⟩, if_pos e]
    · rw [if_neg fun z => e z.2, if_neg e]
  revert hj la
  generalize (if s.sort = 0 then s.place else 0) = j
  intro hj la
  refine ⟨_, gl_get hj, by rw [List.length_map, List.length_range], ?_⟩
  rw [gl_get hj]
  congr 1
  refine List.ext_getElem? fun b => ?_
  rw [List.getElem?_set, List.getElem?_map, List.getElem?_map, List.length_map, List.length_range]
  by_cases hb : b < 4
  · rw [List.getElem?_range hb]
    by_cases e : a = b
    · rw [if_pos e, if_pos (by omega)]
      subst e
      rw [List.getD_eq_getElem?_getD, List.getElem?_map, List.getElem?_range h4]
      show some (lc (addLetter t s a) _ a + 1) = some (lc t _ a + 1 + 1)
      rw [la, if_pos rfl]
    · rw [if_neg e]
      show some (lc (addLetter t s a) _ b + 1) = some (lc t _ b + 1)
      rw [la, if_neg fun z => e z.symm]
  · rw [List.getElem?_eq_none (by rw [List.length_range]; omega)]
    rw [if_neg (by omega)]
    rfl
theorem gl_plain (k : Nat) : gl k Lf02.noTally = List.replicate (k + 1) [1, 1, 1, 1] := by
  unfold gl
  rw [List.replicate_succ]
  congr 1
  refine List.eq_replicate_iff.mpr ⟨by show ((List.range k).map _).length = k; rw [List.length_map, List.length_range], fun x hx => ?_⟩
  obtain ⟨i, _, rfl⟩ := List.mem_map.mp hx
  rfl
theorem wts_plain (k : Nat) (s : State) : wts k Lf02.noTally s = (1, 1, if s.place = k then 0 else 1) := rfl
end Fc

namespace Fh
open PySem PySem.Spec PyProof.Rows L2
open PySem.W (Codec)
def top (i : Nat) : Stmt := PySem.Challenge.pw_familychain_s01_answers.main.body.getD i (.Pass ⟨0, 0, 0, 0⟩)
/-- an if whose test is known -/
theorem if_t {c : Bool} {A B : Prop} (hc : c = true) (h : A) : if c = true then A else B := by
  rw [if_pos hc]
  exact h
theorem if_f {c : Bool} {A B : Prop} (hc : c = false) (h : B) : if c = true then A else B := by
  rw [hc, if_neg Bool.false_ne_true]
  exact h
theorem sm_new {H : Hp} {p : Addr} {o : HO} (h : H p = none) : Same H (upd H p o) := fun a u e => by
  rw [upd_ne (ne_of_none e h)]
  exact e
theorem sm_mut {H H' : Hp} {p : Addr} {o : HO} (e : Same H H') (h : H p = none) : Same H (upd H' p o) := fun a u ha => by
  rw [upd_ne (ne_of_none ha h)]
  exact e a u ha
theorem sm_tup {K : PySem.W.Frag} {H H' : Hp} {a : Addr} {xs : List V} (e : Same H H') (h : SqT K H a xs) : SqT K H' a xs := by
  rcases h with (h | ⟨o, h⟩) | h
  · exact .inl (.inl (e _ _ h))
  · exact .inl (.inr ⟨o, e _ _ h⟩)
  · exact .inr h
end Fh

/-! Rules that the hand layer lacks: a dict's item at a written tuple; a display with one tuple for a key; a list extended by a tuple. -/
namespace Fh
open PySem PySem.Spec PyProof.Rows L2
section
variable {X : Cx}
/-- a tuple, tracked or written, is a key -/
theorem key_sq {pins : List (Addr × Obj)} {σ : L2.St} {H : Hp} {s : Shared} {a : Addr} {ks : List Key} (I : Inv X pins σ H s) (h : SqT X.K H a (ks.map kV)) : (tupleKind (mixKind X.prog X.w)).is s.heap ks a := by
  obtain ⟨its, r, ⟨o, h1, h2, n, h3⟩, _⟩ := I.tuple h
  exact ⟨o, its.toArray, n, h1, h2, h3, by simpa using items_are r⟩
/-- d[t], the tuple t tracked or written -/
def tDGetW (K : PySem.W.Frag) (td ty : TE) : TE := fun σ H Q => td σ H fun x H1 => ty σ H1 fun y H2 => ∃ (a b : Addr) (kvs : List (List Key × V)) (k : List Key) (v : V), x = .ref a ∧ y = .ref b ∧ Rd H2 a (.dT kvs) ∧ SqT K H2 b (k.map kV) ∧ valV kvs k = some v ∧ Q v H2
theorem pe_dgetW {o i : Expr} {td ty : TE} {pos : Pos} (hu : X.A.units + 1 < cLine) (ho : PE X o td) (hi : PE X i ty) (hs : NoSl i) : PE X (.Subscript o i pos) (tDGetW X.K td ty) := by
  refine ⟨fun pins s σ H Q I h => ?_⟩
  refine subD_of PySem.F.slot_dict_getitem.lookup hs (thn (ho.run pins s σ H _ I h) fun u s1 ⟨x, H1, I1, rx, q1⟩ => thn (hi.run pins s1 σ H1 _ I1 q1) fun iv s2 ⟨y, H2, I2, ry, a, b, kvs, k, v, ex, ey, e, eb, l, q2⟩ => ?_)
  subst ex ey
  obtain rfl : u = Value.ref a := rx
  obtain rfl : iv = Value.ref b := ry
  obtain ⟨z, hd, xs, rel, dd⟩ := dt_rd I2.hok e
  refine ⟨dd.typeIs, ?_⟩
  obtain ⟨w', hw, rw'⟩ := RelO.some_of (v := v) (o := (atKey xs k).map (·.2)) (by rw [← l]; exact rel.val k)
  obtain ⟨p, hp, hp2⟩ := Option.map_eq_some_iff.mp hw
  refine wpAny_getItem_heap (tupleKind_room_in1 hu) (key_sq I2 eb) dd hp ?_
  rw [hp2]
  exact ⟨v, H2, I2.tok _, rw', q2⟩
/-- {t: v}, t a new tuple -/
def tDisp1 (tk tv : TE) : TE := fun σ H Q => ∀ p, H p = none → tk σ (upd H p (.dT [])) fun x H1 => tv σ H1 fun y H2 => H2 p = some (.dT []) ∧ ∃ (b : Addr) (k : List Key), x = .ref b ∧ H2 b = some (.tup (k.map kV)) ∧ Q (.ref p) (upd H2 p (.dT [(k, y)]))
theorem pe_disp1 {ke ve : Expr} {tk tv : TE} {pos : Pos} (hu : X.A.units < cLine) (hk : PE X ke tk) (hv : PE X ve tv) : PE X (.Dict [some ke] [ve] pos) (tDisp1 tk tv) := by
  refine ⟨fun pins s σ H Q I q => ?_⟩
  have hn := I.hok.fresh (Nat.le_refl s.heap.objs.size)
  have I1 := I.laid (a := s.heap.objs.size) (o := .dT []) (h' := s.heap.push { cls := .type "dict", data := .dict #[] }) (t' := s.toks) (fun _ _ q => Heap.get?_push_of_some _ q) (Nat.le_refl _) (dt_empty s.heap I.big)
  rw [arm_eval_Dict, zip_pairTrees [some ke] [ve] X.env pos rfl rfl, dictDisplay_pairs (pairTrees [some ke] [ve] X.env pos) (by intro z; cases z) (by show 1 < 17; decide)]
  refine wpAny_bind (wpAny_standAt (wpAny_bind ?_))
  unfold subDict
  refine wpAny_bind (wpAny_alloc ?_)
  refine wpAny_bind (wpAny_holding ?_)
  rw [if_pos (by show 1 ≤ 15; decide)]
  refine wpAny_bind ?_
  refine pairTrees_cons_walk (thn (hk.run pins _ σ _ _ I1 (q _ hn)) fun u s1 ⟨x, H1, I2, rx, q1⟩ => thn (hv.run pins s1 σ H1 _ I2 q1) fun w2 s2 ⟨y, H2, I3, ry, e, b, k, ex, eb, q2⟩ => pairTrees_nil_walk ?_)
  subst ex
  obtain rfl : u = Value.ref b := rx
  refine wpAny_holding ?_
  obtain ⟨z, hd, xs, rel, dd⟩ := dt_of I3.hok e
  cases rel
  refine wpAny_bind ?_
  rw [List.forIn_cons]
  refine wpAny_bind (wpAny_bind (wpAny_dictSet_heap (hsz := Nat.zero_le _) (show (tupleKind (mixKind X.prog X.w)).room X.A from hu) (key_of I3.hok eb) dd fun h' dd' hs => wpAny_pure ?_))
  dsimp only
  rw [List.forIn_nil]
  refine wpAny_pure (wpAny_pure (wpAny_pure (wpAny_pure ⟨.ref s.heap.objs.size, _, ?_, rfl, q2⟩)))
  have rel0 : KT H2 [] [] := .nil
  obtain ⟨q', es, ep, hq, h2, h3, h4, _, h5⟩ := dd'
  refine d_write I3 (by rw [e]; exact True.intro) hs ⟨q', hq⟩ ⟨by show 1 ≤ sizeLine; decide, hd, _, (rel0.put k eb ry).keeps fun c ys ec => ?_, q', es, ep, hq, h2, h3, h4, h5⟩
  rw [upd_ne (ne_of ec e (fun z => nomatch z))]
  exact ec
/-- a slot holds one of several defs: which promise goes with it is told by S -/
def tCallR (i : Nat) (S : Addr → Sp → Prop) (t : TA) : TE := fun σ H Q => ∃ f sp, σ[i]? = some (some (.ref f)) ∧ S f sp ∧ t σ H fun vs H1 => sp vs H1 Q (fun _ _ _ => False)
theorem pe_callR {S : Addr → Sp → Prop} {k i : Nat} {x : Str} {p pos : Pos} {e : Expr} {es : List Expr} {t : TA} (A : ∀ f sp, S f sp → Held X.prog X.w X.K X.mg X.base k f sp) (hr : Room k X.A) (hN : X.N[i]? = some x) (hv : Vis X.env.scope x) (ha : PA X (e :: es) t)
    (hdb : (x == ("__debug__" : Str)) = false := by decide) (hcd : (x == ("__classdict__" : Str)) = false := by decide) (he : starEach (e :: es) X.env = (false, eval e X.env) :: starEach es X.env := by rfl)
    (hpl : (backTo pos (starEach es X.env)).any (·.1) = false := by rfl) : PE X (.Call (.Name x p) (e :: es) [] pos) (tCallR i S t) := by
  refine ⟨fun pins s σ H Q I h => ?_⟩
  obtain ⟨f, sp, hs, hS, ht⟩ := h
  refine (pe_callA (S := fun g => if g = f then some sp else none) (k := k) (i := i) (fun g sp' hg => ?_) hr hN hv ha hdb hcd he hpl).run pins s σ H Q I ⟨f, sp, hs, if_pos rfl, ht⟩
  by_cases z : g = f
  · have hg' : (if g = f then some sp else none) = some sp' := hg
    rw [if_pos z] at hg'
    cases hg'
    rw [z]
    exact A f sp hS
  · have hg' : (if g = f then some sp else none) = some sp' := hg
    rw [if_neg z] at hg'
    cases hg'
/-- list.extend by a tuple -/
theorem extend_tup (l : Addr) (xs : Array Value) (n : Nat) (t : Addr) (d : Option Addr) (sl : Array (Option Value)) (ys : Array Value) (m : Nat) (h0 : ¬(!xs.isEmpty && Builtin.List.listTooLong (xs.size + ys.size)) = true) (h1 : xs.size ≤ sizeLine) (h2 : xs.size + ys.size ≤ sizeLine + 1) :
    Meets (Builtin.«list.extend» ⟨[.ref l, .ref t], []⟩) (fun _ R s => s.heap.get? l = some { cls := .type "list", dict := none, data := .seq xs n, slots := #[] } ∧ s.heap.get? t = some { cls := .type "tuple", dict := d, data := .seq ys m, slots := sl } ∧
      R (.ok (.ret Value.none)) { s with heap := s.heap.update l (Obj.mapSeq fun x => x ++ ys), toks := s.toks }) :=
  .of_wp fun prog w A R s h => by
    obtain ⟨hp, g, dd, tk, os⟩ := s
    obtain ⟨hl, ht, h⟩ := h
    have f1 := PySem.AutoSeq1.idx_int
    have f2 := PySem.AutoSeq1.sub_tuple_tuple
    have f3 := PySem.AutoSeq1.sub_list_list
    have f4 := PySem.AutoSeq1.sub_tuple_list
    have f5 := PySem.AutoSeq1.sub_list_tuple
    have hz : (xs ++ ys).size ≤ sizeLine + 1 := by
      rw [Array.size_append]
      exact h2
    wp_walk using (wpAny_updateSeq hl rfl (hz := h1) (_hz' := hz)), wpAny_loadPart' hl, wpAny_loadPart' ht
    exact ⟨_, rfl, h⟩
def rExtT (K : PySem.W.Frag) : V → List V → Hp → VK → Prop := fun x vs H Q => ∃ (l b : Addr) (xs zs : List V), x = .ref l ∧ vs = [.ref b] ∧ H l = some (.lst xs) ∧ SqT K H b zs ∧ xs.length + zs.length ≤ sizeLine ∧ Q .non (upd H l (.lst (xs ++ zs)))
theorem mt_extendT : MtM X "list.extend" (rExtT X.K) := by
  intro pins s σ H x vs v us Q I rx rv h
  obtain ⟨l, b, xs, zs, rfl, rfl, hH, hB, hz, q⟩ := h
  cases rx
  obtain ⟨u, rfl, ru⟩ := rv.one
  cases ru
  obtain ⟨z, its, n, r, hl, e⟩ := I.lstM hH
  obtain ⟨its2, r2, ⟨o, e2, ec, n2, ed⟩, z2⟩ := I.tuple hB
  have hl2 := r2.length
  obtain ⟨oc, od, oda, os⟩ := o
  cases ec
  cases ed
  have hsz : its.toArray.size + its2.toArray.size ≤ sizeLine := by
    rw [List.size_toArray, List.size_toArray]
    omega
  have hlong : ¬ (!its.toArray.isEmpty && Builtin.List.listTooLong (its.toArray.size + its2.toArray.size)) = true := by
    rw [notLongL hsz, Bool.and_false]
    decide
  refine call_meets PySem.F.slot_list_extend ⟨_, e, rfl⟩ PySem.F.entry_list_extend (PySem.F.args_list_extend_2 _ _) (extend_tup l its.toArray n b od os its2.toArray n2 hlong (by rw [List.size_toArray]; omega) (by omega)) ⟨e, e2, ?_⟩
  refine ⟨.non, _, I.lset (its' := its ++ its2) hH e (by simp) (r.append r2) ?_, rfl, q⟩
  rw [List.length_append]
  omega
end
end Fh

/-! Dicts whose keys are tuples, tracked or written, and whose values are objects: {t: v}, d.get(t, x), d[t] = v. -/
namespace Fh
open PySem PySem.Spec PyProof.Rows L2
abbrev DX := List (List Key × Addr × Addr)
def dxs (l : DX) : List (List Key × Addr × Value) := l.map fun x => (x.1, x.2.1, Value.ref x.2.2)
def dxO (P : Program) (w : World) (a : Addr) (l : DX) : HO := .ext fun h => l.length ≤ sizeLine ∧ (a == sysModules) = false ∧
  ∃ o es ep, h.get? a = some o ∧ o.ExactDict ∧ o.data = .dict es ep ∧ es.toList = (dxs l).map (entryOfKey (tupleKind (mixKind P w))) ∧ ((dxs l).map (·.1)).Nodup
def DxK (K : PySem.W.Frag) (H : Hp) (l : DX) : Prop := ∀ x ∈ l, SqT K H x.2.1 (x.1.map kV)
def valX (l : DX) (k : List Key) : Option Addr := (l.find? fun x => decide (x.1 = k)).map (·.2.2)
def putX (l : DX) (k : List Key) (b u : Addr) : DX := if (valX l k).isSome then l.map (fun x => if x.1 = k then (x.1, x.2.1, u) else x) else l ++ [(k, b, u)]
theorem atKey_dxs (l : DX) (k : List Key) : (atKey (dxs l) k).map (·.2) = (valX l k).map Value.ref := by
  unfold atKey dxs valX
  induction l with
  | nil => rfl
  | cons x l ih =>
    rw [List.map_cons]
    by_cases e : x.1 = k
    · rw [List.find?_cons_of_pos (by simpa using e), List.find?_cons_of_pos (by simpa using e)]; rfl
    · rw [List.find?_cons_of_neg (by simpa using e), List.find?_cons_of_neg (by simpa using e)]; exact ih
theorem dxs_put (l : DX) (k : List Key) (b u : Addr) : dxs (putX l k b u) = storedH (dxs l) k b (.ref u) := by
  have e := congrArg Option.isSome (atKey_dxs l k)
  rw [Option.isSome_map, Option.isSome_map] at e
  unfold putX storedH
  rw [e]
  by_cases q : (valX l k).isSome = true
  · rw [if_pos q, if_pos q]
    unfold dxs
    rw [List.map_map, List.map_map]
    refine List.map_congr_left fun x _ => ?_
    show (_ : List Key × Addr × Value) = putAt k (.ref u) (x.1, x.2.1, Value.ref x.2.2)
    unfold putAt
    dsimp only [Function.comp]
    by_cases z : x.1 = k
    · rw [if_pos z, if_pos z]
    · rw [if_neg z, if_neg z]
  · rw [if_neg q, if_neg q]
    unfold dxs
    rw [List.map_append]
    rfl
theorem putX_len (l : DX) (k : List Key) (b u : Addr) : (putX l k b u).length ≤ l.length + 1 := by
  unfold putX
  split
  · rw [List.length_map]; omega
  · rw [List.length_append]; exact Nat.le_refl _
theorem valX_put (l : DX) (k k' : List Key) (b u : Addr) : valX (putX l k b u) k' = if k' = k then some u else valX l k' := by
  unfold putX
  by_cases q : (valX l k).isSome = true
  · rw [if_pos q]
    unfold valX at q ⊢
    rw [Option.isSome_map] at q
    induction l with
    | nil => cases q
    | cons x l ih =>
      rw [List.map_cons]
      by_cases e : x.1 = k
      · rw [if_pos e]
        by_cases e' : k' = k
        · rw [if_pos e', List.find?_cons_of_pos (by simp [e, e'])]; rfl
        · rw [if_neg e', List.find?_cons_of_neg (by simp [e]; exact fun z => e' z.symm), List.find?_cons_of_neg (by simp [e]; exact fun z => e' z.symm)]
          have mapsame : ∀ l : DX, ((l.map fun x => if x.1 = k then (x.1, x.2.1, u) else x).find? fun x => decide (x.1 = k')).map (·.2.2) = (l.find? fun x => decide (x.1 = k')).map (·.2.2) := by
            intro l
            induction l with
            | nil => rfl
            | cons y l ih2 =>
              rw [List.map_cons]
              by_cases ey : y.1 = k
              · rw [if_pos ey, List.find?_cons_of_neg (by simp [ey]; exact fun z => e' z.symm), List.find?_cons_of_neg (by simp [ey]; exact fun z => e' z.symm)]; exact ih2
              · rw [if_neg ey]
                by_cases ey' : y.1 = k'
                · rw [List.find?_cons_of_pos (by simp [ey']), List.find?_cons_of_pos (by simp [ey'])]
                · rw [List.find?_cons_of_neg (by simp [ey']), List.find?_cons_of_neg (by simp [ey'])]; exact ih2
          exact mapsame l
      · rw [if_neg e]
        have q' : (l.find? fun x => decide (x.1 = k)).isSome = true := by
          rw [List.find?_cons_of_neg (by simpa using e)] at q
          exact q
        by_cases e2 : x.1 = k'
        · rw [List.find?_cons_of_pos (by simpa using e2), if_neg (fun z => e (e2.trans z)), List.find?_cons_of_pos (by simpa using e2)]
        · rw [List.find?_cons_of_neg (by simpa using e2), List.find?_cons_of_neg (by simpa using e2)]
          exact ih q'
  · rw [if_neg q]
    have q' : l.find? (fun x => decide (x.1 = k)) = none := by
      unfold valX at q
      rw [Option.isSome_map] at q
      cases z : l.find? (fun x => decide (x.1 = k)) with
      | none => rfl
      | some y => rw [z] at q; exact absurd rfl q
    unfold valX
    rw [List.find?_append]
    by_cases e' : k' = k
    · rw [if_pos e', e', q', List.find?_cons_of_pos (by simp)]; rfl
    · rw [if_neg e', List.find?_cons_of_neg (by simp; exact fun z => e' z.symm)]
      cases l.find? (fun x => decide (x.1 = k')) <;> rfl
theorem putX_keys {K : PySem.W.Frag} {H : Hp} {l : DX} {k : List Key} {b u : Addr} (h : DxK K H l) (hb : SqT K H b (k.map kV)) : DxK K H (putX l k b u) := by
  intro x hx
  unfold putX at hx
  split at hx
  · obtain ⟨y, hy, rfl⟩ := List.mem_map.mp hx
    split
    · exact h y hy
    · exact h y hy
  · rcases List.mem_append.mp hx with z | z
    · exact h x z
    · rw [List.mem_singleton.mp z]; exact hb
theorem DxK.same {K : PySem.W.Frag} {H H' : Hp} {l : DX} (h : DxK K H l) (e : ∀ a ys, SqT K H a ys → SqT K H' a ys) : DxK K H' l := fun x hx => e _ _ (h x hx)
theorem sqT_pastX {K : PySem.W.Frag} {P : Program} {w : World} {H : Hp} {p a : Addr} {l : DX} {ys : List V} {o : HO} (h : H p = some (dxO P w p l)) (ha : SqT K H a ys) : SqT K (upd H p o) a ys := by
  rcases ha with (z | ⟨u, z⟩) | z
  · refine .inl (.inl ?_)
    rw [upd_ne (ne_of z h (fun e => by cases e))]
    exact z
  · refine .inl (.inr ⟨u, ?_⟩)
    rw [upd_ne (ne_of z h (fun e => by cases e))]
    exact z
  · exact .inr z
section
variable {X : Cx}
theorem dx_ok {P : Program} {w : World} {H : Hp} {h : Heap} {a : Addr} {l : DX} (z : l.length ≤ sizeLine) (hd : (a == sysModules) = false) {o : Obj} {es : Array DictEntry} {ep : Nat} (h1 : h.get? a = some o) (h2 : o.ExactDict) (h3 : o.data = .dict es ep)
    (h4 : es.toList = (dxs l).map (entryOfKey (tupleKind (mixKind P w)))) (h5 : ((dxs l).map (·.1)).Nodup) : ObjOk P w H h a (dxO P w a l) :=
  ⟨⟨z, hd, o, es, ep, h1, h2, h3, h4, h5⟩, ⟨o, h1⟩, fun g1 g2 ⟨z, hd, o, es, ep, h1, h2, h3, h4, h5⟩ st => ⟨z, hd, o, es, ep, st o h1, h2, h3, h4, h5⟩⟩
theorem dx_raw {pins : List (Addr × Obj)} {σ : L2.St} {H : Hp} {s : Shared} {a : Addr} {l : DX} (I : Inv X pins σ H s) (e : H a = some (dxO X.prog X.w a l)) : l.length ≤ sizeLine ∧ (a == sysModules) = false ∧
    ∃ o es ep, s.heap.get? a = some o ∧ o.ExactDict ∧ o.data = .dict es ep ∧ es.toList = (dxs l).map (entryOfKey (tupleKind (mixKind X.prog X.w))) ∧ ((dxs l).map (·.1)).Nodup := by
  have z : ObjOk X.prog X.w H s.heap a (dxO X.prog X.w a l) := I.hok a _ e
  exact z.1
theorem dx_of {pins : List (Addr × Obj)} {σ : L2.St} {H : Hp} {s : Shared} {a : Addr} {l : DX} (I : Inv X pins σ H s) (e : H a = some (dxO X.prog X.w a l)) (hk : DxK X.K H l) : l.length ≤ sizeLine ∧ (a == sysModules) = false ∧
    s.heap.DictOfH (tupleKind (mixKind X.prog X.w)) a (dxs l) := by
  obtain ⟨z, hd, o, es, ep, h1, h2, h3, h4, h5⟩ := dx_raw I e
  refine ⟨z, hd, o, es, ep, h1, h2, h3, h4, fun x hx => ?_, h5⟩
  obtain ⟨y, hy, rfl⟩ := List.mem_map.mp hx
  exact key_sq I (hk y hy)
/-- {t: v} -/
def tDispX (P : Program) (w : World) (K : PySem.W.Frag) (tk tv : TE) : TE := fun σ H Q => ∀ p, H p = none → tk σ (upd H p (dxO P w p [])) fun x H1 => tv σ H1 fun y H2 => H2 p = some (dxO P w p []) ∧
  ∃ (b u : Addr) (k : List Key), x = .ref b ∧ y = .ref u ∧ SqT K H2 b (k.map kV) ∧ Q (.ref p) (upd H2 p (dxO P w p [(k, b, u)]))
theorem pe_dispX {ke ve : Expr} {tk tv : TE} {pos : Pos} (hu : X.A.units < cLine) (hk : PE X ke tk) (hv : PE X ve tv) : PE X (.Dict [some ke] [ve] pos) (tDispX X.prog X.w X.K tk tv) := by
  refine ⟨fun pins s σ H Q I q => ?_⟩
  have hn := I.hok.fresh (Nat.le_refl s.heap.objs.size)
  have hb : sysModules < s.heap.objs.size := I.big
  have I1 := I.laid (a := s.heap.objs.size) (o := dxO X.prog X.w s.heap.objs.size []) (h' := s.heap.push { cls := .type "dict", data := .dict #[] }) (t' := s.toks) (fun _ _ q => Heap.get?_push_of_some _ q) (Nat.le_refl _)
    (dx_ok (Nat.zero_le _) (beq_eq_false_iff_ne.mpr (Ne.symm (Nat.ne_of_lt hb))) (Heap.get?_push_size _ rfl) ⟨rfl, rfl, rfl⟩ rfl rfl List.nodup_nil)
  rw [arm_eval_Dict, zip_pairTrees [some ke] [ve] X.env pos rfl rfl, dictDisplay_pairs (pairTrees [some ke] [ve] X.env pos) (by intro z; cases z) (by show 1 < 17; decide)]
  refine wpAny_bind (wpAny_standAt (wpAny_bind ?_))
  unfold subDict
  refine wpAny_bind (wpAny_alloc ?_)
  refine wpAny_bind (wpAny_holding ?_)
  rw [if_pos (by show 1 ≤ 15; decide)]
  refine wpAny_bind ?_
  refine pairTrees_cons_walk (thn (hk.run pins _ σ _ _ I1 (q _ hn)) fun u s1 ⟨x, H1, I2, rx, q1⟩ => thn (hv.run pins s1 σ H1 _ I2 q1) fun w2 s2 ⟨y, H2, I3, ry, e, b, u2, k, ex, ey, eb, q2⟩ => pairTrees_nil_walk ?_)
  subst ex ey
  obtain rfl : u = Value.ref b := rx
  obtain rfl : w2 = Value.ref u2 := ry
  refine wpAny_holding ?_
  obtain ⟨z, hd, dd⟩ := dx_of I3 e (fun x hx => by cases hx)
  refine wpAny_bind ?_
  rw [List.forIn_cons]
  refine wpAny_bind (wpAny_bind (wpAny_dictSet_heap (hsz := Nat.zero_le _) (show (tupleKind (mixKind X.prog X.w)).room X.A from hu) (key_sq I3 eb) dd fun h' dd' hs => wpAny_pure ?_))
  dsimp only
  rw [List.forIn_nil]
  refine wpAny_pure (wpAny_pure (wpAny_pure (wpAny_pure ⟨.ref s.heap.objs.size, _, ?_, rfl, q2⟩)))
  rw [← dxs_put [] k b u2] at dd'
  obtain ⟨q', es, ep, hq, h2, h3, h4, _, h5⟩ := dd'
  exact d_write I3 (by rw [e]; exact True.intro) hs ⟨q', hq⟩ (dx_ok (l := [(k, b, u2)]) (by show 1 ≤ sizeLine; decide) hd hq h2 h3 h4 h5)
/-- d.get(t, x) -/
def tXGet2 (P : Program) (w : World) (K : PySem.W.Frag) (td ty tx : TE) : TE := fun σ H Q => td σ H fun x H1 => ∃ (a : Addr) (l1 : DX), x = .ref a ∧ H1 a = some (dxO P w a l1) ∧ ty σ H1 fun y H2 => tx σ H2 fun z H3 =>
  ∃ (b : Addr) (k : List Key) (l : DX), y = .ref b ∧ SqT K H3 b (k.map kV) ∧ H3 a = some (dxO P w a l) ∧ DxK K H3 l ∧ Q (((valX l k).map V.ref).getD z) H3
theorem pe_xget2 {o e f : Expr} {apos cpos : Pos} {td ty tx : TE} (hu : X.A.units + 1 < cLine) (ho : PE X o td) (he : PE X e ty) (hf : PE X f tx) (m : M2 X o "get" apos e f cpos) : PE X (.Call (.Attribute o "get" apos) [e, f] [] cpos) (tXGet2 X.prog X.w X.K td ty tx) := by
  refine ⟨fun pins s σ H Q I h => ?_⟩
  refine wpAny_Call_method m.base m.few m.line PySem.F.plainAttrs_dict PySem.F.slot_dict_get PySem.F.type_dict_get (thn (ho.run pins s σ H _ I h) fun u s1 ⟨x, H1, I1, rx, a, l1, ex, d, q1⟩ => ?_)
  subst ex
  obtain rfl : u = Value.ref a := rx
  obtain ⟨_, _, ob, _, _, g1, g2, _⟩ := dx_raw I1 d
  refine ⟨⟨ob, g1, g2.1⟩, fun b q => by cases q; exact ⟨ob, g1, g2.2.1⟩, ?_⟩
  rw [m.trees]
  refine Calls.callWith_builtin rfl (Calls.evalArgs_plain (Calls.spliced_cons (thn (he.run pins s1 σ H1 _ I1 q1) fun iv s2 ⟨y, H2, I2, ry, q2⟩ =>
    Calls.spliced_cons (thn (hf.run pins s2 σ H2 _ I2 q2) fun fv s3 ⟨z, H3, I3, rz, b, k, l, ey, eb, ed, hk, q3⟩ => Calls.spliced_nil ?_))))
  subst ey
  obtain rfl : iv = Value.ref b := ry
  obtain ⟨_, hd, dd⟩ := dx_of I3 ed hk
  refine call_meetsIn PySem.F.slot_dict_get dd.typeIs PySem.F.entry_dict_get (PySem.F.args_dict_get_3 _ _ _) (meetsH_dict_get_default (tupleKind (mixKind X.prog X.w)) a b hd fv) ⟨tupleKind_room_in1 hu, k, dxs l, key_sq I3 eb, dd, ?_⟩
  refine ⟨_, H3, I3.tok _, ?_, q3⟩
  rw [atKey_dxs]
  cases valX l k with
  | none => exact rz
  | some v => rfl
/-- d[t] = v -/
def sXPut (P : Program) (w : World) (K : PySem.W.Frag) (td ty tv : TE) : TS := fun D σ H => tv σ H fun v H1 => td σ H1 fun x H2 => ty σ H2 fun y H3 => ∃ (a b u : Addr) (k : List Key) (l : DX), x = .ref a ∧ y = .ref b ∧ v = .ref u ∧ H3 a = some (dxO P w a l) ∧ DxK K H3 l ∧
  SqT K H3 b (k.map kV) ∧ l.length < sizeLine ∧ D.nx σ (upd H3 a (dxO P w a (putX l k b u)))
theorem ps_xput {o i value : Expr} {pos pos' : Pos} {td ty tv : TE} (hu : X.A.units + 1 < cLine) (ho : PE X o td) (hi : PE X i ty) (hv : PE X value tv) (hs : swapsWith value (some (.Subscript o i pos')) pos.line X.env = pure false) :
    PS X (.Assign [.Subscript o i pos'] value pos) (sXPut X.prog X.w X.K td ty tv) := by
  refine ⟨fun pins s σ H D I h => ?_⟩
  refine wpAny_Assign_Subscript (thn (hv.run pins s σ H _ I h) fun r s1 ⟨v, H1, I1, rv, q1⟩ => thn (ho.run pins s1 σ H1 _ I1 q1) fun u s2 ⟨x, H2, I2, rx, q2⟩ => thn (hi.run pins s2 σ H2 _ I2 q2) fun iv s3 ⟨y, H3, I3, ry, a, b, uu, k, l, ex, ey, ev, ed, hk, eb, hz, q3⟩ => ?_) hs
  subst ex ey ev
  obtain rfl : u = Value.ref a := rx
  obtain rfl : iv = Value.ref b := ry
  obtain rfl : r = Value.ref uu := rv
  obtain ⟨_, hd, dd⟩ := dx_of I3 ed hk
  have hl : (dxs l).length = l.length := List.length_map ..
  refine wpAny_setItem_heap (hsz := by rw [hl]; omega) (tupleKind_room_in1 hu) (key_sq I3 eb) dd fun h' dd' hs' => ⟨σ, _, ?_, q3⟩
  rw [← dxs_put l k b uu] at dd'
  obtain ⟨q', es, ep, hq, h2, h3, h4, _, h5⟩ := dd'
  have := putX_len l k b uu
  exact d_write I3 (by rw [ed]; exact True.intro) hs' ⟨q', hq⟩ (dx_ok (by omega) hd hq h2 h3 h4 h5)
end
end Fh

namespace Fh
open PySem PySem.Spec PyProof.Rows L2
open Fc
open Lf02 (Frac)
/-- a def of the top: where it stands, that its name is still its own, how its arguments bind -/
structure Dn (K : PySem.W.Frag) (mg : Str → Option Value) (x : Str) (st : Stmt) (ps : List Str) (f : Addr) (fd : FuncData) : Prop where
  F : Fun K x x st f fd
  g : mg x = some (.ref f)
  b : Binds K fd ps []
/-- a fraction as a tuple's items -/
def frV (f : Frac) : List V := [.int f.n, .int f.d]
section
variable {P : Program} {w : World} {K : PySem.W.Frag} {mg : Str → Option Value} {base : Heap}
/-! common_divisor -/
abbrev sGcd : Stmt := top 4
def spGcd : Sp := fun vs H Q _ => ∃ a b : Nat, vs = [.int a, .int b] ∧ Q (.int (Nat.gcd a b)) H
theorem scGcd : FnScope ["one", "other", "left"] ["one", "other"] (defScope sGcd) := ⟨rfl, rfl, rfl, by decide +kernel, rfl, by decide +kernel, by decide +kernel⟩
theorem ok_gcd {f : Addr} {fd : FuncData} (F : Fun K "common_divisor" "common_divisor" sGcd f fd) : FnOk P w K mg base CX0 1 f fd ["one", "other"] spGcd := by
  refine F.ok scGcd (fun vs H Q E h => ?_) (fun cdv A outer s H vs Q E hr h => ?_)
  · obtain ⟨a, b, rfl, _⟩ := h
    rfl
  · obtain ⟨a, b, rfl, k⟩ := h
    refine ⟨_, pss_cons (ps_while PassesOwn.never (pt_cmpR op_ne (pv 1) pe_int (nomark _))
      (pss_cons (ps_set (i := 2) scGcd.nd rfl (Or.inl rfl) (pe_op op_mod (pv 0) (pv 1)))
      (pss_cons (ps_set (i := 0) scGcd.nd rfl (Or.inl rfl) (pv 1))
      (pss_one (ps_set (i := 1) scGcd.nd rfl (Or.inl rfl) (pv 2))))))
      (pss_one (ps_ret (pv 0))), ?_⟩
    refine ⟨fun m σ H' => ∃ (x y : Nat) (v : Option V), m = y ∧ σ = [some (.int x), some (.int y), v] ∧ H' = H ∧ Nat.gcd x y = Nat.gcd a b, ⟨b, a, b, none, rfl, rfl, rfl, rfl⟩, ?_⟩
    rintro m σ H' ⟨x, y, v, rfl, rfl, rfl, e⟩
    refine ⟨_, rfl, rfl, _, rfl, ?_⟩
    by_cases c : (m : Int) = 0
    · have c' : m = 0 := by omega
      subst c'
      refine if_f (by simp) ?_
      refine ⟨_, rfl, ?_⟩
      rw [Nat.gcd_zero_right] at e
      rw [e]
      exact k
    · refine if_t (by simp; omega) ?_
      refine ⟨fun σ' H2 => ∃ m', m' < m ∧ ∃ (x y : Nat) (v : Option V), m' = y ∧ σ' = [some (.int x), some (.int y), v] ∧ H2 = H' ∧ Nat.gcd x y = Nat.gcd a b, fun _ _ h => h, ?_⟩
      refine ⟨_, rfl, _, rfl, _, _, rfl, rfl, by show (0 : Int) < (m : Int); omega, ?_⟩
      refine ⟨_, rfl, _, rfl, ?_⟩
      refine ⟨x % m, Nat.mod_lt _ (by omega), m, x % m, some (.int ((x : Int) % (m : Int))), rfl, ?_, rfl, ?_⟩
      · rfl
      · rw [← e, Nat.gcd_comm x m, Nat.gcd_rec m x, Nat.gcd_comm]
/-! fraction -/
abbrev sFrac : Stmt := top 5
/-- a new tuple comes back, all else stands -/
def RetT (H : Hp) (Q : VK) (xs : List V) : Prop := ∀ (H' : Hp) (p : Addr), Same H H' → H p = none → H' p = some (.tup xs) → Q (.ref p) H'
def spFrac : Sp := fun vs H Q _ => ∃ n d : Nat, vs = [.int n, .int d] ∧ 0 < d ∧ d < 2 ^ 9000 ∧ RetT H Q (frV (Lf02.frac n d))
theorem scFrac : FnScope ["upper", "lower", "divisor"] ["upper", "lower"] (defScope sFrac) := ⟨rfl, rfl, rfl, by decide +kernel, rfl, by decide +kernel, by decide +kernel⟩
theorem ok_frac {f f1 : Addr} {fd fd1 : FuncData} (F : Fun K "fraction" "fraction" sFrac f fd) (D1 : Dn K mg "common_divisor" sGcd ["one", "other"] f1 fd1) : FnOk P w K mg base CX0 2 f fd ["upper", "lower"] spFrac := by
  have G : FnOk P w K mg base CX0 1 f1 fd1 ["one", "other"] spGcd := ok_gcd D1.F
  refine F.ok scFrac (fun vs H Q E h => ?_) (fun cdv A outer s H vs Q E hr h => ?_)
  · obtain ⟨a, b, rfl, _⟩ := h
    rfl
  · obtain ⟨n, d, rfl, hd, hb, k⟩ := h
    refine ⟨_, pss_cons (ps_set (i := 2) scFrac.nd rfl (Or.inl rfl) (pe_call G hr rfl D1.g D1.F.kp D1.b .nil pass0 (pa_cons (pv 0) (pa_cons (pv 1) pa_nil))))
      (pss_one (ps_ret (pe_tup (pa_cons (pe_op op_fdivW (pv 0) (pv 2)) (pa_cons (pe_op op_fdivW (pv 1) (pv 2)) pa_nil))))), ?_⟩
    have hg : 0 < Nat.gcd n d := Nat.gcd_pos_of_pos_right _ hd
    have hl : Nat.gcd n d < 2 ^ 9000 := Nat.lt_of_le_of_lt (Nat.gcd_le_right _ hd) hb
    have cd : ∀ i, CDivW i ((Nat.gcd n d : Nat) : Int) := fun i => wide_div (b := 9000) (by omega) (by rw [Int.natAbs_natCast]; exact hl) (by decide) (by decide)
    refine ⟨_, rfl, _, rfl, n, d, rfl, ?_⟩
    refine ⟨_, rfl, _, rfl, _, _, rfl, rfl, cd _, _, rfl, _, rfl, _, _, rfl, rfl, cd _, by show 2 ≤ sizeLine; decide, fun p hp => ?_⟩
    refine k _ p (sm_new hp) hp ?_
    rw [upd_same, frac_of hd]
    rfl
end
end Fh

namespace Fh
open PySem PySem.Spec PyProof.Rows L2
open Fc
open Lf02 (Frac)
/-- not too great to be reckoned with -/
def Sz (f : Frac) : Prop := f.n < 2 ^ 4400 ∧ 0 < f.d ∧ f.d < 2 ^ 4400
theorem at0 {a b : V} : atI [a, b] 0 = some a := atI_nat (j := 0) rfl
theorem at1 {a b : V} : atI [a, b] 1 = some b := atI_nat (j := 1) rfl
theorem mulW {a b : Nat} (ha : a < 2 ^ 4400) (hb : b < 2 ^ 4400) : CMulW (a : Int) (b : Int) := wide_mul (a := 4400) (b := 4400) (by rw [Int.natAbs_natCast]; exact ha) (by rw [Int.natAbs_natCast]; exact hb) (by decide) (by decide) (by decide)
theorem mul_lt {a b : Nat} (ha : a < 2 ^ 4400) (hb : b < 2 ^ 4400) : a * b < 2 ^ 9000 := by
  have h1 : a * b < 2 ^ 4400 * 2 ^ 4400 := Nat.mul_lt_mul'' ha hb
  rw [← Nat.pow_add] at h1
  exact Nat.lt_of_lt_of_le h1 (Nat.pow_le_pow_right (by decide) (by decide))
section
variable {P : Program} {w : World} {K : PySem.W.Frag} {mg : Str → Option Value} {base : Heap}
abbrev sTimes : Stmt := top 6
abbrev sPlus : Stmt := top 7
abbrev sLess : Stmt := top 9
def sp2 (K : PySem.W.Frag) (g : Frac → Frac → Frac) : Sp := fun vs H Q _ => ∃ (a b : Addr) (x y : Frac), vs = [.ref a, .ref b] ∧ SqT K H a (frV x) ∧ SqT K H b (frV y) ∧ Sz x ∧ Sz y ∧ RetT H Q (frV (g x y))
def spLess (K : PySem.W.Frag) : Sp := fun vs H Q _ => ∃ (a b : Addr) (x y : Frac), vs = [.ref a, .ref b] ∧ SqT K H a (frV x) ∧ SqT K H b (frV y) ∧ Sz x ∧ Sz y ∧ Q (.bl (Lf02.lessF x y)) H
theorem scTimes : FnScope ["one", "other"] ["one", "other"] (defScope sTimes) := ⟨rfl, rfl, rfl, by decide +kernel, rfl, by decide +kernel, by decide +kernel⟩
theorem scPlus : FnScope ["one", "other"] ["one", "other"] (defScope sPlus) := ⟨rfl, rfl, rfl, by decide +kernel, rfl, by decide +kernel, by decide +kernel⟩
theorem scLess : FnScope ["one", "other"] ["one", "other"] (defScope sLess) := ⟨rfl, rfl, rfl, by decide +kernel, rfl, by decide +kernel, by decide +kernel⟩
theorem ok_times {f f1 : Addr} {fd fd1 : FuncData} (F : Fun K "times" "times" sTimes f fd) (D1 : Dn K mg "fraction" sFrac ["upper", "lower"] f1 fd1) (G : FnOk P w K mg base CX0 2 f1 fd1 ["upper", "lower"] spFrac) :
    FnOk P w K mg base CX0 3 f fd ["one", "other"] (sp2 K Lf02.times) := by
  refine F.ok scTimes (fun vs H Q E h => ?_) (fun cdv A outer s H vs Q E hr h => ?_)
  · obtain ⟨a, b, x, y, rfl, _⟩ := h
    rfl
  · obtain ⟨a, b, x, y, rfl, ha, hb, sx, sy, k⟩ := h
    refine ⟨_, pss_one (ps_ret (pe_call G hr rfl D1.g D1.F.kp D1.b .nil pass0 (pa_cons (pe_op op_mulW (pe_ix ix_tup (pv 0) pe_int (fun _ _ => rfl)) (pe_ix ix_tup (pv 1) pe_int (fun _ _ => rfl)))
      (pa_cons (pe_op op_mulW (pe_ix ix_tup (pv 0) pe_int (fun _ _ => rfl)) (pe_ix ix_tup (pv 1) pe_int (fun _ _ => rfl))) pa_nil)))), ?_⟩
    refine ⟨_, rfl, a, _, _, _, rfl, rfl, ha, at0, _, rfl, b, _, _, _, rfl, rfl, hb, at0, _, _, rfl, rfl, mulW sx.1 sy.1, ?_⟩
    refine ⟨_, rfl, a, _, _, _, rfl, rfl, ha, at1, _, rfl, b, _, _, _, rfl, rfl, hb, at1, _, _, rfl, rfl, mulW sx.2.2 sy.2.2, ?_⟩
    exact ⟨x.n * y.n, x.d * y.d, rfl, Nat.mul_pos sx.2.1 sy.2.1, mul_lt sx.2.2 sy.2.2, k⟩
theorem ok_plus {f f1 : Addr} {fd fd1 : FuncData} (F : Fun K "plus" "plus" sPlus f fd) (D1 : Dn K mg "fraction" sFrac ["upper", "lower"] f1 fd1) (G : FnOk P w K mg base CX0 2 f1 fd1 ["upper", "lower"] spFrac) :
    FnOk P w K mg base CX0 3 f fd ["one", "other"] (sp2 K Lf02.plus) := by
  refine F.ok scPlus (fun vs H Q E h => ?_) (fun cdv A outer s H vs Q E hr h => ?_)
  · obtain ⟨a, b, x, y, rfl, _⟩ := h
    rfl
  · obtain ⟨a, b, x, y, rfl, ha, hb, sx, sy, k⟩ := h
    refine ⟨_, pss_one (ps_ret (pe_call G hr rfl D1.g D1.F.kp D1.b .nil pass0 (pa_cons (pe_op op_add
        (pe_op op_mulW (pe_ix ix_tup (pv 0) pe_int (fun _ _ => rfl)) (pe_ix ix_tup (pv 1) pe_int (fun _ _ => rfl))) (pe_op op_mulW (pe_ix ix_tup (pv 1) pe_int (fun _ _ => rfl)) (pe_ix ix_tup (pv 0) pe_int (fun _ _ => rfl))))
      (pa_cons (pe_op op_mulW (pe_ix ix_tup (pv 0) pe_int (fun _ _ => rfl)) (pe_ix ix_tup (pv 1) pe_int (fun _ _ => rfl))) pa_nil)))), ?_⟩
    refine ⟨_, rfl, a, _, _, _, rfl, rfl, ha, at0, _, rfl, b, _, _, _, rfl, rfl, hb, at1, _, _, rfl, rfl, mulW sx.1 sy.2.2, ?_⟩
    refine ⟨_, rfl, b, _, _, _, rfl, rfl, hb, at0, _, rfl, a, _, _, _, rfl, rfl, ha, at1, _, _, rfl, rfl, mulW sy.1 sx.2.2, _, _, rfl, rfl, ?_⟩
    refine ⟨_, rfl, a, _, _, _, rfl, rfl, ha, at1, _, rfl, b, _, _, _, rfl, rfl, hb, at1, _, _, rfl, rfl, mulW sx.2.2 sy.2.2, ?_⟩
    exact ⟨x.n * y.d + y.n * x.d, x.d * y.d, rfl, Nat.mul_pos sx.2.1 sy.2.1, mul_lt sx.2.2 sy.2.2, k⟩
theorem ok_less {f : Addr} {fd : FuncData} (F : Fun K "is_less" "is_less" sLess f fd) : FnOk P w K mg base CX0 1 f fd ["one", "other"] (spLess K) := by
  refine F.ok scLess (fun vs H Q E h => ?_) (fun cdv A outer s H vs Q E hr h => ?_)
  · obtain ⟨a, b, x, y, rfl, _⟩ := h
    rfl
  · obtain ⟨a, b, x, y, rfl, ha, hb, sx, sy, k⟩ := h
    refine ⟨_, pss_one (ps_ret (pe_cmpR op_lt 
        (pe_op op_mulW (pe_ix ix_tup (pv 0) pe_int (fun _ _ => rfl)) (pe_ix ix_tup (pv 1) pe_int (fun _ _ => rfl))) (pe_op op_mulW (pe_ix ix_tup (pv 1) pe_int (fun _ _ => rfl)) (pe_ix ix_tup (pv 0) pe_int (fun _ _ => rfl))) (nomark _))), ?_⟩
    refine ⟨_, rfl, a, _, _, _, rfl, rfl, ha, at0, _, rfl, b, _, _, _, rfl, rfl, hb, at1, _, _, rfl, rfl, mulW sx.1 sy.2.2, ?_⟩
    refine ⟨_, rfl, b, _, _, _, rfl, rfl, hb, at0, _, rfl, a, _, _, _, rfl, rfl, ha, at1, _, _, rfl, rfl, mulW sy.1 sx.2.2, _, _, rfl, rfl, ?_⟩
    have e : decide ((x.n : Int) * (y.d : Int) < (y.n : Int) * (x.d : Int)) = Lf02.lessF x y := by
      unfold Lf02.lessF
      rw [← Int.natCast_mul, ← Int.natCast_mul]
      exact decide_eq_decide.mpr Int.ofNat_lt
    show Q (.bl (decide ((x.n : Int) * (y.d : Int) < (y.n : Int) * (x.d : Int)))) H
    rw [e]
    exact k
end
end Fh

namespace Fh
open PySem PySem.Spec PyProof.Rows L2
open Fc
open Lf02 (Frac State)
/-- names of Python's own that the program has not taken -/
structure Blt (mg : Str → Option Value) : Prop where
  len : mg "len" = none
  range : mg "range" = none
  sum : mg "sum" = none
  all : mg "all" = none
  zip : mg "zip" = none
  reversed : mg "reversed" = none
  list : mg "list" = none
def stV (s : State) : List V := [.int s.sort, .int s.place]
/-- tuples that stand in a list -/
abbrev Tups (H : Hp) : List Addr → List (List V) → Prop := Paired fun a xs => H a = some (.tup xs)
theorem Tups.keep {H H' : Hp} (e : Same H H') {as : List Addr} {xs : List (List V)} (h : Tups H as xs) : Tups H' as xs := Paired.mapP h fun a b z => e a _ z
theorem Tups.append {H : Hp} : ∀ {as bs : List Addr} {xs ys : List (List V)}, Tups H as xs → Tups H bs ys → Tups H (as ++ bs) (xs ++ ys)
  | _, _, _, _, .nil, s => s
  | _, _, _, _, .cons r t, s => .cons r (Tups.append t s)
theorem Tups.get {H : Hp} : ∀ {as : List Addr} {xs : List (List V)} {i : Nat} {x : List V}, Tups H as xs → xs[i]? = some x → ∃ a, as[i]? = some a ∧ H a = some (.tup x)
  | _, _, _, _, .nil, e => by simp at e
  | _, _, 0, _, .cons r _, e => by simp at e; subst e; exact ⟨_, rfl, r⟩
  | _, _, i + 1, x, .cons _ t, e => by
    obtain ⟨u, h1, h2⟩ := Tups.get (i := i) (x := x) t (by simpa using e)
    exact ⟨u, by simpa using h1, h2⟩
def three (i : Nat) : List State := [⟨0, i⟩, ⟨1, i⟩, ⟨2, i⟩]
theorem states_zero : Lf02.states 0 = [⟨0, 0⟩, ⟨1, 0⟩] := rfl
theorem states_succ (k : Nat) : Lf02.states (k + 1) = Lf02.states k ++ three (k + 1) := by
  unfold Lf02.states
  rw [List.range_succ, List.flatMap_append]
  rfl
theorem states_len : ∀ k, (Lf02.states k).length = 3 * k + 2
  | 0 => rfl
  | k + 1 => by
    rw [states_succ, List.length_append, states_len k]
    show 3 * k + 2 + 3 = _
    omega
/-- a list that changes leaves tuples alone -/
theorem tup_past {H : Hp} {l a : Addr} {xs ys : List V} {o : HO} (h : H l = some (.lst xs)) (ha : H a = some (.tup ys)) : upd H l o a = some (.tup ys) := by
  rw [upd_ne fun e => by rw [e, h] at ha; cases ha]
  exact ha
theorem Tups.past {H : Hp} {l : Addr} {xs : List V} {o : HO} (h : H l = some (.lst xs)) {as : List Addr} {yss : List (List V)} (t : Tups H as yss) : Tups (upd H l o) as yss := Paired.mapP t fun _ _ z => tup_past h z
/-- a new list of new tuples comes back -/
def RetTs (H : Hp) (Q : VK) (xs : List (List V)) : Prop := ∀ (H' : Hp) (p : Addr) (as : List Addr), Same H H' → H p = none → H' p = some (.lst (as.map V.ref)) → Tups H' as xs → Q (.ref p) H'
section
variable {P : Program} {w : World} {K : PySem.W.Frag} {mg : Str → Option Value} {base : Heap}
abbrev sStates : Stmt := top 10
def spStates : Sp := fun vs H Q _ => ∃ k : Nat, vs = [.int k] ∧ k ≤ 300 ∧ RetTs H Q ((Lf02.states k).map stV)
theorem scStates : FnScope ["last", "states", "place"] ["last"] (defScope sStates) := ⟨rfl, rfl, rfl, by decide +kernel, rfl, by decide +kernel, by decide +kernel⟩
theorem ok_states {f : Addr} {fd : FuncData} (F : Fun K "states_of" "states_of" sStates f fd) (B : Blt mg) : FnOk P w K mg base CX0 1 f fd ["last"] spStates := by
  refine F.ok scStates (fun vs H Q E h => ?_) (fun cdv A outer s H vs Q E hr h => ?_)
  · obtain ⟨a, rfl, _⟩ := h
    rfl
  · obtain ⟨k, rfl, hk, kk⟩ := h
    refine ⟨_, pss_cons (ps_set (i := 1) scStates.nd rfl (Or.inl rfl) (pe_lst (pa_cons (pe_tup (pa_cons pe_int (pa_cons pe_int pa_nil))) (pa_cons (pe_tup (pa_cons pe_int (pa_cons pe_int pa_nil))) pa_nil))))
      (pss_cons (ps_for PassesOwn.never rfl (pi_range2 rfl B.range (pa_cons pe_int (pa_cons (pe_op op_add (pv 0) pe_int) pa_nil))) (pg_name (i := 2) scStates.nd rfl (Or.inl rfl))
        (pss_one (ps_expr (pe_bm PySem.F.plainAttrs_list PySem.F.slot_list_extend PySem.F.type_list_extend mt_extend (pv 1)
          (pa_cons (pe_lst (pa_cons (pe_tup (pa_cons pe_int (pa_cons (pv 2) pa_nil))) (pa_cons (pe_tup (pa_cons pe_int (pa_cons (pv 2) pa_nil))) (pa_cons (pe_tup (pa_cons pe_int (pa_cons (pv 2) pa_nil))) pa_nil)))) pa_nil)))))
      (pss_one (ps_ret (pv 1)))), ?_⟩
    refine ⟨by show 2 ≤ sizeLine; decide, fun t1 h1 => ⟨by show 2 ≤ sizeLine; decide, fun t2 h2 => ⟨by show 2 ≤ sizeLine; decide, fun l hl => ?_⟩⟩⟩
    refine ⟨_, rfl, _, _, rfl, rfl, 1, (k : Int) + 1, rfl, ⟨by omega, by omega, by omega, by omega⟩, ?_⟩
    have en : ((k : Int) + 1 - 1).toNat = k := by omega
    rw [en]
    have s0 : Same H (upd (upd (upd H t1 (.tup [.int 0, .int 0])) t2 (.tup [.int 1, .int 0])) l (.lst [.ref t1, .ref t2])) := (sm_new h1).trans ((sm_new h2).trans (sm_new hl))
    have nl : H l = none := ((sm_new h1).trans (sm_new h2)).free hl
    refine for_range (lo := 1) (n := k) (fun i σ H' => ∃ (v : Option V) (as : List Addr), σ = [some (.int k), some (.ref l), v] ∧ Same H H' ∧ H' l = some (.lst (as.map V.ref)) ∧ Tups H' as ((Lf02.states i).map stV))
      ⟨none, [t1, t2], rfl, s0, upd_same, ?_⟩ ?_ ?_
    · refine .cons ?_ (.cons ?_ .nil)
      · have n1 : t1 ≠ t2 := fun e => by rw [← e, upd_same] at h2; cases h2
        have n2 : t1 ≠ l := fun e => by rw [← e, upd_ne n1, upd_same] at hl; cases hl
        rw [upd_ne n2, upd_ne n1, upd_same]; rfl
      · have n2 : t2 ≠ l := fun e => by rw [← e, upd_same] at hl; cases hl
        rw [upd_ne n2, upd_same]; rfl
    · rintro i σ H' hi ⟨v, as, rfl, s5, h5, t5⟩
      refine ⟨_, rfl, .inl ⟨rfl, _, SqL.of h5⟩, ?_⟩
      refine ⟨_, rfl, by show 2 ≤ sizeLine; decide, fun p1 g1 => ⟨_, rfl, by show 2 ≤ sizeLine; decide, fun p2 g2 => ⟨_, rfl, by show 2 ≤ sizeLine; decide, fun p3 g3 => ⟨by show 3 ≤ sizeLine; decide, fun m gm => ?_⟩⟩⟩⟩
      have a1 := sm_new (o := .tup [.int 0, .int (1 + (i : Int))]) g1
      have a2 := sm_new (o := .tup [.int 1, .int (1 + (i : Int))]) g2
      have a3 := sm_new (o := .tup [.int 2, .int (1 + (i : Int))]) g3
      have a4 := sm_new (o := .lst [.ref p1, .ref p2, .ref p3]) gm
      have a := a1.trans (a2.trans (a3.trans a4))
      have hl' := a _ _ h5
      have lm : as.length = 3 * i + 2 := by rw [t5.length, List.length_map, states_len]
      refine ⟨l, m, _, _, rfl, rfl, hl', upd_same, ?_, ?_⟩
      · rw [List.length_map, lm]
        exact Nat.le_of_lt (small1000 (by show 3 * i + 2 + 3 ≤ 1000; omega))
      · refine ⟨some (.int (1 + (i : Int))), as ++ [p1, p2, p3], rfl, sm_mut (s5.trans a) nl, ?_, ?_⟩
        · rw [upd_same, List.map_append]
          rfl
        · rw [states_succ, List.map_append]
          refine Tups.past hl' (Tups.append (t5.keep a) ?_)
          have e1 : (1 + (i : Int)) = ((i + 1 : Nat) : Int) := by omega
          have q1 := a4 _ _ (a3 _ _ (a2 _ _ (upd_same (H := H') (a := p1) (o := .tup [.int 0, .int (1 + (i : Int))]))))
          have q2 := a4 _ _ (a3 _ _ (upd_same (a := p2) (o := .tup [.int 1, .int (1 + (i : Int))])))
          have q3 := a4 _ _ (upd_same (a := p3) (o := .tup [.int 2, .int (1 + (i : Int))]))
          have e : ∀ z : Nat, some (HO.tup [V.int (z : Int), V.int (1 + (i : Int))]) = some (HO.tup (stV ⟨z, i + 1⟩)) := fun z => by rw [e1]; rfl
          exact .cons (q1.trans (e 0)) (.cons (q2.trans (e 1)) (.cons (q3.trans (e 2)) .nil))
    · rintro σ H' ⟨v, as, rfl, s5, h5, t5⟩
      exact ⟨_, rfl, kk _ _ as s5 nl h5 t5⟩
end
end Fh

namespace Fh
open PySem PySem.Spec PyProof.Rows L2
open Fc
open Lf02 (Frac State)
theorem lk_here {k : Str} {v : V} {r : List (Str × V)} : List.lookup k ((k, v) :: r) = some v := by
  have e : (k == k) = true := beq_self_eq_true k
  simp only [List.lookup, e]
theorem lk_past {k g : Str} {v : V} {r : List (Str × V)} (h : (k == g) = false) : List.lookup k ((g, v) :: r) = List.lookup k r := by
  simp only [List.lookup, h]
theorem put_here {f : Str} {v x : V} {r : List (Str × V)} : putF f v ((f, x) :: r) = (f, v) :: r := if_pos rfl
theorem put_past {f g : Str} {v x : V} {r : List (Str × V)} (h : ¬ g = f) : putF f v ((g, x) :: r) = (g, x) :: putF f v r := if_neg h
/-! Rest: its attributes -/
def rF (a : V) (b : V) (c : V) (d : V) (e : V) : List (Str × V) := [("total", a), ("ways", b), ("best", c), ("ties", d), ("target", e)]
section
variable {a b c d e y : V}
theorem rF_total : (rF a b c d e).lookup ("total" : Str) = some a := lk_here
theorem rF_ways : (rF a b c d e).lookup ("ways" : Str) = some b := (lk_past (by decide +kernel)).trans lk_here
theorem rF_best : (rF a b c d e).lookup ("best" : Str) = some c := (lk_past (by decide +kernel)).trans ((lk_past (by decide +kernel)).trans lk_here)
theorem rF_ties : (rF a b c d e).lookup ("ties" : Str) = some d := (lk_past (by decide +kernel)).trans ((lk_past (by decide +kernel)).trans ((lk_past (by decide +kernel)).trans lk_here))
theorem rF_target : (rF a b c d e).lookup ("target" : Str) = some e := (lk_past (by decide +kernel)).trans ((lk_past (by decide +kernel)).trans ((lk_past (by decide +kernel)).trans ((lk_past (by decide +kernel)).trans lk_here)))
theorem rF_add : (rF a b c d e).lookup ("add_step" : Str) = none := (lk_past (by decide +kernel)).trans ((lk_past (by decide +kernel)).trans ((lk_past (by decide +kernel)).trans ((lk_past (by decide +kernel)).trans ((lk_past (by decide +kernel)).trans rfl))))
theorem rF_pTotal : putF "total" y (rF a b c d e) = rF y b c d e := put_here
theorem rF_pWays : putF "ways" y (rF a b c d e) = rF a y c d e := (put_past (by decide +kernel)).trans (congrArg _ put_here)
theorem rF_pBest : putF "best" y (rF a b c d e) = rF a b y d e := (put_past (by decide +kernel)).trans (congrArg _ ((put_past (by decide +kernel)).trans (congrArg _ put_here)))
theorem rF_pTies : putF "ties" y (rF a b c d e) = rF a b c y e := (put_past (by decide +kernel)).trans (congrArg _ ((put_past (by decide +kernel)).trans (congrArg _ ((put_past (by decide +kernel)).trans (congrArg _ put_here)))))
theorem rF_pTarget : putF "target" y (rF a b c d e) = rF a b c d y := (put_past (by decide +kernel)).trans (congrArg _ ((put_past (by decide +kernel)).trans (congrArg _ ((put_past (by decide +kernel)).trans (congrArg _ ((put_past (by decide +kernel)).trans (congrArg _ put_here)))))))
theorem rF_new : putF "target" e (putF "ties" d (putF "best" c (putF "ways" b (putF "total" a [])))) = rF a b c d e := by
  have h1 : putF "total" a [] = [(("total" : Str), a)] := rfl
  have h2 : putF "ways" b [(("total" : Str), a)] = [(("total" : Str), a), (("ways" : Str), b)] := (put_past (by decide +kernel)).trans rfl
  have h3 : putF "best" c [(("total" : Str), a), ("ways", b)] = [(("total" : Str), a), (("ways" : Str), b), (("best" : Str), c)] := (put_past (by decide +kernel)).trans (congrArg _ ((put_past (by decide +kernel)).trans rfl))
  have h4 : putF "ties" d [(("total" : Str), a), ("ways", b), ("best", c)] = [(("total" : Str), a), (("ways" : Str), b), (("best" : Str), c), (("ties" : Str), d)] := (put_past (by decide +kernel)).trans (congrArg _ ((put_past (by decide +kernel)).trans (congrArg _ ((put_past (by decide +kernel)).trans rfl))))
  have h5 : putF "target" e [(("total" : Str), a), ("ways", b), ("best", c), ("ties", d)] = rF a b c d e := (put_past (by decide +kernel)).trans (congrArg _ ((put_past (by decide +kernel)).trans (congrArg _ ((put_past (by decide +kernel)).trans (congrArg _ ((put_past (by decide +kernel)).trans rfl))))))
  rw [h1, h2, h3, h4, h5]
end
/-- what the top says of the class Rest -/
structure TRest (K : PySem.W.Frag) (mg : Str → Option Value) (C : Addr) : Prop where
  cl : Cls K C
  g : mg "Rest" = some (.ref C)
  nTotal : NoAttr K C "total"
  nWays : NoAttr K C "ways"
  nBest : NoAttr K C "best"
  nTies : NoAttr K C "ties"
  nTarget : NoAttr K C "target"
/-- all but what stands at a is as it was -/
def But (a : Addr) (H H' : Hp) : Prop := ∀ b o, H b = some o → b ≠ a → H' b = some o
theorem But.refl (a : Addr) (H : Hp) : But a H H := fun _ _ h _ => h
theorem But.trans {a : Addr} {H H1 H2 : Hp} (x : But a H H1) (y : But a H1 H2) : But a H H2 := fun b o h n => y b o (x b o h n) n
theorem But.upd {a : Addr} {H : Hp} {o : HO} : But a H (upd H a o) := fun b u h n => by
  rw [upd_ne n]
  exact h
theorem But.of {a : Addr} {H H' : Hp} (s : Same H H') : But a H H' := fun b o h _ => s b o h
theorem But.same {a : Addr} {H H' : Hp} (x : But a H H') (h : H a = none) : Same H H' := fun b o e => x b o e (ne_of_none e h)
/-- a tuple is none of what changes -/
theorem But.tup {K : PySem.W.Frag} {a t C dx : Addr} {fs : List (Str × V)} {H H' : Hp} {xs : List V} (x : But a H H') (ha : H a = some (.ins C dx fs)) (h : SqT K H t xs) : SqT K H' t xs := by
  rcases h with (h | ⟨o, h⟩) | h
  · exact .inl (.inl (x _ _ h (fun e => by rw [e, ha] at h; cases h)))
  · exact .inl (.inr ⟨o, x _ _ h (fun e => by rw [e, ha] at h; cases h)⟩)
  · exact .inr h
/-- a Rest lies at a: its numbers, its target -/
def RestAt (K : PySem.W.Frag) (C : Addr) (H : Hp) (a : Addr) (r : R) (tg : V) : Prop :=
  ∃ dx pt pb, H a = some (.ins C dx (rF (.ref pt) (.int r.ways) (.ref pb) (.int r.ties) tg)) ∧ SqT K H pt (frV r.total) ∧ SqT K H pb (frV r.best)
theorem RestAt.keep {K : PySem.W.Frag} {C : Addr} {H H' : Hp} {a : Addr} {r : R} {tg : V} (s : Same H H') (h : RestAt K C H a r tg) : RestAt K C H' a r tg := by
  obtain ⟨dx, pt, pb, h1, h2, h3⟩ := h
  exact ⟨dx, pt, pb, s _ _ h1, sm_tup s h2, sm_tup s h3⟩
theorem RestAt.past {K : PySem.W.Frag} {C : Addr} {H H' : Hp} {a b : Addr} {r : R} {tg : V} {dx : Addr} {fs : List (Str × V)} (x : But b H H') (hb : H b = some (.ins C dx fs)) (n : a ≠ b) (h : RestAt K C H a r tg) : RestAt K C H' a r tg := by
  obtain ⟨dx, pt, pb, h1, h2, h3⟩ := h
  exact ⟨dx, pt, pb, x _ _ h1 n, x.tup hb h2, x.tup hb h3⟩
section
variable {P : Program} {w : World} {K : PySem.W.Frag} {mg : Str → Option Value} {base : Heap} {C : Addr}
abbrev sRInit : Stmt := inClass (top 12) 0
abbrev sRAdd : Stmt := inClass (top 12) 1
def spRInit (C : Addr) : Sp := fun vs H Q _ => ∃ (p dx t : Addr) (n : Nat), vs = [.ref p, .ref t, .int n] ∧ H p = some (.ins C dx []) ∧
  ∀ H' : Hp, H' p = some (.ins C dx (rF (.ref t) (.int n) (.ref t) (.int n) .non)) → But p H H' → Q .non H'
theorem scRInit : FnScope ["self", "chance", "ways"] ["self", "chance", "ways"] (defScope sRInit) := ⟨rfl, rfl, rfl, by decide +kernel, rfl, by decide +kernel, by decide +kernel⟩
theorem ok_rinit {f : Addr} {fd : FuncData} (F : Fun K "__init__" "Rest.__init__" sRInit f fd) (T : TRest K mg C) : FnOk P w K mg base CX0 1 f fd ["self", "chance", "ways"] (spRInit C) := by
  refine F.ok scRInit (fun vs H Q E h => ?_) (fun cdv A outer s H vs Q E hr h => ?_)
  · obtain ⟨p, dx, t, n, rfl, _⟩ := h
    rfl
  · obtain ⟨p, dx, t, n, rfl, hp, k⟩ := h
    refine ⟨_, pss_cons (ps_fld (pv 0) (pv 1) rfl) (pss_cons (ps_fld (pv 0) (pv 2) rfl) (pss_cons (ps_fld (pv 0) (pv 1) rfl) (pss_cons (ps_fld (pv 0) (pv 2) rfl) (pss_one (ps_fld (pv 0) pe_non rfl))))), ?_⟩
    refine ⟨_, rfl, _, rfl, p, C, dx, [], rfl, hp, T.cl, T.nTotal, (by show 0 < 1000; decide), ?_⟩
    refine ⟨_, rfl, _, rfl, p, C, dx, _, rfl, upd_same, T.cl, T.nWays, (by show 1 < 1000; decide), ?_⟩
    refine ⟨_, rfl, _, rfl, p, C, dx, _, rfl, upd_same, T.cl, T.nBest, (by show 2 < 1000; decide), ?_⟩
    refine ⟨_, rfl, _, rfl, p, C, dx, _, rfl, upd_same, T.cl, T.nTies, (by show 3 < 1000; decide), ?_⟩
    refine ⟨_, rfl, p, C, dx, _, rfl, upd_same, T.cl, T.nTarget, (by show 4 < 1000; decide), ?_⟩
    refine k _ ?_ ?_
    · rw [upd_same]
      exact congrArg (fun z => some (HO.ins C dx z)) rF_new
    · exact But.upd.trans (But.upd.trans (But.upd.trans (But.upd.trans But.upd)))
end
end Fh

namespace Fh
open PySem PySem.Spec PyProof.Rows L2
open Fc
open Lf02 (Frac State)
def frD (f : Frac) : PyData := .tuple [.int f.n, .int f.d]
theorem dp_fr {K : PySem.W.Frag} {H : Hp} {p : Addr} {f : Frac} (h : SqT K H p (frV f)) : Dp K H (.ref p) (frD f) := .tup h (.cons (.int _) (.cons (.int _) .nil))
theorem shaped_fr (f : Frac) : SeqAt.shaped (frD f) = true := rfl
theorem eqv_fr (f g : Frac) : PyData.eqv (frD f) (frD g) = decide (f = g) := by
  have e : PyData.eqv (frD f) (frD g) = (((f.n : Int) == (g.n : Int)) && (((f.d : Int) == (g.d : Int)) && true)) := by simp [frD, PyData.eqv, PyData.eqvAll]
  rw [e]
  by_cases h : f = g
  · subst h
    simp
  · rw [decide_eq_false h]
    by_cases h1 : f.n = g.n
    · have h2 : f.d ≠ g.d := fun z => h (by cases f; cases g; simp_all)
      have h3 : ((f.d : Int) == (g.d : Int)) = false := beq_eq_false_iff_ne.mpr (by omega)
      rw [h3]
      simp
    · have h3 : ((f.n : Int) == (g.n : Int)) = false := beq_eq_false_iff_ne.mpr (by omega)
      rw [h3]
      rfl
/-- the target behind one more step -/
def addT (r : R) (tg : V) (x : Frac) (tv : V) (a : R) : V := if a.ways = 0 then tg else if Lf02.lessF r.best (Lf02.times x a.best) = true then tv else tg
section
variable {P : Program} {w : World} {K : PySem.W.Frag} {mg : Str → Option Value} {base : Heap} {C : Addr}
def spRAdd (K : PySem.W.Frag) (C : Addr) : Sp := fun vs H Q _ => ∃ (a b t : Addr) (r ra : R) (tg tb tv : V) (x : Frac), vs = [.ref a, .ref t, tv, .ref b] ∧ a ≠ b ∧ RestAt K C H a r tg ∧ RestAt K C H b ra tb ∧ SqT K H t (frV x) ∧
  Sz r.total ∧ Sz r.best ∧ Sz x ∧ Sz ra.total ∧ Sz ra.best ∧ Sz (Lf02.times x ra.total) ∧ Sz (Lf02.times x ra.best) ∧
  ∀ (H' : Hp) (g : List State → List State), But a H H' → RestAt K C H' a (addStep r x g ra) (addT r tg x tv ra) → Q .non H'
theorem scRAdd : FnScope ["self", "chance", "target", "ahead", "reached"] ["self", "chance", "target", "ahead"] (defScope sRAdd) := ⟨rfl, rfl, rfl, by decide +kernel, rfl, by decide +kernel, by decide +kernel⟩
theorem ok_radd {f fT fP fL : Addr} {fd dT dP dL : FuncData} (F : Fun K "add_step" "Rest.add_step" sRAdd f fd) (T : TRest K mg C) (DT : Dn K mg "times" sTimes ["one", "other"] fT dT) (DP : Dn K mg "plus" sPlus ["one", "other"] fP dP) (DL : Dn K mg "is_less" sLess ["one", "other"] fL dL)
    (GT : FnOk P w K mg base CX0 3 fT dT ["one", "other"] (sp2 K Lf02.times)) (GP : FnOk P w K mg base CX0 3 fP dP ["one", "other"] (sp2 K Lf02.plus)) (GL : FnOk P w K mg base CX0 1 fL dL ["one", "other"] (spLess K)) :
    FnOk P w K mg base CX0 4 f fd ["self", "chance", "target", "ahead"] (spRAdd K C) := by
  refine F.ok scRAdd (fun vs H Q E h => ?_) (fun cdv A outer s H vs Q E hr h => ?_)
  · obtain ⟨a, b, t, r, ra, tg, tb, tv, x, rfl, _⟩ := h
    rfl
  · obtain ⟨a, b, t, r, ra, tg, tb, tv, x, rfl, nab, ha, hb, ht, z1, z2, z3, z4, z5, z6, z7, k⟩ := h
    have hr1 : Room 1 _ := hr.mono (by decide)
    refine ⟨_, pss_cons (ps_if (pt_cmpR op_eq (pe_fld (pv 3) rfl) pe_int (nomark _)) (pss_one ps_retN) pss_nil)
      (pss_cons (ps_fld (pv 0) (pe_call GP hr rfl DP.g DP.F.kp DP.b .nil pass0 (pa_cons (pe_fld (pv 0) rfl) (pa_cons (pe_call GT hr rfl DT.g DT.F.kp DT.b .nil pass0 (pa_cons (pv 1) (pa_cons (pe_fld (pv 3) rfl) pa_nil))) pa_nil))) rfl)
      (pss_cons (ps_fld (pv 0) (pe_op op_add (pe_fld (pv 0) rfl) (pe_fld (pv 3) rfl)) rfl)
      (pss_cons (ps_set (i := 4) scRAdd.nd rfl (Or.inl rfl) (pe_call GT hr rfl DT.g DT.F.kp DT.b .nil pass0 (pa_cons (pv 1) (pa_cons (pe_fld (pv 3) rfl) pa_nil))))
      (pss_one (ps_if (pt_val (pe_call GL hr1 rfl DL.g DL.F.kp DL.b .nil pass0 (pa_cons (pe_fld (pv 0) rfl) (pa_cons (pv 4) pa_nil))))
        (pss_cons (ps_fld (pv 0) (pv 4) rfl) (pss_cons (ps_fld (pv 0) (pe_fld (pv 3) rfl) rfl) (pss_one (ps_fld (pv 0) (pv 2) rfl))))
        (pss_one (ps_if (pt_cmpR (op_eqD hr.units) (pv 4) (pe_fld (pv 0) rfl) (nomark _)) (pss_one (ps_fld (pv 0) (pe_op op_add (pe_fld (pv 0) rfl) (pe_fld (pv 3) rfl)) rfl)) pss_nil))))))), ?_⟩
    obtain ⟨dxa, pta, pba, ea, eta, eba⟩ := ha
    obtain ⟨dxb, ptb, pbb, eb, etb, ebb⟩ := hb
    -- if ahead.ways == 0: return
    refine ⟨_, rfl, b, C, dxb, _, _, rfl, eb, T.cl, T.nWays, rF_ways, rfl, _, rfl, ?_⟩
    by_cases c0 : ra.ways = 0
    · refine if_t (by rw [c0]; rfl) ?_
      refine k H id (But.refl a H) ?_
      rw [add_none c0]
      refine ⟨dxa, pta, pba, ?_, eta, eba⟩
      rw [addT, if_pos c0]
      exact ea
    refine if_f (by simp; omega) ?_
    -- self.total = plus(self.total, times(chance, ahead.total))
    refine ⟨_, rfl, a, C, dxa, _, _, rfl, ea, T.cl, T.nTotal, rF_total, ?_⟩
    refine ⟨_, rfl, _, rfl, b, C, dxb, _, _, rfl, eb, T.cl, T.nTotal, rF_total, ?_⟩
    refine ⟨t, ptb, x, ra.total, rfl, ht, etb, z3, z4, fun H1 p1 s1 n1 e1 => ?_⟩
    refine ⟨pta, p1, r.total, Lf02.times x ra.total, rfl, sm_tup s1 eta, .inl (.inl e1), z1, z6, fun H2 p2 s2 n2 e2 => ?_⟩
    have s12 := s1.trans s2
    refine ⟨_, rfl, a, C, dxa, _, rfl, s12 _ _ ea, T.cl, T.nTotal, (by show 5 < 1000; decide), ?_⟩
    rw [rF_pTotal]
    have k3 : But a H (upd H2 a (.ins C dxa (rF (.ref p2) (.int r.ways) (.ref pba) (.int r.ties) tg))) := (But.of s12).trans But.upd
    have b3 := k3 _ _ eb (Ne.symm nab)
    -- self.ways = self.ways + ahead.ways
    refine ⟨_, rfl, a, C, dxa, _, _, rfl, upd_same, T.cl, T.nWays, rF_ways, _, rfl, b, C, dxb, _, _, rfl, b3, T.cl, T.nWays, rF_ways, _, _, rfl, rfl, ?_⟩
    refine ⟨_, rfl, a, C, dxa, _, rfl, upd_same, T.cl, T.nWays, (by show 5 < 1000; decide), ?_⟩
    rw [rF_pWays, upd_upd]
    have ew : (r.ways : Int) + (ra.ways : Int) = ((r.ways + ra.ways : Nat) : Int) := by omega
    show tSeq _ _ _ _ (upd H2 a (.ins C dxa (rF (.ref p2) (.int ((r.ways : Int) + (ra.ways : Int))) (.ref pba) (.int r.ties) tg)))
    rw [ew]
    have k4 : But a H (upd H2 a (.ins C dxa (rF (.ref p2) (.int ((r.ways + ra.ways : Nat) : Int)) (.ref pba) (.int r.ties) tg))) := (But.of s12).trans But.upd
    have b4 := k4 _ _ eb (Ne.symm nab)
    have t4 := k4.tup ea ht
    have u4 := k4.tup ea ebb
    have v4 := k4.tup ea eba
    have w4 : (upd H2 a (.ins C dxa (rF (.ref p2) (.int ((r.ways + ra.ways : Nat) : Int)) (.ref pba) (.int r.ties) tg))) p2 = some (.tup (frV (Lf02.plus r.total (Lf02.times x ra.total)))) := by
      rw [upd_ne (ne_of e2 (s12 _ _ ea) (by intro z; cases z))]
      exact e2
    have a4 : (upd H2 a (.ins C dxa (rF (.ref p2) (.int ((r.ways + ra.ways : Nat) : Int)) (.ref pba) (.int r.ties) tg))) a = some (.ins C dxa (rF (.ref p2) (.int ((r.ways + ra.ways : Nat) : Int)) (.ref pba) (.int r.ties) tg)) := upd_same
    revert k4 b4 t4 u4 v4 w4 a4
    generalize upd H2 a (.ins C dxa (rF (.ref p2) (.int ((r.ways + ra.ways : Nat) : Int)) (.ref pba) (.int r.ties) tg)) = H4
    intro k4 b4 t4 u4 v4 w4 a4
    -- reached = times(chance, ahead.best)
    refine ⟨_, rfl, _, rfl, b, C, dxb, _, _, rfl, b4, T.cl, T.nBest, rF_best, ?_⟩
    refine ⟨t, pbb, x, ra.best, rfl, t4, u4, z3, z5, fun H5 p5 s5 n5 e5 => ?_⟩
    have a5 := s5 _ _ a4
    have b5 := s5 _ _ b4
    have v5 := sm_tup s5 v4
    have w5 := s5 _ _ w4
    have k5 : But a H H5 := k4.trans (But.of s5)
    -- if is_less(self.best, reached)
    refine ⟨_, rfl, a, C, dxa, _, _, rfl, a5, T.cl, T.nBest, rF_best, _, rfl, ?_⟩
    refine ⟨pba, p5, r.best, Lf02.times x ra.best, rfl, v5, .inl (.inl e5), z2, z7, _, rfl, ?_⟩
    by_cases c1 : Lf02.lessF r.best (Lf02.times x ra.best) = true
    · refine if_t c1 ?_
      refine ⟨_, rfl, _, rfl, a, C, dxa, _, rfl, a5, T.cl, T.nBest, (by show 5 < 1000; decide), ?_⟩
      rw [rF_pBest]
      have b6 := (But.upd (a := a) (H := H5) (o := .ins C dxa (rF (.ref p2) (.int ((r.ways + ra.ways : Nat) : Int)) (.ref p5) (.int r.ties) tg))) _ _ b5 (Ne.symm nab)
      refine ⟨_, rfl, b, C, dxb, _, _, rfl, b6, T.cl, T.nTies, rF_ties, _, rfl, a, C, dxa, _, rfl, upd_same, T.cl, T.nTies, (by show 5 < 1000; decide), ?_⟩
      rw [rF_pTies, upd_upd]
      refine ⟨_, rfl, _, rfl, a, C, dxa, _, rfl, upd_same, T.cl, T.nTarget, (by show 5 < 1000; decide), ?_⟩
      rw [rF_pTarget, upd_upd]
      refine k _ id (k5.trans But.upd) ?_
      rw [add_lt c0 c1, addT, if_neg c0, if_pos c1]
      refine ⟨dxa, p2, p5, upd_same, ?_, ?_⟩
      · exact (But.upd (a := a)).tup a5 (.inl (.inl w5))
      · exact (But.upd (a := a)).tup a5 (.inl (.inl e5))
    · refine if_f (by simpa using c1) ?_
      -- elif reached == self.best
      refine ⟨_, rfl, _, rfl, a, C, dxa, _, _, rfl, a5, T.cl, T.nBest, rF_best, ?_⟩
      refine ⟨frD (Lf02.times x ra.best), frD r.best, dp_fr (.inl (.inl e5)), dp_fr v5, shaped_fr _, shaped_fr _, _, rfl, ?_⟩
      rw [eqv_fr]
      by_cases c2 : Lf02.times x ra.best = r.best
      · refine if_t (decide_eq_true c2) ?_
        refine ⟨_, rfl, a, C, dxa, _, _, rfl, a5, T.cl, T.nTies, rF_ties, _, rfl, b, C, dxb, _, _, rfl, b5, T.cl, T.nTies, rF_ties, _, _, rfl, rfl, ?_⟩
        refine ⟨_, rfl, a, C, dxa, _, rfl, a5, T.cl, T.nTies, (by show 5 < 1000; decide), ?_⟩
        rw [rF_pTies]
        refine k _ id (k5.trans But.upd) ?_
        rw [add_eq c0 c1 c2, addT, if_neg c0, if_neg c1]
        refine ⟨dxa, p2, pba, upd_same, ?_, ?_⟩
        · exact (But.upd (a := a)).tup a5 (.inl (.inl w5))
        · exact (But.upd (a := a)).tup a5 v5
      · refine if_f (decide_eq_false c2) ?_
        refine k _ id k5 ?_
        rw [add_gt c0 c1 c2, addT, if_neg c0, if_neg c1]
        exact ⟨dxa, p2, pba, a5, .inl (.inl w5), v5⟩
end
end Fh

namespace Fh
open PySem PySem.Spec PyProof.Rows L2
open Fc
open Lf02 (Frac State Chain Word)
def natsV (l : List Nat) : List V := l.map fun (n : Nat) => V.int (n : Int)
def mvV (m : Nat × Nat × Nat) : List V := natsV [m.1, m.2.1, m.2.2]
def spV (so pl m : Nat) : List V := [.int so, .int pl, .int m]
def stK (s : State) : List Key := [.inl (s.sort : Int), .inl (s.place : Int)]
theorem stK_map (s : State) : (stK s).map kV = stV s := rfl
abbrev Lsts (H : Hp) : List Addr → List (List V) → Prop := Paired fun a xs => H a = some (.lst xs)
theorem Lsts.keep {H H' : Hp} (e : Same H H') {as : List Addr} {xs : List (List V)} (h : Lsts H as xs) : Lsts H' as xs := Paired.mapP h fun a b z => e a _ z
theorem Lsts.get {H : Hp} : ∀ {as : List Addr} {xs : List (List V)} {i : Nat} {x : List V}, Lsts H as xs → xs[i]? = some x → ∃ a, as[i]? = some a ∧ H a = some (.lst x)
  | _, _, _, _, .nil, e => by simp at e
  | _, _, 0, _, .cons r _, e => by simp at e; subst e; exact ⟨_, rfl, r⟩
  | _, _, i + 1, x, .cons _ t, e => by
    obtain ⟨u, h1, h2⟩ := Lsts.get (i := i) (x := x) t (by simpa using e)
    exact ⟨u, by simpa using h1, h2⟩
/-- what the top says of the class Chain -/
structure TChain (K : PySem.W.Frag) (mg : Str → Option Value) (C : Addr) : Prop where
  cl : Cls K C
  g : mg "Chain" = some (.ref C)
  nLast : NoAttr K C "last"
  nLetters : NoAttr K C "letters"
  nMoves : NoAttr K C "moves"
  nCounted : NoAttr K C "counted"
  nLL : NoAttr K C "learnt_letters"
  nLM : NoAttr K C "learnt_moves"
/-- a Chain lies at a, as it is read: how many places, the letters' weights, the moves' -/
structure ChRd (C : Addr) (H : Hp) (a : Addr) (c : Chain) (fs : List (Str × V)) (dx pl pm : Addr) (ls : List Addr) (kvs : List (List Key × V)) : Prop where
  ins : H a = some (.ins C dx fs)
  last : fs.lookup ("last" : Str) = some (.int c.k)
  letters : fs.lookup ("letters" : Str) = some (.ref pl)
  moves : fs.lookup ("moves" : Str) = some (.ref pm)
  hl : H pl = some (.lst (ls.map V.ref))
  hls : Lsts H ls ((c.ground :: c.letters).map natsV)
  hm : H pm = some (.dT kvs)
  hms : ∀ s, IsS c.k s → ∃ pa, valV kvs (stK s) = some (.ref pa) ∧ H pa = some (.lst (mvV (Lf02.movesOf c s)))
theorem ChRd.keep {C : Addr} {H H' : Hp} {a : Addr} {c : Chain} {fs : List (Str × V)} {dx pl pm : Addr} {ls : List Addr} {kvs : List (List Key × V)} (e : Same H H') (h : ChRd C H a c fs dx pl pm ls kvs) : ChRd C H' a c fs dx pl pm ls kvs :=
  ⟨e _ _ h.ins, h.last, h.letters, h.moves, e _ _ h.hl, h.hls.keep e, e _ _ h.hm, fun s hs => by
    obtain ⟨pa, h1, h2⟩ := h.hms s hs
    exact ⟨pa, h1, e _ _ h2⟩⟩
def ChainAt (C : Addr) (H : Hp) (a : Addr) (c : Chain) : Prop := ∃ fs dx pl pm ls kvs, ChRd C H a c fs dx pl pm ls kvs
theorem ChainAt.keep {C : Addr} {H H' : Hp} {a : Addr} {c : Chain} (e : Same H H') (h : ChainAt C H a c) : ChainAt C H' a c := by
  obtain ⟨fs, dx, pl, pm, ls, kvs, h⟩ := h
  exact ⟨fs, dx, pl, pm, ls, kvs, h.keep e⟩
theorem at30 {a b c : V} : atI [a, b, c] 0 = some a := atI_nat (j := 0) rfl
theorem at31 {a b c : V} : atI [a, b, c] 1 = some b := atI_nat (j := 1) rfl
theorem at32 {a b c : V} : atI [a, b, c] 2 = some c := atI_nat (j := 2) rfl
/-- where the three moves lead from a spot -/
def tgts (k pl m : Nat) : List (Nat × Nat × Nat) := [(0, pl + 1, if pl = k then m else m + 1), (1, pl, m + 1), (2, pl + 1, m)]
def sp3 (t : Nat × Nat × Nat) : List V := spV t.1 t.2.1 t.2.2
section
variable {P : Program} {w : World} {K : PySem.W.Frag} {mg : Str → Option Value} {base : Heap} {C : Addr}
abbrev sTgts : Stmt := top 13
def spTgts (K : PySem.W.Frag) (C : Addr) : Sp := fun vs H Q _ => ∃ (a p : Addr) (c : Chain) (so pl m : Nat), vs = [.ref a, .ref p] ∧ ChainAt C H a c ∧ SqT K H p (spV so pl m) ∧ RetTs H Q ((tgts c.k pl m).map sp3)
theorem scTgts : FnScope ["chain", "spot", "place", "made", "made_on"] ["chain", "spot"] (defScope sTgts) := ⟨rfl, rfl, rfl, by decide +kernel, rfl, by decide +kernel, by decide +kernel⟩
theorem ok_tgts {f : Addr} {fd : FuncData} (F : Fun K "targets_of" "targets_of" sTgts f fd) (T : TChain K mg C) : FnOk P w K mg base CX0 1 f fd ["chain", "spot"] (spTgts K C) := by
  refine F.ok scTgts (fun vs H Q E h => ?_) (fun cdv A outer s H vs Q E hr h => ?_)
  · obtain ⟨a, p, c, so, pl, m, rfl, _⟩ := h
    rfl
  · obtain ⟨a, p, c, so, pl, m, rfl, ⟨fs, dx, ql, qm, ls, kvs, hc⟩, hp, k⟩ := h
    refine ⟨_, pss_cons (ps_set (i := 2) scTgts.nd rfl (Or.inl rfl) (pe_ix ix_tup (pv 1) pe_int (fun _ _ => rfl)))
      (pss_cons (ps_set (i := 3) scTgts.nd rfl (Or.inl rfl) (pe_ix ix_tup (pv 1) pe_int (fun _ _ => rfl)))
      (pss_cons (ps_set (i := 4) scTgts.nd rfl (Or.inl rfl) (pe_ifExp (pt_cmpR op_eq (pv 2) (pe_fld (pv 0) rfl) (nomark _)) (pv 3) (pe_op op_add (pv 3) pe_int)))
      (pss_one (ps_ret (pe_lst (pa_cons (pe_tup (pa_cons pe_int (pa_cons (pe_op op_add (pv 2) pe_int) (pa_cons (pv 4) pa_nil))))
        (pa_cons (pe_tup (pa_cons pe_int (pa_cons (pv 2) (pa_cons (pe_op op_add (pv 3) pe_int) pa_nil))))
        (pa_cons (pe_tup (pa_cons pe_int (pa_cons (pe_op op_add (pv 2) pe_int) (pa_cons (pv 3) pa_nil)))) pa_nil)))))))), ?_⟩
    refine ⟨_, rfl, p, _, _, _, rfl, rfl, hp, at31, ?_⟩
    refine ⟨_, rfl, p, _, _, _, rfl, rfl, hp, at32, ?_⟩
    refine ⟨_, rfl, _, rfl, a, C, dx, _, _, rfl, hc.ins, T.cl, T.nLast, hc.last, rfl, _, rfl, ?_⟩
    have last : ∀ mo : Nat, mo = (if pl = c.k then m else m + 1) → tRet (tLst (tCons (tTup (tCons (tC (.int 0)) (tCons (tOp (rI0 fun i j => .int (i + j)) (tVar 2) (tC (.int 1))) (tCons (tVar 4) tNil)))) (tCons (tTup (tCons (tC (.int 1)) (tCons (tVar 2) (tCons (tOp (rI0 fun i j => .int (i + j)) (tVar 3) (tC (.int 1))) tNil)))) (tCons (tTup (tCons (tC (.int 2)) (tCons (tOp (rI0 fun i j => .int (i + j)) (tVar 2) (tC (.int 1))) (tCons (tVar 3) tNil)))) tNil))))
        { nx := fun _ H' => Q .non H', rt := Q } [some (.ref a), some (.ref p), some (.int pl), some (.int m), some (.int mo)] H := by
      intro mo hmo
      refine ⟨_, rfl, _, _, rfl, rfl, _, rfl, by show 3 ≤ sizeLine; decide, fun t1 h1 => ?_⟩
      refine ⟨_, rfl, _, rfl, _, _, rfl, rfl, by show 3 ≤ sizeLine; decide, fun t2 h2 => ?_⟩
      refine ⟨_, rfl, _, _, rfl, rfl, _, rfl, by show 3 ≤ sizeLine; decide, fun t3 h3 => ⟨by show 3 ≤ sizeLine; decide, fun l hl => ?_⟩⟩
      have a1 := sm_new (o := .tup [.int 0, .int ((pl : Int) + 1), .int mo]) h1
      have a2 := sm_new (o := .tup [.int 1, .int pl, .int ((m : Int) + 1)]) h2
      have a3 := sm_new (o := .tup [.int 2, .int ((pl : Int) + 1), .int m]) h3
      have a4 := sm_new (o := .lst [.ref t1, .ref t2, .ref t3]) hl
      refine k _ l [t1, t2, t3] (a1.trans (a2.trans (a3.trans a4))) ((a1.trans (a2.trans a3)).free hl) upd_same ?_
      have q1 := a4 _ _ (a3 _ _ (a2 _ _ (upd_same (H := H) (a := t1) (o := .tup [.int 0, .int ((pl : Int) + 1), .int mo]))))
      have q2 := a4 _ _ (a3 _ _ (upd_same (a := t2) (o := .tup [.int 1, .int pl, .int ((m : Int) + 1)])))
      have q3 := a4 _ _ (upd_same (a := t3) (o := .tup [.int 2, .int ((pl : Int) + 1), .int m]))
      rw [hmo] at q1
      exact .cons (hmo ▸ q1) (.cons (hmo ▸ q2) (.cons (hmo ▸ q3) .nil))
    by_cases e : pl = c.k
    · refine if_t (decide_eq_true (by rw [e])) ?_
      exact ⟨_, rfl, last m (by rw [if_pos e])⟩
    · refine if_f (decide_eq_false (fun z => e (by injection z with z; omega))) ?_
      exact ⟨_, rfl, _, _, rfl, rfl, last (m + 1) (by rw [if_neg e])⟩
end
end Fh

namespace Fh
open PySem PySem.Spec PyProof.Rows L2
open Fc
open Lf02 (Frac State Chain Word)
/-- the constants of the top -/
structure TCon (K : PySem.W.Frag) (mg : Str → Option Value) (z o b : Addr) : Prop where
  zero : mg "ZERO" = some (.ref z)
  one : mg "ONE" = some (.ref o)
  beg : mg "BEGINNING" = some (.ref b)
  hz : ∀ H : Hp, SqT K H z (frV ⟨0, 1⟩)
  ho : ∀ H : Hp, SqT K H o (frV ⟨1, 1⟩)
  hb : ∀ H : Hp, SqT K H b (spV 0 0 0)
def RetF (K : PySem.W.Frag) (H : Hp) (Q : VK) (f : Frac) : Prop := ∀ (H' : Hp) (p : Addr), Same H H' → SqT K H' p (frV f) → Q (.ref p) H'
/-- how likely what is made on arriving is -/
def arr (c : Chain) (w : Word) (so pl m : Nat) : Frac :=
  if so = 2 then ⟨1, 1⟩ else if c.k < pl then (if m = w.length then ⟨1, 1⟩ else ⟨0, 1⟩) else if w.length < m then ⟨0, 1⟩ else Lf02.letter c ⟨so, pl⟩ (w.getD (m - 1) 0)
theorem natsV_len (l : List Nat) : (natsV l).length = l.length := List.length_map ..
theorem natsV_get {l : List Nat} {i n : Nat} (h : l[i]? = some n) : (natsV l)[i]? = some (.int n) := by
  unfold natsV
  rw [List.getElem?_map, h]
  rfl
theorem natsV_ints (l : List Nat) : natsV l = (l.map fun (n : Nat) => (n : Int)).map V.int := by
  unfold natsV
  rw [List.map_map]
  rfl
theorem sum_ints : ∀ l : List Nat, (l.map fun (n : Nat) => (n : Int)).sum = ((l.sum : Nat) : Int)
  | [] => rfl
  | x :: l => by
    rw [List.map_cons, List.sum_cons, List.sum_cons, sum_ints l]
    omega
theorem sum_le99 : ∀ l : List Nat, (∀ a ∈ l, a ≤ 99) → l.sum ≤ 99 * l.length
  | [], _ => Nat.le_refl 0
  | x :: l, h => by
    have h1 := h x (List.mem_cons_self ..)
    have h2 := sum_le99 l fun a ha => h a (List.mem_cons_of_mem _ ha)
    rw [List.sum_cons, List.length_cons]
    omega
theorem lt9000 {n : Nat} (h : n ≤ 1000) : n < 2 ^ 9000 := by
  have h1 : (2 : Nat) ^ 10 ≤ 2 ^ 9000 := Nat.pow_le_pow_right (by decide) (by decide)
  have h2 : (2 : Nat) ^ 10 = 1024 := by decide
  omega
/-- the word at pw, over the chain c, is read as the word wd over c1: itself, or of letters that may be any -/
def WdAt (K : PySem.W.Frag) (H : Hp) (pw : Addr) (c c1 : Chain) (wd : Word) : Prop :=
  (c1 = c ∧ SqL K H pw (natsV wd) ∧ ∀ x ∈ wd, x < 4) ∨ (c1 = flatC c ∧ SqL K H pw (List.replicate wd.length .non) ∧ ∀ x ∈ wd, x = 0)
theorem WdAt.k {K : PySem.W.Frag} {H : Hp} {pw : Addr} {c c1 : Chain} {wd : Word} (h : WdAt K H pw c c1 wd) : c1.k = c.k := by
  rcases h with ⟨rfl, _⟩ | ⟨rfl, _⟩ <;> rfl
theorem WdAt.mv {K : PySem.W.Frag} {H : Hp} {pw : Addr} {c c1 : Chain} {wd : Word} (h : WdAt K H pw c c1 wd) (s : State) : Lf02.movesOf c1 s = Lf02.movesOf c s := by
  rcases h with ⟨rfl, _⟩ | ⟨rfl, _⟩ <;> rfl
theorem WdAt.ok {K : PySem.W.Frag} {H : Hp} {pw : Addr} {c c1 : Chain} {wd : Word} (h : WdAt K H pw c c1 wd) (ok : OkC c) : OkC c1 := by
  rcases h with ⟨rfl, _⟩ | ⟨rfl, _⟩
  · exact ok
  · exact flat_ok ok
theorem WdAt.sq {K : PySem.W.Frag} {H : Hp} {pw : Addr} {c c1 : Chain} {wd : Word} (h : WdAt K H pw c c1 wd) : ∃ xs, SqL K H pw xs ∧ xs.length = wd.length := by
  rcases h with ⟨_, h, _⟩ | ⟨_, h, _⟩
  · exact ⟨_, h, natsV_len wd⟩
  · exact ⟨_, h, List.length_replicate⟩
theorem WdAt.same {K : PySem.W.Frag} {H H' : Hp} {pw : Addr} {c c1 : Chain} {wd : Word} (h : WdAt K H pw c c1 wd) (s : Same H H') : WdAt K H' pw c c1 wd := by
  rcases h with ⟨e, h, q⟩ | ⟨e, h, q⟩
  · exact .inl ⟨e, s.seq h, q⟩
  · exact .inr ⟨e, s.seq h, q⟩
section
variable {P : Program} {w : World} {K : PySem.W.Frag} {mg : Str → Option Value} {base : Heap} {C z o b : Addr}
abbrev sLp : Stmt := top 11
def spLp : Sp := fun vs H Q _ => ∃ so pl : Nat, vs = [.int so, .int pl] ∧ Q (.int ((if so = 0 then pl else 0 : Nat) : Int)) H
theorem scLp : FnScope ["sort", "place"] ["sort", "place"] (defScope sLp) := ⟨rfl, rfl, rfl, by decide +kernel, rfl, by decide +kernel, by decide +kernel⟩
theorem ok_lp {f : Addr} {fd : FuncData} (F : Fun K "letters_place" "letters_place" sLp f fd) : FnOk P w K mg base CX0 1 f fd ["sort", "place"] spLp := by
  refine F.ok scLp (fun vs H Q E h => ?_) (fun cdv A outer s H vs Q E hr h => ?_)
  · obtain ⟨a, b, rfl, _⟩ := h
    rfl
  · obtain ⟨so, pl, rfl, k⟩ := h
    refine ⟨_, pss_one (ps_ret (pe_ifExp (pt_cmpR op_eq (pv 0) pe_int (nomark _)) (pv 1) pe_int)), ?_⟩
    refine ⟨_, rfl, rfl, _, rfl, ?_⟩
    by_cases c : so = 0
    · refine if_t (decide_eq_true (by rw [c]; rfl)) ?_
      rw [if_pos c] at k
      exact ⟨_, rfl, k⟩
    · refine if_f (decide_eq_false (fun e => c (by injection e with e; omega))) ?_
      rw [if_neg c] at k
      exact k
abbrev sArr : Stmt := top 14
def spArr (K : PySem.W.Frag) (C : Addr) : Sp := fun vs H Q _ => ∃ (a pw p : Addr) (c c1 : Chain) (wd : Word) (so pl m : Nat), vs = [.ref a, .ref pw, .ref p] ∧ OkC c ∧ ChainAt C H a c ∧ WdAt K H pw c c1 wd ∧ SqT K H p (spV so pl m) ∧
  (so = 0 → 1 ≤ pl) ∧ (so ≠ 2 → pl ≤ c1.k → 1 ≤ m) ∧ RetF K H Q (arr c1 wd so pl m)
theorem scArr : FnScope ["chain", "word", "target", "sort", "place", "made", "letter", "weights"] ["chain", "word", "target"] (defScope sArr) := ⟨rfl, rfl, rfl, by decide +kernel, rfl, by decide +kernel, by decide +kernel⟩
theorem ok_arr {f f1 f2 : Addr} {fd fd1 fd2 : FuncData} (F : Fun K "arrival_chance" "arrival_chance" sArr f fd) (T : TChain K mg C) (TC : TCon K mg z o b) (B : Blt mg) (D1 : Dn K mg "fraction" sFrac ["upper", "lower"] f1 fd1) (G : FnOk P w K mg base CX0 2 f1 fd1 ["upper", "lower"] spFrac)
    (D2 : Dn K mg "letters_place" sLp ["sort", "place"] f2 fd2) (G2 : FnOk P w K mg base CX0 1 f2 fd2 ["sort", "place"] spLp) :
    FnOk P w K mg base CX0 3 f fd ["chain", "word", "target"] (spArr K C) := by
  refine F.ok scArr (fun vs H Q E h => ?_) (fun cdv A outer s H vs Q E hr h => ?_)
  · obtain ⟨a, pw, p, c, c1, wd, so, pl, m, rfl, _⟩ := h
    rfl
  · obtain ⟨a, pw, p, c, c1, wd, so, pl, m, rfl, ok, ⟨fs, dx, ql, qm, ls, kvs, hc⟩, hW, hp, q1, q2, k⟩ := h
    have hr1 : Room 1 _ := hr.mono (by decide)
    have ek := hW.k
    obtain ⟨xs, hw, lxs⟩ := hW.sq
    refine ⟨_, pss_cons (ps_set (i := 3) scArr.nd rfl (Or.inl rfl) (pe_ix ix_tup (pv 2) pe_int (fun _ _ => rfl)))
      (pss_cons (ps_set (i := 4) scArr.nd rfl (Or.inl rfl) (pe_ix ix_tup (pv 2) pe_int (fun _ _ => rfl)))
      (pss_cons (ps_set (i := 5) scArr.nd rfl (Or.inl rfl) (pe_ix ix_tup (pv 2) pe_int (fun _ _ => rfl)))
      (pss_cons (ps_if (pt_cmpR op_eq (pv 3) pe_int (nomark _)) (pss_one (ps_ret (pe_glob rfl TC.one (v := .ref o) rfl))) pss_nil)
      (pss_cons (ps_if (pt_cmpR op_gt (pv 4) (pe_fld (pv 0) rfl) (nomark _)) (pss_one (ps_ret (pe_ifExp (pt_cmpR op_eq (pv 5) (pe_callB call_len_seq (by rfl) B.len PySem.boot_len (pa_cons (pv 1) pa_nil)) (nomark _)) (pe_glob rfl TC.one (v := .ref o) rfl) (pe_glob rfl TC.zero (v := .ref z) rfl)))) pss_nil)
      (pss_cons (ps_if (pt_cmpR op_gt (pv 5) (pe_callB call_len_seq (by rfl) B.len PySem.boot_len (pa_cons (pv 1) pa_nil)) (nomark _)) (pss_one (ps_ret (pe_glob rfl TC.zero (v := .ref z) rfl))) pss_nil)
      (pss_cons (ps_set (i := 6) scArr.nd rfl (Or.inl rfl) (pe_ix ix_list (pv 1) (pe_op op_sub (pv 5) pe_int) (fun _ _ => rfl)))
      (pss_cons (ps_if (pt_cmpR op_isN (pv 6) pe_non (nomark _)) (pss_one (ps_ret (pe_glob rfl TC.one (v := .ref o) rfl))) pss_nil)
      (pss_cons (ps_set (i := 7) scArr.nd rfl (Or.inl rfl) (pe_ix ix_list (pe_fld (pv 0) rfl) (pe_call G2 hr1 rfl D2.g D2.F.kp D2.b .nil pass0 (pa_cons (pv 3) (pa_cons (pv 4) pa_nil))) (fun _ _ => rfl)))
      (pss_one (ps_ret (pe_call G hr rfl D1.g D1.F.kp D1.b .nil pass0 (pa_cons (pe_ix ix_list (pv 7) (pv 6) (fun _ _ => rfl))
        (pa_cons (pe_callB (cr_sum rfl) (by rfl) B.sum (by decide +kernel) (pa_cons (pv 7) pa_nil)) pa_nil))))))))))))), ?_⟩
    refine ⟨_, rfl, p, _, _, _, rfl, rfl, hp, at30, ?_⟩
    refine ⟨_, rfl, p, _, _, _, rfl, rfl, hp, at31, ?_⟩
    refine ⟨_, rfl, p, _, _, _, rfl, rfl, hp, at32, ?_⟩
    refine ⟨_, rfl, rfl, _, rfl, ?_⟩
    by_cases c1' : so = 2
    · refine if_t (decide_eq_true (by rw [c1']; rfl)) ?_
      refine k H o (Same.refl H) ?_
      rw [arr, if_pos c1']
      exact TC.ho H
    refine if_f (decide_eq_false (fun e => c1' (by injection e with e; omega))) ?_
    refine ⟨_, rfl, _, rfl, a, C, dx, _, _, rfl, hc.ins, T.cl, T.nLast, hc.last, _, _, rfl, rfl, _, rfl, ?_⟩
    by_cases c2 : c.k < pl
    · refine if_t (decide_eq_true (by omega)) ?_
      refine ⟨_, rfl, _, rfl, pw, _, rfl, .inl hw, rfl, _, rfl, ?_⟩
      by_cases c3 : m = wd.length
      · refine if_t (decide_eq_true (by rw [lxs, c3])) ?_
        refine k H o (Same.refl H) ?_
        rw [arr, if_neg c1', if_pos (by omega), if_pos c3]
        exact TC.ho H
      · refine if_f (decide_eq_false (fun e => c3 (by injection e with e; rw [lxs] at e; omega))) ?_
        refine k H z (Same.refl H) ?_
        rw [arr, if_neg c1', if_pos (by omega), if_neg c3]
        exact TC.hz H
    refine if_f (decide_eq_false (by omega)) ?_
    refine ⟨_, rfl, _, rfl, pw, _, rfl, .inl hw, _, _, rfl, rfl, _, rfl, ?_⟩
    by_cases c3 : wd.length < m
    · refine if_t (decide_eq_true (by rw [lxs]; omega)) ?_
      refine k H z (Same.refl H) ?_
      rw [arr, if_neg c1', if_neg (by omega), if_pos c3]
      exact TC.hz H
    refine if_f (decide_eq_false (by rw [lxs]; omega)) ?_
    have m1 : 1 ≤ m := q2 c1' (by omega)
    have hi : m - 1 < wd.length := by omega
    have hx : wd[m - 1]? = some wd[m - 1] := List.getElem?_eq_getElem hi
    have earr : arr c1 wd so pl m = Lf02.letter c1 ⟨so, pl⟩ wd[m - 1] := by
      rw [arr, if_neg c1', if_neg (by omega), if_neg c3, List.getD_eq_getElem?_getD, hx, Option.getD_some]
    have hso : (⟨so, pl⟩ : State).sort = 0 → 0 < (⟨so, pl⟩ : State).place ∧ (⟨so, pl⟩ : State).place ≤ c.k := fun e => ⟨q1 e, by show pl ≤ c.k; omega⟩
    rcases hW with ⟨e1, hw', h4⟩ | ⟨e1, hw', h4⟩
    rotate_left
    · -- a letter that may be any
      have hn : (List.replicate wd.length V.non)[m - 1]? = some .non := by rw [List.getElem?_replicate, if_pos hi]
      refine ⟨_, rfl, _, rfl, _, _, rfl, rfl, pw, _, _, _, rfl, rfl, hw', at_of (j := m - 1) (by omega) hn, ?_⟩
      refine ⟨_, rfl, rfl, _, rfl, ?_⟩
      refine if_t rfl ?_
      refine k H o (Same.refl H) ?_
      rw [earr, e1, h4 _ (List.getElem_mem hi), flat_letter hso]
      exact TC.ho H
    subst e1
    have kk := lw_ok ok (s := ⟨so, pl⟩) hso
    have hx4 : wd[m - 1] < 4 := h4 _ (List.getElem_mem hi)
    have hj : wd[m - 1] < (lw c1 ⟨so, pl⟩).length := by rw [kk.1]; exact hx4
    have hy : (lw c1 ⟨so, pl⟩)[wd[m - 1]]? = some (lw c1 ⟨so, pl⟩)[wd[m - 1]] := List.getElem?_eq_getElem hj
    refine ⟨_, rfl, _, rfl, _, _, rfl, rfl, pw, _, _, _, rfl, rfl, hw', at_of (j := m - 1) (by omega) (natsV_get hx), ?_⟩
    refine ⟨_, rfl, rfl, _, rfl, ?_⟩
    refine if_f rfl ?_
    have hg : ((c1.ground :: c1.letters).map natsV)[if so = 0 then pl else 0]? = some (natsV (lw c1 ⟨so, pl⟩)) := by
      rw [List.getElem?_map]
      by_cases c4 : so = 0
      · rw [if_pos c4]
        have p1 := q1 c4
        obtain ⟨n, rfl⟩ : ∃ n, pl = n + 1 := ⟨pl - 1, by omega⟩
        have hi2 : n < c1.letters.length := by rw [ok.ll]; omega
        rw [List.getElem?_cons_succ, List.getElem?_eq_getElem hi2]
        unfold lw
        rw [if_pos c4]
        show some (natsV c1.letters[n]) = some (natsV (c1.letters.getD n []))
        rw [List.getD_eq_getElem?_getD, List.getElem?_eq_getElem hi2, Option.getD_some]
      · rw [if_neg c4]
        unfold lw
        rw [if_neg c4]
        rfl
    obtain ⟨pa, e1, e2⟩ := hc.hls.get hg
    refine ⟨_, rfl, a, C, dx, _, _, rfl, hc.ins, T.cl, T.nLetters, hc.letters, _, rfl, _, rfl, so, pl, rfl, ql, _, _, .ref pa, rfl, rfl, SqL.of hc.hl, atI_nat ?_, ?_⟩
    · rw [List.getElem?_map, e1]
      rfl
    refine ⟨_, rfl, _, rfl, pa, _, _, _, rfl, rfl, SqL.of e2, atI_nat (natsV_get hy), ?_⟩
    refine ⟨_, rfl, pa, _, rfl, SqL.of (by rw [← natsV_ints]; exact e2), ?_⟩
    rw [sum_ints]
    have hs : Lf02.sum (lw c1 ⟨so, pl⟩) = (lw c1 ⟨so, pl⟩).sum := sum_is _
    have h3 := kk.2.2
    rw [hs] at h3
    have h5 := sum_le99 _ kk.2.1
    rw [kk.1] at h5
    refine ⟨_, _, rfl, h3, lt9000 (by omega), fun H' pp s5 n5 e5 => ?_⟩
    refine k H' pp s5 ?_
    have el : arr c1 wd so pl m = Lf02.frac (lw c1 ⟨so, pl⟩)[wd[m - 1]] (lw c1 ⟨so, pl⟩).sum := by
      rw [earr, ← hs]
      show Lf02.frac ((lw c1 ⟨so, pl⟩).getD wd[m - 1] 0) (Lf02.sum (lw c1 ⟨so, pl⟩)) = _
      simp only [List.getD_eq_getElem?_getD, hy, Option.getD_some]
    rw [el]
    exact .inl (.inl e5)
end
end Fh

namespace Fh
open PySem PySem.Spec PyProof.Rows L2
open Fc
open Lf02 (Frac State Chain Word)
abbrev Spot := Nat × Nat × Nat
theorem sz_small {f : Frac} (h1 : f.n ≤ 1000) (h2 : 0 < f.d) (h3 : f.d ≤ 1000) : Sz f := by
  have h4 : (2 : Nat) ^ 10 ≤ 2 ^ 4400 := Nat.pow_le_pow_right (by decide) (by decide)
  have h5 : (2 : Nat) ^ 10 = 1024 := by decide
  exact ⟨by omega, h2, by omega⟩
theorem frac_le {n d : Nat} (h : 0 < d) : (Lf02.frac n d).n ≤ n ∧ 0 < (Lf02.frac n d).d ∧ (Lf02.frac n d).d ≤ d := by
  refine ⟨?_, (good_frac h).1, ?_⟩
  · rw [frac_of h]; exact Nat.div_le_self _ _
  · rw [frac_of h]; exact Nat.div_le_self _ _
theorem sz_frac {n d : Nat} (h : 0 < d) (h1 : n ≤ 1000) (h2 : d ≤ 1000) : Sz (Lf02.frac n d) := by
  have z := frac_le (n := n) h
  exact sz_small (by omega) z.2.1 (by omega)
theorem getD_le {l : List Nat} (h : ∀ a ∈ l, a ≤ 99) (i : Nat) : l.getD i 0 ≤ 99 := by
  rw [List.getD_eq_getElem?_getD]
  cases e : l[i]? with
  | none => exact Nat.zero_le _
  | some a =>
    obtain ⟨h1, h2⟩ := List.getElem?_eq_some_iff.mp e
    exact h a (h2 ▸ List.getElem_mem h1)
theorem sz_letter {c : Chain} (ok : OkC c) {s : State} (h1 : s.sort = 0 → 0 < s.place ∧ s.place ≤ c.k) (a : Nat) : Sz (Lf02.letter c s a) := by
  have kk := lw_ok ok h1
  have e := sum_is (lw c s)
  have h5 := sum_le99 _ kk.2.1
  rw [kk.1] at h5
  have hd : 0 < Lf02.sum (lw c s) := kk.2.2
  have g : (lw c s).getD a 0 ≤ 99 := getD_le kk.2.1 a
  exact sz_frac (n := (lw c s).getD a 0) (d := Lf02.sum (lw c s)) hd (by omega) (by omega)
theorem sz_one : Sz ⟨1, 1⟩ := sz_small (by show 1 ≤ 1000; decide) (by show 0 < 1; decide) (by show 1 ≤ 1000; decide)
theorem sz_zero : Sz ⟨0, 1⟩ := sz_small (by show 0 ≤ 1000; decide) (by show 0 < 1; decide) (by show 1 ≤ 1000; decide)
theorem sz_arr {c : Chain} (ok : OkC c) (w : Word) {so pl m : Nat} (h1 : so = 0 → 1 ≤ pl) : Sz (arr c w so pl m) := by
  unfold arr
  split
  · exact sz_one
  · split
    · split
      · exact sz_one
      · exact sz_zero
    · split
      · exact sz_zero
      · exact sz_letter ok (s := ⟨so, pl⟩) (fun e => ⟨h1 e, by show pl ≤ c.k; omega⟩) _
/-- the three moves from a spot, with how likely each is -/
def cand3 (c : Chain) (w : Word) (s : State) (m : Nat) : List (Frac × Spot) :=
  let v := Lf02.movesOf c s
  List.zipWith (fun (x : Nat) (t : Spot) => (Lf02.times (Lf02.frac x (v.1 + v.2.1 + v.2.2)) (arr c w t.1 t.2.1 t.2.2), t)) [v.1, v.2.1, v.2.2] (tgts c.k s.place m)
def nz (x : Frac × Spot) : Bool := !decide (x.1 = ⟨0, 1⟩)
def stepsL (c : Chain) (w : Word) (s : State) (m : Nat) : List (Frac × Spot) := (cand3 c w s m).filter nz
theorem tgts_ok {k pl m : Nat} {t : Spot} (h : t ∈ tgts k pl m) : (t.1 = 0 → 1 ≤ t.2.1) ∧ (t.1 ≠ 2 → t.2.1 ≤ k → 1 ≤ t.2.2) := by
  unfold tgts at h
  simp only [List.mem_cons, List.mem_nil_iff, or_false] at h
  rcases h with rfl | rfl | rfl
  · refine ⟨fun _ => by show 1 ≤ pl + 1; omega, fun _ z => ?_⟩
    have z' : pl + 1 ≤ k := z
    show 1 ≤ (if pl = k then m else m + 1)
    rw [if_neg (by omega)]
    omega
  · exact ⟨fun z => (by cases z), fun _ _ => (by show 1 ≤ m + 1; omega)⟩
  · exact ⟨fun z => (by cases z), fun z => absurd rfl z⟩
/-- a list of pairs of a chance and a spot -/
def IsStep (K : PySem.W.Frag) (H : Hp) (a : Addr) (x : Frac × Spot) : Prop := ∃ pc pt, H a = some (.tup [.ref pc, .ref pt]) ∧ SqT K H pc (frV x.1) ∧ H pt = some (.tup (sp3 x.2))
abbrev Steps (K : PySem.W.Frag) (H : Hp) : List Addr → List (Frac × Spot) → Prop := Paired (IsStep K H)
theorem Steps.keep {K : PySem.W.Frag} {H H' : Hp} (e : Same H H') {as : List Addr} {l : List (Frac × Spot)} (h : Steps K H as l) : Steps K H' as l := Paired.mapP h fun a b ⟨pc, pt, h1, h2, h3⟩ => ⟨pc, pt, e _ _ h1, sm_tup e h2, e _ _ h3⟩
theorem sqT_past {K : PySem.W.Frag} {H : Hp} {l a : Addr} {xs ys : List V} {o : HO} (h : H l = some (.lst xs)) (ha : SqT K H a ys) : SqT K (upd H l o) a ys := by
  rcases ha with (z | ⟨u, z⟩) | z
  · exact .inl (.inl (tup_past h z))
  · refine .inl (.inr ⟨u, ?_⟩)
    rw [upd_ne fun e => by rw [e, h] at z; cases z]
    exact z
  · exact .inr z
theorem Steps.past {K : PySem.W.Frag} {H : Hp} {l : Addr} {xs : List V} {o : HO} (h : H l = some (.lst xs)) {as : List Addr} {m : List (Frac × Spot)} (t : Steps K H as m) : Steps K (upd H l o) as m :=
  Paired.mapP t fun a b ⟨pc, pt, h1, h2, h3⟩ => ⟨pc, pt, tup_past h h1, sqT_past h h2, tup_past h h3⟩
def RetSt (K : PySem.W.Frag) (H : Hp) (Q : VK) (l : List (Frac × Spot)) : Prop := ∀ (H' : Hp) (p : Addr) (as : List Addr), Same H H' → H p = none → H' p = some (.lst (as.map V.ref)) → Steps K H' as l → Q (.ref p) H'
theorem take_more {α : Type} : ∀ {l : List α} {i : Nat} {x : α}, l[i]? = some x → l.take (i + 1) = l.take i ++ [x]
  | [], i, x, h => by simp at h
  | a :: l, 0, x, h => by
    have e : a = x := Option.some.inj h
    subst e
    rfl
  | a :: l, i + 1, x, h => by
    have ih := take_more (l := l) (i := i) (x := x) h
    show a :: l.take (i + 1) = a :: l.take i ++ [x]
    rw [ih]
    rfl
section
variable {P : Program} {w : World} {K : PySem.W.Frag} {mg : Str → Option Value} {base : Heap} {C z o b : Addr}
abbrev sSteps : Stmt := top 15
def spSteps (K : PySem.W.Frag) (C : Addr) : Sp := fun vs H Q _ => ∃ (a pw p : Addr) (c0 c : Chain) (wd : Word) (s : State) (m : Nat), vs = [.ref a, .ref pw, .ref p] ∧ OkC c0 ∧ ChainAt C H a c0 ∧ WdAt K H pw c0 c wd ∧ SqT K H p (spV s.sort s.place m) ∧
  IsS c.k s ∧ RetSt K H Q (stepsL c wd s m)
theorem scSteps : FnScope ["chain", "word", "spot", "weights", "steps", "weight", "target", "chance"] ["chain", "word", "spot"] (defScope sSteps) := ⟨rfl, rfl, rfl, by decide +kernel, rfl, by decide +kernel, by decide +kernel⟩
theorem ok_steps {f f1 f2 f3 f4 : Addr} {fd fd1 fd2 fd3 fd4 : FuncData} (F : Fun K "steps_from" "steps_from" sSteps f fd) (T : TChain K mg C) (TC : TCon K mg z o b) (B : Blt mg)
    (D1 : Dn K mg "fraction" sFrac ["upper", "lower"] f1 fd1) (G1 : FnOk P w K mg base CX0 2 f1 fd1 ["upper", "lower"] spFrac)
    (D2 : Dn K mg "times" sTimes ["one", "other"] f2 fd2) (G2 : FnOk P w K mg base CX0 3 f2 fd2 ["one", "other"] (sp2 K Lf02.times))
    (D3 : Dn K mg "targets_of" sTgts ["chain", "spot"] f3 fd3) (G3 : FnOk P w K mg base CX0 1 f3 fd3 ["chain", "spot"] (spTgts K C))
    (D4 : Dn K mg "arrival_chance" sArr ["chain", "word", "target"] f4 fd4) (G4 : FnOk P w K mg base CX0 3 f4 fd4 ["chain", "word", "target"] (spArr K C)) :
    FnOk P w K mg base CX0 4 f fd ["chain", "word", "spot"] (spSteps K C) := by
  refine F.ok scSteps (fun vs H Q E h => ?_) (fun cdv A outer s H vs Q E hr h => ?_)
  · obtain ⟨a, pw, p, c0, c, wd, s, m, rfl, _⟩ := h
    rfl
  · obtain ⟨a, pw, p, c0, c, wd, s, m, rfl, ok0, ⟨fs, dx, ql, qm, ls, kvs, hc⟩, hW, hp, hs, k⟩ := h
    have ok := hW.ok ok0
    have ek := hW.k
    have hr1 : Room 1 _ := hr.mono (by decide)
    have hr2 : Room 2 _ := hr.mono (by decide)
    refine ⟨_, pss_cons (ps_set (i := 3) scSteps.nd rfl (Or.inl rfl) (pe_dget (hu_of hr) (pe_fld (pv 0) rfl) (pe_tup (pa_cons (pe_ix ix_tup (pv 2) pe_int (fun _ _ => rfl)) (pa_cons (pe_ix ix_tup (pv 2) pe_int (fun _ _ => rfl)) pa_nil))) (fun _ _ => rfl)))
      (pss_cons (ps_set (i := 4) scSteps.nd rfl (Or.inl rfl) (pe_lst pa_nil))
      (pss_cons (ps_for PassesOwn.never rfl (pi_zip (by rfl) B.zip (pa_cons (pv 3) (pa_cons (pe_call G3 hr1 rfl D3.g D3.F.kp D3.b .nil pass0 (pa_cons (pv 0) (pa_cons (pv 2) pa_nil))) pa_nil)))
          (pg_tup rfl (pgs_cons (pg_name (i := 5) scSteps.nd rfl (.inl rfl)) (pgs_cons (pg_name (i := 6) scSteps.nd rfl (.inl rfl)) pgs_nil)))
        (pss_cons (ps_set (i := 7) scSteps.nd rfl (Or.inl rfl) (pe_call G2 hr rfl D2.g D2.F.kp D2.b .nil pass0 (pa_cons (pe_call G1 hr2 rfl D1.g D1.F.kp D1.b .nil pass0 (pa_cons (pv 5) (pa_cons (pe_callB (cr_sum rfl) (by rfl) B.sum (by decide +kernel) (pa_cons (pv 3) pa_nil)) pa_nil)))
            (pa_cons (pe_call G4 hr rfl D4.g D4.F.kp D4.b .nil pass0 (pa_cons (pv 0) (pa_cons (pv 1) (pa_cons (pv 6) pa_nil)))) pa_nil))))
        (pss_one (ps_if (pt_cmpR (op_neD hr.units) (pv 7) (pe_glob rfl TC.zero (v := .ref z) rfl) (nomark _))
          (pss_one (ps_expr (pe_bm PySem.F.plainAttrs_list PySem.F.slot_list_append PySem.F.type_list_append mt_append (pv 4) (pa_cons (pe_tup (pa_cons (pv 7) (pa_cons (pv 6) pa_nil))) pa_nil)))) pss_nil))))
      (pss_one (ps_ret (pv 4))))), ?_⟩
    obtain ⟨pa, v1, v2⟩ := hc.hms s (ek ▸ hs)
    rw [← hW.mv s] at v2
    -- weights = chain.moves[(spot[0], spot[1])]
    refine ⟨_, rfl, a, C, dx, _, _, rfl, hc.ins, T.cl, T.nMoves, hc.moves, ?_⟩
    refine ⟨_, rfl, p, _, _, _, rfl, rfl, hp, at30, _, rfl, p, _, _, _, rfl, rfl, hp, at31, by show 2 ≤ sizeLine; decide, fun tk hk => ?_⟩
    have s1 := sm_new (o := .tup (stV s)) hk
    refine ⟨qm, .ref pa, rfl, ?_, ?_⟩
    · have g := DGet.t (H := upd H tk (.tup (stV s))) (a := qm) (b := tk) (kvs := kvs) (k := stK s) (s1 _ _ hc.hm) upd_same
      rw [v1] at g
      exact g
    -- steps = []
    refine ⟨by show 0 ≤ sizeLine; decide, fun l hl => ?_⟩
    have s2 := sm_new (o := .lst []) hl
    have s12 : Same H (upd (upd H tk (.tup (stV s))) l (.lst [])) := s1.trans s2
    have nl : H l = none := s1.free hl
    have hl2 : (upd (upd H tk (.tup (stV s))) l (.lst [])) l = some (.lst []) := upd_same
    show tSeq _ _ _ _ (upd (upd H tk (.tup (stV s))) l (.lst []))
    revert s12 hl2
    generalize upd (upd H tk (.tup (stV s))) l (.lst []) = H2
    intro s12 hl2
    -- zip(weights, targets_of(chain, spot))
    refine ⟨_, rfl, _, rfl, _, rfl, ?_⟩
    refine ⟨a, p, c0, s.sort, s.place, m, rfl, ⟨fs, dx, ql, qm, ls, kvs, hc.keep s12⟩, sm_tup s12 hp, fun H3 p3 as3 s3 n3 e3 t3 => ?_⟩
    rw [← ek] at t3
    have s13 := s12.trans s3
    have hpa := s13 _ _ v2
    refine ⟨pa, p3, _, _, rfl, SqL.of hpa, SqL.of e3, ?_⟩
    have lt3 : as3.length = 3 := by rw [t3.length]; rfl
    have hpos := move_pos ok hs
    have hmv := ok.mv s (isS_iff.mpr hs)
    have np : p3 ≠ l := fun e => by rw [e, hl2] at n3; cases n3
    have na : pa ≠ l := ne_of_none v2 nl
    refine for_it (walk_zip (xs := mvV (Lf02.movesOf c s)) (ys := as3.map V.ref) (n := 3) (by rw [List.length_map, lt3]; rfl)) (fun i σ H' => ∃ (v5 v6 v7 : Option V) (as : List Addr), σ = [some (.ref a), some (.ref pw), some (.ref p), some (.ref pa), some (.ref l), v5, v6, v7] ∧ But l H3 H' ∧
        Same H H' ∧ H' l = some (.lst (as.map V.ref)) ∧ Steps K H' as (((cand3 c wd s m).take i).filter nz) ∧ as.length ≤ i)
      ⟨none, none, none, [], rfl, But.refl l H3, s13, s3 _ _ hl2, .nil, Nat.le_refl _⟩ ?_ ?_ ?_
    · rintro i σ H' hi ⟨v5, v6, v7, as, rfl, sA, sB, hL, hS, hle⟩
      exact ⟨SqL.of (sA _ _ hpa na), SqL.of (sA _ _ e3 np)⟩
    · rintro i x σ H' H4 hi ⟨v5, v6, v7, as, rfl, sA, sB, hL, hS, hle⟩ ⟨Tp, x1, x2, rfl, nT, rfl, g1, g2⟩
      -- the i-th weight, the i-th target
      have hm3 : ([(Lf02.movesOf c s).1, (Lf02.movesOf c s).2.1, (Lf02.movesOf c s).2.2] : List Nat).length = 3 := rfl
      obtain ⟨wt, hwt⟩ : ∃ wt, ([(Lf02.movesOf c s).1, (Lf02.movesOf c s).2.1, (Lf02.movesOf c s).2.2] : List Nat)[i]? = some wt := ⟨_, List.getElem?_eq_getElem (by rw [hm3]; exact hi)⟩
      obtain ⟨t, ht⟩ : ∃ t, (tgts c.k s.place m)[i]? = some t := ⟨_, List.getElem?_eq_getElem (show i < 3 from hi)⟩
      have ex1 : x1 = .int wt := Option.some.inj (g1.symm.trans (natsV_get hwt))
      subst ex1
      obtain ⟨pt, f1', f2'⟩ := t3.get (i := i) (x := sp3 t) (by rw [List.getElem?_map, ht]; rfl)
      have ex2 : x2 = .ref pt := Option.some.inj (g2.symm.trans (by show (as3.map V.ref)[i]? = _; rw [List.getElem?_map, f1']; rfl))
      subst ex2
      have npt : pt ≠ l := fun e => by rw [e, s3 _ _ hl2] at f2'; cases f2'
      have hcand : (cand3 c wd s m)[i]? = some (Lf02.times (Lf02.frac wt ((Lf02.movesOf c s).1 + (Lf02.movesOf c s).2.1 + (Lf02.movesOf c s).2.2)) (arr c wd t.1 t.2.1 t.2.2), t) := by
        unfold cand3
        rw [List.getElem?_zipWith, hwt, ht]
      have wt99 : wt ≤ 99 := by
        have q := List.mem_of_getElem? hwt
        simp only [List.mem_cons, List.mem_nil_iff, or_false] at q
        omega
      have tok := tgts_ok (List.mem_of_getElem? ht)
      have sT := sm_new (o := .tup [.int wt, .ref pt]) nT
      have hpa4 := sT _ _ (sA _ _ hpa na)
      have hpt4 := sT _ _ (sA _ _ f2' npt)
      have hL4 := sT _ _ hL
      have sB4 := sB.trans sT
      have hS4 := hS.keep sT
      have sA4 : But l H3 (upd H' Tp (.tup [.int wt, .ref pt])) := sA.trans (But.of sT)
      refine ⟨Tp, _, rfl, SqT.of upd_same, rfl, _, _, rfl, _, _, rfl, rfl, ?_⟩
      show tSeq _ _ _ _ (upd H' Tp (.tup [.int wt, .ref pt]))
      revert hpa4 hpt4 hL4 sB4 hS4 sA4
      generalize upd H' Tp (.tup [.int wt, .ref pt]) = H4
      intro hpa4 hpt4 hL4 sB4 hS4 sA4
      -- chance = times(fraction(weight, sum(weights)), arrival_chance(chain, word, target))
      refine ⟨_, rfl, _, rfl, pa, [((Lf02.movesOf c s).1 : Int), ((Lf02.movesOf c s).2.1 : Int), ((Lf02.movesOf c s).2.2 : Int)], rfl, SqL.of hpa4, ?_⟩
      have esum : ([((Lf02.movesOf c s).1 : Int), ((Lf02.movesOf c s).2.1 : Int), ((Lf02.movesOf c s).2.2 : Int)] : List Int).sum = (((Lf02.movesOf c s).1 + (Lf02.movesOf c s).2.1 + (Lf02.movesOf c s).2.2 : Nat) : Int) := by
        simp only [List.sum_cons, List.sum_nil]
        omega
      rw [esum]
      refine ⟨wt, _, rfl, hpos, lt9000 (by omega), fun H5 p5 s5 n5 e5 => ?_⟩
      have sB5 := sB4.trans s5
      refine ⟨_, rfl, _, rfl, _, rfl, ?_⟩
      refine ⟨a, pw, pt, c0, c, wd, t.1, t.2.1, t.2.2, rfl, ok0, ⟨fs, dx, ql, qm, ls, kvs, hc.keep sB5⟩, hW.same sB5, SqT.of (s5 _ _ hpt4), tok.1, tok.2, fun H6 p6 s6 e6 => ?_⟩
      refine ⟨p5, p6, _, _, rfl, SqT.of (s6 _ _ e5), e6, sz_frac hpos (by omega) (by omega), sz_arr ok wd tok.1, fun H7 p7 s7 n7 e7 => ?_⟩
      have s57 := s5.trans (s6.trans s7)
      -- if chance != ZERO
      refine ⟨_, rfl, frD (Lf02.times (Lf02.frac wt ((Lf02.movesOf c s).1 + (Lf02.movesOf c s).2.1 + (Lf02.movesOf c s).2.2)) (arr c wd t.1 t.2.1 t.2.2)), frD ⟨0, 1⟩, dp_fr (SqT.of e7), dp_fr (TC.hz H7), shaped_fr _, shaped_fr _, _, rfl, ?_⟩
      rw [eqv_fr]
      by_cases cz : Lf02.times (Lf02.frac wt ((Lf02.movesOf c s).1 + (Lf02.movesOf c s).2.1 + (Lf02.movesOf c s).2.2)) (arr c wd t.1 t.2.1 t.2.2) = ⟨0, 1⟩
      · refine if_f (by rw [decide_eq_true cz]; rfl) ?_
        refine ⟨some (.int wt), some (.ref pt), some (.ref p7), as, rfl, sA4.trans (But.of s57), sB4.trans s57, s57 _ _ hL4, ?_, by omega⟩
        rw [take_more hcand, List.filter_append, List.filter_cons_of_neg (by rw [nz]; simp [cz]), List.filter_nil, List.append_nil]
        exact hS4.keep s57
      · refine if_t (by rw [decide_eq_false cz]; rfl) ?_
        have hL7 := s57 _ _ hL4
        refine ⟨_, rfl, .inl ⟨rfl, _, SqL.of hL7⟩, ?_⟩
        refine ⟨_, rfl, _, rfl, by show 2 ≤ sizeLine; decide, fun u hu => ?_⟩
        have s8 := sm_new (o := .tup [.ref p7, .ref pt]) hu
        have hL8 := s8 _ _ hL7
        refine ⟨l, _, _, rfl, rfl, hL8, small1000 (by rw [List.length_map]; omega), ?_⟩
        have nl7 : H7 l ≠ none := by rw [hL7]; exact fun e => by cases e
        refine ⟨some (.int wt), some (.ref pt), some (.ref p7), as ++ [u], rfl, (sA4.trans (But.of (s57.trans s8))).trans But.upd, sm_mut (sB4.trans (s57.trans s8)) nl, ?_, ?_, ?_⟩
        · rw [upd_same, List.map_append]
          rfl
        · rw [take_more hcand, List.filter_append, List.filter_cons_of_pos (by rw [nz]; simp [cz]), List.filter_nil]
          refine Paired.snoc (Steps.past hL8 (hS4.keep (s57.trans s8))) ?_
          refine ⟨p7, pt, tup_past hL8 upd_same, sqT_past hL8 (SqT.of (s8 _ _ e7)), tup_past hL8 (s8 _ _ (s57 _ _ hpt4))⟩
        · rw [List.length_append]
          show as.length + 1 ≤ i + 1
          omega
    · rintro σ H' ⟨v5, v6, v7, as, rfl, sA, sB, hL, hS, _⟩
      exact ⟨_, rfl, k _ _ as sB nl hL hS⟩
end
end Fh

namespace Fh
open Fc
open Lf02 (Frac State Chain Word)
def wayL (c : Chain) (w : Word) (t : Spot) : List Way := if c.k < t.2.1 then [([], ⟨1, 1⟩)] else wf c ⟨t.1, t.2.1⟩ (w.drop t.2.2)
def gOf (c : Chain) (t : Spot) (p : List State) : List State := if c.k < t.2.1 then p else ⟨t.1, t.2.1⟩ :: p
def rvl (c : Chain) (w : Word) (t : Spot) : R := rOf (wayL c w t)
def tspot (c : Chain) (w : Word) (x : Option State × Word × Frac) : Spot := match x.1 with
  | none => (0, c.k + 1, w.length)
  | some t => (t.sort, t.place, w.length - x.2.1.length)
def toStep (c : Chain) (w : Word) (x : Option State × Word × Frac) : Frac × Spot := (x.2.2, tspot c w x)
theorem good_zero_iff {f : Frac} (h : Good f) : f = ⟨0, 1⟩ ↔ f.n = 0 := by
  constructor
  · intro e; rw [e]
  · intro e
    refine q_inj h good_zero ?_
    rw [q_zero]
    exact (q_eq_zero h).mpr e
theorem nz_filter {f : Frac} {t : Spot} (h : Good f) : [(f, t)].filter nz = if f.n = 0 then [] else [(f, t)] := by
  by_cases e : f.n = 0
  · rw [if_pos e, List.filter_cons_of_neg, List.filter_nil]
    rw [nz, decide_eq_true ((good_zero_iff h).mpr e)]
    decide
  · rw [if_neg e, List.filter_cons_of_pos, List.filter_nil]
    rw [nz, decide_eq_false (fun z => e ((good_zero_iff h).mp z))]
    rfl
theorem nx_filter {x : Option State × Word × Frac} : [x].filter (fun x => x.2.2.n != 0) = if x.2.2.n = 0 then [] else [x] := by
  by_cases e : x.2.2.n = 0
  · rw [if_pos e, List.filter_cons_of_neg, List.filter_nil]
    simp [e]
  · rw [if_neg e, List.filter_cons_of_pos, List.filter_nil]
    simp [e]
theorem one_step {c : Chain} {w : Word} {f : Frac} {t : Spot} {o : Option State} {r : Word} (h : Good f) (ht : t = tspot c w (o, r, f)) :
    [(f, t)].filter nz = ([(o, r, f)].filter (fun x => x.2.2.n != 0)).map (toStep c w) := by
  rw [nz_filter h, nx_filter]
  by_cases e : f.n = 0
  · rw [if_pos e, if_pos e]; rfl
  · rw [if_neg e, if_neg e, ht]; rfl
theorem no_step {c : Chain} {w : Word} {t : Spot} : [((⟨0, 1⟩ : Frac), t)].filter nz = (([] : List (Option State × Word × Frac)).filter (fun x => x.2.2.n != 0)).map (toStep c w) := by
  rw [nz_filter good_zero]
  rfl
theorem times_zero {x : Frac} (h : 0 < x.d) : Lf02.times x ⟨0, 1⟩ = ⟨0, 1⟩ := by
  refine q_inj (good_times h (by decide)) good_zero ?_
  rw [q_times h (by decide), q_zero, Rat.mul_zero]
theorem frac_zero {d : Nat} (h : 0 < d) : Lf02.frac 0 d = ⟨0, 1⟩ := by
  refine q_inj (good_frac h) good_zero ?_
  rw [q_frac h, q_zero]
  exact Rat.zero_mkRat _
theorem times_one' {x : Frac} (h : Good x) : Lf02.times x ⟨1, 1⟩ = x := times_one h
theorem drop_cons {w : Word} {m a : Nat} {r : Word} (h : w.drop m = a :: r) : m < w.length ∧ w.getD m 0 = a ∧ w.drop (m + 1) = r ∧ w.length - r.length = m + 1 := by
  have h1 : m < w.length := by
    refine Nat.lt_of_not_le fun z => ?_
    rw [List.drop_eq_nil_of_le z] at h
    cases h
  have h2 := List.drop_eq_getElem_cons h1
  rw [h] at h2
  injection h2 with h3 h4
  refine ⟨h1, ?_, h4.symm, ?_⟩
  · rw [List.getD_eq_getElem?_getD, List.getElem?_eq_getElem h1, Option.getD_some, h3]
  · rw [h4, List.length_drop]; omega
theorem steps_eq {c : Chain} (ok : OkC c) {s : State} (hs : IsS c.k s) {w : Word} {m : Nat} (hm : m ≤ w.length) : stepsL c w s m = (cand c s (w.drop m)).map (toStep c w) := by
  have hpos := move_pos ok hs
  have hmv := ok.mv s (isS_iff.mpr hs)
  have gm := fun i => good_move ok hs i
  have hpl := hs.2.1
  -- the three moves
  have e3 : stepsL c w s m = [(Lf02.times (Lf02.move c s 0) (arr c w 0 (s.place + 1) (if s.place = c.k then m else m + 1)), (0, s.place + 1, if s.place = c.k then m else m + 1))].filter nz ++
      [(Lf02.times (Lf02.move c s 1) (arr c w 1 s.place (m + 1)), (1, s.place, m + 1))].filter nz ++ [(Lf02.times (Lf02.move c s 2) (arr c w 2 (s.place + 1) m), (2, s.place + 1, m))].filter nz := by
    rw [← List.filter_append, ← List.filter_append]
    rfl
  have ec : cand c s (w.drop m) = (if s.place < c.k then (match w.drop m with
      | a :: r => [(some ⟨0, s.place + 1⟩, r, Lf02.times (Lf02.move c s 0) (Lf02.letter c ⟨0, s.place + 1⟩ a))]
      | [] => []) else if (w.drop m).isEmpty = true then [(none, [], Lf02.move c s 0)] else []).filter (fun x => x.2.2.n != 0) ++
      (match w.drop m with
      | a :: r => [(some (⟨1, s.place⟩ : State), r, Lf02.times (Lf02.move c s 1) (Lf02.letter c ⟨1, s.place⟩ a))]
      | [] => []).filter (fun x => x.2.2.n != 0) ++
      (if s.place < c.k then [(some ⟨2, s.place + 1⟩, w.drop m, Lf02.move c s 2)] else []).filter (fun x => x.2.2.n != 0) := by
    rw [← List.filter_append, ← List.filter_append]
    rfl
  rw [e3, ec, List.map_append, List.map_append]
  have eLeave : [(Lf02.times (Lf02.move c s 2) (arr c w 2 (s.place + 1) m), (2, s.place + 1, m))].filter nz = ((if s.place < c.k then [(some ⟨2, s.place + 1⟩, w.drop m, Lf02.move c s 2)] else []).filter (fun x => x.2.2.n != 0)).map (toStep c w) := by
    have ea : arr c w 2 (s.place + 1) m = ⟨1, 1⟩ := by rw [arr, if_pos rfl]
    rw [ea, times_one (gm 2)]
    by_cases hk : s.place < c.k
    · rw [if_pos hk]
      refine one_step (gm 2) ?_
      show (2, s.place + 1, m) = (2, s.place + 1, w.length - (w.drop m).length)
      rw [List.length_drop]
      congr 2
      omega
    · rw [if_neg hk]
      have ez : Lf02.move c s 2 = ⟨0, 1⟩ := by
        have z := hmv.2.2.2.2 (by omega)
        show Lf02.frac (Lf02.movesOf c s).2.2 _ = _
        rw [z]
        exact frac_zero (by omega)
      rw [ez]
      exact no_step
  rw [eLeave]
  congr 1
  cases hd : w.drop m with
  | nil =>
    have hml : m = w.length := by
      have := List.drop_eq_nil_iff.mp hd
      omega
    have eP : [(Lf02.times (Lf02.move c s 1) (arr c w 1 s.place (m + 1)), ((1, s.place, m + 1) : Spot))].filter nz = (([] : List (Option State × Word × Frac)).filter (fun x => x.2.2.n != 0)).map (toStep c w) := by
      have ea : arr c w 1 s.place (m + 1) = ⟨0, 1⟩ := by rw [arr, if_neg (by decide), if_neg (by omega), if_pos (by omega)]
      rw [ea, times_zero (gm 1).1]
      exact no_step
    rw [eP]
    congr 1
    by_cases hk : s.place < c.k
    · rw [if_pos hk, if_neg (show ¬ s.place = c.k by omega)]
      have ea : arr c w 0 (s.place + 1) (m + 1) = ⟨0, 1⟩ := by rw [arr, if_neg (by decide), if_neg (by omega), if_pos (by omega)]
      rw [ea, times_zero (gm 0).1]
      exact no_step
    · rw [if_neg hk, if_pos (show s.place = c.k by omega)]
      have ea : arr c w 0 (s.place + 1) m = ⟨1, 1⟩ := by rw [arr, if_neg (by decide), if_pos (by omega), if_pos hml]
      rw [ea, times_one (gm 0)]
      refine one_step (gm 0) ?_
      show (0, s.place + 1, m) = (0, c.k + 1, w.length)
      rw [← hml, show s.place = c.k by omega]
  | cons a r =>
    obtain ⟨h1, h2, h3, h4⟩ := drop_cons hd
    have eP : [(Lf02.times (Lf02.move c s 1) (arr c w 1 s.place (m + 1)), ((1, s.place, m + 1) : Spot))].filter nz = ([(some (⟨1, s.place⟩ : State), r, Lf02.times (Lf02.move c s 1) (Lf02.letter c ⟨1, s.place⟩ a))].filter (fun x => x.2.2.n != 0)).map (toStep c w) := by
      have ea : arr c w 1 s.place (m + 1) = Lf02.letter c ⟨1, s.place⟩ a := by rw [arr, if_neg (by decide), if_neg (by omega), if_neg (by omega), Nat.add_sub_cancel, h2]
      rw [ea]
      refine one_step (good_times (gm 1).1 (good_letter ok (s := ⟨1, s.place⟩) (fun z => by cases z) a).1) ?_
      show (1, s.place, m + 1) = (1, s.place, w.length - r.length)
      rw [h4]
    rw [eP]
    congr 1
    by_cases hk : s.place < c.k
    · rw [if_pos hk, if_neg (show ¬ s.place = c.k by omega)]
      have ea : arr c w 0 (s.place + 1) (m + 1) = Lf02.letter c ⟨0, s.place + 1⟩ a := by rw [arr, if_neg (by decide), if_neg (by omega), if_neg (by omega), Nat.add_sub_cancel, h2]
      rw [ea]
      refine one_step (good_times (gm 0).1 (good_letter ok (s := ⟨0, s.place + 1⟩) (fun _ => ⟨Nat.succ_pos _, hk⟩) a).1) ?_
      show (0, s.place + 1, m + 1) = (0, s.place + 1, w.length - r.length)
      rw [h4]
    · rw [if_neg hk, if_pos (show s.place = c.k by omega)]
      have ea : arr c w 0 (s.place + 1) m = ⟨0, 1⟩ := by rw [arr, if_neg (by decide), if_pos (by omega), if_neg (by omega)]
      rw [ea, times_zero (gm 0).1]
      exact no_step
end Fh

namespace Fh
open Fc
open Lf02 (Frac State Chain Word)
/-- the end, or a state with no more letters made than there are -/
def VS (c : Chain) (w : Word) (t : Spot) : Prop := t = (0, c.k + 1, w.length) ∨ (IsS c.k ⟨t.1, t.2.1⟩ ∧ t.2.2 ≤ w.length)
structure StepOk (c : Chain) (w : Word) (s : State) (m : Nat) (x : Frac × Spot) : Prop where
  g : Good x.1
  n0 : x.1.n ≠ 0
  di : Di (den c) (q x.1)
  le : q x.1 ≤ 1
  vs : VS c w x.2
  later : x.2 = (0, c.k + 1, w.length) ∨ m < x.2.2.2 ∨ (x.2.2.2 = m ∧ s.place < x.2.2.1)
theorem toStep_snd {c : Chain} {w : Word} {x : Option State × Word × Frac} : (toStep c w x).2 = tspot c w x := rfl
theorem cand_step {c : Chain} (ok : OkC c) {s : State} (hs : IsS c.k s) {w : Word} {m : Nat} (hm : m ≤ w.length) {x : Option State × Word × Frac} (hx : x ∈ cand c s (w.drop m)) :
    StepOk c w s m (toStep c w x) ∧ wayL c w (tspot c w x) = behind c x.1 x.2.1 ∧ gOf c (tspot c w x) = goOn x.1 := by
  have h1 := List.mem_filter.mp hx
  have h0 : x.2.2.n ≠ 0 := by simpa using h1.2
  have g := good_next ok hs h1.1
  have nd := next_di ok hs h1.1
  have gend : gOf c (0, c.k + 1, w.length) = goOn none := by
    funext p
    show (if c.k < c.k + 1 then p else _) = p
    rw [if_pos (by omega)]
  have gst : ∀ (so pl mm : Nat), pl ≤ c.k → gOf c (so, pl, mm) = goOn (some ⟨so, pl⟩) := fun so pl mm hp => by
    funext p
    show (if c.k < pl then p else (⟨so, pl⟩ :: p)) = ⟨so, pl⟩ :: p
    rw [if_neg (by omega)]
  have wst : ∀ (so pl mm : Nat), pl ≤ c.k → wayL c w (so, pl, mm) = wf c ⟨so, pl⟩ (w.drop mm) := fun so pl mm hp => by
    show (if c.k < pl then _ else _) = _
    rw [if_neg (by omega)]
  rcases mem_nexts hs.2.1 h1.1 with ⟨e, hk, hw⟩ | ⟨a, r, hw, hk, e⟩ | ⟨a, r, hw, e⟩ | ⟨hk, e⟩
  · rw [e] at g h0 nd ⊢
    refine ⟨⟨g, h0, nd.1, nd.2, .inl rfl, .inl rfl⟩, ?_, gend⟩
    show (if c.k < c.k + 1 then _ else _) = _
    rw [if_pos (by omega)]
    rfl
  · obtain ⟨i1, i2, i3, i4⟩ := drop_cons hw
    rw [e] at g h0 nd ⊢
    have et : tspot c w (some ⟨0, s.place + 1⟩, r, Lf02.times (Lf02.move c s 0) (Lf02.letter c ⟨0, s.place + 1⟩ a)) = (0, s.place + 1, m + 1) := by
      show (0, s.place + 1, w.length - r.length) = _
      rw [i4]
    have hS : IsS c.k ⟨0, s.place + 1⟩ := ⟨Nat.zero_le _, hk, fun z => by cases z⟩
    refine ⟨⟨g, h0, nd.1, nd.2, ?_, ?_⟩, ?_, ?_⟩
    · rw [toStep_snd, et]; exact .inr ⟨hS, i1⟩
    · rw [toStep_snd, et]; exact .inr (.inl (by show m < m + 1; omega))
    · rw [et, wst _ _ _ hk, i3]; rfl
    · rw [et, gst _ _ _ hk]
  · obtain ⟨i1, i2, i3, i4⟩ := drop_cons hw
    rw [e] at g h0 nd ⊢
    have et : tspot c w (some ⟨1, s.place⟩, r, Lf02.times (Lf02.move c s 1) (Lf02.letter c ⟨1, s.place⟩ a)) = (1, s.place, m + 1) := by
      show (1, s.place, w.length - r.length) = _
      rw [i4]
    have hS : IsS c.k ⟨1, s.place⟩ := ⟨by show 1 ≤ 2; decide, hs.2.1, fun z => by cases z⟩
    refine ⟨⟨g, h0, nd.1, nd.2, ?_, ?_⟩, ?_, ?_⟩
    · rw [toStep_snd, et]; exact .inr ⟨hS, i1⟩
    · rw [toStep_snd, et]; exact .inr (.inl (by show m < m + 1; omega))
    · rw [et, wst _ _ _ hs.2.1, i3]; rfl
    · rw [et, gst _ _ _ hs.2.1]
  · rw [e] at g h0 nd ⊢
    have et : tspot c w (some ⟨2, s.place + 1⟩, w.drop m, Lf02.move c s 2) = (2, s.place + 1, m) := by
      show (2, s.place + 1, w.length - (w.drop m).length) = _
      rw [List.length_drop]
      congr 2
      omega
    have hS : IsS c.k ⟨2, s.place + 1⟩ := ⟨Nat.le_refl _, hk, fun _ => Nat.succ_pos _⟩
    refine ⟨⟨g, h0, nd.1, nd.2, ?_, ?_⟩, ?_, ?_⟩
    · rw [toStep_snd, et]; exact .inr ⟨hS, hm⟩
    · rw [toStep_snd, et]; exact .inr (.inr ⟨rfl, Nat.lt_succ_self _⟩)
    · rw [et, wst _ _ _ hk]; rfl
    · rw [et, gst _ _ _ hk]
theorem step_ok {c : Chain} (ok : OkC c) {s : State} (hs : IsS c.k s) {w : Word} {m : Nat} (hm : m ≤ w.length) {x : Frac × Spot} (hx : x ∈ stepsL c w s m) : StepOk c w s m x := by
  rw [steps_eq ok hs hm] at hx
  obtain ⟨y, hy, rfl⟩ := List.mem_map.mp hx
  exact (cand_step ok hs hm hy).1
/-- the ways that some of the steps begin -/
def flat (c : Chain) (w : Word) (l : List (Frac × Spot)) : List Way := l.flatMap fun x => ext (gOf c x.2) x.1 (wayL c w x.2)
theorem flatMap_map' {α β γ : Type} {f : α → β} {g : β → List γ} : ∀ l : List α, (l.map f).flatMap g = l.flatMap fun x => g (f x)
  | [] => rfl
  | x :: l => by rw [List.map_cons, List.flatMap_cons, List.flatMap_cons, flatMap_map' l]
theorem flat_all {c : Chain} (ok : OkC c) {s : State} (hs : IsS c.k s) {w : Word} {m : Nat} (hm : m ≤ w.length) : flat c w (stepsL c w s m) = wf c s (w.drop m) := by
  rw [wf_step ok hs, steps_eq ok hs hm, flat, flatMap_map']
  refine flatMap_eq fun x hx => ?_
  have z := cand_step ok hs hm hx
  show ext (gOf c (tspot c w x)) x.2.2 (wayL c w (tspot c w x)) = _
  rw [z.2.1, z.2.2]
theorem wayL_at {c : Chain} {s : State} (hs : IsS c.k s) {w : Word} {m : Nat} : wayL c w (s.sort, s.place, m) = wf c s (w.drop m) := by
  show (if c.k < s.place then _ else _) = _
  rw [if_neg (by have := hs.2.1; omega)]
theorem wb_way {c : Chain} (ok : OkC c) {w : Word} (h5 : w.length ≤ 8) {t : Spot} (h : VS c w t) : Wb (den c ^ 13) (3 ^ 13) (wayL c w t) := by
  rcases h with rfl | ⟨h1, h2⟩
  · have e : wayL c w (0, c.k + 1, w.length) = behind c none [] := by
      show (if c.k < c.k + 1 then _ else _) = _
      rw [if_pos (by omega)]
      rfl
    rw [e]
    exact wb_behind none [] _ _ (by decide) fun t z => by cases z
  · have e : wayL c w t = wf c ⟨t.1, t.2.1⟩ (w.drop t.2.2) := wayL_at (s := ⟨t.1, t.2.1⟩) h1
    rw [e]
    refine wb_wf ok 12 _ _ h1 ?_
    unfold fu
    rw [List.length_drop]
    have := ok.k4
    omega
theorem pos_flat' {c : Chain} (ok : OkC c) {w : Word} (h5 : w.length ≤ 8) {s : State} {m : Nat} : ∀ {l : List (Frac × Spot)}, (∀ x ∈ l, StepOk c w s m x) → Pos (flat c w l) := by
  intro l h y hy
  obtain ⟨x, hx, hy⟩ := List.mem_flatMap.mp hy
  exact pos_ext (h x hx).g (h x hx).n0 (wb_way ok h5 (h x hx).vs).pos y hy
def addX (c : Chain) (w : Word) (r : R) (x : Frac × Spot) : R := addStep r x.1 (gOf c x.2) (rvl c w x.2)
theorem rOf_flat {c : Chain} (ok : OkC c) {w : Word} (h5 : w.length ≤ 8) {s : State} {m : Nat} : ∀ (l : List (Frac × Spot)) (A : List Way), Pos A → (∀ x ∈ l, StepOk c w s m x) → rOf (A ++ flat c w l) = l.foldl (addX c w) (rOf A)
  | [], A, _, _ => by show rOf (A ++ []) = _; rw [List.append_nil]; rfl
  | x :: l, A, hA, h => by
    have hx := h x (List.mem_cons_self ..)
    have pw := (wb_way ok h5 hx.vs).pos
    have hp : Pos (A ++ ext (gOf c x.2) x.1 (wayL c w x.2)) := fun y hy => by
      rcases List.mem_append.mp hy with z | z
      · exact hA y z
      · exact pos_ext hx.g hx.n0 pw y z
    have e : A ++ flat c w (x :: l) = (A ++ ext (gOf c x.2) x.1 (wayL c w x.2)) ++ flat c w l := by
      rw [List.append_assoc]
      rfl
    rw [e, rOf_flat ok h5 l _ hp fun y hy => h y (List.mem_cons_of_mem _ hy), rOf_add hx.g hx.n0 hA pw, List.foldl_cons]
    rfl
/-- what is known behind some of the steps -/
theorem part_eq {c : Chain} (ok : OkC c) {w : Word} (h5 : w.length ≤ 8) {s : State} (hs : IsS c.k s) {m : Nat} (hm : m ≤ w.length) (i : Nat) :
    ((stepsL c w s m).take i).foldl (addX c w) (rOf []) = rOf (flat c w ((stepsL c w s m).take i)) := by
  have h : ∀ x ∈ (stepsL c w s m).take i, StepOk c w s m x := fun x hx => step_ok ok hs hm (List.mem_of_mem_take hx)
  have e := rOf_flat ok h5 _ [] (fun y hy => by cases hy) h
  rw [← e]
  rfl
theorem rvl_eq {c : Chain} (ok : OkC c) {w : Word} (h5 : w.length ≤ 8) {s : State} (hs : IsS c.k s) {m : Nat} (hm : m ≤ w.length) : (stepsL c w s m).foldl (addX c w) (rOf []) = rvl c w (s.sort, s.place, m) := by
  have h := part_eq ok h5 hs hm (stepsL c w s m).length
  rw [List.take_length, flat_all ok hs hm] at h
  rw [h, rvl, wayL_at hs]
theorem wb_part {c : Chain} (ok : OkC c) {w : Word} (h5 : w.length ≤ 8) {s : State} (hs : IsS c.k s) {m : Nat} (hm : m ≤ w.length) (i : Nat) : Wb (den c ^ 13) (3 ^ 13) (flat c w ((stepsL c w s m).take i)) := by
  have h := wb_way ok h5 (t := (s.sort, s.place, m)) (.inr ⟨hs, hm⟩)
  rw [wayL_at hs, ← flat_all ok hs hm] at h
  have e : flat c w (stepsL c w s m) = flat c w ((stepsL c w s m).take i) ++ flat c w ((stepsL c w s m).drop i) := by
    unfold flat
    rw [← List.flatMap_append, List.take_append_drop]
  refine h.sub (fun y hy => ?_) ?_
  · rw [e]; exact List.mem_append_left _ hy
  · rw [e, List.length_append]; omega
theorem den_pow {c : Chain} (ok : OkC c) : 0 < den c ^ 13 ∧ 0 < den c * den c ^ 13 ∧ den c ^ 13 ≤ 2 ^ 2223 ∧ den c * den c ^ 13 ≤ 2 ^ 2394 := by
  have h0 := den_pos ok
  have h1 := den_le ok
  have h2 : den c ^ 13 ≤ (2 ^ 171) ^ 13 := Nat.pow_le_pow_left h1 13
  rw [← Nat.pow_mul] at h2
  have h3 : den c * den c ^ 13 ≤ 2 ^ 171 * 2 ^ 2223 := Nat.mul_le_mul h1 h2
  rw [← Nat.pow_add] at h3
  exact ⟨Nat.pow_pos h0, Nat.mul_pos h0 (Nat.pow_pos h0), h2, h3⟩
theorem sz_of_le {f : Frac} (h1 : f.n ≤ 3 ^ 13 * 2 ^ 2394) (h2 : 0 < f.d) (h3 : f.d ≤ 2 ^ 2394) : Sz f := by
  have a : (3 : Nat) ^ 13 * 2 ^ 2394 ≤ 2 ^ 21 * 2 ^ 2394 := Nat.mul_le_mul_right _ (by decide)
  rw [← Nat.pow_add] at a
  have b : (2 : Nat) ^ (21 + 2394) < 2 ^ 4400 := Nat.pow_lt_pow_right (by decide) (by decide)
  have d : (2 : Nat) ^ 2394 < 2 ^ 4400 := Nat.pow_lt_pow_right (by decide) (by decide)
  exact ⟨Nat.lt_of_le_of_lt h1 (Nat.lt_of_le_of_lt a b), h2, Nat.lt_of_le_of_lt h3 d⟩
theorem sz_wb {c : Chain} (ok : OkC c) {L : List Way} (h : Wb (den c ^ 13) (3 ^ 13) L) : Sz (rOf L).total ∧ Sz (rOf L).best := by
  have d := den_pow ok
  have u : (2 : Nat) ^ 2223 ≤ 2 ^ 2394 := Nat.pow_le_pow_right (by decide) (by decide)
  have t := wb_total d.1 h
  have b := wb_top d.1 h
  have d3 : den c ^ 13 ≤ 2 ^ 2394 := Nat.le_trans d.2.2.1 u
  refine ⟨sz_of_le (Nat.le_trans t.2.2 (Nat.mul_le_mul_left _ d3)) t.1.1 (Nat.le_trans t.2.1 d3), sz_of_le ?_ b.1.1 (Nat.le_trans b.2.1 d3)⟩
  exact Nat.le_trans (Nat.le_trans b.2.2 d3) (Nat.le_mul_of_pos_left _ (by decide))
theorem sz_rvl {c : Chain} (ok : OkC c) {w : Word} (h5 : w.length ≤ 8) {t : Spot} (h : VS c w t) : Sz (rvl c w t).total ∧ Sz (rvl c w t).best := sz_wb ok (wb_way ok h5 h)
theorem sz_step {c : Chain} (ok : OkC c) {w : Word} (h5 : w.length ≤ 8) {s : State} {m : Nat} {x : Frac × Spot} (h : StepOk c w s m x) :
    Sz x.1 ∧ Sz (Lf02.times x.1 (rvl c w x.2).total) ∧ Sz (Lf02.times x.1 (rvl c w x.2).best) := by
  have d := den_pow ok
  have W := wb_way ok h5 h.vs
  have b1 := one_b (den_pos ok) h.g h.di h.le
  have dl : den c ≤ 2 ^ 2394 := Nat.le_trans (den_le ok) (Nat.pow_le_pow_right (by decide) (by decide))
  have one : ∀ {y : Nat}, y ≤ 2 ^ 2394 → y ≤ 3 ^ 13 * 2 ^ 2394 := fun hy => Nat.le_trans hy (Nat.le_mul_of_pos_left _ (by decide))
  refine ⟨sz_of_le (one (Nat.le_trans b1.2 dl)) h.g.1 (Nat.le_trans b1.1 dl), ?_, ?_⟩
  · -- the total
    have W2 := W.ext (g := id) h.g h.n0 h.di h.le
    have e : Lf02.sumF ((ext id x.1 (wayL c w x.2)).map fun y => y.2) = Lf02.times x.1 (rvl c w x.2).total := by
      have z := total_add (g := id) (A := []) h.g h.n0 (fun y hy => by cases hy) W.pos
      rw [List.nil_append] at z
      rw [z]
      have gT : Good (rvl c w x.2).total := (wb_total d.1 W).1
      refine q_inj (good_plus (by decide) (good_times h.g.1 gT.1).1) (good_times h.g.1 gT.1) ?_
      show q (Lf02.plus ⟨0, 1⟩ (Lf02.times x.1 (rvl c w x.2).total)) = _
      rw [q_plus (by decide) (good_times h.g.1 gT.1).1, q_zero, Rat.zero_add]
    have t := wb_total d.2.1 W2
    rw [e] at t
    exact sz_of_le (Nat.le_trans t.2.2 (Nat.mul_le_mul_left _ d.2.2.2)) t.1.1 (Nat.le_trans t.2.1 d.2.2.2)
  · -- the best
    show Sz (Lf02.times x.1 (topOf (wayL c w x.2)))
    have gt := good_top W.pos
    have g2 := good_times h.g.1 gt.1
    have q2 : Di (den c ^ 13) (q (topOf (wayL c w x.2))) ∧ q (topOf (wayL c w x.2)) ≤ 1 := by
      cases e : bst (wayL c w x.2) with
      | none =>
        have t : topOf (wayL c w x.2) = ⟨0, 1⟩ := by unfold topOf; rw [e]
        rw [t, q_zero]
        exact ⟨Di.zero, by decide⟩
      | some b =>
        rw [top_some e]
        exact ⟨W.di b (bst_mem e), W.le b (bst_mem e)⟩
    have b2 := one_b d.2.1 g2 (by rw [q_times h.g.1 gt.1]; exact h.di.mul q2.1) (by rw [q_times h.g.1 gt.1]; exact mul_le_one (q_nonneg _) h.le (q_nonneg _) q2.2)
    exact sz_of_le (one (Nat.le_trans b2.2 d.2.2.2)) g2.1 (Nat.le_trans b2.1 d.2.2.2)
end Fh

/-! The ways of which something is asked (which state makes a letter), step by step. -/
namespace Fh
open Fc
open Lf02 (Frac State Chain Word)
/-- the chances of those ways together that P takes -/
def selP (P : List State → Bool) (L : List Way) : Rat := ((L.filter fun y => P y.1).map fun y => q y.2).sum
theorem sel_append (P : List State → Bool) (A B : List Way) : selP P (A ++ B) = selP P A + selP P B := by
  unfold selP
  rw [List.filter_append, List.map_append, List.sum_append]
theorem sel_ext {P : List State → Bool} {g : List State → List State} {x : Frac} {L : List Way} (hx : Good x) (hL : Pos L) : selP P (ext g x L) = q x * selP (fun p => P (g p)) L := by
  unfold selP ext
  rw [List.filter_map, ← sum_map_mul, List.map_map, List.map_map]
  congr 1
  refine List.map_congr_left fun y hy => ?_
  exact q_times hx.1 (hL y (List.mem_filter.mp hy).1).1.1
theorem sel_flat {P : List State → Bool} {c : Chain} (ok : OkC c) {w : Word} (h5 : w.length ≤ 8) {s : State} {m : Nat} : ∀ (l : List (Frac × Spot)), (∀ x ∈ l, StepOk c w s m x) → selP P (flat c w l) = (l.map fun x => q x.1 * selP (fun p => P (gOf c x.2 p)) (wayL c w x.2)).sum
  | [], _ => rfl
  | x :: l, h => by
    have hx := h x (List.mem_cons_self ..)
    have e : flat c w (x :: l) = ext (gOf c x.2) x.1 (wayL c w x.2) ++ flat c w l := rfl
    rw [e, sel_append, sel_ext hx.g (wb_way ok h5 hx.vs).pos, List.map_cons, List.sum_cons, sel_flat ok h5 l fun y hy => h y (List.mem_cons_of_mem _ hy)]
theorem sel_all {L : List Way} : selP (fun _ => true) L = (L.map fun y => q y.2).sum := by
  unfold selP
  rw [List.filter_eq_self.mpr fun y _ => rfl]
theorem sel_none {L : List Way} : selP (fun _ => false) L = 0 := by
  unfold selP
  rw [List.filter_eq_nil_iff.mpr fun y _ => by simp]
  rfl
/-- all ways from a spot on together -/
def bwq (c : Chain) (w : Word) (t : Spot) : Rat := ((wayL c w t).map fun y => q y.2).sum
theorem bwq_total {c : Chain} (ok : OkC c) {w : Word} (h5 : w.length ≤ 8) {t : Spot} (ht : VS c w t) : q (rvl c w t).total = bwq c w t := by
  have W := wb_way ok h5 ht
  show q (Lf02.sumF ((wayL c w t).map fun y => y.2)) = _
  rw [q_sumF fun y hy => by obtain ⟨z, hz, rfl⟩ := List.mem_map.mp hy; exact (W.pos z hz).1.1, List.map_map]
  rfl
theorem maker_cons (s : State) (l : List State) (i : Nat) : Lf02.maker (s :: l) i = if s.sort = 2 then Lf02.maker l i else match i with
    | 0 => some s
    | i + 1 => Lf02.maker l i := by
  cases i <;> rfl
/-- letter number i is made by v, m of the letters being made by now -/
def mkP (v : State) (i m : Nat) : List State → Bool := fun p => Lf02.maker p (i - m) == some v
/-- from a spot on: the ways on which v makes letter i -/
def zq (c : Chain) (w : Word) (v : State) (i : Nat) (s : State) (m : Nat) : Rat := selP (mkP v i m) (wf c s (w.drop m))
def zt (c : Chain) (w : Word) (v : State) (i m : Nat) (t : Spot) : Rat :=
  if c.k < t.2.1 then 0 else if t.1 = 2 then zq c w v i ⟨t.1, t.2.1⟩ t.2.2 else if m = i then (if (⟨t.1, t.2.1⟩ : State) = v then bwq c w t else 0) else zq c w v i ⟨t.1, t.2.1⟩ t.2.2
theorem later_made {c : Chain} (ok : OkC c) {s : State} (hs : IsS c.k s) {w : Word} {m : Nat} (hm : m ≤ w.length) {x : Frac × Spot} (hx : x ∈ stepsL c w s m) (h : x.2.2.1 ≤ c.k) : x.2.2.2 = if x.2.1 = 2 then m else m + 1 := by
  rw [steps_eq ok hs hm] at hx
  obtain ⟨y, hy, rfl⟩ := List.mem_map.mp hx
  have h1 := List.mem_filter.mp hy
  rcases mem_nexts hs.2.1 h1.1 with ⟨e, _, _⟩ | ⟨a, r, hw, hk, e⟩ | ⟨a, r, hw, e⟩ | ⟨hk, e⟩
  · rw [e] at h
    have h' : c.k + 1 ≤ c.k := h
    omega
  · obtain ⟨_, _, _, i4⟩ := drop_cons hw
    rw [e]
    show w.length - r.length = (if (0 : Nat) = 2 then m else m + 1)
    rw [i4, if_neg (by decide)]
  · obtain ⟨_, _, _, i4⟩ := drop_cons hw
    rw [e]
    show w.length - r.length = (if (1 : Nat) = 2 then m else m + 1)
    rw [i4, if_neg (by decide)]
  · rw [e]
    show w.length - (w.drop m).length = (if (2 : Nat) = 2 then m else m + 1)
    rw [List.length_drop, if_pos rfl]
    omega
theorem z_step {c : Chain} (ok : OkC c) {w : Word} (h5 : w.length ≤ 8) {v s : State} (hs : IsS c.k s) {i m : Nat} (hm : m ≤ w.length) (hi : m ≤ i) : zq c w v i s m = ((stepsL c w s m).map fun x => q x.1 * zt c w v i m x.2).sum := by
  unfold zq
  rw [← flat_all ok hs hm, sel_flat ok h5 (stepsL c w s m) fun x hx => step_ok ok hs hm hx]
  congr 1
  refine List.map_congr_left fun x hx => ?_
  congr 1
  have so := step_ok ok hs hm hx
  unfold zt
  by_cases hk : c.k < x.2.2.1
  · rw [if_pos hk]
    have et : x.2 = (0, c.k + 1, w.length) := so.vs.resolve_right fun e => by
      have := e.1.2.1
      have this' : x.2.2.1 ≤ c.k := this
      omega
    have ew : wayL c w x.2 = [([], ⟨1, 1⟩)] := by
      unfold wayL
      rw [if_pos hk]
    rw [ew]
    have e0 : mkP v i m (gOf c x.2 []) = false := by
      unfold mkP gOf
      rw [if_pos hk]
      rfl
    show ((List.filter _ [([], (⟨1, 1⟩ : Frac))]).map _).sum = 0
    rw [List.filter_cons_of_neg (by show ¬ mkP v i m (gOf c x.2 []) = true; rw [e0]; decide)]
    rfl
  · rw [if_neg hk]
    have hk' : x.2.2.1 ≤ c.k := by omega
    have lm := later_made ok hs hm hx hk'
    have eg : ∀ p, gOf c x.2 p = ⟨x.2.1, x.2.2.1⟩ :: p := fun p => by
      unfold gOf
      rw [if_neg hk]
    have ew : wayL c w x.2 = wf c ⟨x.2.1, x.2.2.1⟩ (w.drop x.2.2.2) := by
      unfold wayL
      rw [if_neg hk]
    by_cases h2 : x.2.1 = 2
    · rw [if_pos h2]
      rw [if_pos h2] at lm
      have eP : (fun p => mkP v i m (gOf c x.2 p)) = mkP v i x.2.2.2 := by
        funext p
        rw [eg, lm]
        unfold mkP
        show (Lf02.maker (_ :: p) (i - m) == some v) = _
        rw [maker_cons, if_pos h2]
      rw [eP, ew]
      rfl
    · rw [if_neg h2]
      rw [if_neg h2] at lm
      by_cases h3 : m = i
      · rw [if_pos h3]
        have eP : (fun p => mkP v i m (gOf c x.2 p)) = fun _ => decide ((⟨x.2.1, x.2.2.1⟩ : State) = v) := by
          funext p
          rw [eg]
          unfold mkP
          rw [h3, Nat.sub_self, maker_cons, if_neg h2]
          show (some (⟨x.2.1, x.2.2.1⟩ : State) == some v) = _
          by_cases e : (⟨x.2.1, x.2.2.1⟩ : State) = v
          · rw [e, decide_eq_true rfl]; exact beq_self_eq_true _
          · rw [decide_eq_false e]
            exact beq_eq_false_iff_ne.mpr fun z => e (Option.some.inj z)
        rw [eP]
        by_cases e : (⟨x.2.1, x.2.2.1⟩ : State) = v
        · rw [if_pos e, decide_eq_true e]; exact sel_all
        · rw [if_neg e, decide_eq_false e]; exact sel_none
      · rw [if_neg h3]
        have eP : (fun p => mkP v i m (gOf c x.2 p)) = mkP v i x.2.2.2 := by
          funext p
          rw [eg, lm]
          unfold mkP
          obtain ⟨j, hj⟩ : ∃ j, i - m = j + 1 := ⟨i - m - 1, by omega⟩
          rw [hj, show i - (m + 1) = j by omega, maker_cons, if_neg h2]
        rw [eP, ew]
        rfl
theorem q_over {a b : Frac} (ha : 0 < a.d) (hb : Good b) (h0 : b.n ≠ 0) : Good (Lf02.over a b) ∧ q (Lf02.over a b) * q b = q a := by
  have hd : 0 < a.d * b.n := Nat.mul_pos ha (by omega)
  refine ⟨good_frac hd, ?_⟩
  unfold Lf02.over
  rw [q_frac hd]
  unfold q
  rw [Rat.mkRat_mul_mkRat]
  have hbd := hb.1
  rw [Rat.mkRat_eq_iff (by have := Nat.mul_pos hd hbd; omega) (by omega)]
  push_cast
  grind
/-- what the specification says of a letter's place -/
theorem place_q {c : Chain} (ok : OkC c) {w : Word} (h5 : w.length ≤ 8) {i : Nat} {v : State} (h0 : (Lf02.total c w).n ≠ 0) :
    Good (Lf02.place c w i v) ∧ q (Lf02.place c w i v) * q (Lf02.total c w) = zq c w v i ⟨0, 0⟩ 0 := by
  have W := wb_way ok h5 (t := (0, 0, 0)) (.inr ⟨⟨Nat.zero_le _, Nat.zero_le _, fun z => by cases z⟩, Nat.zero_le _⟩)
  have ew : wayL c w (0, 0, 0) = Lf02.ways c w := by
    show (if c.k < 0 then _ else wf c ⟨0, 0⟩ (w.drop 0)) = _
    rw [if_neg (by omega), List.drop_zero, ways_eq]
  rw [ew] at W
  have dall : ∀ y ∈ (Lf02.ways c w).map (fun y : Way => y.2), 0 < y.d := fun y hy => by obtain ⟨z, hz, rfl⟩ := List.mem_map.mp hy; exact (W.pos z hz).1.1
  have dsel : ∀ y ∈ ((Lf02.ways c w).filter fun x => Lf02.maker x.1 i == some v).map (fun y : Way => y.2), 0 < y.d := fun y hy => by obtain ⟨z, hz, rfl⟩ := List.mem_map.mp hy; exact (W.pos z (List.mem_filter.mp hz).1).1.1
  have o := q_over (a := Lf02.sumF (((Lf02.ways c w).filter fun x => Lf02.maker x.1 i == some v).map fun x => x.2)) (b := Lf02.total c w) (good_sumF dsel).1 (good_sumF dall) h0
  refine ⟨o.1, ?_⟩
  show q (Lf02.over _ _) * _ = _
  rw [o.2, q_sumF dsel, List.map_map]
  unfold zq selP mkP
  rw [List.drop_zero, ← ways_eq, Nat.sub_zero]
  rfl
end Fh

/-! From the beginning on: how likely it is to come to a spot. -/
namespace Fh
open Fc
open Lf02 (Frac State Chain Word)
abbrev RF := Spot → Frac
def f0 : RF := fun t => if t = (0, 0, 0) then ⟨1, 1⟩ else ⟨0, 1⟩
def addR (r : Frac) (f : RF) (x : Frac × Spot) : RF := fun t => if t = x.2 then Lf02.plus (f t) (Lf02.times r x.1) else f t
def stepT (c : Chain) (w : Word) (f : RF) (t : Spot) : RF := (stepsL c w ⟨t.1, t.2.1⟩ t.2.2).foldl (addR (f t)) f
def runR (c : Chain) (w : Word) (l : List Spot) : RF := l.foldl (stepT c w) f0
def stS (m : Nat) (s : State) : Spot := (s.sort, s.place, m)
def spots (k n : Nat) : List Spot := (List.range n).flatMap fun m => (Lf02.states k).map (stS m)
theorem steps_tgt {c : Chain} {w : Word} {s : State} {m : Nat} {x : Frac × Spot} (h : x ∈ stepsL c w s m) : x.2 ∈ tgts c.k s.place m := by
  have h1 := (List.mem_filter.mp h).1
  unfold cand3 at h1
  obtain ⟨i, hi, e⟩ := List.getElem_of_mem h1
  rw [List.getElem_zipWith] at e
  rw [← e]
  exact List.getElem_mem _
theorem tgt_sum {k pl m : Nat} {t : Spot} (h : t ∈ tgts k pl m) : pl + m + 1 ≤ t.2.1 + t.2.2 ∧ t.2.1 ≤ pl + 1 ∧ t.2.2 ≤ m + 1 ∧ t ≠ (0, 0, 0) := by
  unfold tgts at h
  simp only [List.mem_cons, List.mem_nil_iff, or_false] at h
  rcases h with rfl | rfl | rfl
  · refine ⟨?_, Nat.le_refl _, ?_, fun z => ?_⟩
    · show pl + m + 1 ≤ pl + 1 + (if pl = k then m else m + 1)
      split <;> omega
    · show (if pl = k then m else m + 1) ≤ m + 1
      split <;> omega
    · injection z with _ z; injection z with z; cases z
  · exact ⟨by show pl + m + 1 ≤ pl + (m + 1); omega, Nat.le_succ _, Nat.le_refl _, fun z => by injection z with z; cases z⟩
  · exact ⟨by show pl + m + 1 ≤ pl + 1 + m; omega, Nat.le_refl _, Nat.le_succ _, fun z => by injection z with z; cases z⟩
theorem steps_len (c : Chain) (w : Word) (s : State) (m : Nat) : (stepsL c w s m).length ≤ 3 := by
  refine Nat.le_trans (List.length_filter_le _ _) ?_
  unfold cand3
  rw [List.length_zipWith]
  show min 3 3 ≤ 3
  decide
/-- within bounds -/
structure RB (c : Chain) (B : Nat) (f : RF) : Prop where
  g : ∀ t, Good (f t)
  di : ∀ t, Di (den c ^ (t.2.1 + t.2.2)) (q (f t))
  le : ∀ t, q (f t) ≤ (B : Rat)
theorem rb0 (c : Chain) : RB c 1 f0 := by
  refine ⟨fun t => ?_, fun t => ?_, fun t => ?_⟩
  · unfold f0; split
    · exact good_one
    · exact good_zero
  · unfold f0; split
    · rw [q_one]; exact Di.one
    · rw [q_zero]; exact Di.zero
  · unfold f0; split
    · rw [q_one]; exact Rat.le_refl
    · rw [q_zero]; decide
structure RrOk (c : Chain) (R pl m : Nat) (r : Frac) : Prop where
  g : Good r
  di : Di (den c ^ (pl + m)) (q r)
  le : q r ≤ (R : Rat)
theorem le_mul_one {a b : Rat} {R : Nat} (ha0 : 0 ≤ a) (ha : a ≤ (R : Rat)) (hb0 : 0 ≤ b) (hb : b ≤ 1) : a * b ≤ (R : Rat) := by
  have h1 := Rat.mul_le_mul_of_nonneg_left (c := a) hb ha0
  rw [Rat.mul_one] at h1
  exact Rat.le_trans h1 ha
theorem rt_ok {c : Chain} {w : Word} {s : State} {m R : Nat} {r : Frac} (hr : RrOk c R s.place m r) {x : Frac × Spot} (hx : StepOk c w s m x) : Good (Lf02.times r x.1) ∧ q (Lf02.times r x.1) = q r * q x.1 ∧ Di (den c ^ (s.place + m + 1)) (q (Lf02.times r x.1)) ∧ q (Lf02.times r x.1) ≤ (R : Rat) := by
  have e := q_times hr.g.1 hx.g.1
  refine ⟨good_times hr.g.1 hx.g.1, e, ?_, ?_⟩
  · rw [e, Nat.pow_succ]
    exact hr.di.mul hx.di
  · rw [e]
    exact le_mul_one (q_nonneg _) hr.le (q_nonneg _) hx.le
theorem rb_add {c : Chain} {w : Word} {s : State} {m R B : Nat} {r : Frac} {f : RF} (hf : RB c B f) (hr : RrOk c R s.place m r) {x : Frac × Spot} (hx : StepOk c w s m x) (hs : s.place + m + 1 ≤ x.2.2.1 + x.2.2.2) : RB c (B + R) (addR r f x) := by
  have z := rt_ok hr hx
  have up : ∀ a : Rat, a ≤ (B : Rat) → a ≤ ((B + R : Nat) : Rat) := fun a ha => Rat.le_trans ha (Rat.natCast_le_natCast.mpr (Nat.le_add_right _ _))
  refine ⟨fun t => ?_, fun t => ?_, fun t => ?_⟩
  · unfold addR
    split
    · exact good_plus (hf.g t).1 z.1.1
    · exact hf.g t
  · unfold addR
    split
    · rename_i e
      rw [q_plus (hf.g t).1 z.1.1]
      refine (hf.di t).add (z.2.2.1.dvd (Nat.pow_dvd_pow _ ?_))
      rw [e]
      exact hs
    · exact hf.di t
  · unfold addR
    split
    · rw [q_plus (hf.g t).1 z.1.1, Rat.natCast_add]
      have a := hf.le t
      have b := z.2.2.2
      grind
    · exact up _ (hf.le t)
theorem rb_steps {c : Chain} {w : Word} {s : State} {m R : Nat} {r : Frac} (hr : RrOk c R s.place m r) : ∀ (l : List (Frac × Spot)) (B : Nat) (f : RF), RB c B f → (∀ x ∈ l, StepOk c w s m x ∧ s.place + m + 1 ≤ x.2.2.1 + x.2.2.2) → RB c (B + l.length * R) (l.foldl (addR r) f)
  | [], B, f, hf, _ => by
    rw [List.length_nil, Nat.zero_mul, Nat.add_zero]
    exact hf
  | x :: l, B, f, hf, h => by
    have hx := h x (List.mem_cons_self ..)
    have z := rb_steps hr l (B + R) (addR r f x) (rb_add hf hr hx.1 hx.2) fun y hy => h y (List.mem_cons_of_mem _ hy)
    have e : B + R + l.length * R = B + (x :: l).length * R := by
      rw [List.length_cons, Nat.add_mul, Nat.one_mul]
      omega
    rw [e] at z
    exact z
theorem RB.up {c : Chain} {B B' : Nat} {f : RF} (h : RB c B f) (hb : B ≤ B') : RB c B' f := ⟨h.g, h.di, fun t => Rat.le_trans (h.le t) (Rat.natCast_le_natCast.mpr hb)⟩
/-- some of a spot's steps are done -/
theorem rb_part {c : Chain} (ok : OkC c) {w : Word} {s : State} {m : Nat} (hs : IsS c.k s) (hm : m ≤ w.length) {B : Nat} {f : RF} (hf : RB c B f) (j : Nat) : RB c (4 * B) (((stepsL c w s m).take j).foldl (addR (f (s.sort, s.place, m))) f) := by
  have hr : RrOk c B s.place m (f (s.sort, s.place, m)) := ⟨hf.g _, hf.di (s.sort, s.place, m), hf.le _⟩
  have z := rb_steps hr ((stepsL c w s m).take j) B f hf fun x hx => ⟨step_ok ok hs hm (List.mem_of_mem_take hx), (tgt_sum (steps_tgt (List.mem_of_mem_take hx))).1⟩
  refine z.up ?_
  have l3 := steps_len c w s m
  have lt : ((stepsL c w s m).take j).length ≤ 3 := by
    rw [List.length_take]
    omega
  have := Nat.mul_le_mul_right B lt
  omega
theorem rb_spot {c : Chain} (ok : OkC c) {w : Word} {t : Spot} (hs : IsS c.k ⟨t.1, t.2.1⟩) (hm : t.2.2 ≤ w.length) {B : Nat} {f : RF} (hf : RB c B f) : RB c (4 * B) (stepT c w f t) := by
  have z := rb_part ok (s := ⟨t.1, t.2.1⟩) hs hm hf (stepsL c w ⟨t.1, t.2.1⟩ t.2.2).length
  rw [List.take_length] at z
  exact z
theorem rb_fold {c : Chain} (ok : OkC c) {w : Word} : ∀ (l : List Spot) (B : Nat) (f : RF), (∀ t ∈ l, IsS c.k ⟨t.1, t.2.1⟩ ∧ t.2.2 ≤ w.length) → RB c B f → RB c (4 ^ l.length * B) (l.foldl (stepT c w) f)
  | [], B, f, _, hf => by
    rw [List.length_nil, Nat.pow_zero, Nat.one_mul]
    exact hf
  | t :: l, B, f, h, hf => by
    have ht := h t (List.mem_cons_self ..)
    have z := rb_fold ok l (4 * B) (stepT c w f t) (fun y hy => h y (List.mem_cons_of_mem _ hy)) (rb_spot ok ht.1 ht.2 hf)
    have e : 4 ^ l.length * (4 * B) = 4 ^ (t :: l).length * B := by
      rw [List.length_cons, Nat.pow_succ, Nat.mul_assoc]
    rw [e] at z
    exact z
theorem rb_run {c : Chain} (ok : OkC c) {w : Word} {l : List Spot} (h : ∀ t ∈ l, IsS c.k ⟨t.1, t.2.1⟩ ∧ t.2.2 ≤ w.length) : RB c (4 ^ l.length) (runR c w l) := by
  have z := rb_fold ok l 1 f0 h (rb0 c)
  rw [Nat.mul_one] at z
  exact z
/-! the sum over what is ahead stays as it is -/
def potL (W : Spot → Rat) (f : RF) (M : List Spot) : Rat := (M.map fun t => q (f t) * W t).sum
theorem pot_add {W : Spot → Rat} {r : Frac} {x : Frac × Spot} {f : RF} (hf : ∀ t, 0 < (f t).d) (hr : 0 < (Lf02.times r x.1).d) : ∀ (M : List Spot), M.Nodup → x.2 ∈ M → potL W (addR r f x) M = potL W f M + q (Lf02.times r x.1) * W x.2
  | [], _, h => by cases h
  | t :: M, nd, h => by
    have n1 := List.nodup_cons.mp nd
    unfold potL
    rw [List.map_cons, List.map_cons, List.sum_cons, List.sum_cons]
    by_cases e : t = x.2
    · have same : (M.map fun u => q (addR r f x u) * W u).sum = (M.map fun u => q (f u) * W u).sum := by
        congr 1
        refine List.map_congr_left fun u hu => ?_
        have : u ≠ x.2 := fun z => n1.1 (by rw [e, ← z]; exact hu)
        unfold addR
        rw [if_neg this]
      rw [same]
      have e1 : addR r f x t = Lf02.plus (f t) (Lf02.times r x.1) := by unfold addR; rw [if_pos e]
      rw [e1, q_plus (hf t) hr, ← e]
      grind
    · have hm := (List.mem_cons.mp h).resolve_left (fun z => e z.symm)
      have ih := pot_add (W := W) hf hr M n1.2 hm
      unfold potL at ih
      have e1 : addR r f x t = f t := by unfold addR; rw [if_neg e]
      rw [ih, e1, Rat.add_assoc]
theorem pot_steps {c : Chain} {w : Word} {s : State} {m R : Nat} {W : Spot → Rat} {r : Frac} (hr : RrOk c R s.place m r) {M : List Spot} (nd : M.Nodup) : ∀ (l : List (Frac × Spot)) (B : Nat) (f : RF), RB c B f → (∀ x ∈ l, StepOk c w s m x ∧ s.place + m + 1 ≤ x.2.2.1 + x.2.2.2 ∧ x.2 ∈ M) →
    potL W (l.foldl (addR r) f) M = potL W f M + q r * (l.map fun x => q x.1 * W x.2).sum
  | [], B, f, _, _ => by
    show _ = _ + q r * 0
    rw [Rat.mul_zero, Rat.add_zero]
    rfl
  | x :: l, B, f, hf, h => by
    have hx := h x (List.mem_cons_self ..)
    have z := rt_ok hr hx.1
    rw [List.foldl_cons, pot_steps hr nd l (B + R) (addR r f x) (rb_add hf hr hx.1 hx.2.1) fun y hy => h y (List.mem_cons_of_mem _ hy), pot_add (fun t => (hf.g t).1) z.1.1 M nd hx.2.2, z.2.1, List.map_cons, List.sum_cons]
    grind
/-- what a spot is worth: on the ways from it on v makes letter i -/
def Wv (c : Chain) (w : Word) (v : State) (i : Nat) (t : Spot) : Rat := if t.2.2 ≤ i then zq c w v i ⟨t.1, t.2.1⟩ t.2.2 else if t.1 ≠ 2 ∧ (⟨t.1, t.2.1⟩ : State) = v then bwq c w t else 0
theorem spots_nodup {k n : Nat} (hk : k ≤ 4) (hn : n ≤ 6) : (spots k n).Nodup := by
  have a : ∀ k ≤ 4, ∀ n ≤ 6, (spots k n).Nodup := by decide +kernel
  exact a k hk n hn
theorem spots_sorted {k n : Nat} (hk : k ≤ 4) (hn : n ≤ 6) : (spots k n).Pairwise fun a b => a.2.2 < b.2.2 ∨ (a.2.2 = b.2.2 ∧ a.2.1 ≤ b.2.1) := by
  have a : ∀ k ≤ 4, ∀ n ≤ 6, (spots k n).Pairwise fun a b => a.2.2 < b.2.2 ∨ (a.2.2 = b.2.2 ∧ a.2.1 ≤ b.2.1) := by decide +kernel
  exact a k hk n hn
theorem mem_spots {k n : Nat} {t : Spot} : t ∈ spots k n ↔ IsS k ⟨t.1, t.2.1⟩ ∧ t.2.2 < n := by
  unfold spots
  constructor
  · intro h
    obtain ⟨m, hm, ht⟩ := List.mem_flatMap.mp h
    obtain ⟨s, hs, rfl⟩ := List.mem_map.mp ht
    exact ⟨mem_states.mp hs, List.mem_range.mp hm⟩
  · rintro ⟨h1, h2⟩
    exact List.mem_flatMap.mpr ⟨t.2.2, List.mem_range.mpr h2, List.mem_map.mpr ⟨⟨t.1, t.2.1⟩, mem_states.mpr h1, rfl⟩⟩
theorem spots_succ (k n : Nat) : spots k (n + 1) = spots k n ++ (Lf02.states k).map (stS n) := by
  unfold spots
  rw [List.range_succ, List.flatMap_append, List.flatMap_cons, List.flatMap_nil, List.append_nil]
theorem wv_step {c : Chain} (ok : OkC c) {w : Word} (h5 : w.length ≤ 8) {v s : State} (hs : IsS c.k s) {i m : Nat} (hi : i < w.length) (hmi : m ≤ i) {x : Frac × Spot} (hx : x ∈ stepsL c w s m) : zt c w v i m x.2 = Wv c w v i x.2 ∧ x.2.2.1 ≤ c.k ∧ x.2.2.2 ≤ i + 1 := by
  have hm : m ≤ w.length := by omega
  have so := step_ok ok hs hm hx
  have hk' : x.2.2.1 ≤ c.k := by
    rcases so.vs with e | e
    · exfalso
      have t := steps_tgt hx
      rw [e] at t
      unfold tgts at t
      simp only [List.mem_cons, List.mem_nil_iff, or_false] at t
      have hpl := hs.2.1
      rcases t with z | z | z
      · have z2 : c.k + 1 = s.place + 1 := (Prod.mk.inj (Prod.mk.inj z).2).1
        have z3 : w.length = if s.place = c.k then m else m + 1 := (Prod.mk.inj (Prod.mk.inj z).2).2
        rw [if_pos (by omega)] at z3
        omega
      · cases (Prod.mk.inj z).1
      · cases (Prod.mk.inj z).1
    · exact e.1.2.1
  have lm := later_made ok hs hm hx hk'
  refine ⟨?_, hk', ?_⟩
  · unfold zt Wv
    rw [if_neg (by omega)]
    by_cases h2 : x.2.1 = 2
    · rw [if_pos h2] at lm ⊢
      rw [if_pos (by omega)]
    · rw [if_neg h2] at lm ⊢
      by_cases h3 : m = i
      · rw [if_pos h3, if_neg (show ¬ x.2.2.2 ≤ i by omega)]
        by_cases e : (⟨x.2.1, x.2.2.1⟩ : State) = v
        · rw [if_pos e, if_pos ⟨h2, e⟩]
        · rw [if_neg e, if_neg fun z => e z.2]
      · rw [if_neg h3, if_pos (show x.2.2.2 ≤ i by omega)]
  · rw [lm]
    split <;> omega
theorem pot_run {c : Chain} (ok : OkC c) {w : Word} (h5 : w.length ≤ 5) {v : State} {i : Nat} (hi : i < w.length) : ∀ p, p ≤ (spots c.k (i + 1)).length → potL (Wv c w v i) (runR c w ((spots c.k (i + 2)).take p)) ((spots c.k (i + 2)).drop p) = potL (Wv c w v i) f0 (spots c.k (i + 2))
  | 0, _ => rfl
  | p + 1, hp => by
    have h8 : w.length ≤ 8 := by omega
    have ih := pot_run ok h5 (v := v) hi p (by omega)
    have eL : spots c.k (i + 2) = spots c.k (i + 1) ++ (Lf02.states c.k).map (stS (i + 1)) := spots_succ c.k (i + 1)
    have hpL : p < (spots c.k (i + 2)).length := by
      rw [eL, List.length_append]
      omega
    have nd := spots_nodup (k := c.k) (n := i + 2) ok.k4 (by omega)
    have so := spots_sorted (k := c.k) (n := i + 2) ok.k4 (by omega)
    have hm1 : (spots c.k (i + 2))[p] ∈ spots c.k (i + 1) := by
      have e : (spots c.k (i + 2))[p]? = (spots c.k (i + 1))[p]? := by rw [eL, List.getElem?_append_left (by omega)]
      rw [List.getElem?_eq_getElem hpL, List.getElem?_eq_getElem (by omega)] at e
      rw [Option.some.inj e]
      exact List.getElem_mem _
    rw [← ih, List.drop_eq_getElem_cons hpL]
    have et : (spots c.k (i + 2)).take (p + 1) = (spots c.k (i + 2)).take p ++ [(spots c.k (i + 2))[p]] := take_more (List.getElem?_eq_getElem hpL)
    rw [et]
    have er : runR c w ((spots c.k (i + 2)).take p ++ [(spots c.k (i + 2))[p]]) = stepT c w (runR c w ((spots c.k (i + 2)).take p)) (spots c.k (i + 2))[p] := by
      unfold runR
      rw [List.foldl_append]
      rfl
    rw [er]
    have hin : ∀ t ∈ (spots c.k (i + 2)).take p, IsS c.k ⟨t.1, t.2.1⟩ ∧ t.2.2 ≤ w.length := fun t ht => by
      have z := mem_spots.mp (List.mem_of_mem_take ht)
      exact ⟨z.1, by omega⟩
    have rb := rb_run ok hin
    revert rb
    generalize runR c w ((spots c.k (i + 2)).take p) = f
    intro rb
    have ht := mem_spots.mp hm1
    generalize htt : (spots c.k (i + 2))[p] = t at ht hm1 ⊢
    have hs : IsS c.k ⟨t.1, t.2.1⟩ := ht.1
    have hml : t.2.2 ≤ w.length := by omega
    have hmi : t.2.2 ≤ i := by omega
    have ahead : ∀ x ∈ stepsL c w ⟨t.1, t.2.1⟩ t.2.2, x.2 ∈ (spots c.k (i + 2)).drop (p + 1) := fun x hx => by
      have ws := wv_step ok h8 (v := v) hs hi hmi hx
      have sok := step_ok ok hs hml hx
      have hS : IsS c.k ⟨x.2.1, x.2.2.1⟩ := (sok.vs.resolve_left fun e => by
        have : x.2.2.1 = c.k + 1 := by rw [e]
        omega).1
      have hmem : x.2 ∈ spots c.k (i + 2) := mem_spots.mpr ⟨hS, by omega⟩
      have later : t.2.2 < x.2.2.2 ∨ (x.2.2.2 = t.2.2 ∧ t.2.1 < x.2.2.1) := sok.later.resolve_left fun e => by
        have : x.2.2.1 = c.k + 1 := by rw [e]
        omega
      obtain ⟨j, hj, ej⟩ := List.getElem_of_mem hmem
      have hpj : p < j := by
        refine Nat.lt_of_not_le fun z => ?_
        by_cases e3 : j = p
        · subst e3
          rw [htt] at ej
          rw [← ej] at later
          omega
        · have := List.pairwise_iff_getElem.mp so j p hj hpL (by omega)
          rw [ej, htt] at this
          omega
      rw [List.mem_iff_getElem?]
      refine ⟨j - (p + 1), ?_⟩
      rw [List.getElem?_drop, show p + 1 + (j - (p + 1)) = j by omega, List.getElem?_eq_getElem hj, ej]
    have hr : RrOk c _ t.2.1 t.2.2 (f t) := ⟨rb.g t, rb.di t, rb.le t⟩
    have nd2 : ((spots c.k (i + 2)).drop (p + 1)).Nodup := nd.sublist (List.drop_sublist _ _)
    have z := pot_steps (w := w) (s := ⟨t.1, t.2.1⟩) (m := t.2.2) (W := Wv c w v i) hr nd2 (stepsL c w ⟨t.1, t.2.1⟩ t.2.2) _ f rb fun x hx => ⟨step_ok ok hs hml hx, (tgt_sum (steps_tgt hx)).1, ahead x hx⟩
    show potL _ (stepT c w f t) _ = _
    unfold stepT
    rw [z]
    have e1 : ((stepsL c w ⟨t.1, t.2.1⟩ t.2.2).map fun x => q x.1 * Wv c w v i x.2).sum = Wv c w v i t := by
      have zs := z_step ok h8 (v := v) hs hml hmi
      have ew : Wv c w v i t = zq c w v i ⟨t.1, t.2.1⟩ t.2.2 := by unfold Wv; rw [if_pos hmi]
      rw [ew, zs]
      congr 1
      refine List.map_congr_left fun x hx => ?_
      rw [(wv_step ok h8 (v := v) hs hi hmi hx).1]
    rw [e1]
    unfold potL
    rw [List.map_cons, List.sum_cons, Rat.add_comm]
theorem pot_one {W : Spot → Rat} {f : RF} {t : Spot} : ∀ (M : List Spot), M.Nodup → t ∈ M → (∀ u ∈ M, u ≠ t → q (f u) * W u = 0) → potL W f M = q (f t) * W t
  | [], _, h, _ => by cases h
  | u :: M, nd, h, k => by
    have n1 := List.nodup_cons.mp nd
    unfold potL
    rw [List.map_cons, List.sum_cons]
    by_cases e : u = t
    · have z : (M.map fun u => q (f u) * W u).sum = 0 := by
        have : M.map (fun u => q (f u) * W u) = M.map fun _ => (0 : Rat) := List.map_congr_left fun y hy => k y (List.mem_cons_of_mem _ hy) fun z => n1.1 (by rw [e, ← z]; exact hy)
        rw [this]
        clear this nd n1 k h
        induction M with
        | nil => rfl
        | cons y M ih => rw [List.map_cons, List.sum_cons, ih, Rat.add_zero]
      rw [z, Rat.add_zero, e]
    · have ih := pot_one (W := W) (f := f) M n1.2 ((List.mem_cons.mp h).resolve_left fun z => e z.symm) fun y hy => k y (List.mem_cons_of_mem _ hy)
      unfold potL at ih
      rw [ih, k u (List.mem_cons_self ..) e, Rat.zero_add]
/-- steps from later spots leave a state that makes a letter alone -/
theorem run_late {c : Chain} (ok : OkC c) {w : Word} {v : State} {i : Nat} (hv : IsS c.k v) (v2 : v.sort ≠ 2) : ∀ (l : List Spot) (f : RF), (∀ t ∈ l, IsS c.k ⟨t.1, t.2.1⟩ ∧ t.2.2 ≤ w.length ∧ i + 1 ≤ t.2.2) → l.foldl (stepT c w) f (v.sort, v.place, i + 1) = f (v.sort, v.place, i + 1)
  | [], f, _ => rfl
  | t :: l, f, h => by
    have ht := h t (List.mem_cons_self ..)
    rw [List.foldl_cons, run_late ok hv v2 l _ fun y hy => h y (List.mem_cons_of_mem _ hy)]
    unfold stepT
    have key : ∀ (m : List (Frac × Spot)) (r : Frac) (g : RF), (∀ x ∈ m, x.2 ≠ (v.sort, v.place, i + 1)) → m.foldl (addR r) g (v.sort, v.place, i + 1) = g (v.sort, v.place, i + 1) := by
      intro m
      induction m with
      | nil => intro r g _; rfl
      | cons x m ih =>
        intro r g hx
        rw [List.foldl_cons, ih r _ fun y hy => hx y (List.mem_cons_of_mem _ hy)]
        unfold addR
        rw [if_neg fun z => hx x (List.mem_cons_self ..) z.symm]
    refine key _ _ _ fun x hx e => ?_
    have hk : x.2.2.1 ≤ c.k := by rw [e]; exact hv.2.1
    have lm := later_made ok ht.1 ht.2.1 hx hk
    rw [e] at lm
    have lm' : i + 1 = if v.sort = 2 then t.2.2 else t.2.2 + 1 := lm
    rw [if_neg v2] at lm'
    omega
theorem spots_split (k i : Nat) : ∀ n, i ≤ n → ∃ l, spots k n = spots k i ++ l ∧ ∀ t ∈ l, i ≤ t.2.2 ∧ t.2.2 < n ∧ IsS k ⟨t.1, t.2.1⟩
  | n, h => by
    induction n with
    | zero =>
      have : i = 0 := by omega
      subst this
      exact ⟨[], by rw [List.append_nil], fun t ht => by cases ht⟩
    | succ n ih =>
      by_cases e : i = n + 1
      · subst e
        exact ⟨[], by rw [List.append_nil], fun t ht => by cases ht⟩
      · obtain ⟨l, h1, h2⟩ := ih (by omega)
        refine ⟨l ++ (Lf02.states k).map (stS n), by rw [spots_succ, h1, List.append_assoc], fun t ht => ?_⟩
        rcases List.mem_append.mp ht with z | z
        · have := h2 t z
          exact ⟨this.1, by omega, this.2.2⟩
        · obtain ⟨s, hs, rfl⟩ := List.mem_map.mp z
          exact ⟨by show i ≤ n; omega, by show n < n + 1; omega, mem_states.mp hs⟩
/-- the chance to come to a spot and on from it is that of the ways on which it is -/
theorem reach_q {c : Chain} (ok : OkC c) {w : Word} (h5 : w.length ≤ 5) {v : State} (hv : IsS c.k v) (v2 : v.sort ≠ 2) {i : Nat} (hi : i < w.length) :
    q (runR c w (spots c.k (w.length + 1)) (v.sort, v.place, i + 1)) * bwq c w (v.sort, v.place, i + 1) = zq c w v i ⟨0, 0⟩ 0 := by
  obtain ⟨l, h1, h2⟩ := spots_split c.k (i + 1) (w.length + 1) (by omega)
  have e1 : runR c w (spots c.k (w.length + 1)) (v.sort, v.place, i + 1) = runR c w (spots c.k (i + 1)) (v.sort, v.place, i + 1) := by
    rw [h1]
    unfold runR
    rw [List.foldl_append]
    exact run_late ok hv v2 l _ fun t ht => ⟨(h2 t ht).2.2, by have := (h2 t ht).2.1; omega, (h2 t ht).1⟩
  rw [e1]
  have eL := spots_succ c.k (i + 1)
  have z := pot_run ok h5 (v := v) hi (spots c.k (i + 1)).length (Nat.le_refl _)
  have et : (spots c.k (i + 2)).take (spots c.k (i + 1)).length = spots c.k (i + 1) := by
    rw [eL, List.take_left]
  have ed : (spots c.k (i + 2)).drop (spots c.k (i + 1)).length = (Lf02.states c.k).map (stS (i + 1)) := by
    rw [eL, List.drop_left]
  rw [et, ed] at z
  have nd := spots_nodup (k := c.k) (n := i + 2) ok.k4 (by omega)
  have nd2 : ((Lf02.states c.k).map (stS (i + 1))).Nodup := by
    rw [eL] at nd
    exact (List.nodup_append.mp nd).2.1
  have w1 : potL (Wv c w v i) f0 (spots c.k (i + 2)) = zq c w v i ⟨0, 0⟩ 0 := by
    rw [pot_one (t := (0, 0, 0)) _ nd (mem_spots.mpr ⟨isS_begin c.k, by show 0 < i + 2; omega⟩) fun u hu hn => ?_]
    · have a : f0 (0, 0, 0) = ⟨1, 1⟩ := by unfold f0; rw [if_pos rfl]
      have b : Wv c w v i (0, 0, 0) = zq c w v i ⟨0, 0⟩ 0 := by unfold Wv; rw [if_pos (Nat.zero_le _)]
      rw [a, b, q_one, Rat.one_mul]
    · unfold f0
      rw [if_neg hn, q_zero, Rat.zero_mul]
  rw [w1] at z
  rw [← z, pot_one (t := (v.sort, v.place, i + 1)) _ nd2 (List.mem_map.mpr ⟨v, mem_states.mpr hv, rfl⟩) fun u hu hn => ?_]
  · have b : Wv c w v i (v.sort, v.place, i + 1) = bwq c w (v.sort, v.place, i + 1) := by
      unfold Wv
      rw [if_neg (show ¬ i + 1 ≤ i by omega), if_pos ⟨v2, rfl⟩]
    rw [b]
  · obtain ⟨s, hs, rfl⟩ := List.mem_map.mp hu
    have b : Wv c w v i (stS (i + 1) s) = 0 := by
      unfold Wv stS
      rw [if_neg (show ¬ i + 1 ≤ i by omega), if_neg fun z => hn (by rw [← z.2]; rfl)]
    rw [b, Rat.mul_zero]
end Fh

/-! place: what is answered. -/
namespace Fh
open Fc
open Lf02 (Frac State Chain Word)
def reachOf (c : Chain) (w : Word) : RF := runR c w (spots c.k (w.length + 1))
def chOf (c : Chain) (w : Word) (i : Nat) (s : State) : Frac := Lf02.times (reachOf c w (s.sort, s.place, i + 1)) (rvl c w (s.sort, s.place, i + 1)).total
def isMk (c : Chain) (w : Word) (i : Nat) (s : State) : Bool := s.sort != 2 && !decide (chOf c w i s = ⟨0, 1⟩)
def mkL (c : Chain) (w : Word) (i : Nat) : List State := (Lf02.states c.k).filter (isMk c w i)
theorem spots_in {c : Chain} {w : Word} : ∀ t ∈ spots c.k (w.length + 1), IsS c.k ⟨t.1, t.2.1⟩ ∧ t.2.2 ≤ w.length := fun t ht => by
  have z := mem_spots.mp ht
  exact ⟨z.1, by omega⟩
theorem rb_reach {c : Chain} (ok : OkC c) (w : Word) : RB c (4 ^ (spots c.k (w.length + 1)).length) (reachOf c w) := rb_run ok spots_in
section
variable {c : Chain} {w : Word} {i : Nat}
theorem vs_spot {s : State} (hs : IsS c.k s) (hi : i < w.length) : VS c w (s.sort, s.place, i + 1) := .inr ⟨hs, hi⟩
theorem ch_q (ok : OkC c) (h5 : w.length ≤ 5) (hi : i < w.length) {s : State} (hs : IsS c.k s) (h2 : s.sort ≠ 2) : Good (chOf c w i s) ∧ q (chOf c w i s) = zq c w s i ⟨0, 0⟩ 0 := by
  have h8 : w.length ≤ 8 := by omega
  have W := wb_way ok h8 (vs_spot hs hi)
  have gT : Good (rvl c w (s.sort, s.place, i + 1)).total := (wb_total (den_pow ok).1 W).1
  have gR := (rb_reach ok w).g (s.sort, s.place, i + 1)
  refine ⟨good_times gR.1 gT.1, ?_⟩
  unfold chOf
  rw [q_times gR.1 gT.1, bwq_total ok h8 (vs_spot hs hi)]
  exact reach_q ok h5 hs h2 hi
theorem pos_w (ok : OkC c) : Pos (Lf02.ways c w) := by
  rw [ways_eq]
  exact pos_ways ok (isS_begin c.k)
def selW (c : Chain) (w : Word) (i : Nat) (s : State) : List Way := (Lf02.ways c w).filter fun x => Lf02.maker x.1 i == some s
theorem sel_q (ok : OkC c) {s : State} : Good (Lf02.sumF ((selW c w i s).map fun x => x.2)) ∧ q (Lf02.sumF ((selW c w i s).map fun x => x.2)) = zq c w s i ⟨0, 0⟩ 0 := by
  have dsel : ∀ y ∈ (selW c w i s).map (fun y : Way => y.2), 0 < y.d := fun y hy => by
    obtain ⟨z, hz, rfl⟩ := List.mem_map.mp hy
    exact (pos_w ok z (List.mem_filter.mp hz).1).1.1
  refine ⟨good_sumF dsel, ?_⟩
  rw [q_sumF dsel, List.map_map]
  unfold zq selP mkP selW
  rw [List.drop_zero, ← ways_eq, Nat.sub_zero]
  rfl
theorem ch_sel (ok : OkC c) (h5 : w.length ≤ 5) (hi : i < w.length) {s : State} (hs : IsS c.k s) (h2 : s.sort ≠ 2) : chOf c w i s = Lf02.sumF ((selW c w i s).map fun x => x.2) := by
  have a := ch_q ok h5 hi hs h2
  have b := sel_q (i := i) (w := w) ok (s := s)
  exact q_inj a.1 b.1 (a.2.trans b.2.symm)
theorem ch_place (ok : OkC c) (h5 : w.length ≤ 5) (hi : i < w.length) {s : State} (hs : IsS c.k s) (h2 : s.sort ≠ 2) : Lf02.over (chOf c w i s) (Lf02.total c w) = Lf02.place c w i s := by
  rw [ch_sel ok h5 hi hs h2]
  rfl
theorem sumF_zero : Lf02.sumF [] = ⟨0, 1⟩ := rfl
theorem sum_pos_q : ∀ {L : List Way}, Pos L → L ≠ [] → 0 < (L.map fun y => q y.2).sum
  | [], _, h => absurd rfl h
  | x :: l, hp, _ => by
    have h1 := q_pos (hp x (List.mem_cons_self ..)).1 (hp x (List.mem_cons_self ..)).2
    rw [List.map_cons, List.sum_cons]
    cases l with
    | nil => rw [List.map_nil, List.sum_nil, Rat.add_zero]; exact h1
    | cons y l =>
      have h2 := sum_pos_q (L := y :: l) (fun z hz => hp z (List.mem_cons_of_mem _ hz)) (fun e => by cases e)
      grind
theorem sumF_ne {L : List Way} (hp : Pos L) (h : L ≠ []) : (Lf02.sumF (L.map fun x => x.2)).n ≠ 0 := by
  have d : ∀ y ∈ L.map (fun y : Way => y.2), 0 < y.d := fun y hy => by
    obtain ⟨z, hz, rfl⟩ := List.mem_map.mp hy
    exact (hp z hz).1.1
  intro e
  have z := (q_eq_zero (good_sumF d)).mpr e
  rw [q_sumF d, List.map_map] at z
  have p := sum_pos_q hp h
  have e2 : (L.map (q ∘ fun y : Way => y.2)).sum = (L.map fun y => q y.2).sum := rfl
  rw [e2] at z
  rw [z] at p
  exact absurd p (by decide)
theorem sel_pos (ok : OkC c) {s : State} : Pos (selW c w i s) := fun y hy => pos_w ok y (List.mem_filter.mp hy).1
theorem ch_zero (ok : OkC c) (h5 : w.length ≤ 5) (hi : i < w.length) {s : State} (hs : IsS c.k s) (h2 : s.sort ≠ 2) : chOf c w i s = ⟨0, 1⟩ ↔ selW c w i s = [] := by
  rw [ch_sel ok h5 hi hs h2]
  constructor
  · intro e
    refine Classical.byContradiction fun z => sumF_ne (sel_pos ok) z ?_
    rw [e]
  · intro e
    rw [e]
    rfl
theorem place_zero (ok : OkC c) (h5 : w.length ≤ 5) (hi : i < w.length) (h0 : (Lf02.total c w).n ≠ 0) {s : State} : (Lf02.place c w i s).n = 0 ↔ selW c w i s = [] := by
  have z := place_q ok (by omega : w.length ≤ 8) (i := i) (v := s) h0
  have dall : ∀ y ∈ (Lf02.ways c w).map (fun y : Way => y.2), 0 < y.d := fun y hy => by obtain ⟨z, hz, rfl⟩ := List.mem_map.mp hy; exact (pos_w ok z hz).1.1
  have gt : Good (Lf02.total c w) := good_sumF dall
  have sq := sel_q (i := i) (w := w) ok (s := s)
  rw [← q_eq_zero z.1]
  have ne : q (Lf02.total c w) ≠ 0 := fun e => h0 ((q_eq_zero gt).mp e)
  constructor
  · intro e
    have z2 := z.2
    rw [e, Rat.zero_mul, ← sq.2] at z2
    refine Classical.byContradiction fun y => sumF_ne (sel_pos ok) y ?_
    exact (q_eq_zero sq.1).mp z2.symm
  · intro e
    have z2 := z.2
    rw [← sq.2, e] at z2
    have z3 : q (Lf02.place c w i s) * q (Lf02.total c w) = 0 := by
      rw [z2]
      show q (Lf02.sumF []) = 0
      rw [sumF_zero, q_zero]
    rcases Rat.mul_eq_zero.mp z3 with h | h
    · exact h
    · exact absurd h ne
theorem sel_begin : selW c w i ⟨0, 0⟩ = [] := by
  unfold selW
  rw [List.filter_eq_nil_iff]
  intro y hy e
  have e' : Lf02.maker y.1 i = some ⟨0, 0⟩ := by simpa using e
  have g : Goes c.k ⟨0, 0⟩ y.1 w := goes_from _ _ _ y (Nat.zero_le _) hy
  exact (goes_mem _ _ _ g (Nat.zero_le _) _ (maker_mem _ _ _ e').1).2 rfl
theorem total_zero (ok : OkC c) : (Lf02.total c w).n = 0 ↔ Lf02.ways c w = [] := by
  constructor
  · intro e
    exact Classical.byContradiction fun z => sumF_ne (pos_w ok) z e
  · intro e
    unfold Lf02.total
    rw [e]
    rfl
def ansPlace (c : Chain) (i : Nat) (w : Word) : List Int := if Lf02.isWord w = false ∨ w.length ≤ i then [-1] else if (Lf02.total c w).n = 0 then [-6] else
    let l := ((Lf02.states c.k).filter fun x => x.sort != 2 && x != ⟨0, 0⟩).filter fun x => (Lf02.place c w i x).n != 0
    (l.length : Int) :: l.flatMap fun x => Lf02.ints [x.sort, x.place] ++ Lf02.told (Lf02.place c w i x)
theorem mk_none (ok : OkC c) (h5 : w.length ≤ 5) (hi : i < w.length) : mkL c w i = [] ↔ (Lf02.total c w).n = 0 := by
  constructor
  · intro e
    refine Classical.byContradiction fun h0 => ?_
    have hne : Lf02.ways c w ≠ [] := fun z => h0 ((total_zero ok).mpr z)
    obtain ⟨y, hy⟩ := List.exists_mem_of_ne_nil _ hne
    have g : Goes c.k ⟨0, 0⟩ y.1 w := goes_from _ _ _ y (Nat.zero_le _) hy
    obtain ⟨t, ht⟩ := goes_maker _ _ _ g (Nat.zero_le _) i hi
    have mm := maker_mem _ _ _ ht
    have hS := (goes_mem _ _ _ g (Nat.zero_le _) t mm.1).1
    have hsel : y ∈ selW c w i t := List.mem_filter.mpr ⟨hy, by rw [ht]; exact beq_self_eq_true _⟩
    have nz : ¬ chOf c w i t = ⟨0, 1⟩ := fun z => by
      have := (ch_zero ok h5 hi hS mm.2).mp z
      rw [this] at hsel
      cases hsel
    have : t ∈ mkL c w i := by
      refine List.mem_filter.mpr ⟨mem_states.mpr hS, ?_⟩
      unfold isMk
      rw [decide_eq_false nz]
      simp [mm.2]
    rw [e] at this
    cases this
  · intro e
    have hw := (total_zero ok).mp e
    unfold mkL
    rw [List.filter_eq_nil_iff]
    intro s hs z
    unfold isMk at z
    rw [Bool.and_eq_true] at z
    have s2 : s.sort ≠ 2 := by simpa using z.1
    have hsel : selW c w i s = [] := by unfold selW; rw [hw]; rfl
    have := (ch_zero ok h5 hi (mem_states.mp hs) s2).mpr hsel
    rw [decide_eq_true this] at z
    cases z.2
theorem mk_eq (ok : OkC c) (h5 : w.length ≤ 5) (hi : i < w.length) (h0 : (Lf02.total c w).n ≠ 0) : ((Lf02.states c.k).filter fun x => x.sort != 2 && x != ⟨0, 0⟩).filter (fun x => (Lf02.place c w i x).n != 0) = mkL c w i := by
  rw [List.filter_filter]
  unfold mkL
  refine List.filter_congr fun s hs => ?_
  have hS := mem_states.mp hs
  unfold isMk
  by_cases h2 : s.sort = 2
  · simp [h2]
  · have c1 := ch_zero ok h5 hi hS h2
    have c2 := place_zero ok h5 hi h0 (s := s)
    by_cases e : selW c w i s = []
    · rw [decide_eq_true (c1.mpr e), c2.mpr e]
      simp
    · rw [decide_eq_false (fun z => e (c1.mp z))]
      have n1 : (Lf02.place c w i s).n ≠ 0 := fun z => e (c2.mp z)
      have n2 : s ≠ ⟨0, 0⟩ := fun z => e (by rw [z]; exact sel_begin)
      rw [bne_iff_ne.mpr n1, bne_iff_ne.mpr h2, bne_iff_ne.mpr n2]
      rfl
theorem place_ans (ok : OkC c) (hW : Lf02.isWord w = true) (h5 : w.length ≤ 5) (hi : i < w.length) : ansPlace c i w = if mkL c w i = [] then [-6] else ((mkL c w i).length : Int) :: (mkL c w i).flatMap fun x => Lf02.ints [x.sort, x.place] ++ Lf02.told (Lf02.over (chOf c w i x) (Lf02.total c w)) := by
  unfold ansPlace
  rw [if_neg (fun z => z.elim (fun a => by rw [hW] at a; cases a) (fun a => by omega))]
  by_cases h0 : (Lf02.total c w).n = 0
  · rw [if_pos h0, if_pos ((mk_none ok h5 hi).mpr h0)]
  · rw [if_neg h0, if_neg (fun z => h0 ((mk_none ok h5 hi).mp z))]
    dsimp only
    rw [mk_eq ok h5 hi h0]
    congr 1
    refine flatMap_eq fun s hs => ?_
    have m := List.mem_filter.mp hs
    have s2 : s.sort ≠ 2 := by
      have := m.2
      unfold isMk at this
      rw [Bool.and_eq_true] at this
      simpa using this.1
    rw [ch_place ok h5 hi (mem_states.mp m.1) s2]
end
end Fh

namespace Fh
open PySem PySem.Spec PyProof.Rows L2
open Fc
open Lf02 (Frac State Chain Word)
def spK (t : Spot) : List Key := [.inl (t.1 : Int), .inl (t.2.1 : Int), .inl (t.2.2 : Int)]
theorem spK_map (t : Spot) : (spK t).map kV = sp3 t := rfl
theorem spK_inj {t u : Spot} (h : spK t = spK u) : t = u := by
  obtain ⟨a, b, d⟩ := t
  obtain ⟨x, y, z⟩ := u
  simp only [spK, List.cons.injEq, Sum.inl.injEq, and_true] at h
  have h1 : a = x := by omega
  have h2 : b = y := by omega
  have h3 : d = z := by omega
  rw [h1, h2, h3]
theorem paired_get {α β : Type} {F : α → β → Prop} : ∀ {as : List α} {bs : List β} {i : Nat} {x : β}, Paired F as bs → bs[i]? = some x → ∃ a, as[i]? = some a ∧ F a x
  | _, _, _, _, .nil, e => by simp at e
  | _, _, 0, _, .cons r _, e => by simp at e; subst e; exact ⟨_, rfl, r⟩
  | _, _, i + 1, x, .cons _ t, e => by
    obtain ⟨u, h1, h2⟩ := paired_get (i := i) (x := x) t (by simpa using e)
    exact ⟨u, by simpa using h1, h2⟩
/-! the states' order -/
theorem states_le {k : Nat} {s : State} (h : s ∈ Lf02.states k) : s.place ≤ k := (mem_states.mp h).2.1
theorem states_sorted : ∀ k, (Lf02.states k).Pairwise fun a b => a.place ≤ b.place
  | 0 => by
    rw [states_zero]
    exact .cons (fun b hb => by simp at hb; rw [hb]; exact Nat.le_refl _) (.cons (fun b hb => by cases hb) .nil)
  | k + 1 => by
    rw [states_succ]
    refine List.pairwise_append.mpr ⟨states_sorted k, ?_, fun a ha b hb => ?_⟩
    · refine .cons (fun b hb => ?_) (.cons (fun b hb => ?_) (.cons (fun b hb => by cases hb) .nil))
      · simp at hb; rcases hb with e | e <;> rw [e] <;> exact Nat.le_refl _
      · simp at hb; rw [hb]; exact Nat.le_refl _
    · have h1 := states_le ha
      have h2 : b.place = k + 1 := by
        simp only [three, List.mem_cons, List.mem_nil_iff, or_false] at hb
        rcases hb with e | e | e <;> rw [e]
      omega
theorem later_mem {k : Nat} {s t : State} {i : Nat} (hs : (Lf02.states k)[i]? = some s) (ht : IsS k t) (h : s.place < t.place) : t ∈ (Lf02.states k).drop (i + 1) := by
  obtain ⟨j, hj, e⟩ := List.getElem_of_mem (mem_states.mpr ht)
  obtain ⟨hi, e2⟩ := List.getElem?_eq_some_iff.mp hs
  have hij : i < j := by
    refine Nat.lt_of_not_le fun z => ?_
    by_cases e3 : j = i
    · subst e3
      rw [e2] at e
      rw [e] at h
      omega
    · have := List.pairwise_iff_getElem.mp (states_sorted k) j i hj hi (by omega)
      rw [e, e2] at this
      omega
  rw [List.mem_iff_getElem?]
  refine ⟨j - (i + 1), ?_⟩
  rw [List.getElem?_drop, show i + 1 + (j - (i + 1)) = j by omega, List.getElem?_eq_getElem hj, e]
/-! the table of rests -/
def TgOk (c : Chain) (w : Word) (H : Hp) (r : R) (tg : V) : Prop :=
  (r.ways = 0 ∧ tg = .non) ∨ (r.ways ≠ 0 ∧ ∃ pt t, tg = .ref pt ∧ H pt = some (.tup (sp3 t)) ∧ VS c w t ∧ (rvl c w t).ways ≠ 0 ∧ r.path = gOf c t (rvl c w t).path)
def Ent (K : PySem.W.Frag) (C : Addr) (c : Chain) (w : Word) (H : Hp) (ra : Addr) (t : Spot) : Prop :=
  ∃ tg, RestAt K C H ra (rvl c w t) tg ∧ (c.k < t.2.1 → tg = .non) ∧ (t.2.1 ≤ c.k → TgOk c w H (rvl c w t) tg)
theorem TgOk.keep {c : Chain} {w : Word} {H H' : Hp} {r : R} {tg : V} (e : Same H H') (h : TgOk c w H r tg) : TgOk c w H' r tg := by
  rcases h with h | ⟨h, pt, t, h1, h2, h3⟩
  · exact .inl h
  · exact .inr ⟨h, pt, t, h1, e _ _ h2, h3⟩
theorem Ent.keep {K : PySem.W.Frag} {C : Addr} {c : Chain} {w : Word} {H H' : Hp} {ra : Addr} {t : Spot} (e : Same H H') (h : Ent K C c w H ra t) : Ent K C c w H' ra t := by
  obtain ⟨tg, h1, h2, h3⟩ := h
  exact ⟨tg, h1.keep e, h2, fun z => (h3 z).keep e⟩
/-- a dict that changes leaves all else alone -/
theorem dt_past {H : Hp} {p a : Addr} {kvs : List (List Key × V)} {o u : HO} (h : H p = some (.dT kvs)) (ha : H a = some u) (hu : ∀ k, u ≠ .dT k) : upd H p o a = some u := by
  rw [upd_ne fun e => by rw [e, h] at ha; exact hu kvs (Option.some.inj ha).symm]
  exact ha
theorem sqT_pastD {K : PySem.W.Frag} {H : Hp} {p a : Addr} {kvs : List (List Key × V)} {ys : List V} {o : HO} (h : H p = some (.dT kvs)) (ha : SqT K H a ys) : SqT K (upd H p o) a ys := by
  rcases ha with (z | ⟨u, z⟩) | z
  · exact .inl (.inl (dt_past h z fun k e => by cases e))
  · exact .inl (.inr ⟨u, dt_past h z fun k e => by cases e⟩)
  · exact .inr z
theorem RestAt.pastD {K : PySem.W.Frag} {C : Addr} {H : Hp} {p a : Addr} {kvs : List (List Key × V)} {r : R} {tg : V} {o : HO} (h : H p = some (.dT kvs)) (x : RestAt K C H a r tg) : RestAt K C (upd H p o) a r tg := by
  obtain ⟨dx, pt, pb, h1, h2, h3⟩ := x
  exact ⟨dx, pt, pb, dt_past h h1 (fun k e => by cases e), sqT_pastD h h2, sqT_pastD h h3⟩
theorem TgOk.pastD {c : Chain} {w : Word} {H : Hp} {p : Addr} {kvs : List (List Key × V)} {r : R} {tg : V} {o : HO} (h : H p = some (.dT kvs)) (x : TgOk c w H r tg) : TgOk c w (upd H p o) r tg := by
  rcases x with x | ⟨x, pt, t, h1, h2, h3⟩
  · exact .inl x
  · exact .inr ⟨x, pt, t, h1, dt_past h h2 (fun k e => by cases e), h3⟩
theorem Ent.pastD {K : PySem.W.Frag} {C : Addr} {c : Chain} {w : Word} {H : Hp} {p ra : Addr} {kvs : List (List Key × V)} {t : Spot} {o : HO} (h : H p = some (.dT kvs)) (x : Ent K C c w H ra t) : Ent K C c w (upd H p o) ra t := by
  obtain ⟨tg, h1, h2, h3⟩ := x
  exact ⟨tg, h1.pastD h, h2, fun z => (h3 z).pastD h⟩
theorem add_tot {r a : R} {x : Frac} {g g' : List State → List State} : (addStep r x g a).total = (addStep r x g' a).total ∧ (addStep r x g a).ways = (addStep r x g' a).ways ∧ (addStep r x g a).best = (addStep r x g' a).best ∧ (addStep r x g a).ties = (addStep r x g' a).ties := by
  by_cases h : a.ways = 0
  · rw [add_none h, add_none h]; exact ⟨rfl, rfl, rfl, rfl⟩
  · by_cases h1 : Lf02.lessF r.best (Lf02.times x a.best) = true
    · rw [add_lt h h1, add_lt h h1]; exact ⟨rfl, rfl, rfl, rfl⟩
    · by_cases h2 : Lf02.times x a.best = r.best
      · rw [add_eq h h1 h2, add_eq h h1 h2]; exact ⟨rfl, rfl, rfl, rfl⟩
      · rw [add_gt h h1 h2, add_gt h h1 h2]; exact ⟨rfl, rfl, rfl, rfl⟩
theorem RestAt.path {K : PySem.W.Frag} {C : Addr} {H : Hp} {p : Addr} {r a : R} {x : Frac} {g g' : List State → List State} {tg : V} (h : RestAt K C H p (addStep r x g a) tg) : RestAt K C H p (addStep r x g' a) tg := by
  have e := add_tot (r := r) (a := a) (x := x) (g := g) (g' := g')
  obtain ⟨dx, pt, pb, h1, h2, h3⟩ := h
  refine ⟨dx, pt, pb, ?_, ?_, ?_⟩
  · rw [← e.2.1, ← e.2.2.2]; exact h1
  · rw [← e.1]; exact h2
  · rw [← e.2.2.1]; exact h3
theorem tg_step {c : Chain} (ok : OkC c) {w : Word} (h5 : w.length ≤ 8) {s : State} {m : Nat} {x : Frac × Spot} (hx : StepOk c w s m x) {A : List Way} (hA : Pos A) {H : Hp} {tg : V} {pt : Addr} (hp : H pt = some (.tup (sp3 x.2))) (h : TgOk c w H (rOf A) tg) :
    TgOk c w H (addX c w (rOf A) x) (addT (rOf A) tg x.1 (.ref pt) (rvl c w x.2)) := by
  unfold addX addT
  have W := wb_way ok h5 hx.vs
  by_cases h0 : (rvl c w x.2).ways = 0
  · rw [add_none h0, if_pos h0]; exact h
  · rw [if_neg h0]
    by_cases h1 : Lf02.lessF (rOf A).best (Lf02.times x.1 (rvl c w x.2).best) = true
    · rw [add_lt h0 h1, if_pos h1]
      refine .inr ⟨?_, pt, x.2, rfl, hp, hx.vs, h0, rfl⟩
      show (rOf A).ways + (rvl c w x.2).ways ≠ 0
      omega
    · rw [if_neg h1]
      have rw0 : (rOf A).ways ≠ 0 := fun z => by
        have eA : A = [] := List.length_eq_zero_iff.mp z
        subst eA
        refine h1 ?_
        have nb : wayL c w x.2 ≠ [] := fun e => h0 (by show (wayL c w x.2).length = 0; rw [e]; rfl)
        have gt := good_top W.pos
        have pz := pos_times hx.g hx.n0 gt (top_pos W.pos nb)
        refine (lessF_iff (by decide) pz.1.1).mpr ?_
        show q ⟨0, 1⟩ < q (Lf02.times x.1 (topOf (wayL c w x.2)))
        rw [q_zero]
        exact q_pos pz.1 pz.2
      have hT := h.resolve_left (fun z => rw0 z.1)
      obtain ⟨_, pt', t', e1, e2, e3, e4, e5⟩ := hT
      by_cases h2 : Lf02.times x.1 (rvl c w x.2).best = (rOf A).best
      · rw [add_eq h0 h1 h2]
        exact .inr ⟨by show (rOf A).ways + (rvl c w x.2).ways ≠ 0; omega, pt', t', e1, e2, e3, e4, e5⟩
      · rw [add_gt h0 h1 h2]
        exact .inr ⟨by show (rOf A).ways + (rvl c w x.2).ways ≠ 0; omega, pt', t', e1, e2, e3, e4, e5⟩
/-- what stands in the table: the spots that are done -/
def Tab (K : PySem.W.Frag) (C : Addr) (c : Chain) (w : Word) (H : Hp) (kvs : List (List Key × V)) (done : Spot → Prop) : Prop := ∀ t, done t → ∃ ra, valV kvs (spK t) = some (.ref ra) ∧ Ent K C c w H ra t
def Dn2 (c : Chain) (w : Word) (i j : Nat) (t : Spot) : Prop := t = (0, c.k + 1, w.length) ∨
  (IsS c.k ⟨t.1, t.2.1⟩ ∧ t.2.2 ≤ w.length ∧ (w.length < t.2.2 + i ∨ (w.length = t.2.2 + i ∧ (⟨t.1, t.2.1⟩ : State) ∈ (Lf02.states c.k).drop ((Lf02.states c.k).length - j))))
section
variable {P : Program} {w : World} {K : PySem.W.Frag} {mg : Str → Option Value} {base : Heap} {C CR z o b : Addr}
abbrev sRests : Stmt := top 16
def spRests (K : PySem.W.Frag) (C CR : Addr) : Sp := fun vs H Q _ => ∃ (a pw : Addr) (c0 c : Chain) (wd : Word), vs = [.ref a, .ref pw] ∧ OkC c0 ∧ ChainAt C H a c0 ∧ WdAt K H pw c0 c wd ∧ wd.length ≤ 8 ∧
  ∀ (H' : Hp) (p : Addr) (kvs : List (List Key × V)), Same H H' → H p = none → H' p = some (.dT kvs) → Tab K CR c wd H' kvs (VS c wd) → Q (.ref p) H'
theorem scRests : FnScope ["chain", "word", "rests", "made", "state", "spot", "rest", "chance", "target"] ["chain", "word"] (defScope sRests) := ⟨rfl, rfl, rfl, by decide +kernel, rfl, by decide +kernel, by decide +kernel⟩
theorem ok_rests {f f1 f2 f3 f4 : Addr} {fd fd1 fd2 fd3 fd4 : FuncData} (F : Fun K "rests_of" "rests_of" sRests f fd) (T : TChain K mg C) (TR : TRest K mg CR) (TC : TCon K mg z o b) (B : Blt mg)
    (D1 : Dn K mg "states_of" sStates ["last"] f1 fd1) (G1 : FnOk P w K mg base CX0 1 f1 fd1 ["last"] spStates)
    (D2 : Dn K mg "steps_from" sSteps ["chain", "word", "spot"] f2 fd2) (G2 : FnOk P w K mg base CX0 4 f2 fd2 ["chain", "word", "spot"] (spSteps K C))
    (M : Mk K CR f3) (B3 : Binds K fd3 ["self", "chance", "ways"] []) (G3 : FnOk P w K mg base CX0 1 f3 fd3 ["self", "chance", "ways"] (spRInit CR))
    (M4 : Meth K CR "add_step" f4) (B4 : Binds K fd4 ["self", "chance", "target", "ahead"] []) (G4 : FnOk P w K mg base CX0 4 f4 fd4 ["self", "chance", "target", "ahead"] (spRAdd K CR)) :
    FnOk P w K mg base CX0 5 f fd ["chain", "word"] (spRests K C CR) := by
  refine F.ok scRests (fun vs H Q E h => ?_) (fun cdv A outer s H vs Q E hr h => ?_)
  · obtain ⟨a, pw, c0, c, wd, rfl, _⟩ := h
    rfl
  · obtain ⟨a, pw, c0, c, wd, rfl, ok0, ⟨fs, dx, ql, qm, ls, kvs, hc⟩, hW, h5, k⟩ := h
    have ok := hW.ok ok0
    have hlast : fs.lookup ("last" : Str) = some (.int c.k) := by rw [hW.k]; exact hc.last
    obtain ⟨xs, hw, lxs0⟩ := hW.sq
    have hr1 : Room 1 _ := hr.mono (by decide)
    have hr2 : Room 2 _ := hr.mono (by decide)
    have hu := hu_of hr
    refine ⟨_, pss_cons (ps_set (i := 2) scRests.nd rfl (Or.inl rfl) (pe_disp1 (Nat.lt_of_succ_lt hu)
        (pe_tup (pa_cons pe_int (pa_cons (pe_op op_add (pe_fld (pv 0) rfl) pe_int) (pa_cons (pe_callB call_len_seq (by rfl) B.len PySem.boot_len (pa_cons (pv 1) pa_nil)) pa_nil))))
        (pe_make M G3 hr2 rfl TR.g B3 .nil pass0 (pa_cons (pe_glob rfl TC.one (v := .ref o) rfl) (pa_cons pe_int pa_nil)))))
      (pss_cons (ps_for PassesOwn.never rfl (pi_range3 rfl B.range (pa_cons (pe_callB call_len_seq (by rfl) B.len PySem.boot_len (pa_cons (pv 1) pa_nil)) (pa_cons (pe_un un_neg pe_int) (pa_cons (pe_un un_neg pe_int) pa_nil)))) (pg_name (i := 3) scRests.nd rfl (Or.inl rfl))
        (pss_one (ps_for PassesOwn.never rfl (pi_reversed rfl B.reversed (pa_cons (pe_call G1 hr1 rfl D1.g D1.F.kp D1.b .nil pass0 (pa_cons (pe_fld (pv 0) rfl) pa_nil)) pa_nil)) (pg_name (i := 4) scRests.nd rfl (Or.inl rfl))
          (pss_cons (ps_set (i := 5) scRests.nd rfl (Or.inl rfl) (pe_tup (pa_cons (pe_ix ix_tup (pv 4) pe_int (fun _ _ => rfl)) (pa_cons (pe_ix ix_tup (pv 4) pe_int (fun _ _ => rfl)) (pa_cons (pv 3) pa_nil)))))
          (pss_cons (ps_set (i := 6) scRests.nd rfl (Or.inl rfl) (pe_make M G3 hr2 rfl TR.g B3 .nil pass0 (pa_cons (pe_glob rfl TC.zero (v := .ref z) rfl) (pa_cons pe_int pa_nil))))
          (pss_cons (ps_for PassesOwn.never rfl (pi_list (pe_call G2 hr rfl D2.g D2.F.kp D2.b .nil pass0 (pa_cons (pv 0) (pa_cons (pv 1) (pa_cons (pv 5) pa_nil)))))
              (pg_tup rfl (pgs_cons (pg_name (i := 7) scRests.nd rfl (.inl rfl)) (pgs_cons (pg_name (i := 8) scRests.nd rfl (.inl rfl)) pgs_nil)))
            (pss_one (ps_expr (pe_meth (pv 6) TR.cl M4 G4 hr B4 .nil pass0 (pa_cons (pv 7) (pa_cons (pv 8) (pa_cons (pe_dget hu (pv 2) (pv 8) (fun _ _ => rfl)) pa_nil)))))))
          (pss_one (ps_dput hu (pv 2) (pv 5) (pv 6) rfl))))))))
      (pss_one (ps_ret (pv 2)))), ?_⟩
    -- rests = {(0, chain.last + 1, len(word)): Rest(ONE, 1)}
    intro p hp
    have s0 := sm_new (o := .dT []) hp
    refine ⟨_, rfl, a, C, dx, _, _, rfl, s0 _ _ hc.ins, T.cl, T.nLast, hlast, _, _, rfl, rfl, _, rfl, pw, _, rfl, .inl (s0.seq hw), by show 3 ≤ sizeLine; decide, fun tb hb => ?_⟩
    have s1 := sm_new (o := .tup [.int 0, .int ((c.k : Int) + 1), .int ((xs).length : Int)]) hb
    intro x dx1 nx nd ne
    refine ⟨x, dx1, o, 1, rfl, upd_same, fun H2 hx but => ⟨rfl, ?_⟩⟩
    have s2 : Same (upd (upd H p (.dT [])) tb (.tup [.int 0, .int ((c.k : Int) + 1), .int ((xs).length : Int)])) H2 := Same.made nx nd but
    have hp2 : H2 p = some (.dT []) := s2 _ _ (s1 _ _ upd_same)
    have htb : H2 tb = some (.tup ((spK (0, c.k + 1, wd.length)).map kV)) := by
      rw [s2 _ _ upd_same, lxs0]
      rfl
    refine ⟨hp2, tb, spK (0, c.k + 1, wd.length), rfl, htb, ?_⟩
    have sH2 : Same H H2 := s0.trans (s1.trans s2)
    have sH3 : Same H (upd H2 p (.dT [(spK (0, c.k + 1, wd.length), .ref x)])) := sm_mut sH2 hp
    have start : Tab K CR c wd (upd H2 p (.dT [(spK (0, c.k + 1, wd.length), .ref x)])) [(spK (0, c.k + 1, wd.length), .ref x)] (Dn2 c wd 0 0) := by
      rintro t (rfl | ⟨_, q1, q2 | ⟨_, q2⟩⟩)
      · refine ⟨x, valV_pos rfl, .non, ?_, fun _ => rfl, fun q => ?_⟩
        · have e : rvl c wd (0, c.k + 1, wd.length) = ⟨⟨1, 1⟩, 1, ⟨1, 1⟩, 1, []⟩ := by
            have e1 : wayL c wd (0, c.k + 1, wd.length) = [([], ⟨1, 1⟩)] := by
              show (if c.k < c.k + 1 then _ else _) = _
              rw [if_pos (by omega)]
            rw [rvl, e1]
            rfl
          rw [e]
          exact ⟨dx1, o, o, dt_past hp2 hx (fun k e => by cases e), TC.ho _, TC.ho _⟩
        · have q' : c.k + 1 ≤ c.k := q
          omega
      · omega
      · rw [Nat.sub_zero, List.drop_length] at q2
        cases q2
    show tSeq _ _ _ _ (upd H2 p (.dT [(spK (0, c.k + 1, wd.length), .ref x)]))
    have hp3 : (upd H2 p (.dT [(spK (0, c.k + 1, wd.length), .ref x)])) p = some (.dT [(spK (0, c.k + 1, wd.length), .ref x)]) := upd_same
    revert sH3 start hp3
    generalize upd H2 p (.dT [(spK (0, c.k + 1, wd.length), .ref x)]) = H3
    intro sH3 start hp3
    -- for made in range(len(word), -1, -1)
    refine ⟨_, rfl, pw, _, rfl, .inl (sH3.seq hw), _, rfl, _, rfl, _, _, _, (((xs).length : Int) - -1).toNat, rfl, RgC.neg (by omega) (by rw [lxs0]; omega) (by decide) (by decide), ?_⟩
    have en : (((xs).length : Int) - -1).toNat = wd.length + 1 := by rw [lxs0]; omega
    rw [en, lxs0]
    refine for_it (walk_rangeC (lo := (wd.length : Int)) (c := -1) (n := wd.length + 1)) (fun i σ H' => ∃ (v3 v4 v5 v6 v7 v8 : Option V) (kvs : List (List Key × V)), σ = [some (.ref a), some (.ref pw), some (.ref p), v3, v4, v5, v6, v7, v8] ∧ Same H H' ∧ H' p = some (.dT kvs) ∧ kvs.length ≤ 1 + 14 * i ∧ Tab K CR c wd H' kvs (Dn2 c wd i 0))
      ⟨none, none, none, none, none, none, _, rfl, sH3, hp3, Nat.le_refl _, start⟩ (fun _ _ _ _ _ => trivial) ?_ ?_
    · rintro i y σ H4 H5 hi ⟨v3, v4, v5, v6, v7, v8, kvs4, rfl, sH4, hp4, hk4, tab4⟩ ⟨rfl, rfl⟩
      have em : (wd.length : Int) + (i : Nat) * (-1 : Int) = ((wd.length - i : Nat) : Int) := by omega
      show gName 3 (.int ((wd.length : Int) + (i : Nat) * (-1 : Int))) _ _ _
      rw [em]
      have hml : wd.length - i ≤ wd.length := Nat.sub_le _ _
      have hmi : wd.length = (wd.length - i) + i := by omega
      revert hml hmi
      generalize wd.length - i = m
      intro hml hmi
      -- for state in reversed(states_of(chain.last))
      refine ⟨_, rfl, a, C, dx, _, _, rfl, sH4 _ _ hc.ins, T.cl, T.nLast, hlast, c.k, rfl, by have := ok.k4; omega, fun H6 pl as s6 n6 e6 t6 => ?_⟩
      have las : as.length = (Lf02.states c.k).length := by rw [t6.length, List.length_map]
      have lxs : (as.map V.ref).length = (Lf02.states c.k).length := by rw [List.length_map, las]
      have npl : pl ≠ p := fun e => by rw [e, s6 _ _ hp4] at e6; cases e6
      refine ⟨pl, as.map V.ref, rfl, SqL.of e6, ?_⟩
      refine for_it (walk_rev (K := K) (a := pl) (xs := as.map V.ref)) (fun j σ H' => ∃ (v4 v5 v6 v7 v8 : Option V) (kvs : List (List Key × V)), σ = [some (.ref a), some (.ref pw), some (.ref p), some (.int m), v4, v5, v6, v7, v8] ∧ Same H H' ∧ But p H6 H' ∧ H' p = some (.dT kvs) ∧ kvs.length ≤ 1 + 14 * i + j ∧ Tab K CR c wd H' kvs (Dn2 c wd i j))
        ⟨v4, v5, v6, v7, v8, kvs4, rfl, sH4.trans s6, But.refl p H6, s6 _ _ hp4, hk4, fun t ht => ?_⟩ (fun j σ H' hj ⟨v4, v5, v6, v7, v8, kvs, _, _, sB, _⟩ => SqL.of (sB _ _ e6 npl)) ?_ ?_
      · obtain ⟨ra, r1, r2⟩ := tab4 t ht
        exact ⟨ra, r1, r2.keep s6⟩
      · rintro j y σ H8 H7 hj ⟨v4, v5, v6, v7, v8, kvs7, rfl, sH7, bH7, hp7, hk7, tab7⟩ ⟨rfl, hy⟩
        rw [lxs] at hj hy
        obtain ⟨st, hst⟩ : ∃ st, (Lf02.states c.k)[(Lf02.states c.k).length - 1 - j]? = some st := ⟨_, List.getElem?_eq_getElem (by omega)⟩
        obtain ⟨sa, f1', f2'⟩ := t6.get (i := (Lf02.states c.k).length - 1 - j) (x := stV st) (by rw [List.getElem?_map, hst]; rfl)
        have ey : y = .ref sa := Option.some.inj (hy.symm.trans (by rw [List.getElem?_map, f1']; rfl))
        subst ey
        have hS : IsS c.k st := mem_states.mp (List.mem_of_getElem? hst)
        have nsa : sa ≠ p := fun e => by rw [e, s6 _ _ hp4] at f2'; cases f2'
        have hsa := bH7 _ _ f2' nsa
        -- spot = (state[0], state[1], made)
        refine ⟨_, rfl, sa, _, _, _, rfl, rfl, SqT.of hsa, at0, _, rfl, sa, _, _, _, rfl, rfl, SqT.of hsa, at1, _, rfl, by show 3 ≤ sizeLine; decide, fun q5 hq5 => ?_⟩
        have s8 := sm_new (o := .tup (spV st.sort st.place m)) hq5
        -- rest = Rest(ZERO, 0)
        intro xr dxr nxr ndr ner
        refine ⟨xr, dxr, z, 0, rfl, upd_same, fun H9 hx9 but9 => ⟨rfl, ?_⟩⟩
        have s9 : Same (upd H7 q5 (.tup (spV st.sort st.place m))) H9 := Same.made nxr ndr but9
        have nxr7 : H7 xr = none := s8.free nxr
        have sH79 : Same H7 H9 := s8.trans s9
        have hq9 : H9 q5 = some (.tup (spV st.sort st.place m)) := s9 _ _ upd_same
        have nq : q5 ≠ xr := fun e => by rw [e] at hq9; rw [hq9] at hx9; cases hx9
        have npx : p ≠ xr := ne_of_none hp7 nxr7
        -- for chance, target in steps_from(chain, word, spot)
        refine ⟨_, rfl, _, rfl, _, rfl, ?_⟩
        refine ⟨a, pw, q5, c0, c, wd, st, m, rfl, ok0, ⟨fs, dx, ql, qm, ls, kvs, hc.keep (sH7.trans sH79)⟩, hW.same (sH7.trans sH79), SqT.of hq9, hS, fun H10 l10 as10 s10 n10 e10 st10 => ?_⟩
        have sH710 : Same H7 H10 := sH79.trans s10
        have hx10 := s10 _ _ hx9
        have nl10 : l10 ≠ xr := fun e => by rw [e, hx10] at e10; cases e10
        refine ⟨l10, rfl, ⟨_, SqL.of e10⟩, ?_⟩
        refine for_list (K := K) (a := l10) (xs := as10.map V.ref) (fun n σ H' => ∃ (v7 v8 : Option V) (tg : V), σ = [some (.ref a), some (.ref pw), some (.ref p), some (.int m), some (.ref sa), some (.ref q5), some (.ref xr), v7, v8] ∧ But xr H10 H' ∧ Same H7 H' ∧
            RestAt K CR H' xr (((stepsL c wd st m).take n).foldl (addX c wd) (rOf [])) tg ∧ TgOk c wd H' (((stepsL c wd st m).take n).foldl (addX c wd) (rOf [])) tg)
          ⟨v7, v8, .non, rfl, But.refl xr H10, sH710, ⟨dxr, z, z, hx10, TC.hz _, TC.hz _⟩, .inl ⟨rfl, rfl⟩⟩ (fun n σ H' hn ⟨v7, v8, tg, _, bB, _⟩ => SqL.of (bB _ _ e10 nl10)) ?_ ?_
        · rintro n y σ H11 hn ⟨v7, v8, tg, rfl, b11, sH711, ra11, tg11⟩
          have l10s : as10.length = (stepsL c wd st m).length := Paired.length st10
          obtain ⟨ua, hua, rfl⟩ : ∃ ua, as10[n]? = some ua ∧ y = .ref ua := by
            rw [List.getElem?_map] at hn
            obtain ⟨ua, h1, h2⟩ := Option.map_eq_some_iff.mp hn
            exact ⟨ua, h1, h2.symm⟩
          obtain ⟨hlt, _⟩ := List.getElem?_eq_some_iff.mp hua
          obtain ⟨x, hxs⟩ : ∃ x, (stepsL c wd st m)[n]? = some x := ⟨_, List.getElem?_eq_getElem (by omega)⟩
          obtain ⟨ua', hua', pc, pt, i1, i2, i3⟩ := paired_get st10 hxs
          have eu : ua' = ua := Option.some.inj (hua'.symm.trans hua)
          subst eu
          have hok := step_ok ok hS hml (List.mem_of_getElem? hxs)
          have nua : ua' ≠ xr := fun e => by rw [e, hx10] at i1; cases i1
          have npt : pt ≠ xr := fun e => by rw [e, hx10] at i3; cases i3
          have j1 := b11 _ _ i1 nua
          have j2 := b11.tup hx10 i2
          have j3 := b11 _ _ i3 npt
          refine ⟨ua', _, rfl, SqT.of j1, rfl, _, _, rfl, _, _, rfl, rfl, ?_⟩
          have ee := part_eq ok h5 hS hml n
          have WP := wb_part ok h5 hS hml n
          rw [ee] at ra11 tg11
          have ra11' := ra11
          obtain ⟨dxx, ptt, pbb, x1, x2, x3⟩ := ra11'
          -- rests[target]
          have dn : Dn2 c wd i j x.2 := by
            rcases hok.vs with h | ⟨h1, h2⟩
            · exact .inl h
            · refine .inr ⟨h1, h2, ?_⟩
              rcases hok.later with h | h | ⟨h, h6⟩
              · exfalso
                have := h1.2.1
                rw [h] at this
                have this' : c.k + 1 ≤ c.k := this
                omega
              · exact .inl (by omega)
              · refine .inr ⟨by omega, ?_⟩
                have lm := later_mem hst h1 h6
                rw [show (Lf02.states c.k).length - 1 - j + 1 = (Lf02.states c.k).length - j by omega] at lm
                exact lm
          obtain ⟨ra, r1, tgb, r2, r3, r4⟩ := tab7 x.2 dn
          have r2' := r2.keep sH711
          have nra : xr ≠ ra := by
            obtain ⟨_, _, _, q1, _⟩ := r2
            exact Ne.symm (ne_of_none q1 nxr7)
          refine ⟨_, rfl, xr, dxx, _, rfl, x1, rF_add, _, rfl, _, rfl, _, rfl, _, rfl, p, .ref ra, rfl, ?_, ?_⟩
          · have g := DGet.t (H := H11) (a := p) (b := pt) (kvs := kvs7) (k := spK x.2) (sH711 _ _ hp7) j3
            rw [r1] at g
            exact g
          have zs := sz_step ok h5 hok
          have zr := sz_rvl ok h5 hok.vs
          have zp := sz_wb ok WP
          refine ⟨xr, ra, pc, _, rvl c wd x.2, tg, tgb, .ref pt, x.1, rfl, nra, ra11, r2', j2, zp.1, zp.2, zs.1, zr.1, zr.2, zs.2.1, zs.2.2, fun H12 g12 b12 R12 => ?_⟩
          have b012 : But xr H10 H12 := b11.trans b12
          have sH712 : Same H7 H12 := fun b o e => b12 _ _ (sH711 _ _ e) (ne_of_none e nxr7)
          refine ⟨some (.ref pc), some (.ref pt), addT (rOf (flat c wd ((stepsL c wd st m).take n))) tg x.1 (.ref pt) (rvl c wd x.2), rfl, b012, sH712, ?_, ?_⟩
          · rw [take_more hxs, List.foldl_append, ee]
            exact R12.path
          · rw [take_more hxs, List.foldl_append, ee]
            have t11 : TgOk c wd H12 (rOf (flat c wd ((stepsL c wd st m).take n))) tg := by
              rcases tg11 with h | ⟨h, pt', t', h1, h2, h3⟩
              · exact .inl h
              · exact .inr ⟨h, pt', t', h1, b12 _ _ h2 (fun e => by rw [e, x1] at h2; cases h2), h3⟩
            exact tg_step ok h5 hok WP.pos (b012 _ _ i3 npt) t11
        · rintro σ H11 ⟨v7, v8, tg, rfl, b11, sH711, ra11, tg11⟩
          have l10s : as10.length = (stepsL c wd st m).length := Paired.length st10
          have efull : ((stepsL c wd st m).take (as10.map V.ref).length).foldl (addX c wd) (rOf []) = rvl c wd (st.sort, st.place, m) := by
            rw [List.length_map, l10s, List.take_length]
            exact rvl_eq ok h5 hS hml
          rw [efull] at ra11 tg11
          have hp11 := sH711 _ _ hp7
          have hq11 : H11 q5 = some (.tup ((spK (st.sort, st.place, m)).map kV)) := b11 _ _ (s10 _ _ hq9) nq
          have e14 : (Lf02.states c.k).length ≤ 14 := by rw [states_len]; have := ok.k4; omega
          refine ⟨_, rfl, _, rfl, _, rfl, p, _, rfl, DPut.t hp11 hq11 (small1000 (by omega)), ?_⟩
          refine ⟨some (.ref sa), some (.ref q5), some (.ref xr), v7, v8, putK kvs7 (spK (st.sort, st.place, m)) (.ref xr), rfl, sm_mut (sH7.trans sH711) hp, ?_, upd_same, ?_, ?_⟩
          · intro b o e n
            rw [upd_ne n]
            exact sH711 _ _ (bH7 _ _ e n)
          · have := length_putK kvs7 (spK (st.sort, st.place, m)) (.ref xr)
            omega
          · intro t ht
            by_cases et : t = (st.sort, st.place, m)
            · subst et
              refine ⟨xr, by rw [valV_put, if_pos rfl], tg, ra11.pastD hp11, fun q => ?_, fun _ => tg11.pastD hp11⟩
              have := hS.2.1
              have q' : c.k < st.place := q
              omega
            · have nk : spK t ≠ spK (st.sort, st.place, m) := fun e => et (spK_inj e)
              have dt : Dn2 c wd i j t := by
                rcases ht with h | ⟨h1, h2, h3 | ⟨h3, h6⟩⟩
                · exact .inl h
                · exact .inr ⟨h1, h2, .inl h3⟩
                · refine .inr ⟨h1, h2, .inr ⟨h3, ?_⟩⟩
                  have hlt : (Lf02.states c.k).length - 1 - j < (Lf02.states c.k).length := by omega
                  rw [show (Lf02.states c.k).length - (j + 1) = (Lf02.states c.k).length - 1 - j by omega, List.drop_eq_getElem_cons hlt] at h6
                  rcases List.mem_cons.mp h6 with e | e
                  · exfalso
                    have e2 : (Lf02.states c.k)[(Lf02.states c.k).length - 1 - j] = st := by
                      have := List.getElem?_eq_getElem hlt
                      rw [hst] at this
                      exact (Option.some.inj this).symm
                    rw [e2] at e
                    apply et
                    obtain ⟨t1, t2, t3⟩ := t
                    have e3 : t3 = m := by
                      have h3' : wd.length = t3 + i := h3
                      omega
                    rw [← e, e3]
                  · rw [show (Lf02.states c.k).length - 1 - j + 1 = (Lf02.states c.k).length - j by omega] at e
                    exact e
              obtain ⟨ra, r1, r2⟩ := tab7 t dt
              refine ⟨ra, ?_, (r2.keep sH711).pastD hp11⟩
              rw [valV_put, if_neg nk]
              exact r1
      · rintro σ H7 ⟨v4, v5, v6, v7, v8, kvs7, rfl, sH7, bH7, hp7, hk7, tab7⟩
        rw [lxs] at hk7 tab7
        refine ⟨some (.int m), v4, v5, v6, v7, v8, kvs7, rfl, sH7, hp7, ?_, fun t ht => tab7 t ?_⟩
        · have e14 : (Lf02.states c.k).length ≤ 14 := by rw [states_len]; have := ok.k4; omega
          omega
        · rcases ht with h | ⟨h1, h2, h3 | ⟨h3, h6⟩⟩
          · exact .inl h
          · refine .inr ⟨h1, h2, ?_⟩
            by_cases e : wd.length < t.2.2 + i
            · exact .inl e
            · refine .inr ⟨by omega, ?_⟩
              rw [Nat.sub_self, List.drop_zero]
              exact mem_states.mpr h1
          · rw [Nat.sub_zero, List.drop_length] at h6
            cases h6
    · rintro σ H4 ⟨v3, v4, v5, v6, v7, v8, kvs4, rfl, sH4, hp4, hk4, tab4⟩
      refine ⟨_, rfl, k _ _ kvs4 sH4 hp hp4 fun t ht => tab4 t ?_⟩
      rcases ht with h | ⟨h1, h2⟩
      · exact .inl h
      · exact .inr ⟨h1, h2, .inl (by omega)⟩
end
end Fh

namespace Fh
open PySem PySem.Spec PyProof.Rows L2
open Fc
open Lf02 (Frac State Chain Word)
theorem gOf_end (c : Chain) (w : Word) (p : List State) : gOf c (0, c.k + 1, w.length) p = p := by
  show (if c.k < c.k + 1 then p else _) = p
  rw [if_pos (by omega)]
theorem gOf_in {c : Chain} {t : Spot} (h : t.2.1 ≤ c.k) (p : List State) : gOf c t p = ⟨t.1, t.2.1⟩ :: p := by
  show (if c.k < t.2.1 then p else _) = _
  rw [if_neg (by omega)]
theorem rvl_end (c : Chain) (w : Word) : rvl c w (0, c.k + 1, w.length) = ⟨⟨1, 1⟩, 1, ⟨1, 1⟩, 1, []⟩ := by
  have e1 : wayL c w (0, c.k + 1, w.length) = [([], ⟨1, 1⟩)] := by
    show (if c.k < c.k + 1 then _ else _) = _
    rw [if_pos (by omega)]
  rw [rvl, e1]
  rfl
section
variable {P : Program} {w : World} {K : PySem.W.Frag} {mg : Str → Option Value} {base : Heap} {C CR z o b : Addr}
abbrev sBest : Stmt := top 17
def spBest (K : PySem.W.Frag) (CR : Addr) : Sp := fun vs H Q _ => ∃ (p : Addr) (kvs : List (List Key × V)) (c : Chain) (wd : Word), vs = [.ref p] ∧ H p = some (.dT kvs) ∧ Tab K CR c wd H kvs (VS c wd) ∧ (rvl c wd (0, 0, 0)).ways ≠ 0 ∧ (rvl c wd (0, 0, 0)).path.length ≤ 100 ∧
  RetTs H Q ((rvl c wd (0, 0, 0)).path.map stV)
theorem scBest : FnScope ["rests", "states", "spot"] ["rests"] (defScope sBest) := ⟨rfl, rfl, rfl, by decide +kernel, rfl, by decide +kernel, by decide +kernel⟩
theorem vs_begin (c : Chain) (wd : Word) : VS c wd (0, 0, 0) := .inr ⟨⟨Nat.zero_le _, Nat.zero_le _, fun z => by cases z⟩, Nat.zero_le _⟩
theorem ok_best {f : Addr} {fd : FuncData} (F : Fun K "best_states" "best_states" sBest f fd) (TR : TRest K mg CR) (TC : TCon K mg z o b) : FnOk P w K mg base CX0 1 f fd ["rests"] (spBest K CR) := by
  refine F.ok scBest (fun vs H Q E h => ?_) (fun cdv A outer s H vs Q E hr h => ?_)
  · obtain ⟨p, kvs, c, wd, rfl, _⟩ := h
    rfl
  · obtain ⟨p, kvs, c, wd, rfl, hp, tab, hw0, hlen, k⟩ := h
    have hu := hu_of hr
    refine ⟨_, pss_cons (ps_set (i := 1) scBest.nd rfl (Or.inl rfl) (pe_lst pa_nil))
      (pss_cons (ps_set (i := 2) scBest.nd rfl (Or.inl rfl) (pe_fld (pe_dgetW hu (pv 0) (pe_glob rfl TC.beg (v := .ref b) rfl) (fun _ _ => rfl)) rfl))
      (pss_cons (ps_while PassesOwn.never (pt_cmpR op_notN (pe_fld (pe_dget hu (pv 0) (pv 2) (fun _ _ => rfl)) rfl) pe_non (nomark _))
        (pss_cons (ps_expr (pe_bm PySem.F.plainAttrs_list PySem.F.slot_list_append PySem.F.type_list_append mt_append (pv 1) (pa_cons (pe_tup (pa_cons (pe_ix ix_tup (pv 2) pe_int (fun _ _ => rfl)) (pa_cons (pe_ix ix_tup (pv 2) pe_int (fun _ _ => rfl)) pa_nil))) pa_nil)))
        (pss_one (ps_set (i := 2) scBest.nd rfl (Or.inl rfl) (pe_fld (pe_dget hu (pv 0) (pv 2) (fun _ _ => rfl)) rfl)))))
      (pss_one (ps_ret (pv 1))))), ?_⟩
    refine ⟨by show 0 ≤ sizeLine; decide, fun l hl => ?_⟩
    have s1 := sm_new (o := .lst []) hl
    obtain ⟨ra, r1, tg, ⟨dx, pt, pb, r2, _, _⟩, _, r4⟩ := tab (0, 0, 0) (vs_begin c wd)
    refine ⟨_, rfl, p, b, kvs, spK (0, 0, 0), .ref ra, rfl, rfl, .inl (s1 _ _ hp), TC.hb _, r1, ra, CR, dx, _, _, rfl, s1 _ _ r2, TR.cl, TR.nTarget, rF_target, ?_⟩
    have r4' := (r4 (Nat.zero_le _)).resolve_left fun e => hw0 e.1
    obtain ⟨_, ps, t0, rfl, g1, g2, g3, g4⟩ := r4'
    refine ⟨fun n σ H' => ∃ (as : List Addr) (ps : Addr) (t : Spot) (pre : List State), n = (gOf c t (rvl c wd t).path).length ∧ σ = [some (.ref p), some (.ref l), some (.ref ps)] ∧ Same H H' ∧ H' l = some (.lst (as.map V.ref)) ∧ Tups H' as (pre.map stV) ∧
        H' ps = some (.tup (sp3 t)) ∧ VS c wd t ∧ (rvl c wd t).ways ≠ 0 ∧ (rvl c wd (0, 0, 0)).path = pre ++ gOf c t (rvl c wd t).path,
      ⟨_, [], ps, t0, [], rfl, rfl, s1, upd_same, .nil, s1 _ _ g1, g2, g3, g4⟩, ?_⟩
    rintro n σ H' ⟨as, ps, t, pre, rfl, rfl, sH, hL, hT, hps, vst, wt, ep⟩
    obtain ⟨ra, r1, tg, ⟨dx, pt, pb, r2, _, _⟩, r3, r4⟩ := tab t vst
    have lpre : as.length = pre.length := by rw [hT.length, List.length_map]
    have gG : DGet H' p (.ref ps) (some (.ref ra)) := by
      have g := DGet.t (H := H') (a := p) (b := ps) (kvs := kvs) (k := spK t) (sH _ _ hp) hps
      rw [r1] at g
      exact g
    refine ⟨_, rfl, _, rfl, p, .ref ra, rfl, gG, ra, CR, dx, _, _, rfl, sH _ _ r2, TR.cl, TR.nTarget, rF_target, rfl, _, rfl, ?_⟩
    by_cases ht : t.2.1 ≤ c.k
    · obtain ⟨_, pt', t', rfl, g1, g2, g3, g4⟩ := (r4 ht).resolve_left fun e => wt e.1
      refine if_t rfl ?_
      refine ⟨_, fun _ _ h => h, ?_⟩
      refine ⟨_, rfl, .inl ⟨rfl, _, SqL.of hL⟩, ?_⟩
      refine ⟨_, rfl, ps, _, _, _, rfl, rfl, SqT.of hps, at30, _, rfl, ps, _, _, _, rfl, rfl, SqT.of hps, at31, by show 2 ≤ sizeLine; decide, fun u hu' => ?_⟩
      have s2 := sm_new (o := .tup [.int t.1, .int t.2.1]) hu'
      have hL2 := s2 _ _ hL
      have plen : pre.length ≤ 100 := by
        have := congrArg List.length ep
        rw [List.length_append] at this
        omega
      refine ⟨l, _, _, rfl, rfl, hL2, small1000 (by rw [List.length_map]; omega), ?_⟩
      have sH2 : Same H (upd (upd H' u (.tup [.int t.1, .int t.2.1])) l (.lst (as.map V.ref ++ [.ref u]))) := sm_mut (sH.trans s2) hl
      have hps2 := tup_past (o := .lst (as.map V.ref ++ [.ref u])) hL2 (s2 _ _ hps)
      have gG2 : DGet (upd (upd H' u (.tup [.int t.1, .int t.2.1])) l (.lst (as.map V.ref ++ [.ref u]))) p (.ref ps) (some (.ref ra)) := by
        have g := DGet.t (a := p) (b := ps) (kvs := kvs) (k := spK t) (sH2 _ _ hp) hps2
        rw [r1] at g
        exact g
      refine ⟨_, rfl, _, rfl, p, .ref ra, rfl, gG2, ra, CR, dx, _, _, rfl, sH2 _ _ r2, TR.cl, TR.nTarget, rF_target, ?_⟩
      refine ⟨(gOf c t' (rvl c wd t').path).length, ?_, as ++ [u], pt', t', pre ++ [⟨t.1, t.2.1⟩], rfl, rfl, sH2, ?_, ?_, sH2 _ _ g1, g2, g3, ?_⟩
      · rw [gOf_in ht, g4]
        exact Nat.lt_succ_self _
      · rw [upd_same, List.map_append]
        rfl
      · rw [List.map_append]
        refine Tups.past hL2 (Tups.append (hT.keep s2) (.cons ?_ .nil))
        rw [upd_same]
        rfl
      · rw [ep, gOf_in ht, g4, List.append_assoc]
        rfl
    · have et : t = (0, c.k + 1, wd.length) := vst.resolve_right fun e => ht e.1.2.1
      have e0 := r3 (by omega)
      subst e0
      refine if_f rfl ?_
      refine ⟨_, rfl, k _ _ as sH hl hL ?_⟩
      rw [ep, et, gOf_end, rvl_end, List.append_nil]
      exact hT
end
end Fh

namespace Fh
open PySem PySem.Spec PyProof.Rows L2
open Fc
open Lf02 (Frac State Chain Word)
/-- the numbers of the top -/
structure TNum (mg : Str → Option Value) (t1 t2 t3 t4 t5 : Tok) : Prop where
  refused : mg "REFUSED" = some (.int (-1) t1)
  places : mg "MOST_PLACES" = some (.int 4 t2)
  letters : mg "LETTERS" = some (.int 4 t3)
  weight : mg "MOST_WEIGHT" = some (.int 99 t4)
  most : mg "MOST_LETTERS" = some (.int 5 t5)
structure TNum2 (mg : Str → Option Value) (t6 t7 t8 t9 : Tok) : Prop where
  many : mg "TOO_MANY_COUNTED" = some (.int (-5) t6)
  noway : mg "NO_WAY" = some (.int (-6) t7)
  length : mg "MOST_LENGTH" = some (.int 8 t8)
  counted : mg "MOST_COUNTED" = some (.int 90 t9)
def bsV (l : List Bool) : List V := l.map V.bl
section
variable {P : Program} {w : World} {K : PySem.W.Frag} {mg : Str → Option Value} {base : Heap} {t1 t2 t3 t4 t5 : Tok}
abbrev sAreW : Stmt := top 33
abbrev sIsW : Stmt := top 34
def spAreW (K : PySem.W.Frag) : Sp := fun vs H Q _ => ∃ (p : Addr) (l : List Nat), vs = [.ref p] ∧ SqL K H p (natsV l) ∧ l.length ≤ 600 ∧ ∀ H', Same H H' → Q (.bl (l.all fun a => decide (a ≤ 99))) H'
def spIsW (K : PySem.W.Frag) : Sp := fun vs H Q _ => ∃ (p : Addr) (l : List Nat), vs = [.ref p] ∧ SqL K H p (natsV l) ∧ l.length ≤ 600 ∧ ∀ H', Same H H' → Q (.bl (Lf02.isWord l)) H'
theorem scAreW : FnScope ["weights", "weight"] ["weights"] (defScope sAreW) := ⟨rfl, rfl, rfl, by decide +kernel, rfl, by decide +kernel, by decide +kernel⟩
theorem scIsW : FnScope ["word", "letter"] ["word"] (defScope sIsW) := ⟨rfl, rfl, rfl, by decide +kernel, rfl, by decide +kernel, by decide +kernel⟩
theorem natsV_at {l : List Nat} {i : Nat} {x : V} (h : (natsV l)[i]? = some x) : ∃ n, l[i]? = some n ∧ x = .int n := by
  unfold natsV at h
  rw [List.getElem?_map] at h
  obtain ⟨n, h1, h2⟩ := Option.map_eq_some_iff.mp h
  exact ⟨n, h1, h2.symm⟩
theorem ok_areW {f : Addr} {fd : FuncData} (F : Fun K "are_weights" "are_weights" sAreW f fd) (B : Blt mg) (N : TNum mg t1 t2 t3 t4 t5) : FnOk P w K mg base CX0 1 f fd ["weights"] (spAreW K) := by
  refine F.ok scAreW (fun vs H Q E h => ?_) (fun cdv A outer s H vs Q E hr h => ?_)
  · obtain ⟨p, l, rfl, _⟩ := h
    rfl
  · obtain ⟨p, l, rfl, hp, h6, k⟩ := h
    refine ⟨_, pss_one (ps_ret (pe_callB (cr_all rfl) (by rfl) B.all (by decide +kernel) (pa_cons (pe_lc (own := [("weight", 1)]) (g := gName 1) (tt := tYes) rfl scAreW.nd (pi_list (pv 0))
      (blkOk_by (N := ["weights", "weight"]) (sc := defScope sAreW) (by decide +kernel)) (fun _ _ _ _ _ => pg_name (i := 1) scAreW.nd rfl (Or.inl rfl)) (fun _ _ _ _ _ => pts_nil)
      (fun _ _ _ _ _ => pe_cmpR op_le (pv 1) (pe_glob rfl N.weight (v := .int 99) ⟨_, rfl⟩) (nomark _))) pa_nil))), ?_⟩
    refine ⟨_, rfl, p, rfl, ⟨_, hp⟩, fun D hD => ?_⟩
    refine lc_list (K := K) (a := p) (xs := natsV l) (fun i H' => Same H H' ∧ H' D = some (.lst (bsV ((l.take i).map fun a => decide (a ≤ 99))))) ⟨sm_new hD, upd_same⟩ (fun i H' _ ⟨s5, _⟩ => s5.seq hp) ?_ ?_
    · rintro i x H' hi ⟨s5, e5⟩
      obtain ⟨n, hn, rfl⟩ := natsV_at hi
      obtain ⟨hlt, _⟩ := List.getElem?_eq_some_iff.mp hn
      refine ⟨rfl, ?_⟩
      refine ⟨_, rfl, _, _, rfl, rfl, _, e5, small1000 ?_, sm_mut s5 hD, ?_⟩
      · rw [bsV, List.length_map, List.length_map, List.length_take]; omega
      · rw [upd_same, take_more hn, List.map_append, bsV, bsV, List.map_append]
        have e : decide ((n : Int) ≤ 99) = decide (n ≤ 99) := decide_eq_decide.mpr (by omega)
        show some (HO.lst (_ ++ [V.bl (decide ((n : Int) ≤ 99))])) = _
        rw [e]
        rfl
    · rintro H' ⟨s5, e5⟩
      rw [natsV_len, List.take_length] at e5
      refine ⟨D, _, rfl, SqL.of e5, ?_⟩
      rw [List.all_map]
      exact k H' s5
theorem ok_isW {f : Addr} {fd : FuncData} (F : Fun K "is_word" "is_word" sIsW f fd) (B : Blt mg) (N : TNum mg t1 t2 t3 t4 t5) : FnOk P w K mg base CX0 1 f fd ["word"] (spIsW K) := by
  refine F.ok scIsW (fun vs H Q E h => ?_) (fun cdv A outer s H vs Q E hr h => ?_)
  · obtain ⟨p, l, rfl, _⟩ := h
    rfl
  · obtain ⟨p, l, rfl, hp, h6, k⟩ := h
    refine ⟨_, pss_one (ps_ret (pe_and (pe_cmpR op_le (pe_callB call_len_seq (by rfl) B.len PySem.boot_len (pa_cons (pv 0) pa_nil)) (pe_glob rfl N.most (v := .int 5) ⟨_, rfl⟩) (nomark _))
      (pe_one (pe_callB (cr_all rfl) (by rfl) B.all (by decide +kernel) (pa_cons (pe_lc (own := [("letter", 1)]) (g := gName 1) (tt := tYes) rfl scIsW.nd (pi_list (pv 0))
      (blkOk_by (N := ["word", "letter"]) (sc := defScope sIsW) (by decide +kernel)) (fun _ _ _ _ _ => pg_name (i := 1) scIsW.nd rfl (Or.inl rfl)) (fun _ _ _ _ _ => pts_nil)
      (fun _ _ _ _ _ => pe_cmpR op_lt (pv 1) (pe_glob rfl N.letters (v := .int 4) ⟨_, rfl⟩) (nomark _))) pa_nil))))), ?_⟩
    refine ⟨_, rfl, p, _, rfl, .inl hp, _, _, rfl, rfl, _, rfl, ?_⟩
    rw [natsV_len]
    by_cases h5 : l.length ≤ 5
    · refine if_t (decide_eq_true (by omega)) ?_
      refine ⟨_, rfl, p, rfl, ⟨_, hp⟩, fun D hD => ?_⟩
      refine lc_list (K := K) (a := p) (xs := natsV l) (fun i H' => Same H H' ∧ H' D = some (.lst (bsV ((l.take i).map fun a => decide (a < 4))))) ⟨sm_new hD, upd_same⟩ (fun i H' _ ⟨s5, _⟩ => s5.seq hp) ?_ ?_
      · rintro i x H' hi ⟨s5, e5⟩
        obtain ⟨n, hn, rfl⟩ := natsV_at hi
        obtain ⟨hlt, _⟩ := List.getElem?_eq_some_iff.mp hn
        refine ⟨rfl, ?_⟩
        refine ⟨_, rfl, _, _, rfl, rfl, _, e5, small1000 ?_, sm_mut s5 hD, ?_⟩
        · rw [bsV, List.length_map, List.length_map, List.length_take]; omega
        · rw [upd_same, take_more hn, List.map_append, bsV, bsV, List.map_append]
          have e : decide ((n : Int) < 4) = decide (n < 4) := decide_eq_decide.mpr (by omega)
          show some (HO.lst (_ ++ [V.bl (decide ((n : Int) < 4))])) = _
          rw [e]
          rfl
      · rintro H' ⟨s5, e5⟩
        rw [natsV_len, List.take_length] at e5
        refine ⟨D, _, rfl, SqL.of e5, ?_⟩
        rw [List.all_map]
        have e : Lf02.isWord l = l.all fun a => decide (a < 4) := by
          unfold Lf02.isWord
          rw [decide_eq_true h5, Bool.true_and]
        have kk := k H' s5
        rw [e] at kk
        exact kk
    · refine if_f (decide_eq_false (by omega)) ?_
      have e : Lf02.isWord l = false := by
        unfold Lf02.isWord
        rw [decide_eq_false h5, Bool.false_and]
      have kk := k H (Same.refl H)
      rw [e] at kk
      exact kk
end
end Fh

namespace Fh
open PySem PySem.Spec PyProof.Rows L2
open Fc
open Lf02 (Frac State Chain Word)
/-! the specification's words by the table's -/
theorem rvl_begin (c : Chain) (w : Word) : rvl c w (0, 0, 0) = rOf (Lf02.ways c w) := by
  have e : wayL c w (0, 0, 0) = wf c ⟨0, 0⟩ w := by
    show (if c.k < 0 then _ else wf c ⟨0, 0⟩ (w.drop 0)) = _
    rw [if_neg (by omega), List.drop_zero]
  rw [rvl, e, ways_eq]
theorem best_eq (c : Chain) (w : Word) : Lf02.best c w = (bst (Lf02.ways c w)).map fun b => (b, tiesOf (Lf02.ways c w) b.2) := by
  unfold Lf02.best
  cases Lf02.ways c w with
  | nil => rfl
  | cons x l => rfl
theorem way_len {c : Chain} : ∀ (f : Nat) (s : State) (w : Word) (y : Way), y ∈ Lf02.waysFrom c f s w → y.1.length ≤ f
  | 0, s, w, y, h => by cases h
  | f + 1, s, w, y, h => by
    rw [Lf02.waysFrom] at h
    obtain ⟨x, hx, hy⟩ := List.mem_flatMap.mp h
    obtain ⟨o, r, p⟩ := x
    cases o with
    | none =>
      have e : y = ([], p) := by simpa using hy
      rw [e]
      exact Nat.zero_le _
    | some t =>
      obtain ⟨z, hz, rfl⟩ := List.mem_map.mp hy
      have := way_len f t r z hz
      show z.1.length + 1 ≤ f + 1
      omega
theorem path_len {c : Chain} (ok : OkC c) {w : Word} (h5 : w.length ≤ 5) : (rvl c w (0, 0, 0)).path.length ≤ 10 := by
  rw [rvl_begin]
  show (pathOf (Lf02.ways c w)).length ≤ 10
  cases e : bst (Lf02.ways c w) with
  | none => unfold pathOf; rw [e]; exact Nat.zero_le _
  | some b =>
    rw [path_some e]
    have := way_len _ _ _ b (bst_mem e)
    have := ok.k4
    omega
theorem isW_5 {l : Word} (h : Lf02.isWord l = true) : l.length ≤ 5 ∧ ∀ x ∈ l, x < 4 := by
  unfold Lf02.isWord at h
  rw [Bool.and_eq_true, decide_eq_true_iff] at h
  exact ⟨h.1, fun x hx => by simpa using List.all_eq_true.mp h.2 x hx⟩
/-! the answers -/
def ansTotal (c : Chain) (w : Word) : List Int := if Lf02.isWord w = false then [-1] else Lf02.told (Lf02.total c w)
def ansCount (c : Chain) (w : Word) : List Int := if Lf02.isWord w = false then [-1] else [((Lf02.ways c w).length : Int)]
def ansBest (c : Chain) (w : Word) : List Int := if Lf02.isWord w = false then [-1] else match Lf02.best c w with
  | none => [0]
  | some x => 1 :: Lf02.told x.1.2 ++ (x.2 : Int) :: Lf02.toldWay x.1.1
def intsV (l : List Int) : List V := l.map V.int
def RetI (H : Hp) (Q : VK) (l : List Int) : Prop := ∀ (H' : Hp) (p : Addr), Same H H' → H p = none → H' p = some (.lst (intsV l)) → Q (.ref p) H'
def spQ (K : PySem.W.Frag) (C : Addr) (g : Chain → Word → List Int) : Sp := fun vs H Q _ => ∃ (a pn pr : Addr) (c : Chain) (wd : Word), vs = [.ref a, .ref pn, .ref pr] ∧ OkC c ∧ ChainAt C H a c ∧ SqL K H pr (natsV wd) ∧ wd.length ≤ 600 ∧ RetI H Q (g c wd)
section
variable {P : Program} {w : World} {K : PySem.W.Frag} {mg : Str → Option Value} {base : Heap} {C CR z o b : Addr} {t1 t2 t3 t4 t5 : Tok}
abbrev sTotal : Stmt := top 39
abbrev sBestA : Stmt := top 40
abbrev sCount : Stmt := top 41
theorem scTotal : FnScope ["chain", "numbers", "row"] ["chain", "numbers", "row"] (defScope sTotal) := ⟨rfl, rfl, rfl, by decide +kernel, rfl, by decide +kernel, by decide +kernel⟩
theorem scCount : FnScope ["chain", "numbers", "row"] ["chain", "numbers", "row"] (defScope sCount) := ⟨rfl, rfl, rfl, by decide +kernel, rfl, by decide +kernel, by decide +kernel⟩
theorem scBestA : FnScope ["chain", "numbers", "row", "rests", "whole"] ["chain", "numbers", "row"] (defScope sBestA) := ⟨rfl, rfl, rfl, by decide +kernel, rfl, by decide +kernel, by decide +kernel⟩
theorem ok_total {f f1 f2 : Addr} {fd fd1 fd2 : FuncData} (F : Fun K "answer_total" "answer_total" sTotal f fd) (TR : TRest K mg CR) (TC : TCon K mg z o b) (B : Blt mg) (N : TNum mg t1 t2 t3 t4 t5)
    (D1 : Dn K mg "is_word" sIsW ["word"] f1 fd1) (G1 : FnOk P w K mg base CX0 1 f1 fd1 ["word"] (spIsW K))
    (D2 : Dn K mg "rests_of" sRests ["chain", "word"] f2 fd2) (G2 : FnOk P w K mg base CX0 5 f2 fd2 ["chain", "word"] (spRests K C CR)) :
    FnOk P w K mg base CX0 6 f fd ["chain", "numbers", "row"] (spQ K C ansTotal) := by
  refine F.ok scTotal (fun vs H Q E h => ?_) (fun cdv A outer s H vs Q E hr h => ?_)
  · obtain ⟨a, pn, pr, c, wd, rfl, _⟩ := h
    rfl
  · obtain ⟨a, pn, pr, c, wd, rfl, ok, hc, hw, hl, k⟩ := h
    have hr1 : Room 1 _ := hr.mono (by decide)
    have hu := hu_of hr
    refine ⟨_, pss_cons (ps_if (pt_not (pt_val (pe_call G1 hr1 rfl D1.g D1.F.kp D1.b .nil pass0 (pa_cons (pv 2) pa_nil)))) (pss_one (ps_ret (pe_lst (pa_cons (pe_glob rfl N.refused (v := .int (-1)) ⟨_, rfl⟩) pa_nil)))) pss_nil)
      (pss_one (ps_ret (pe_callTy call_list_of (by rfl) B.list (by decide +kernel) (pa_cons (pe_fld (pe_dgetW hu (pe_call G2 hr rfl D2.g D2.F.kp D2.b .nil pass0 (pa_cons (pv 0) (pa_cons (pv 2) pa_nil))) (pe_glob rfl TC.beg (v := .ref b) rfl) (fun _ _ => rfl)) rfl) pa_nil)))), ?_⟩
    refine ⟨_, rfl, pr, wd, rfl, hw, hl, fun H1 s1 => ⟨_, rfl, ?_⟩⟩
    by_cases hW : Lf02.isWord wd = true
    · refine if_f (by rw [hW]; rfl) ?_
      have w5 := isW_5 hW
      refine ⟨_, rfl, _, rfl, a, pr, c, c, wd, rfl, ok, hc.keep s1, .inl ⟨rfl, s1.seq hw, w5.2⟩, Nat.le_trans w5.1 (by decide), fun H2 p kvs s2 np hp tab => ?_⟩
      obtain ⟨ra, r1, tg, ⟨dx, pt, pb, r2, r3, _⟩, _, _⟩ := tab (0, 0, 0) (vs_begin c wd)
      refine ⟨p, b, kvs, spK (0, 0, 0), .ref ra, rfl, rfl, .inl hp, TC.hb _, r1, ra, CR, dx, _, _, rfl, r2, TR.cl, TR.nTotal, rF_total, ?_⟩
      refine ⟨pt, _, rfl, .inr r3, fun q hq => ?_⟩
      refine k _ q ((s1.trans s2).trans (sm_new hq)) ((s1.trans s2).free hq) ?_
      rw [upd_same, ansTotal, if_neg (by rw [hW]; decide), rvl_begin]
      rfl
    · have hW' : Lf02.isWord wd = false := by simpa using hW
      refine if_t (by rw [hW']; rfl) ?_
      refine ⟨by show 1 ≤ sizeLine; decide, fun q hq => ?_⟩
      refine k _ q (s1.trans (sm_new hq)) (s1.free hq) ?_
      rw [upd_same, ansTotal, if_pos hW']
      rfl
theorem ok_count {f f1 f2 : Addr} {fd fd1 fd2 : FuncData} (F : Fun K "answer_count" "answer_count" sCount f fd) (TR : TRest K mg CR) (TC : TCon K mg z o b) (B : Blt mg) (N : TNum mg t1 t2 t3 t4 t5)
    (D1 : Dn K mg "is_word" sIsW ["word"] f1 fd1) (G1 : FnOk P w K mg base CX0 1 f1 fd1 ["word"] (spIsW K))
    (D2 : Dn K mg "rests_of" sRests ["chain", "word"] f2 fd2) (G2 : FnOk P w K mg base CX0 5 f2 fd2 ["chain", "word"] (spRests K C CR)) :
    FnOk P w K mg base CX0 6 f fd ["chain", "numbers", "row"] (spQ K C ansCount) := by
  refine F.ok scCount (fun vs H Q E h => ?_) (fun cdv A outer s H vs Q E hr h => ?_)
  · obtain ⟨a, pn, pr, c, wd, rfl, _⟩ := h
    rfl
  · obtain ⟨a, pn, pr, c, wd, rfl, ok, hc, hw, hl, k⟩ := h
    have hr1 : Room 1 _ := hr.mono (by decide)
    have hu := hu_of hr
    refine ⟨_, pss_cons (ps_if (pt_not (pt_val (pe_call G1 hr1 rfl D1.g D1.F.kp D1.b .nil pass0 (pa_cons (pv 2) pa_nil)))) (pss_one (ps_ret (pe_lst (pa_cons (pe_glob rfl N.refused (v := .int (-1)) ⟨_, rfl⟩) pa_nil)))) pss_nil)
      (pss_one (ps_ret (pe_lst (pa_cons (pe_fld (pe_dgetW hu (pe_call G2 hr rfl D2.g D2.F.kp D2.b .nil pass0 (pa_cons (pv 0) (pa_cons (pv 2) pa_nil))) (pe_glob rfl TC.beg (v := .ref b) rfl) (fun _ _ => rfl)) rfl) pa_nil)))), ?_⟩
    refine ⟨_, rfl, pr, wd, rfl, hw, hl, fun H1 s1 => ⟨_, rfl, ?_⟩⟩
    by_cases hW : Lf02.isWord wd = true
    · refine if_f (by rw [hW]; rfl) ?_
      have w5 := isW_5 hW
      refine ⟨_, rfl, _, rfl, a, pr, c, c, wd, rfl, ok, hc.keep s1, .inl ⟨rfl, s1.seq hw, w5.2⟩, Nat.le_trans w5.1 (by decide), fun H2 p kvs s2 np hp tab => ?_⟩
      obtain ⟨ra, r1, tg, ⟨dx, pt, pb, r2, r3, _⟩, _, _⟩ := tab (0, 0, 0) (vs_begin c wd)
      refine ⟨p, b, kvs, spK (0, 0, 0), .ref ra, rfl, rfl, .inl hp, TC.hb _, r1, ra, CR, dx, _, _, rfl, r2, TR.cl, TR.nWays, rF_ways, ?_⟩
      refine ⟨by show 1 ≤ sizeLine; decide, fun q hq => ?_⟩
      refine k _ q ((s1.trans s2).trans (sm_new hq)) ((s1.trans s2).free hq) ?_
      rw [upd_same, ansCount, if_neg (by rw [hW]; decide), rvl_begin]
      rfl
    · have hW' : Lf02.isWord wd = false := by simpa using hW
      refine if_t (by rw [hW']; rfl) ?_
      refine ⟨by show 1 ≤ sizeLine; decide, fun q hq => ?_⟩
      refine k _ q (s1.trans (sm_new hq)) (s1.free hq) ?_
      rw [upd_same, ansCount, if_pos hW']
      rfl
end
end Fh

namespace Fh
open PySem PySem.Spec PyProof.Rows L2
open Fc
open Lf02 (Frac State Chain Word)
def flatSt (p : List State) : List V := p.flatMap stV
theorem flatSt_more {p : List State} {i : Nat} {s : State} (h : p[i]? = some s) : flatSt (p.take (i + 1)) = flatSt (p.take i) ++ stV s := by
  unfold flatSt
  rw [take_more h, List.flatMap_append]
  rw [List.flatMap_cons, List.flatMap_nil, List.append_nil]
theorem flatSt_len (p : List State) : (flatSt p).length = 2 * p.length := by
  induction p with
  | nil => rfl
  | cons s p ih =>
    have e : flatSt (s :: p) = stV s ++ flatSt p := rfl
    rw [e, List.length_append, ih, List.length_cons]
    show 2 + 2 * p.length = _
    omega
theorem flatSt_ints (p : List State) : flatSt p = intsV (Lf02.ints (p.flatMap fun s => [s.sort, s.place])) := by
  induction p with
  | nil => rfl
  | cons s p ih =>
    have e : flatSt (s :: p) = stV s ++ flatSt p := rfl
    have e2 : (s :: p).flatMap (fun s => [s.sort, s.place]) = [s.sort, s.place] ++ p.flatMap (fun s => [s.sort, s.place]) := rfl
    rw [e, ih, e2]
    rfl
section
variable {P : Program} {w : World} {K : PySem.W.Frag} {mg : Str → Option Value} {base : Heap} {C CR z o b : Addr} {t1 t2 t3 t4 t5 : Tok}
theorem Tab.keep {c : Chain} {wd : Word} {H H' : Hp} {kvs : List (List Key × V)} {done : Spot → Prop} (h : Tab K CR c wd H kvs done) (s : Same H H') : Tab K CR c wd H' kvs done := fun t ht => by
  obtain ⟨ra, r1, r2⟩ := h t ht
  exact ⟨ra, r1, r2.keep s⟩
abbrev sTold : Stmt := top 35
def spTold : Sp := fun vs H Q _ => ∃ (p : Addr) (as : List Addr) (path : List State), vs = [.ref p] ∧ H p = some (.lst (as.map V.ref)) ∧ Tups H as (path.map stV) ∧ path.length ≤ 100 ∧ RetI H Q (Lf02.toldWay path)
theorem scTold : FnScope ["states", "told", "state"] ["states"] (defScope sTold) := ⟨rfl, rfl, rfl, by decide +kernel, rfl, by decide +kernel, by decide +kernel⟩
theorem told_ints (p : List State) : intsV (Lf02.toldWay p) = .int (p.length : Int) :: flatSt p := by
  rw [flatSt_ints]
  rfl
theorem ok_told {f : Addr} {fd : FuncData} (F : Fun K "told_states" "told_states" sTold f fd) (B : Blt mg) : FnOk P w K mg base CX0 1 f fd ["states"] spTold := by
  refine F.ok scTold (fun vs H Q E h => ?_) (fun cdv A outer s H vs Q E hr h => ?_)
  · obtain ⟨p, as, path, rfl, _⟩ := h
    rfl
  · obtain ⟨l, as, path, rfl, hL, hT, pl, k⟩ := h
    refine ⟨_, pss_cons (ps_set (i := 1) scTold.nd rfl (Or.inl rfl) (pe_lst (pa_cons (pe_callB call_len_seq (by rfl) B.len PySem.boot_len (pa_cons (pv 0) pa_nil)) pa_nil)))
      (pss_cons (ps_for PassesOwn.never rfl (pi_list (pv 0)) (pg_name (i := 2) scTold.nd rfl (Or.inl rfl))
        (pss_one (ps_expr (pe_bm PySem.F.plainAttrs_list PySem.F.slot_list_extend PySem.F.type_list_extend mt_extendT (pv 1) (pa_cons (pv 2) pa_nil)))))
      (pss_one (ps_ret (pv 1)))), ?_⟩
    have las : as.length = path.length := by rw [hT.length, List.length_map]
    refine ⟨_, rfl, l, _, rfl, .inl (SqL.of hL), by show 1 ≤ sizeLine; decide, fun q hq => ?_⟩
    have s4 := sm_new (o := .lst [.int ((as.map V.ref).length : Int)]) hq
    have nql : l ≠ q := ne_of_none hL hq
    refine ⟨_, rfl, l, rfl, ⟨_, SqL.of (s4 _ _ hL)⟩, ?_⟩
    refine for_list (K := K) (a := l) (xs := as.map V.ref) (fun i σ H' => ∃ v2 : Option V, σ = [some (.ref l), some (.ref q), v2] ∧ But q H H' ∧
        H' q = some (.lst ([.int ((as.map V.ref).length : Int)] ++ flatSt (path.take i))))
      ⟨none, rfl, But.of s4, upd_same⟩ (fun i σ H' _ ⟨_, _, b5, _⟩ => SqL.of (b5 _ _ hL nql)) ?_ ?_
    · rintro i y σ H' hy ⟨v2, rfl, b5, e5⟩
      rw [List.getElem?_map] at hy
      obtain ⟨u, hu1, rfl⟩ := Option.map_eq_some_iff.mp hy
      obtain ⟨hlt, _⟩ := List.getElem?_eq_some_iff.mp hu1
      obtain ⟨st, hst⟩ : ∃ st, path[i]? = some st := ⟨_, List.getElem?_eq_getElem (by omega)⟩
      obtain ⟨u', i1, i2⟩ := hT.get (i := i) (x := stV st) (by rw [List.getElem?_map, hst]; rfl)
      have eu : u' = u := Option.some.inj (i1.symm.trans hu1)
      subst eu
      have nu : u' ≠ q := ne_of_none i2 hq
      refine ⟨_, rfl, .inl ⟨rfl, _, SqL.of e5⟩, _, rfl, ?_⟩
      refine ⟨q, u', _, stV st, rfl, rfl, e5, SqT.of (b5 _ _ i2 nu), ?_, ?_⟩
      · rw [List.length_append, flatSt_len, List.length_take]
        refine Nat.le_of_lt (small1000 ?_)
        show 1 + 2 * min i _ + 2 ≤ 1000
        omega
      · refine ⟨some (.ref u'), rfl, b5.trans But.upd, ?_⟩
        rw [upd_same, flatSt_more hst, List.append_assoc]
    · rintro σ H' ⟨v2, rfl, b5, e5⟩
      refine ⟨_, rfl, k _ q (b5.same hq) hq ?_⟩
      rw [e5, List.length_map, las, List.take_length, told_ints]
      rfl
theorem ok_bestA {f f1 f2 f3 f4 : Addr} {fd fd1 fd2 fd3 fd4 : FuncData} (F : Fun K "answer_best" "answer_best" sBestA f fd) (TR : TRest K mg CR) (TC : TCon K mg z o b) (B : Blt mg) (N : TNum mg t1 t2 t3 t4 t5)
    (D1 : Dn K mg "is_word" sIsW ["word"] f1 fd1) (G1 : FnOk P w K mg base CX0 1 f1 fd1 ["word"] (spIsW K))
    (D2 : Dn K mg "rests_of" sRests ["chain", "word"] f2 fd2) (G2 : FnOk P w K mg base CX0 5 f2 fd2 ["chain", "word"] (spRests K C CR))
    (D3 : Dn K mg "best_states" sBest ["rests"] f3 fd3) (G3 : FnOk P w K mg base CX0 1 f3 fd3 ["rests"] (spBest K CR))
    (D4 : Dn K mg "told_states" sTold ["states"] f4 fd4) (G4 : FnOk P w K mg base CX0 1 f4 fd4 ["states"] spTold) :
    FnOk P w K mg base CX0 6 f fd ["chain", "numbers", "row"] (spQ K C ansBest) := by
  refine F.ok scBestA (fun vs H Q E h => ?_) (fun cdv A outer s H vs Q E hr h => ?_)
  · obtain ⟨a, pn, pr, c, wd, rfl, _⟩ := h
    rfl
  · obtain ⟨a, pn, pr, c, wd, rfl, ok, hc, hw, hl, k⟩ := h
    have hr1 : Room 1 _ := hr.mono (by decide)
    have hu := hu_of hr
    refine ⟨_, pss_cons (ps_if (pt_not (pt_val (pe_call G1 hr1 rfl D1.g D1.F.kp D1.b .nil pass0 (pa_cons (pv 2) pa_nil)))) (pss_one (ps_ret (pe_lst (pa_cons (pe_glob rfl N.refused (v := .int (-1)) ⟨_, rfl⟩) pa_nil)))) pss_nil)
      (pss_cons (ps_set (i := 3) scBestA.nd rfl (Or.inl rfl) (pe_call G2 hr rfl D2.g D2.F.kp D2.b .nil pass0 (pa_cons (pv 0) (pa_cons (pv 2) pa_nil))))
      (pss_cons (ps_set (i := 4) scBestA.nd rfl (Or.inl rfl) (pe_dgetW hu (pv 3) (pe_glob rfl TC.beg (v := .ref b) rfl) (fun _ _ => rfl)))
      (pss_cons (ps_if (pt_cmpR op_eq (pe_fld (pv 4) rfl) pe_int (nomark _)) (pss_one (ps_ret (pe_lst (pa_cons pe_int pa_nil)))) pss_nil)
      (pss_one (ps_ret (pe_op op_cat (pe_lst (pa_cons pe_int (pa_cons (pe_ix ix_tup (pe_fld (pv 4) rfl) pe_int (fun _ _ => rfl)) (pa_cons (pe_ix ix_tup (pe_fld (pv 4) rfl) pe_int (fun _ _ => rfl))
        (pa_cons (pe_fld (pv 4) rfl) pa_nil)))))
        (pe_call G4 hr1 rfl D4.g D4.F.kp D4.b .nil pass0 (pa_cons (pe_call G3 hr1 rfl D3.g D3.F.kp D3.b .nil pass0 (pa_cons (pv 3) pa_nil)) pa_nil)))))))), ?_⟩
    refine ⟨_, rfl, pr, wd, rfl, hw, hl, fun H1 s1 => ⟨_, rfl, ?_⟩⟩
    by_cases hW : Lf02.isWord wd = true
    · refine if_f (by rw [hW]; rfl) ?_
      have w5 := isW_5 hW
      refine ⟨_, rfl, _, rfl, a, pr, c, c, wd, rfl, ok, hc.keep s1, .inl ⟨rfl, s1.seq hw, w5.2⟩, Nat.le_trans w5.1 (by decide), fun H2 p kvs s2 np hp tab => ?_⟩
      have tab0 := tab (0, 0, 0) (vs_begin c wd)
      obtain ⟨ra, r1, tg, ⟨dx, pt, pb, r2, r3, r3'⟩, _, _⟩ := tab0
      refine ⟨_, rfl, p, b, kvs, spK (0, 0, 0), .ref ra, rfl, rfl, .inl hp, TC.hb _, r1, ?_⟩
      refine ⟨_, rfl, ra, CR, dx, _, _, rfl, r2, TR.cl, TR.nWays, rF_ways, rfl, _, rfl, ?_⟩
      have eA : ansBest c wd = match Lf02.best c wd with
          | none => [0]
          | some x => 1 :: Lf02.told x.1.2 ++ (x.2 : Int) :: Lf02.toldWay x.1.1 := by
        unfold ansBest
        rw [if_neg (by rw [hW]; decide)]
        all_goals rfl
      by_cases w0 : (rvl c wd (0, 0, 0)).ways = 0
      · refine if_t (by rw [w0]; rfl) ?_
        refine ⟨by show 1 ≤ sizeLine; decide, fun q hq => ?_⟩
        refine k _ q ((s1.trans s2).trans (sm_new hq)) ((s1.trans s2).free hq) ?_
        rw [rvl_begin] at w0
        have e0 : Lf02.ways c wd = [] := List.length_eq_zero_iff.mp w0
        rw [upd_same, eA, best_eq, e0]
        rfl
      · refine if_f (by simp; omega) ?_
        have pl := path_len ok w5.1
        refine ⟨_, rfl, ra, CR, dx, _, _, rfl, r2, TR.cl, TR.nBest, rF_best, pb, _, _, _, rfl, rfl, r3', at0, ?_⟩
        refine ⟨_, rfl, ra, CR, dx, _, _, rfl, r2, TR.cl, TR.nBest, rF_best, pb, _, _, _, rfl, rfl, r3', at1, ?_⟩
        refine ⟨_, rfl, ra, CR, dx, _, _, rfl, r2, TR.cl, TR.nTies, rF_ties, by show 4 ≤ sizeLine; decide, fun g hg => ?_⟩
        have s3 := sm_new (o := .lst [.int 1, .int (rvl c wd (0, 0, 0)).best.n, .int (rvl c wd (0, 0, 0)).best.d, .int (rvl c wd (0, 0, 0)).ties]) hg
        refine ⟨_, rfl, p, kvs, c, wd, rfl, s3 _ _ hp, tab.keep s3, w0, by omega, fun H4 l as s4 nl hL hT => ?_⟩
        refine ⟨l, as, _, rfl, hL, hT, by omega, fun H5 q s5 nq hq => ?_⟩
        have s45 := s4.trans s5
        refine ⟨g, q, _, _, rfl, rfl, s45 _ _ upd_same, hq, ?_, fun r hr' => ?_⟩
        · refine Nat.le_of_lt (small1000 ?_)
          have e := flatSt_len (rvl c wd (0, 0, 0)).path
          rw [told_ints]
          show 4 + ((flatSt (rvl c wd (0, 0, 0)).path).length + 1) ≤ 1000
          omega
        have s15 := (s1.trans s2).trans (s3.trans s45)
        refine k _ r (s15.trans (sm_new hr')) (s15.free hr') ?_
        rw [upd_same, eA, best_eq, told_ints, rvl_begin]
        have hne : Lf02.ways c wd ≠ [] := fun e => w0 (by rw [rvl_begin, e]; rfl)
        obtain ⟨bb, hbb⟩ := some_of hne
        rw [hbb]
        show some (HO.lst ([.int 1, .int (topOf (Lf02.ways c wd)).n, .int (topOf (Lf02.ways c wd)).d, .int (tiesOf (Lf02.ways c wd) (topOf (Lf02.ways c wd)))] ++ (.int ((pathOf (Lf02.ways c wd)).length : Int) :: flatSt (pathOf (Lf02.ways c wd))))) = _
        rw [top_some hbb, path_some hbb, flatSt_ints]
        rfl
    · have hW' : Lf02.isWord wd = false := by simpa using hW
      refine if_t (by rw [hW']; rfl) ?_
      refine ⟨by show 1 ≤ sizeLine; decide, fun q hq => ?_⟩
      refine k _ q (s1.trans (sm_new hq)) (s1.free hq) ?_
      rw [upd_same, ansBest, if_pos hW']
      rfl
end
end Fh

namespace Fh
open PySem PySem.Spec PyProof.Rows L2
open Fc
open Lf02 (Frac State Chain Word)
theorem intsV_len (l : List Int) : (intsV l).length = l.length := List.length_map ..
theorem intsV_get {l : List Int} {i : Nat} {n : Int} (h : l[i]? = some n) : (intsV l)[i]? = some (.int n) := by
  unfold intsV
  rw [List.getElem?_map, h]
  rfl
theorem cut_ints {ns x y : List Int} {i : Nat} (h : ns.drop i = x ++ y) (hi : i ≤ ns.length) : cutV (intsV ns) (some (i : Int)) (some ((i + x.length : Nat) : Int)) = intsV x := by
  unfold cutV
  have hl : ns.length = i + (x.length + y.length) := by
    have := congrArg List.length h
    rw [List.length_drop, List.length_append] at this
    omega
  rw [HT.sIx_nat, HT.sIx_nat, intsV_len, Nat.min_eq_left hi, Nat.min_eq_left (by omega), Nat.add_sub_cancel_left]
  unfold intsV
  rw [← List.map_drop, h, ← List.map_take, List.take_left]
theorem drop_head {ns : List Int} {i : Nat} {p : Int} {r : List Int} (h : ns.drop i = p :: r) : ns[i]? = some p ∧ ns.drop (i + 1) = r ∧ i < ns.length := by
  have hi : i < ns.length := by
    refine Nat.lt_of_not_le fun z => ?_
    rw [List.drop_eq_nil_of_le z] at h
    cases h
  have h2 := List.drop_eq_getElem_cons hi
  rw [h] at h2
  injection h2 with h3 h4
  exact ⟨by rw [List.getElem?_eq_getElem hi, h3], h4.symm, hi⟩
theorem drop_past {ns x y : List Int} {i : Nat} (h : ns.drop i = x ++ y) : ns.drop (i + x.length) = y := by
  rw [← List.drop_drop, h, List.drop_left]
/-- a state of the specification, as it lies in the heap: at a; F: what it may touch -/
abbrev Rep := Hp → Addr → Lf02.St → (Addr → Prop) → Prop
def Frames (SA : Rep) : Prop := ∀ (H H' : Hp) (a : Addr) (st : Lf02.St) (F : Addr → Prop), (∀ b o, F b → H b = some o → H' b = some o) → SA H a st F → SA H' a st F
def Tracks (SA : Rep) : Prop := ∀ (H : Hp) (a : Addr) (st : Lf02.St) (F : Addr → Prop), SA H a st F → ∀ b, F b → ∃ o, H b = some o
/-- the list of calls stays to be read -/
def Stays (K : PySem.W.Frag) (pc : Addr) (ns : List Int) (H : Hp) (F : Addr → Prop) : Prop := (∀ H' : Hp, SqL K H' pc (intsV ns)) ∨ (Rd H pc (.lst (intsV ns)) ∧ ¬ F pc)
theorem Stays.sq {K : PySem.W.Frag} {pc : Addr} {ns : List Int} {H : Hp} {F : Addr → Prop} (h : Stays K pc ns H F) : SqL K H pc (intsV ns) := by
  rcases h with h | h
  · exact h H
  · exact .inl h.1
theorem rd_some {H : Hp} {a : Addr} {u : HO} (h : Rd H a u) : ∃ o, H a = some o := by
  rcases h with h | ⟨o, h⟩
  · exact ⟨_, h⟩
  · exact ⟨_, h⟩
theorem rd_keep {H H' : Hp} {a : Addr} {u : HO} (h : Rd H a u) (k : ∀ o, H a = some o → H' a = some o) : Rd H' a u := by
  rcases h with h | ⟨o, h⟩
  · exact .inl (k _ h)
  · exact .inr ⟨o, k _ h⟩
theorem Stays.same {K : PySem.W.Frag} {pc : Addr} {ns : List Int} {H H' : Hp} {F : Addr → Prop} (h : Stays K pc ns H F) (s : Same H H') : Stays K pc ns H' F := by
  rcases h with h | h
  · exact .inl h
  · exact .inr ⟨rd_keep h.1 fun o e => s _ _ e, h.2⟩
/-- what a call's own function promises -/
def spA (K : PySem.W.Frag) (SA : Rep) (Ok : Lf02.St → Prop) (p : Int) : Sp := fun vs H Q _ => ∃ (a pn pr : Addr) (st : Lf02.St) (F : Addr → Prop) (nums row : List Int), vs = [.ref a, .ref pn, .ref pr] ∧ SA H a st F ∧ Ok st ∧
  H pn = some (.lst (intsV nums)) ∧ H pr = some (.lst (intsV row)) ∧ ¬ F pn ∧ ¬ F pr ∧ nums.length = nOf p ∧ row.length ≤ 12 ∧ (hasRow p = false → row = []) ∧ (∀ x ∈ nums, 0 ≤ x ∧ x ≤ 4294967295) ∧ (∀ x ∈ row, 0 ≤ x ∧ x ≤ 4294967295) ∧
  ∀ (H' : Hp) (F' : Addr → Prop) (q : Addr), SA H' a (Lf02Neutral.step st (p :: (nums ++ row))).1 F' → (∀ b o, H b = some o → ¬ F b → H' b = some o) → (∀ b, F' b → F b ∨ H b = none ∨ b = pn ∨ b = pr) → H q = none → ¬ F' q →
    H' q = some (.lst (intsV (Lf02Neutral.step st (p :: (nums ++ row))).2)) → Q (.ref q) H'
/-- Chain() -/
def spC0 (C : Addr) (SA : Rep) : Sp := fun vs H Q _ => ∃ (x dx : Addr), vs = [.ref x] ∧ H x = some (.ins C dx []) ∧
  ∀ (H' : Hp) (F : Addr → Prop), SA H' x Lf02.init F → But x H H' → (∀ b, F b → b = x ∨ H b = none) → Q .non H'
/-- the table of calls -/
structure TCalls (K : PySem.W.Frag) (mg : Str → Option Value) (SA : Rep) (Ok : Lf02.St → Prop) (S : Addr → Sp → Prop) (aC : Addr) (tcs : List Addr) : Prop where
  g : mg "CALLS" = some (.ref aC)
  h : ∀ H : Hp, SqT K H aC (tcs.map V.ref)
  at_ : ∀ p : Int, 0 ≤ p → p ≤ 10 → ∃ tc f, tcs[p.toNat]? = some tc ∧ (∀ H : Hp, SqT K H tc [.ref f, .int (nOf p), .bl (hasRow p)]) ∧ S f (spA K SA Ok p)
def tTail (K : PySem.W.Frag) (S : Addr → Sp → Prop) : TS := tSeq (tAsg (tCallR 5 S (tCons (tVar 1) (tCons (tVar 6) (tCons (tVar 7) tNil)))) (gName 8))
  (tSeq (tDrop (tBM K "list" rAppend (tVar 2) (tCons (tCB (fun xs H Q => ∃ p ys, xs = [V.ref p] ∧ (SqL K H p ys ∨ SqT K H p ys) ∧ Q (.int ys.length) H) (tCons (tVar 8) tNil)) tNil))) (tDrop (tBM K "list" rExtend (tVar 2) (tCons (tVar 8) tNil))))
section
variable {P : Program} {w : World} {K : PySem.W.Frag} {mg : Str → Option Value} {base : Heap} {C : Addr} {SA : Rep} {Ok : Lf02.St → Prop} {S : Addr → Sp → Prop} {aC : Addr} {tcs : List Addr}
abbrev sAns : Stmt := top 48
def spAns (K : PySem.W.Frag) : Sp := fun vs H Q _ => ∃ (pc : Addr) (ns : List Int), vs = [.ref pc] ∧ SqL K H pc (intsV ns) ∧ (∀ x ∈ ns, 0 ≤ x ∧ x ≤ 4294967295) ∧ PyLf02.answers_asked ns = true ∧
  ∀ (H' : Hp) (q : Addr), H' q = some (.lst (intsV (PyLf02.answers ns))) → Q (.ref q) H'
theorem scAns : FnScope ["calls", "chain", "given", "at", "call", "answer_call", "numbers", "row", "answer"] ["calls"] (defScope sAns) := ⟨rfl, rfl, rfl, by decide +kernel, rfl, by decide +kernel, by decide +kernel⟩
theorem ok_ans {k : Nat} {f f0 : Addr} {fd fd0 : FuncData} (F : Fun K "answers" "answers" sAns f fd) (B : Blt mg) (fr : Frames SA) (tr : Tracks SA) (gC : mg "Chain" = some (.ref C)) (M : Mk K C f0) (B0 : Binds K fd0 ["self"] []) (G0 : FnOk P w K mg base CX0 k f0 fd0 ["self"] (spC0 C SA))
    (T : TCalls K mg SA Ok S aC tcs) (A0 : ∀ f sp, S f sp → Held P w K mg base (k + 1) f sp) (ok0 : Ok Lf02.init) (okS : ∀ st p nums row, Ok st → Ok (Lf02Neutral.step st (p :: (nums ++ row))).1) :
    FnOk P w K mg base CX0 (k + 2) f fd ["calls"] (spAns K) := by
  refine F.ok scAns (fun vs H Q E h => ?_) (fun cdv A outer s H vs Q E hr h => ?_)
  · obtain ⟨pc, ns, rfl, _⟩ := h
    rfl
  · obtain ⟨pc, ns, rfl, hc, hns, hask, kk⟩ := h
    refine ⟨_, pss_cons (ps_set (i := 1) scAns.nd rfl (Or.inl rfl) (pe_make0 M G0 hr rfl gC B0 .nil pass0))
      (pss_cons (ps_set (i := 2) scAns.nd rfl (Or.inl rfl) (pe_lst pa_nil))
      (pss_cons (ps_set (i := 3) scAns.nd rfl (Or.inl rfl) (pe_int))
      (pss_cons (ps_while PassesOwn.never (pt_cmpR op_lt (pv 3) (pe_callB call_len_seq (by rfl) B.len PySem.boot_len (pa_cons (pv 0) pa_nil)) (nomark _)) (pss_cons (ps_set (i := 4) scAns.nd rfl (Or.inl rfl) (pe_ix ix_tup (pe_glob rfl T.g (v := .ref aC) rfl) (pe_ix ix_list (pv 0) (pv 3) (fun _ _ => rfl)) (fun _ _ => rfl)))
      (pss_cons (ps_set (i := 5) scAns.nd rfl (Or.inl rfl) (pe_ix ix_tup (pv 4) (pe_int) (fun _ _ => rfl)))
      (pss_cons (ps_set (i := 3) scAns.nd rfl (Or.inl rfl) (pe_op op_add (pv 3) (pe_int)))
      (pss_cons (ps_set (i := 6) scAns.nd rfl (Or.inl rfl) (pe_slice sl_list (pv 0) (po_some (pv 3)) (po_some (pe_op op_add (pv 3) (pe_ix ix_tup (pv 4) (pe_int) (fun _ _ => rfl))))))
      (pss_cons (ps_set (i := 3) scAns.nd rfl (Or.inl rfl) (pe_op op_add (pv 3) (pe_ix ix_tup (pv 4) (pe_int) (fun _ _ => rfl))))
      (pss_cons (ps_set (i := 7) scAns.nd rfl (Or.inl rfl) (pe_lst pa_nil))
      (pss_cons (ps_if (pt_val (pe_ix ix_tup (pv 4) (pe_int) (fun _ _ => rfl))) (pss_cons (ps_set (i := 7) scAns.nd rfl (Or.inl rfl) (pe_slice sl_list (pv 0) (po_some (pe_op op_add (pv 3) (pe_int))) (po_some (pe_op op_add (pe_op op_add (pv 3) (pe_int)) (pe_ix ix_list (pv 0) (pv 3) (fun _ _ => rfl))))))
      (pss_one (ps_set (i := 3) scAns.nd rfl (Or.inl rfl) (pe_op op_add (pe_op op_add (pv 3) (pe_int)) (pe_ix ix_list (pv 0) (pv 3) (fun _ _ => rfl)))))) (pss_nil))
      (pss_cons (ps_set (i := 8) scAns.nd rfl (Or.inl rfl) (pe_callR A0 hr (i := 5) rfl (Or.inl rfl) (pa_cons (pv 1) (pa_cons (pv 6) (pa_cons (pv 7) pa_nil)))))
      (pss_cons (ps_expr (pe_bm PySem.F.plainAttrs_list PySem.F.slot_list_append PySem.F.type_list_append mt_append (pv 2) (pa_cons (pe_callB call_len_seq (by rfl) B.len PySem.boot_len (pa_cons (pv 8) pa_nil)) pa_nil)))
      (pss_one (ps_expr (pe_bm PySem.F.plainAttrs_list PySem.F.slot_list_extend PySem.F.type_list_extend mt_extend (pv 2) (pa_cons (pv 8) pa_nil))))))))))))))
      (pss_one (ps_ret (pv 2)))))), ?_⟩
    -- what is asked
    obtain ⟨raw, hraw, hcalls⟩ : ∃ raw, PyFlat.calls PyLf02.shape ns.length ns = some raw ∧ (∀ c ∈ raw, PyInside.call PyLf02.bound c = true) ∧ (PyLf02.answers ns).length ≤ 10000000 := by
      unfold PyLf02.answers_asked at hask
      cases e : PyFlat.calls PyLf02.shape ns.length ns with
      | none => rw [e] at hask; cases hask
      | some raw =>
        rw [e] at hask
        simp only [Bool.and_eq_true] at hask
        refine ⟨raw, rfl, ?_, ?_⟩
        · have h1 := hask.1.1.2
          unfold PyInside.calls at h1
          exact List.all_eq_true.mp h1
        · have h1 := hask.2
          unfold PyFlat.short at h1
          exact of_decide_eq_true h1
    have eA : PyLf02.answers ns = tellFrom Lf02.init raw := by
      unfold PyLf02.answers PyLf02.calls
      rw [hraw]
      rfl
    have hlim := hcalls.2
    have hsz : (10000000 : Nat) ≤ sizeLine := by rw [sizeLine_eq]; decide
    -- chain = Chain()
    intro x dx nx nd ne
    refine ⟨x, dx, rfl, upd_same, fun H1 F1 sa1 but1 f1 => ⟨rfl, ?_⟩⟩
    have s1 : Same H H1 := Same.made nx nd but1
    have nF1 : ∀ b o, H b = some o → ¬ F1 b := fun b o e z => by
      rcases f1 b z with h | h
      · rw [h, nx] at e; cases e
      · rw [upd_ne (ne_of_none e nx), upd_ne (ne_of_none e nd), e] at h; cases h
    have st1 : Stays K pc ns H1 F1 := by
      rcases hc with h | h
      · obtain ⟨o, ho⟩ := rd_some h
        exact .inr ⟨rd_keep h fun o e => s1 _ _ e, nF1 _ _ ho⟩
      · exact .inl fun _ => .inr h
    -- given = []
    refine ⟨by show 0 ≤ sizeLine; decide, fun l hl => ?_⟩
    have s2 := sm_new (o := .lst []) hl
    have nl : ¬ F1 l := fun z => by
      obtain ⟨o, ho⟩ := tr _ _ _ _ sa1 l z
      rw [hl] at ho
      cases ho
    have sa2 := fr _ _ _ _ _ (fun b o _ e => s2 _ _ e) sa1
    have st2 : Stays K pc ns H1 (fun b => F1 b ∨ b = l) := by
      rcases st1 with h | ⟨h, h'⟩
      · exact .inl h
      · refine .inr ⟨h, fun z => ?_⟩
        rcases z with z | z
        · exact h' z
        · obtain ⟨o, ho⟩ := rd_some h
          rw [z, hl] at ho
          cases ho
    -- the loop
    refine ⟨fun m σ H' => ∃ (at_ : Nat) (st : Lf02.St) (F' : Addr → Prop) (v4 v5 v6 v7 v8 : Option V) (out : List Int) (fu : Nat) (rest : List (List (List Int))), m = rest.length ∧
        σ = [some (.ref pc), some (.ref x), some (.ref l), some (.int at_), v4, v5, v6, v7, v8] ∧ SA H' x st F' ∧ Ok st ∧ ¬ F' l ∧ Stays K pc ns H' (fun b => F' b ∨ b = l) ∧ H' l = some (.lst (intsV out)) ∧ at_ ≤ ns.length ∧
        PyFlat.calls PyLf02.shape fu (ns.drop at_) = some rest ∧ PyLf02.answers ns = out ++ tellFrom st rest ∧ ∀ c ∈ rest, PyInside.call PyLf02.bound c = true,
      ⟨_, 0, Lf02.init, F1, none, none, none, none, none, [], ns.length, raw, rfl, rfl, sa2, ok0, nl, st2.same s2, upd_same, Nat.zero_le _, hraw, eA, hcalls.1⟩, ?_⟩
    · rintro m σ H3 ⟨at_, st, F3, v4, v5, v6, v7, v8, out, fu, rest, rfl, rfl, sa3, ok3, nl3, st3, hl3, hat, hcs, eq3, hin⟩
      refine ⟨_, rfl, _, rfl, pc, _, rfl, .inl st3.sq, _, _, rfl, rfl, _, rfl, ?_⟩
      rw [intsV_len]
      by_cases hlt : at_ < ns.length
      · refine if_t (decide_eq_true (by omega)) ?_
        have hne : ns.drop at_ ≠ [] := fun z => by
          have := List.drop_eq_nil_iff.mp z
          omega
        obtain ⟨fu', p, nums, row, restL, cs', part, rfl, hcs'⟩ := calls_step hcs hne
        obtain ⟨d1, d2, d3⟩ := drop_head part.eq
        obtain ⟨tc, fa, c1, c2, c3⟩ := T.at_ p part.lo part.hi
        have ep : p = ((p.toNat : Nat) : Int) := by have := part.lo; omega
        refine ⟨_, fun _ _ h => h, ?_⟩
        -- call = CALLS[calls[at]]
        refine ⟨_, rfl, _, rfl, pc, _, _, _, rfl, rfl, st3.sq, atI_nat (intsV_get d1), aC, _, _, .ref tc, rfl, rfl, T.h _, at_of ep (by rw [List.getElem?_map, c1]; rfl), ?_⟩
        refine ⟨_, rfl, tc, _, _, _, rfl, rfl, c2 _, at30, ?_⟩
        refine ⟨_, rfl, _, _, rfl, rfl, ?_⟩
        -- numbers
        refine ⟨_, rfl, _, rfl, _, rfl, _, rfl, _, rfl, tc, _, _, _, rfl, rfl, c2 _, at31, _, _, rfl, rfl, _, rfl, pc, _, rfl, st3.sq, fun pn hpn => ?_⟩
        have ecut : cutV (intsV ns) (some ((at_ : Int) + 1)) (some ((at_ : Int) + 1 + ((nOf p : Nat) : Int))) = intsV nums := by
          have e1 : ((at_ : Int) + 1) = ((at_ + 1 : Nat) : Int) := by omega
          have e2 : ((at_ : Int) + 1 + ((nOf p : Nat) : Int)) = ((at_ + 1 + nums.length : Nat) : Int) := by rw [part.len]; omega
          rw [e2, e1]
          exact cut_ints (by rw [d2, List.append_assoc]) (by omega)
        show tSeq _ _ _ _ (upd H3 pn (.lst (cutV (intsV ns) (some ((at_ : Int) + 1)) (some ((at_ : Int) + 1 + ((nOf p : Nat) : Int))))))
        rw [ecut]
        -- at = at + call[1]
        refine ⟨_, rfl, _, rfl, tc, _, _, _, rfl, rfl, c2 _, at31, _, _, rfl, rfl, ?_⟩
        -- row = []
        refine ⟨by show 0 ≤ sizeLine; decide, fun pr hpr => ?_⟩
        refine ⟨_, rfl, tc, _, _, _, rfl, rfl, c2 _, at32, _, rfl, ?_⟩
        have sA := sm_new (o := .lst (intsV nums)) hpn
        have sB := sm_new (o := .lst []) hpr
        have npn : ¬ F3 pn := fun z => by
          obtain ⟨o, ho⟩ := tr _ _ _ _ sa3 pn z
          rw [hpn] at ho
          cases ho
        have mem_ns : ∀ y ∈ nums ++ rowL row ++ restL, y ∈ ns := fun y hy => by
          rw [← d2] at hy
          exact List.mem_of_mem_drop hy
        have tail : ∀ (pr : Addr) (at' : Nat) (v8 : Option V) (H5 : Hp) (D : Ends), Same H3 H5 → H3 pr = none → H5 pn = some (.lst (intsV nums)) → H5 pr = some (.lst (intsV (row.getD []))) → at' ≤ ns.length → ns.drop at' = restL →
            (∀ σ' H', (∃ m', m' < (rawOf p nums row :: cs').length ∧ ∃ (at_ : Nat) (st : Lf02.St) (F' : Addr → Prop) (v4 v5 v6 v7 v8 : Option V) (out : List Int) (fu : Nat) (rest : List (List (List Int))), m' = rest.length ∧
              σ' = [some (.ref pc), some (.ref x), some (.ref l), some (.int at_), v4, v5, v6, v7, v8] ∧ SA H' x st F' ∧ Ok st ∧ ¬ F' l ∧ Stays K pc ns H' (fun b => F' b ∨ b = l) ∧ H' l = some (.lst (intsV out)) ∧ at_ ≤ ns.length ∧
              PyFlat.calls PyLf02.shape fu (ns.drop at_) = some rest ∧ PyLf02.answers ns = out ++ tellFrom st rest ∧ ∀ c ∈ rest, PyInside.call PyLf02.bound c = true) → D.nx σ' H') →
            tTail K S D [some (.ref pc), some (.ref x), some (.ref l), some (.int at'), some (.ref tc), some (.ref fa), some (.ref pn), some (.ref pr), v8] H5 := by
          intro pr at' v8 H5 D s5 hpr h5n h5r hat' hdr hD
          have npr : ¬ F3 pr := fun z => by
            obtain ⟨o, ho⟩ := tr _ _ _ _ sa3 pr z
            rw [hpr] at ho
            cases ho
          have sa5 := fr _ _ _ _ _ (fun b o _ e => s5 _ _ e) sa3
          have hl5 := s5 _ _ hl3
          have r12 : (row.getD []).length ≤ 12 := by
            have hh := part.has
            cases hrow : row with
            | none => exact Nat.zero_le _
            | some r =>
              rw [hrow] at hh
              have hc0 := hin _ (List.mem_cons_self ..)
              rw [hrow] at hc0
              exact inside_row part.lo part.hi hh.symm hc0
          have nrow : hasRow p = false → row.getD [] = [] := fun z => by
            have hh := part.has
            rw [z] at hh
            cases hrow : row with
            | none => rfl
            | some r => rw [hrow] at hh; cases hh
          have bnum : ∀ y ∈ nums, 0 ≤ y ∧ y ≤ 4294967295 := fun y hy => hns y (mem_ns y (List.mem_append_left _ (List.mem_append_left _ hy)))
          have brow : ∀ y ∈ row.getD [], 0 ≤ y ∧ y ≤ 4294967295 := fun y hy => by
            refine hns y (mem_ns y (List.mem_append_left _ (List.mem_append_right _ ?_)))
            cases hrow : row with
            | none => rw [hrow] at hy; cases hy
            | some r =>
              rw [hrow] at hy
              exact List.mem_cons_of_mem _ hy
          have ew := whole_is part.lo part.hi part.len part.has
          refine ⟨fa, _, rfl, c3, _, rfl, _, rfl, _, rfl, x, pn, pr, st, F3, nums, row.getD [], rfl, sa5, ok3, h5n, h5r, npn, npr, part.len, r12, nrow, bnum, brow, fun H6 F6 q sa6 keep6 f6 nq nFq e6 => ?_⟩
          have hl6 := keep6 _ _ hl5 nl3
          have nql : q ≠ l := fun e => by rw [e, hl5] at nq; cases nq
          have nF6 : ∀ b o, H3 b = some o → ¬ F3 b → ¬ F6 b := fun b o e h z => by
            rcases f6 b z with h' | h' | h' | h'
            · exact h h'
            · rw [s5 _ _ e] at h'; cases h'
            · rw [h', hpn] at e; cases e
            · rw [h', hpr] at e; cases e
          have nl6 := nF6 _ _ hl3 nl3
          -- sizes
          rw [tell_cons, ew] at eq3
          have lA := congrArg List.length eq3
          simp only [List.length_append, List.length_cons] at lA
          -- given.append(len(answer))
          refine ⟨_, rfl, .inl ⟨rfl, _, SqL.of hl6⟩, _, rfl, q, _, rfl, .inl (SqL.of e6), l, _, _, rfl, rfl, hl6, by rw [intsV_len]; omega, ?_⟩
          rw [intsV_len]
          have e7 : (upd H6 l (.lst (intsV out ++ [.int ((Lf02Neutral.step st (p :: (nums ++ row.getD []))).2.length : Int)]))) q = some (.lst (intsV (Lf02Neutral.step st (p :: (nums ++ row.getD []))).2)) := by
            rw [upd_ne nql]
            exact e6
          -- given.extend(answer)
          refine ⟨_, rfl, .inl ⟨rfl, _, SqL.of upd_same⟩, _, rfl, l, q, _, _, rfl, rfl, upd_same, e7, ?_, ?_⟩
          · rw [List.length_append, intsV_len, intsV_len]
            show out.length + 1 + _ ≤ _
            omega
          · refine hD _ _ ⟨cs'.length, Nat.lt_succ_self _, at', (Lf02Neutral.step st (p :: (nums ++ row.getD []))).1, F6, some (.ref tc), some (.ref fa), some (.ref pn), some (.ref pr), some (.ref q),
              out ++ (((Lf02Neutral.step st (p :: (nums ++ row.getD []))).2.length : Int) :: (Lf02Neutral.step st (p :: (nums ++ row.getD []))).2), fu', cs', rfl, rfl, ?_, okS _ _ _ _ ok3, nl6, ?_, ?_, hat', by rw [hdr]; exact hcs', ?_, fun c hc => hin c (List.mem_cons_of_mem _ hc)⟩
            · refine fr _ _ _ _ _ (fun b o hb e => ?_) sa6
              have nb : b ≠ l := fun z => nl6 (z ▸ hb)
              rw [upd_ne nb, upd_ne nb]
              exact e
            · rcases st3 with h | ⟨h1, h2⟩
              · exact .inl h
              · obtain ⟨o, ho⟩ := rd_some h1
                have npl : pc ≠ l := fun z => h2 (.inr z)
                refine .inr ⟨rd_keep h1 fun o e => ?_, fun z => ?_⟩
                · rw [upd_ne npl, upd_ne npl]
                  exact keep6 _ _ (s5 _ _ e) (fun z => h2 (.inl z))
                · rcases z with z | z
                  · exact nF6 _ _ ho (fun z => h2 (.inl z)) z
                  · exact npl z
            · rw [upd_same]
              unfold intsV
              rw [List.map_append, List.map_cons, List.append_assoc]
              rfl
            · rw [eq3, List.append_assoc]
        have hnpn : (upd H3 pn (.lst (intsV nums))) pn = some (.lst (intsV nums)) := upd_same
        cases hrow : row with
        | some r =>
          have hR : hasRow p = true := by
            rw [← part.has, hrow]
            rfl
          refine if_t hR ?_
          -- row = calls[at + 1:at + 1 + calls[at]]
          have e3 : (at_ : Int) + 1 + ((nOf p : Nat) : Int) = ((at_ + 1 + nums.length : Nat) : Int) := by rw [part.len]; omega
          have edr : ns.drop (at_ + 1 + nums.length) = (r.length : Int) :: (r ++ restL) := by
            have z := drop_past (x := nums) (y := rowL row ++ restL) (by rw [d2, List.append_assoc])
            rw [z, hrow]
            rfl
          obtain ⟨g1, g2, g3⟩ := drop_head edr
          have g4 := drop_past g2
          have sqAB := (st3.same (sA.trans sB)).sq
          show tSeq _ _ _ [some (.ref pc), some (.ref x), some (.ref l), some (.int ((at_ : Int) + 1 + ((nOf p : Nat) : Int))), some (.ref tc), some (.ref fa), some (.ref pn), some (.ref pr), v8] _
          rw [e3]
          refine ⟨_, rfl, _, rfl, _, _, rfl, rfl, _, rfl, _, rfl, _, _, rfl, rfl, _, rfl, _, rfl, pc, _, _, _, rfl, rfl, sqAB, atI_nat (intsV_get g1), _, _, rfl, rfl, _, rfl, pc, _, rfl, sqAB, fun pr2 hpr2 => ?_⟩
          have ecut2 : cutV (intsV ns) (some (((at_ + 1 + nums.length : Nat) : Int) + 1)) (some (((at_ + 1 + nums.length : Nat) : Int) + 1 + (r.length : Int))) = intsV r := by
            have e1 : ((at_ + 1 + nums.length : Nat) : Int) + 1 = ((at_ + 1 + nums.length + 1 : Nat) : Int) := by omega
            have e2 : ((at_ + 1 + nums.length : Nat) : Int) + 1 + (r.length : Int) = ((at_ + 1 + nums.length + 1 + r.length : Nat) : Int) := by omega
            rw [e2, e1]
            exact cut_ints g2 (by omega)
          have sC := sm_new (o := .lst (intsV r)) hpr2
          have sABC := (sA.trans sB).trans sC
          show tAsg (tOp (rI0 fun i j => .int (i + j)) (tOp (rI0 fun i j => .int (i + j)) (tVar 3) (tC (.int 1))) (tOp (rIxL K) (tVar 0) (tVar 3))) (gName 3) _ [some (.ref pc), some (.ref x), some (.ref l), some (.int ((at_ + 1 + nums.length : Nat) : Int)), some (.ref tc), some (.ref fa), some (.ref pn), some (.ref pr2), v8] (upd (upd (upd H3 pn (.lst (intsV nums))) pr (.lst [])) pr2 (.lst (cutV (intsV ns) (some (((at_ + 1 + nums.length : Nat) : Int) + 1)) (some (((at_ + 1 + nums.length : Nat) : Int) + 1 + (r.length : Int))))))
          rw [ecut2]
          refine ⟨_, rfl, _, _, rfl, rfl, _, rfl, _, rfl, pc, _, _, _, rfl, rfl, (st3.same sABC).sq, atI_nat (intsV_get g1), _, _, rfl, rfl, ?_⟩
          have e4 : ((at_ + 1 + nums.length : Nat) : Int) + 1 + (r.length : Int) = ((at_ + 1 + nums.length + 1 + r.length : Nat) : Int) := by omega
          have lens : at_ + 1 + nums.length + 1 + r.length ≤ ns.length := by
            have z := congrArg List.length g2
            rw [List.length_drop, List.length_append] at z
            omega
          show tTail K S _ [some (.ref pc), some (.ref x), some (.ref l), some (.int (((at_ + 1 + nums.length : Nat) : Int) + 1 + (r.length : Int))), some (.ref tc), some (.ref fa), some (.ref pn), some (.ref pr2), v8] _
          rw [e4]
          exact tail pr2 (at_ + 1 + nums.length + 1 + r.length) v8 _ _ sABC ((sA.trans sB).free hpr2) (sC _ _ (sB _ _ hnpn)) (by rw [upd_same, hrow]; rfl) lens g4 (fun _ _ h => h)
        | none =>
          have hR : hasRow p = false := by
            rw [← part.has, hrow]
            rfl
          refine if_f hR ?_
          have e3 : (at_ : Int) + 1 + ((nOf p : Nat) : Int) = ((at_ + 1 + nums.length : Nat) : Int) := by rw [part.len]; omega
          have edr : ns.drop (at_ + 1 + nums.length) = restL := by
            have z := drop_past (x := nums) (y := rowL row ++ restL) (by rw [d2, List.append_assoc])
            rw [z, hrow]
            rfl
          have lens : at_ + 1 + nums.length ≤ ns.length := by
            have z := congrArg List.length d2
            rw [List.length_drop, List.length_append, List.length_append] at z
            omega
          show tTail K S _ [some (.ref pc), some (.ref x), some (.ref l), some (.int ((at_ : Int) + 1 + ((nOf p : Nat) : Int))), some (.ref tc), some (.ref fa), some (.ref pn), some (.ref pr), v8] _
          rw [e3]
          exact tail pr (at_ + 1 + nums.length) v8 _ _ (sA.trans sB) (sA.free hpr) (sB _ _ hnpn) (by rw [upd_same, hrow]; rfl) lens edr (fun _ _ h => h)
      · refine if_f (decide_eq_false (by omega)) ?_
        have e0 : ns.drop at_ = [] := List.drop_eq_nil_of_le (by omega)
        rw [e0] at hcs
        have er := calls_nil hcs
        subst er
        rw [tell_nil, List.append_nil] at eq3
        refine ⟨_, rfl, kk _ l ?_⟩
        rw [eq3]
        exact hl3
end
end Fh

namespace Fh
open PySem PySem.Spec PyProof.Rows L2
open Fc
open Lf02 (Frac State Chain Word)
/-! Chain: its attributes -/
def cF (a b c d e f : V) : List (Str × V) := [("last", a), ("letters", b), ("moves", c), ("counted", d), ("learnt_letters", e), ("learnt_moves", f)]
def c3 (a b c : V) : List (Str × V) := [("last", a), ("letters", b), ("moves", c)]
section
variable {a b c d e f y : V}
theorem cF_last : (cF a b c d e f).lookup ("last" : Str) = some a := lk_here
theorem cF_letters : (cF a b c d e f).lookup ("letters" : Str) = some b := (lk_past (by decide +kernel)).trans (lk_here)
theorem cF_moves : (cF a b c d e f).lookup ("moves" : Str) = some c := (lk_past (by decide +kernel)).trans ((lk_past (by decide +kernel)).trans (lk_here))
theorem cF_counted : (cF a b c d e f).lookup ("counted" : Str) = some d := (lk_past (by decide +kernel)).trans ((lk_past (by decide +kernel)).trans ((lk_past (by decide +kernel)).trans (lk_here)))
theorem cF_ll : (cF a b c d e f).lookup ("learnt_letters" : Str) = some e := (lk_past (by decide +kernel)).trans ((lk_past (by decide +kernel)).trans ((lk_past (by decide +kernel)).trans ((lk_past (by decide +kernel)).trans (lk_here))))
theorem cF_lm : (cF a b c d e f).lookup ("learnt_moves" : Str) = some f := (lk_past (by decide +kernel)).trans ((lk_past (by decide +kernel)).trans ((lk_past (by decide +kernel)).trans ((lk_past (by decide +kernel)).trans ((lk_past (by decide +kernel)).trans (lk_here)))))
theorem cF_begin_anew : (cF a b c d e f).lookup ("begin_anew" : Str) = none := (lk_past (by decide +kernel)).trans ((lk_past (by decide +kernel)).trans ((lk_past (by decide +kernel)).trans ((lk_past (by decide +kernel)).trans ((lk_past (by decide +kernel)).trans ((lk_past (by decide +kernel)).trans (rfl))))))
theorem cF_count_nothing : (cF a b c d e f).lookup ("count_nothing" : Str) = none := (lk_past (by decide +kernel)).trans ((lk_past (by decide +kernel)).trans ((lk_past (by decide +kernel)).trans ((lk_past (by decide +kernel)).trans ((lk_past (by decide +kernel)).trans ((lk_past (by decide +kernel)).trans (rfl))))))
theorem cF_count_move : (cF a b c d e f).lookup ("count_move" : Str) = none := (lk_past (by decide +kernel)).trans ((lk_past (by decide +kernel)).trans ((lk_past (by decide +kernel)).trans ((lk_past (by decide +kernel)).trans ((lk_past (by decide +kernel)).trans ((lk_past (by decide +kernel)).trans (rfl))))))
theorem cF_count_letter : (cF a b c d e f).lookup ("count_letter" : Str) = none := (lk_past (by decide +kernel)).trans ((lk_past (by decide +kernel)).trans ((lk_past (by decide +kernel)).trans ((lk_past (by decide +kernel)).trans ((lk_past (by decide +kernel)).trans ((lk_past (by decide +kernel)).trans (rfl))))))
theorem cF_count_way : (cF a b c d e f).lookup ("count_way" : Str) = none := (lk_past (by decide +kernel)).trans ((lk_past (by decide +kernel)).trans ((lk_past (by decide +kernel)).trans ((lk_past (by decide +kernel)).trans ((lk_past (by decide +kernel)).trans ((lk_past (by decide +kernel)).trans (rfl))))))
theorem cF_take_learnt : (cF a b c d e f).lookup ("take_learnt" : Str) = none := (lk_past (by decide +kernel)).trans ((lk_past (by decide +kernel)).trans ((lk_past (by decide +kernel)).trans ((lk_past (by decide +kernel)).trans ((lk_past (by decide +kernel)).trans ((lk_past (by decide +kernel)).trans (rfl))))))
theorem c3_count_nothing : (c3 a b c).lookup ("count_nothing" : Str) = none := (lk_past (by decide +kernel)).trans ((lk_past (by decide +kernel)).trans ((lk_past (by decide +kernel)).trans (rfl)))
theorem cF_p_last : putF "last" y (cF a b c d e f) = cF y b c d e f := put_here
theorem cF_p_letters : putF "letters" y (cF a b c d e f) = cF a y c d e f := (put_past (by decide +kernel)).trans (congrArg _ (put_here))
theorem cF_p_moves : putF "moves" y (cF a b c d e f) = cF a b y d e f := (put_past (by decide +kernel)).trans (congrArg _ ((put_past (by decide +kernel)).trans (congrArg _ (put_here))))
theorem cF_p_counted : putF "counted" y (cF a b c d e f) = cF a b c y e f := (put_past (by decide +kernel)).trans (congrArg _ ((put_past (by decide +kernel)).trans (congrArg _ ((put_past (by decide +kernel)).trans (congrArg _ (put_here))))))
theorem cF_p_ll : putF "learnt_letters" y (cF a b c d e f) = cF a b c d y f := (put_past (by decide +kernel)).trans (congrArg _ ((put_past (by decide +kernel)).trans (congrArg _ ((put_past (by decide +kernel)).trans (congrArg _ ((put_past (by decide +kernel)).trans (congrArg _ (put_here))))))))
theorem cF_p_lm : putF "learnt_moves" y (cF a b c d e f) = cF a b c d e y := (put_past (by decide +kernel)).trans (congrArg _ ((put_past (by decide +kernel)).trans (congrArg _ ((put_past (by decide +kernel)).trans (congrArg _ ((put_past (by decide +kernel)).trans (congrArg _ ((put_past (by decide +kernel)).trans (congrArg _ (put_here))))))))))
end
/-- the attributes, or none of them yet; the three of them that are set first -/
def FsOk (fs : List (Str × V)) : Prop := fs = [] ∨ ∃ a b c d e f, fs = cF a b c d e f
def Fs3 (fs : List (Str × V)) (a b c : V) : Prop := fs = c3 a b c ∨ ∃ d e f, fs = cF a b c d e f
theorem fs_put3 {fs : List (Str × V)} (h : FsOk fs) (a b c : V) : Fs3 (putF "moves" c (putF "letters" b (putF "last" a fs))) a b c := by
  rcases h with rfl | ⟨x, y, z, u, v, w, rfl⟩
  · refine .inl ?_
    have h1 : putF "last" a [] = [(("last" : Str), a)] := rfl
    have h2 : putF "letters" b [(("last" : Str), a)] = [(("last" : Str), a), (("letters" : Str), b)] := (put_past (by decide +kernel)).trans rfl
    have h3 : putF "moves" c [(("last" : Str), a), (("letters" : Str), b)] = c3 a b c := (put_past (by decide +kernel)).trans (congrArg _ ((put_past (by decide +kernel)).trans rfl))
    rw [h1, h2, h3]
  · rw [cF_p_last, cF_p_letters, cF_p_moves]
    exact .inr ⟨_, _, _, rfl⟩
theorem fs_put6 {fs : List (Str × V)} {a b c : V} (h : Fs3 fs a b c) (d e f : V) : putF "learnt_moves" f (putF "learnt_letters" e (putF "counted" d fs)) = cF a b c d e f := by
  rcases h with rfl | ⟨x, y, z, rfl⟩
  · have h1 : putF "counted" d (c3 a b c) = [(("last" : Str), a), (("letters" : Str), b), (("moves" : Str), c), (("counted" : Str), d)] :=
      (put_past (by decide +kernel)).trans (congrArg _ ((put_past (by decide +kernel)).trans (congrArg _ ((put_past (by decide +kernel)).trans rfl))))
    have h2 : putF "learnt_letters" e [(("last" : Str), a), (("letters" : Str), b), (("moves" : Str), c), (("counted" : Str), d)] = [(("last" : Str), a), (("letters" : Str), b), (("moves" : Str), c), (("counted" : Str), d), (("learnt_letters" : Str), e)] :=
      (put_past (by decide +kernel)).trans (congrArg _ ((put_past (by decide +kernel)).trans (congrArg _ ((put_past (by decide +kernel)).trans (congrArg _ ((put_past (by decide +kernel)).trans rfl))))))
    have h3 : putF "learnt_moves" f [(("last" : Str), a), (("letters" : Str), b), (("moves" : Str), c), (("counted" : Str), d), (("learnt_letters" : Str), e)] = cF a b c d e f :=
      (put_past (by decide +kernel)).trans (congrArg _ ((put_past (by decide +kernel)).trans (congrArg _ ((put_past (by decide +kernel)).trans (congrArg _ ((put_past (by decide +kernel)).trans (congrArg _ ((put_past (by decide +kernel)).trans rfl))))))))
    rw [h1, h2, h3]
  · rw [cF_p_counted, cF_p_ll, cF_p_lm]
theorem putF_len (f : Str) (v : V) : ∀ fs : List (Str × V), (putF f v fs).length ≤ fs.length + 1
  | [] => Nat.le_refl _
  | (g, x) :: r => by
    by_cases h : g = f
    · subst h
      rw [put_here]
      exact Nat.le_succ _
    · rw [put_past h]
      have := putF_len f v r
      show (putF f v r).length + 1 ≤ r.length + 1 + 1
      omega
theorem fs3_len {fs : List (Str × V)} {a b c : V} (h : Fs3 fs a b c) : fs.length ≤ 6 := by
  rcases h with rfl | ⟨x, y, z, rfl⟩
  · show 3 ≤ 6; decide
  · show 6 ≤ 6; decide
theorem fsok_len {fs : List (Str × V)} (h : FsOk fs) : fs.length ≤ 6 := by
  rcases h with rfl | ⟨x, y, z, u, v, w, rfl⟩
  · show 0 ≤ 6; decide
  · show 6 ≤ 6; decide
theorem fs3_cons {fs : List (Str × V)} {a b c : V} (h : Fs3 fs a b c) : ∃ r, fs = (("last" : Str), a) :: r := by
  rcases h with rfl | ⟨x, y, z, rfl⟩
  · exact ⟨_, rfl⟩
  · exact ⟨_, rfl⟩
theorem fs3_last {fs : List (Str × V)} {a b c : V} (h : Fs3 fs a b c) (d e : V) : fs.lookup ("last" : Str) = some a ∧ (putF "counted" d fs).lookup ("last" : Str) = some a ∧ (putF "learnt_letters" e (putF "counted" d fs)).lookup ("last" : Str) = some a := by
  obtain ⟨r, rfl⟩ := fs3_cons h
  refine ⟨lk_here, ?_, ?_⟩
  · rw [put_past (by decide +kernel)]
    exact lk_here
  · rw [put_past (by decide +kernel), put_past (by decide +kernel)]
    exact lk_here
theorem fs3_cn {fs : List (Str × V)} {a b c : V} (h : Fs3 fs a b c) : fs.lookup ("count_nothing" : Str) = none := by
  rcases h with rfl | ⟨x, y, z, rfl⟩
  · exact c3_count_nothing
  · exact cF_count_nothing

theorem lsts_frame {H H' : Hp} : ∀ {as : List Addr} {xs : List (List V)}, Lsts H as xs → (∀ b o, b ∈ as → H b = some o → H' b = some o) → Lsts H' as xs
  | _, _, .nil, _ => .nil
  | _, _, .cons r t, k => .cons (k _ _ (List.mem_cons_self ..) r) (lsts_frame t fun b o m e => k b o (List.mem_cons_of_mem _ m) e)

theorem stK_inj {s t : State} (h : stK s = stK t) : s = t := by
  obtain ⟨a, b⟩ := s
  obtain ⟨x, y⟩ := t
  simp only [stK, List.cons.injEq, Sum.inl.injEq, and_true] at h
  have h1 : a = x := by omega
  have h2 : b = y := by omega
  rw [h1, h2]
theorem But.free {a u : Addr} {o : HO} {H H' : Hp} (x : But a H H') (ha : H' a = some o) (h : H' u = none) : H u = none := by
  cases e : H u with
  | none => rfl
  | some q =>
    by_cases n : u = a
    · rw [n, ha] at h; cases h
    · rw [x _ _ e n] at h; cases h
theorem Lsts.snoc {H : Hp} {as : List Addr} {xs : List (List V)} {u : Addr} {x : List V} (h : Lsts H as xs) (hu : H u = some (.lst x)) : Lsts H (as ++ [u]) (xs ++ [x]) := Paired.snoc h hu
theorem plain_moves (k : Nat) (s : State) : Lf02.movesOf (Lf02.plainChain k) s = (1, 1, if s.place = k then 0 else 1) := rfl

/-- weights as they lie in the heap, with all that they may touch: a list of lists of letters' weights, a dict of lists of moves' weights -/
structure Blk (H : Hp) (pl pm : Addr) (k : Nat) (g : List (List Nat)) (mv : State → Nat × Nat × Nat) (ls : List Addr) (kvs : List (List Key × V)) (F : Addr → Prop) : Prop where
  hl : H pl = some (.lst (ls.map V.ref))
  hls : Lsts H ls (g.map natsV)
  hm : H pm = some (.dT kvs)
  hms : ∀ s, IsS k s → ∃ pa, valV kvs (stK s) = some (.ref pa) ∧ H pa = some (.lst (mvV (mv s)))
  no : ∀ s, ¬ IsS k s → valV kvs (stK s) = none
  few : kvs.length ≤ 200
  fl : F pl
  fm : F pm
  fls : ∀ b ∈ ls, F b
  fvs : ∀ s b, IsS k s → valV kvs (stK s) = some (.ref b) → F b
  tr : ∀ b, F b → ∃ o, H b = some o
theorem Blk.frame {H H' : Hp} {pl pm : Addr} {k : Nat} {g : List (List Nat)} {mv : State → Nat × Nat × Nat} {ls : List Addr} {kvs : List (List Key × V)} {F : Addr → Prop} (h : Blk H pl pm k g mv ls kvs F)
    (q : ∀ b o, F b → H b = some o → H' b = some o) : Blk H' pl pm k g mv ls kvs F := by
  refine ⟨q _ _ h.fl h.hl, lsts_frame h.hls fun b o m e => q b o (h.fls b m) e, q _ _ h.fm h.hm, fun s hs => ?_, h.no, h.few, h.fl, h.fm, h.fls, h.fvs, fun b hb => ?_⟩
  · obtain ⟨pa, h1, h2⟩ := h.hms s hs
    exact ⟨pa, h1, q _ _ (h.fvs s pa hs h1) h2⟩
  · obtain ⟨o, ho⟩ := h.tr b hb
    exact ⟨o, q _ _ hb ho⟩
theorem Blk.mv {H : Hp} {pl pm : Addr} {k : Nat} {g : List (List Nat)} {mv mv' : State → Nat × Nat × Nat} {ls : List Addr} {kvs : List (List Key × V)} {F : Addr → Prop} (h : Blk H pl pm k g mv ls kvs F) (e : ∀ s, IsS k s → mv s = mv' s) : Blk H pl pm k g mv' ls kvs F :=
  ⟨h.hl, h.hls, h.hm, fun s hs => by
    obtain ⟨pa, h1, h2⟩ := h.hms s hs
    exact ⟨pa, h1, by rw [← e s hs]; exact h2⟩, h.no, h.few, h.fl, h.fm, h.fls, h.fvs, h.tr⟩
/-- no two of the lists are the same -/
structure Sep (k : Nat) (ls : List Addr) (kvs : List (List Key × V)) : Prop where
  nd : ls.Nodup
  inj : ∀ s t b, valV kvs (stK s) = some (.ref b) → valV kvs (stK t) = some (.ref b) → s = t
  ap : ∀ s b, valV kvs (stK s) = some (.ref b) → b ∉ ls
/-- the lists of weights are not the list of them -/
theorem Blk.apart {H : Hp} {pl pm : Addr} {k : Nat} {g : List (List Nat)} {mv : State → Nat × Nat × Nat} {ls : List Addr} {kvs : List (List Key × V)} {F : Addr → Prop} (h : Blk H pl pm k g mv ls kvs F) (hg : ∀ x ∈ g, x ≠ []) (h0 : g ≠ []) :
    (∀ b ∈ ls, b ≠ pl) ∧ ∀ s b, IsS k s → valV kvs (stK s) = some (.ref b) → b ≠ pl := by
  have nls : ls ≠ [] := fun e => by
    have := h.hls.length
    rw [e, List.length_map] at this
    exact h0 (List.length_eq_zero_iff.mp this.symm)
  have key : ∀ (l : List Nat), l ≠ [] → ls.map V.ref ≠ natsV l := fun l hl e => by
    cases ls with
    | nil => exact nls rfl
    | cons x ls =>
      cases l with
      | nil => exact hl rfl
      | cons y l => simp [natsV] at e
  refine ⟨fun b hb e => ?_, fun s b hs hv e => ?_⟩
  · obtain ⟨j, hj, ej⟩ := List.getElem_of_mem hb
    have hj2 : j < g.length := by
      have := h.hls.length
      rw [List.length_map] at this
      omega
    obtain ⟨a', ha', hl'⟩ := h.hls.get (i := j) (x := natsV g[j]) (by rw [List.getElem?_map, List.getElem?_eq_getElem hj2]; rfl)
    have : a' = b := Option.some.inj (ha'.symm.trans (by rw [List.getElem?_eq_getElem hj, ej]))
    rw [this, e, h.hl] at hl'
    exact key _ (hg _ (List.getElem_mem hj2)) (HO.lst.inj (Option.some.inj hl'))
  · obtain ⟨pa, q1, q2⟩ := h.hms s hs
    rw [q1] at hv
    cases hv
    rw [e, h.hl] at q2
    exact key _ (fun z => by cases z) (HO.lst.inj (Option.some.inj q2))
/-- new lists, none of which stood before -/
def NewL (H H' : Hp) (k : Nat) (p : Addr) (ls : List Addr) : Prop := Same H H' ∧ H p = none ∧ H' p = some (.lst (ls.map V.ref)) ∧ Lsts H' ls (List.replicate (k + 1) (natsV [1, 1, 1, 1])) ∧ (∀ b ∈ ls, H b = none) ∧ ls.Nodup
def NewM (H H' : Hp) (k : Nat) (p : Addr) (kvs : List (List Key × V)) : Prop := Same H H' ∧ H p = none ∧ H' p = some (.dT kvs) ∧ kvs.length ≤ 200 ∧
  (∀ s, IsS k s → ∃ pa, valV kvs (stK s) = some (.ref pa) ∧ H pa = none ∧ H' pa = some (.lst (mvV (1, 1, if s.place = k then 0 else 1)))) ∧ (∀ s, ¬ IsS k s → valV kvs (stK s) = none) ∧
  (∀ s t b, valV kvs (stK s) = some (.ref b) → valV kvs (stK t) = some (.ref b) → s = t)
theorem lsts_mem {H : Hp} : ∀ {as : List Addr} {xs : List (List V)}, Lsts H as xs → ∀ b ∈ as, ∃ x, H b = some (.lst x)
  | _, _, .nil, b, hb => by cases hb
  | _, _, .cons r t, b, hb => by
    rcases List.mem_cons.mp hb with e | e
    · rw [e]; exact ⟨_, r⟩
    · exact lsts_mem t b e
/-- both together -/
theorem blk_new {H H1 H2 H3 H4 : Hp} {k : Nat} {pl pm : Addr} {ls : List Addr} {kvs : List (List Key × V)} {x : Addr} (hx0 : ∃ o, H x = some o) (hx2 : ∃ o, H2 x = some o) (n1 : NewL H H1 k pl ls) (b1 : But x H1 H2) (n2 : NewM H2 H3 k pm kvs) (b2 : But x H3 H4) :
    ∃ F : Addr → Prop, Blk H4 pl pm k (List.replicate (k + 1) [1, 1, 1, 1]) (fun s => (1, 1, if s.place = k then 0 else 1)) ls kvs F ∧ Sep k ls kvs ∧ (∀ b, F b → H b = none) ∧ But x H H4 := by
  obtain ⟨s1, f1, e1, l1, g1, nd⟩ := n1
  obtain ⟨s2, f2, e2, few, m2, no, inj⟩ := n2
  obtain ⟨ox, hox⟩ := hx0
  obtain ⟨o2, ho2⟩ := hx2
  have nx0 : ∀ b, H b = none → b ≠ x := fun b hb z => by rw [z, hox] at hb; cases hb
  have nx2 : ∀ b, H2 b = none → b ≠ x := fun b hb z => by rw [z, ho2] at hb; cases hb
  have bb : But x H H2 := (But.of s1).trans b1
  have free2 : ∀ b, H2 b = none → H b = none := fun b hb => bb.free ho2 hb
  have up : ∀ b o, H1 b = some o → b ≠ x → H4 b = some o := fun b o e n => b2 _ _ (s2 _ _ (b1 _ _ e n)) n
  have isS : ∀ s b, valV kvs (stK s) = some (.ref b) → IsS k s := fun s b e => Classical.byContradiction fun z => by rw [no s z] at e; cases e
  have leaf : ∀ s b, valV kvs (stK s) = some (.ref b) → H2 b = none ∧ H3 b = some (.lst (mvV (1, 1, if s.place = k then 0 else 1))) := fun s b e => by
    obtain ⟨pa, q1, q2, q3⟩ := m2 s (isS s b e)
    rw [q1] at e
    cases e
    exact ⟨q2, q3⟩
  refine ⟨fun b => b = pl ∨ b = pm ∨ b ∈ ls ∨ ∃ s, valV kvs (stK s) = some (.ref b), ⟨up _ _ e1 (nx0 _ f1), ?_, b2 _ _ e2 (nx2 _ f2), fun s hs => ?_, no, few, .inl rfl, .inr (.inl rfl), fun b hb => .inr (.inr (.inl hb)), fun s b _ e => .inr (.inr (.inr ⟨s, e⟩)), ?_⟩, ⟨nd, inj, fun s b e hb => ?_⟩, ?_, bb.trans ((But.of s2).trans b2)⟩
  · have er : (List.replicate (k + 1) [1, 1, 1, 1]).map natsV = List.replicate (k + 1) (natsV [1, 1, 1, 1]) := List.map_replicate
    rw [er]
    exact lsts_frame l1 fun b o m e => up b o e (nx0 b (g1 b m))
  · obtain ⟨pa, q1, q2, q3⟩ := m2 s hs
    exact ⟨pa, q1, b2 _ _ q3 (nx2 _ q2)⟩
  · rintro b (rfl | rfl | hb | ⟨s, e⟩)
    · exact ⟨_, up _ _ e1 (nx0 _ f1)⟩
    · exact ⟨_, b2 _ _ e2 (nx2 _ f2)⟩
    · obtain ⟨y, hy⟩ := lsts_mem l1 b hb
      exact ⟨_, up _ _ hy (nx0 b (g1 b hb))⟩
    · have z := leaf s b e
      exact ⟨_, b2 _ _ z.2 (nx2 _ z.1)⟩
  · obtain ⟨y, hy⟩ := lsts_mem l1 b hb
    have z := leaf s b e
    rw [b1 _ _ hy (nx2 b z.1)] at z
    cases z.1
  · rintro b (rfl | rfl | hb | ⟨s, e⟩)
    · exact f1
    · exact free2 _ f2
    · exact g1 b hb
    · exact free2 _ (leaf s b e).1
section
variable {P : Program} {w : World} {K : PySem.W.Frag} {mg : Str → Option Value} {base : Heap} {C : Addr}
abbrev sFL : Stmt := top 30
abbrev sFM : Stmt := top 31
def spFL : Sp := fun vs H Q _ => ∃ k : Nat, vs = [.int k] ∧ k ≤ 4 ∧ ∀ (H' : Hp) (p : Addr) (ls : List Addr), NewL H H' k p ls → Q (.ref p) H'
def spFM : Sp := fun vs H Q _ => ∃ k : Nat, vs = [.int k] ∧ k ≤ 4 ∧ ∀ (H' : Hp) (p : Addr) (kvs : List (List Key × V)), NewM H H' k p kvs → Q (.ref p) H'
theorem scFL : FnScope ["last", "place"] ["last"] (defScope sFL) := ⟨rfl, rfl, rfl, by decide +kernel, rfl, by decide +kernel, by decide +kernel⟩
theorem scFM : FnScope ["last", "moves", "state", "leaving"] ["last"] (defScope sFM) := ⟨rfl, rfl, rfl, by decide +kernel, rfl, by decide +kernel, by decide +kernel⟩
theorem ok_fl {f : Addr} {fd : FuncData} (F : Fun K "first_letters" "first_letters" sFL f fd) (B : Blt mg) : FnOk P w K mg base CX0 1 f fd ["last"] spFL := by
  refine F.ok scFL (fun vs H Q E h => ?_) (fun cdv A outer s H vs Q E hr h => ?_)
  · obtain ⟨k, rfl, _⟩ := h
    rfl
  · obtain ⟨k, rfl, k4, kk⟩ := h
    refine ⟨_, pss_one (ps_ret (pe_lc (own := [("place", 1)]) (g := gName 1) (tt := tYes) rfl scFL.nd (pi_range1 rfl B.range (pa_cons (pe_op op_add (pv 0) pe_int) pa_nil))
          (blkOk_by (N := ["last", "place"]) (sc := defScope sFL) (by decide +kernel)) (fun _ _ _ _ _ => pg_name (i := 1) scFL.nd rfl (Or.inl rfl)) (fun _ _ _ _ _ => pts_nil)
          (fun _ _ _ _ _ => pe_lst (pa_cons pe_int (pa_cons pe_int (pa_cons pe_int (pa_cons pe_int pa_nil))))))), ?_⟩
    refine ⟨_, rfl, _, _, rfl, rfl, (k : Int) + 1, rfl, by omega, by omega, fun D hD => ?_⟩
    have en : ((k : Int) + 1).toNat = k + 1 := by omega
    rw [en]
    refine lc_it (walk_range (lo := 0) (n := k + 1)) (fun i H' => ∃ ls : List Addr, Same H H' ∧ H' D = some (.lst (ls.map V.ref)) ∧ Lsts H' ls (List.replicate i (natsV [1, 1, 1, 1])) ∧ (∀ b ∈ ls, H b = none ∧ b ≠ D) ∧ ls.length = i ∧ ls.Nodup)
      ⟨[], sm_new hD, upd_same, .nil, fun b hb => (by cases hb), rfl, List.nodup_nil⟩ (fun _ _ _ _ => trivial) ?_ ?_
    · rintro i x H2 H2' hi ⟨ls, s2, e2, l2, n2, len2, nd2⟩ ⟨rfl, rfl⟩
      refine ⟨rfl, ?_⟩
      refine ⟨by show 4 ≤ sizeLine; decide, fun u hu' => ?_⟩
      have s3 := sm_new (o := .lst [.int 1, .int 1, .int 1, .int 1]) hu'
      have e3 := s3 _ _ e2
      have nuD : u ≠ D := fun e => by rw [e, e2] at hu'; cases hu'
      have nul : u ∉ ls := fun e => by
        obtain ⟨y, hy⟩ := lsts_mem l2 u e
        rw [hu'] at hy
        cases hy
      refine ⟨_, e3, small1000 (by rw [List.length_map]; omega), ls ++ [u], sm_mut (s2.trans s3) hD, ?_, ?_, ?_, ?_, ?_⟩
      · rw [upd_same, List.map_append]
        rfl
      · rw [List.replicate_succ']
        refine Lsts.snoc (lsts_frame (l2.keep s3) fun b o m e => ?_) ?_
        · rw [upd_ne (n2 b m).2]
          exact e
        · rw [upd_ne nuD, upd_same]
          rfl
      · intro b hb
        rcases List.mem_append.mp hb with h | h
        · exact n2 b h
        · rw [List.mem_singleton.mp h]
          exact ⟨s2.free hu', nuD⟩
      · rw [List.length_append, len2]
        rfl
      · refine List.nodup_append.mpr ⟨nd2, List.nodup_cons.mpr ⟨(fun z => by cases z), List.nodup_nil⟩, fun a ha b hb => ?_⟩
        rw [List.mem_singleton.mp hb]
        exact fun z => nul (z ▸ ha)
    · rintro H2 ⟨ls, s2, e2, l2, n2, len2, nd2⟩
      exact kk H2 D ls ⟨s2, hD, e2, l2, fun b hb => (n2 b hb).1, nd2⟩
theorem ok_fm {f f1 : Addr} {fd fd1 : FuncData} (F : Fun K "first_moves" "first_moves" sFM f fd) (D1 : Dn K mg "states_of" sStates ["last"] f1 fd1) (G1 : FnOk P w K mg base CX0 1 f1 fd1 ["last"] spStates) : FnOk P w K mg base CX0 2 f fd ["last"] spFM := by
  refine F.ok scFM (fun vs H Q E h => ?_) (fun cdv A outer s H vs Q E hr h => ?_)
  · obtain ⟨k, rfl, _⟩ := h
    rfl
  · obtain ⟨k, rfl, k4, kk⟩ := h
    have hu := hu_of hr
    refine ⟨_, pss_cons (ps_set (i := 1) scFM.nd rfl (Or.inl rfl) pe_dnewT)
      (pss_cons (ps_for PassesOwn.never rfl (pi_list (pe_call G1 hr rfl D1.g D1.F.kp D1.b .nil pass0 (pa_cons (pv 0) pa_nil))) (pg_name (i := 2) scFM.nd rfl (Or.inl rfl))
        (pss_cons (ps_set (i := 3) scFM.nd rfl (Or.inl rfl) (pe_ifExp (pt_cmpR op_eq (pe_ix ix_tup (pv 2) pe_int (fun _ _ => rfl)) (pv 0) (nomark _)) pe_int pe_int))
        (pss_one (ps_dput hu (pv 1) (pv 2) (pe_lst (pa_cons pe_int (pa_cons pe_int (pa_cons (pv 3) pa_nil)))) rfl))))
      (pss_one (ps_ret (pv 1)))), ?_⟩
    intro pm hpm
    have s3 := sm_new (o := .dT []) hpm
    have m3 : (upd H pm (.dT [])) pm = some (.dT []) := upd_same
    show tSeq _ _ _ _ (upd H pm (.dT []))
    revert s3 m3
    generalize upd H pm (.dT []) = H3
    intro s3 m3
    refine ⟨_, rfl, k, rfl, by omega, fun H5 q as s5 nq e5 t5 => ?_⟩
    have las : as.length = (Lf02.states k).length := by rw [t5.length, List.length_map]
    have nqm : q ≠ pm := fun e => by rw [e, m3] at nq; cases nq
    have l14 : (Lf02.states k).length ≤ 14 := by rw [states_len]; omega
    refine ⟨q, rfl, ⟨_, SqL.of e5⟩, ?_⟩
    refine for_list (K := K) (a := q) (xs := as.map V.ref) (fun i σ H' => ∃ (v2 v3 : Option V) (kvs : List (List Key × V)), σ = [some (.int k), some (.ref pm), v2, v3] ∧ But pm H5 H' ∧ H' pm = some (.dT kvs) ∧ kvs.length ≤ i ∧
        (∀ s ∈ (Lf02.states k).take i, ∃ pa, valV kvs (stK s) = some (.ref pa) ∧ H pa = none ∧ H' pa = some (.lst (mvV (1, 1, if s.place = k then 0 else 1)))) ∧ (∀ s, s ∉ (Lf02.states k).take i → valV kvs (stK s) = none) ∧
        (∀ s t b, valV kvs (stK s) = some (.ref b) → valV kvs (stK t) = some (.ref b) → s = t))
      ⟨none, none, [], rfl, But.refl _ _, s5 _ _ m3, Nat.le_refl _, fun s hs => (by cases hs), fun s _ => rfl, fun s t b e => (by cases e)⟩ (fun i σ H' _ ⟨_, _, _, _, b6, _⟩ => SqL.of (b6 _ _ e5 nqm)) ?_ ?_
    · rintro i y σ H6 hy ⟨v2, v3, kvs, rfl, b6, m6, len6, in6, out6, inj6⟩
      rw [List.getElem?_map] at hy
      obtain ⟨sa, hsa1, rfl⟩ := Option.map_eq_some_iff.mp hy
      obtain ⟨hlt, _⟩ := List.getElem?_eq_some_iff.mp hsa1
      obtain ⟨st, hst⟩ : ∃ st, (Lf02.states k)[i]? = some st := ⟨_, List.getElem?_eq_getElem (by omega)⟩
      obtain ⟨sa', i1, i2⟩ := t5.get (i := i) (x := stV st) (by rw [List.getElem?_map, hst]; rfl)
      have eu : sa' = sa := Option.some.inj (i1.symm.trans hsa1)
      subst eu
      have nsa : sa' ≠ pm := fun e => by rw [e, s5 _ _ m3] at i2; cases i2
      have hsa := b6 _ _ i2 nsa
      have all6 : ∀ s b, valV kvs (stK s) = some (.ref b) → ∃ y, H6 b = some (.lst y) := fun s b e => by
        by_cases hm : s ∈ (Lf02.states k).take i
        · obtain ⟨pa, q1, _, q3⟩ := in6 s hm
          rw [q1] at e
          cases e
          exact ⟨_, q3⟩
        · rw [out6 s hm] at e
          cases e
      have last : ∀ (lv : Nat) (D : Ends), lv = (if st.place = k then 0 else 1) → (∀ σ' H', (∃ (v2 v3 : Option V) (kvs : List (List Key × V)), σ' = [some (.int k), some (.ref pm), v2, v3] ∧ But pm H5 H' ∧ H' pm = some (.dT kvs) ∧ kvs.length ≤ i + 1 ∧
            (∀ s ∈ (Lf02.states k).take (i + 1), ∃ pa, valV kvs (stK s) = some (.ref pa) ∧ H pa = none ∧ H' pa = some (.lst (mvV (1, 1, if s.place = k then 0 else 1)))) ∧ (∀ s, s ∉ (Lf02.states k).take (i + 1) → valV kvs (stK s) = none) ∧
            (∀ s t b, valV kvs (stK s) = some (.ref b) → valV kvs (stK t) = some (.ref b) → s = t)) → D.nx σ' H') →
          sDPut (tVar 1) (tVar 2) (tLst (tCons (tC (.int 1)) (tCons (tC (.int 1)) (tCons (tVar 3) tNil)))) D [some (.int k), some (.ref pm), some (.ref sa'), some (.int lv)] H6 := by
        intro lv D hlv hD
        refine ⟨_, rfl, by show 3 ≤ sizeLine; decide, fun u hu' => ?_⟩
        have s7 := sm_new (o := .lst [.int 1, .int 1, .int lv]) hu'
        have m7 := s7 _ _ m6
        have sa7 := s7 _ _ hsa
        have num : u ≠ pm := fun z => by rw [z, m6] at hu'; cases hu'
        have nu : H u = none := (s3.trans s5).free (b6.free m6 hu')
        refine ⟨_, rfl, _, rfl, pm, _, rfl, DPut.t (k := stK st) m7 sa7 (small1000 (by omega)), ?_⟩
        refine hD _ _ ⟨some (.ref sa'), some (.int lv), putK kvs (stK st) (.ref u), rfl, (b6.trans (But.of s7)).trans But.upd, upd_same, ?_, ?_, ?_, ?_⟩
        · have := length_putK kvs (stK st) (.ref u)
          omega
        · intro s' hs'
          rw [take_more hst] at hs'
          by_cases es : s' = st
          · subst es
            refine ⟨u, by rw [valV_put, if_pos rfl], nu, ?_⟩
            rw [upd_ne num, upd_same, hlv]
            rfl
          · have hm := (List.mem_append.mp hs').resolve_right fun z => es (List.mem_singleton.mp z)
            obtain ⟨pa, q1, q2, q3⟩ := in6 s' hm
            refine ⟨pa, by rw [valV_put, if_neg fun z => es (stK_inj z)]; exact q1, q2, ?_⟩
            rw [upd_ne fun z => by rw [z, m6] at q3; cases q3]
            exact s7 _ _ q3
        · intro s' hs'
          rw [take_more hst] at hs'
          have es : s' ≠ st := fun z => hs' (List.mem_append_right _ (by rw [z]; exact List.mem_singleton_self _))
          rw [valV_put, if_neg fun z => es (stK_inj z)]
          exact out6 s' fun z => hs' (List.mem_append_left _ z)
        · intro s' t' b e1 e2
          rw [valV_put] at e1 e2
          by_cases c1 : stK s' = stK st
          · rw [if_pos c1] at e1
            by_cases c2 : stK t' = stK st
            · exact stK_inj (c1.trans c2.symm)
            · rw [if_neg c2] at e2
              cases e1
              obtain ⟨y, hy⟩ := all6 t' u e2
              rw [hu'] at hy
              cases hy
          · rw [if_neg c1] at e1
            by_cases c2 : stK t' = stK st
            · rw [if_pos c2] at e2
              cases e2
              obtain ⟨y, hy⟩ := all6 s' u e1
              rw [hu'] at hy
              cases hy
            · rw [if_neg c2] at e2
              exact inj6 s' t' b e1 e2
      refine ⟨_, rfl, sa', _, _, _, rfl, rfl, SqT.of hsa, at1, _, rfl, rfl, _, rfl, ?_⟩
      by_cases e : st.place = k
      · refine if_t (decide_eq_true (by rw [e])) ?_
        exact last 0 _ (by rw [if_pos e]) (fun _ _ h => h)
      · refine if_f (decide_eq_false (fun z => e (by injection z with z; omega))) ?_
        exact last 1 _ (by rw [if_neg e]) (fun _ _ h => h)
    · rintro σ H6 ⟨v2, v3, kvs, rfl, b6, m6, len6, in6, out6, inj6⟩
      rw [List.length_map, las] at len6 in6 out6
      rw [List.take_length] at in6 out6
      refine ⟨_, rfl, kk H6 pm kvs ⟨fun b o e => b6 _ _ (s5 _ _ (s3 _ _ e)) (ne_of_none e hpm), hpm, m6, by omega, fun s hs => in6 s (mem_states.mpr hs), fun s hs => out6 s fun z => hs (mem_states.mp z), inj6⟩⟩
end
end Fh

namespace Fh
open PySem PySem.Spec PyProof.Rows L2
open Fc
open Lf02 (Frac State Chain Word)
/-- a Chain and what it has counted, as they lie in the heap -/
structure ChS (C : Addr) (H : Hp) (a : Addr) (st : Lf02.St) (F : Addr → Prop) (dx pl pm : Addr) (ls : List Addr) (kvs : List (List Key × V)) (F1 : Addr → Prop) (ql qm : Addr) (ms : List Addr) (jvs : List (List Key × V)) (F2 : Addr → Prop) : Prop where
  ins : H a = some (.ins C dx (cF (.int st.chain.k) (.ref pl) (.ref pm) (.int (st.tally.moves.length : Nat)) (.ref ql) (.ref qm)))
  b1 : Blk H pl pm st.chain.k (st.chain.ground :: st.chain.letters) (Lf02.movesOf st.chain) ls kvs F1
  b2 : Blk H ql qm st.chain.k (gl st.chain.k st.tally) (wts st.chain.k st.tally) ms jvs F2
  sep : Sep st.chain.k ms jvs
  fa : F a
  f1 : ∀ b, F1 b → F b
  f2 : ∀ b, F2 b → F b
  all : ∀ b, F b → b = a ∨ F1 b ∨ F2 b
  dis : ∀ b, F1 b → ¬ F2 b
  n1 : ¬ F1 a
  n2 : ¬ F2 a
def SA (C : Addr) : Rep := fun H a st F => ∃ dx pl pm ls kvs F1 ql qm ms jvs F2, ChS C H a st F dx pl pm ls kvs F1 ql qm ms jvs F2
theorem sa_frame (C : Addr) : Frames (SA C) := fun H H' a st F k ⟨dx, pl, pm, ls, kvs, F1, ql, qm, ms, jvs, F2, h⟩ =>
  ⟨dx, pl, pm, ls, kvs, F1, ql, qm, ms, jvs, F2, k _ _ h.fa h.ins, h.b1.frame fun b o hb e => k b o (h.f1 b hb) e, h.b2.frame fun b o hb e => k b o (h.f2 b hb) e, h.sep, h.fa, h.f1, h.f2, h.all, h.dis, h.n1, h.n2⟩
theorem sa_tracks (C : Addr) : Tracks (SA C) := fun H a st F ⟨dx, pl, pm, ls, kvs, F1, ql, qm, ms, jvs, F2, h⟩ b hb => by
  rcases h.all b hb with e | e | e
  · rw [e]; exact ⟨_, h.ins⟩
  · exact h.b1.tr b e
  · exact h.b2.tr b e
theorem sa_rd {C : Addr} {H : Hp} {a : Addr} {st : Lf02.St} {F : Addr → Prop} (h : SA C H a st F) : ChainAt C H a st.chain := by
  obtain ⟨dx, pl, pm, ls, kvs, F1, ql, qm, ms, jvs, F2, h⟩ := h
  exact ⟨_, dx, pl, pm, ls, kvs, h.ins, cF_last, cF_letters, cF_moves, h.b1.hl, h.b1.hls, h.b1.hm, h.b1.hms⟩
/-- nothing but what F says has changed, and no tuple -/
def Frm (F : Addr → Prop) (H H' : Hp) : Prop := (∀ b o, H b = some o → ¬ F b → H' b = some o) ∧ ∀ b xs, H b = some (.tup xs) → H' b = some (.tup xs)
theorem Frm.refl (F : Addr → Prop) (H : Hp) : Frm F H H := ⟨fun _ _ e _ => e, fun _ _ e => e⟩
theorem Frm.trans {F : Addr → Prop} {H H1 H2 : Hp} (x : Frm F H H1) (y : Frm F H1 H2) : Frm F H H2 := ⟨fun b o e n => y.1 b o (x.1 b o e n) n, fun b xs e => y.2 b xs (x.2 b xs e)⟩
theorem Frm.of {F : Addr → Prop} {H H' : Hp} (s : Same H H') : Frm F H H' := ⟨fun b o e _ => s b o e, fun b xs e => s b _ e⟩
theorem ixN_nat {n j : Nat} (h : j < n) : ixN n (j : Int) = some j := by
  unfold ixN
  rw [if_pos (by omega), if_pos (by omega)]
  rfl
theorem natsV_set (l : List Nat) (i x : Nat) : (natsV l).set i (.int (x : Int)) = natsV (l.set i x) := by
  unfold natsV
  rw [List.map_set]
theorem mvV_w3 (v : Nat × Nat × Nat) : mvV v = natsV (w3 v) := rfl
/-- one list of moves' weights is changed -/
theorem Blk.setMv {H : Hp} {pl pm : Addr} {k : Nat} {g : List (List Nat)} {mv mv' : State → Nat × Nat × Nat} {ls : List Addr} {kvs : List (List Key × V)} {F : Addr → Prop} (h : Blk H pl pm k g mv ls kvs F) (sp : Sep k ls kvs) (hg : ∀ x ∈ g, x ≠ []) (h0 : g ≠ [])
    {l : State} {pa : Addr} (hl : IsS k l) (hv : valV kvs (stK l) = some (.ref pa)) (e2 : ∀ s, s ≠ l → mv' s = mv s) : Blk (upd H pa (.lst (mvV (mv' l)))) pl pm k g mv' ls kvs F := by
  obtain ⟨pa', q1, q2⟩ := h.hms l hl
  rw [hv] at q1
  cases q1
  have ap := h.apart hg h0
  have n1 : pl ≠ pa := Ne.symm (ap.2 l pa hl hv)
  have n2 : pm ≠ pa := fun z => by
    have := h.hm
    rw [z, q2] at this
    cases this
  refine ⟨by rw [upd_ne n1]; exact h.hl, lsts_frame h.hls fun b o m e => ?_, by rw [upd_ne n2]; exact h.hm, fun s hs => ?_, h.no, h.few, h.fl, h.fm, h.fls, h.fvs, fun b hb => ?_⟩
  · rw [upd_ne (show b ≠ pa from fun z => sp.ap l pa hv (z ▸ m))]
    exact e
  · obtain ⟨pb, r1, r2⟩ := h.hms s hs
    refine ⟨pb, r1, ?_⟩
    by_cases c : s = l
    · subst c
      rw [hv] at r1
      cases r1
      exact upd_same
    · rw [upd_ne (show pb ≠ pa from fun z => c (sp.inj s l pa (z ▸ r1) hv)), e2 s c]
      exact r2
  · by_cases c : b = pa
    · rw [c]; exact ⟨_, upd_same⟩
    · rw [upd_ne c]; exact h.tr b hb
theorem lsts_set {H : Hp} {x : List V} {pa : Addr} : ∀ {as : List Addr} {xs : List (List V)} (i : Nat), Lsts H as xs → as.Nodup → as[i]? = some pa → Lsts (upd H pa (.lst x)) as (xs.set i x)
  | _, _, _, .nil, _, e => by simp at e
  | _, _, 0, @Paired.cons _ _ _ a y as ys r t, nd, e => by
    have e' : a = pa := by simpa using e
    subst e'
    have nm := (List.nodup_cons.mp nd).1
    refine .cons upd_same (lsts_frame t fun b o m q => ?_)
    rw [upd_ne (show b ≠ a from fun z => nm (z ▸ m))]
    exact q
  | _, _, i + 1, @Paired.cons _ _ _ a y as ys r t, nd, e => by
    have e' : as[i]? = some pa := by simpa using e
    have nm := (List.nodup_cons.mp nd).1
    have hm : pa ∈ as := List.mem_of_getElem? e'
    refine .cons ?_ (lsts_set i t (List.nodup_cons.mp nd).2 e')
    rw [upd_ne (show a ≠ pa from fun z => nm (z ▸ hm))]
    exact r
/-- one list of letters' weights is changed -/
theorem Blk.setLs {H : Hp} {pl pm : Addr} {k : Nat} {g : List (List Nat)} {mv : State → Nat × Nat × Nat} {ls : List Addr} {kvs : List (List Key × V)} {F : Addr → Prop} (h : Blk H pl pm k g mv ls kvs F) (sp : Sep k ls kvs) (hg : ∀ x ∈ g, x ≠ []) (h0 : g ≠ [])
    {i : Nat} {x : List Nat} {pa : Addr} (hv : ls[i]? = some pa) : Blk (upd H pa (.lst (natsV x))) pl pm k (g.set i x) mv ls kvs F := by
  have hm : pa ∈ ls := List.mem_of_getElem? hv
  have ap := h.apart hg h0
  have n1 : pl ≠ pa := Ne.symm (ap.1 pa hm)
  obtain ⟨y, hy⟩ := lsts_mem h.hls pa hm
  have n2 : pm ≠ pa := fun z => by
    have := h.hm
    rw [z, hy] at this
    cases this
  refine ⟨by rw [upd_ne n1]; exact h.hl, ?_, by rw [upd_ne n2]; exact h.hm, fun s hs => ?_, h.no, h.few, h.fl, h.fm, h.fls, h.fvs, fun b hb => ?_⟩
  · rw [List.map_set]
    exact lsts_set i h.hls sp.nd hv
  · obtain ⟨pb, r1, r2⟩ := h.hms s hs
    refine ⟨pb, r1, ?_⟩
    rw [upd_ne (show pb ≠ pa from fun z => sp.ap s pb r1 (z ▸ hm))]
    exact r2
  · by_cases c : b = pa
    · rw [c]; exact ⟨_, upd_same⟩
    · rw [upd_ne c]; exact h.tr b hb
theorem gl_ne {k : Nat} {t : Lf02.Tally} : (∀ x ∈ gl k t, x ≠ []) ∧ gl k t ≠ [] := by
  refine ⟨fun x hx e => ?_, fun e => by cases e⟩
  obtain ⟨j, hj, ej⟩ := List.getElem_of_mem hx
  have hj' : j ≤ k := by rw [gl_len] at hj; omega
  have z := gl_get (t := t) hj'
  rw [List.getElem?_eq_getElem hj, ej, e] at z
  have := congrArg List.length (Option.some.inj z)
  rw [List.length_map, List.length_range] at this
  cases this
theorem gl_set {k : Nat} {t : Lf02.Tally} {s : State} {a : Nat} (hs : s.sort = 0 → s.place ≠ 0) (hk : s.place ≤ k) (h4 : a < 4) : ∃ x, (gl k t)[if s.sort = 0 then s.place else 0]? = some x ∧ x.length = 4 ∧ gl k (addLetter t s a) = (gl k t).set (if s.sort = 0 then s.place else 0) (x.set a (x.getD a 0 + 1)) := by
  obtain ⟨x, h1, h2, h3⟩ := gl_same (t := t) hs hk h4
  refine ⟨x, h1, h2, List.ext_getElem? fun j => ?_⟩
  rw [List.getElem?_set]
  by_cases e : (if s.sort = 0 then s.place else 0) = j
  · rw [if_pos e]
    obtain ⟨hlt, _⟩ := List.getElem?_eq_some_iff.mp h1
    rw [if_pos hlt, ← e]
    exact h3
  · rw [if_neg e]
    by_cases hj : j ≤ k
    · exact gl_other hs hj (fun z => e z.symm)
    · rw [List.getElem?_eq_none (by rw [gl_len]; omega), List.getElem?_eq_none (by rw [gl_len]; omega)]
section
variable {P : Program} {w : World} {K : PySem.W.Frag} {mg : Str → Option Value} {base : Heap} {C : Addr}
abbrev sCInit : Stmt := inClass (top 32) 0
abbrev sCBegin : Stmt := inClass (top 32) 1
abbrev sCN : Stmt := inClass (top 32) 2
abbrev sCM : Stmt := inClass (top 32) 3
abbrev sCL : Stmt := inClass (top 32) 4
abbrev sCW : Stmt := inClass (top 32) 5
abbrev sTL : Stmt := inClass (top 32) 6
theorem scCInit : FnScope ["self"] ["self"] (defScope sCInit) := ⟨rfl, rfl, rfl, by decide +kernel, rfl, by decide +kernel, by decide +kernel⟩
theorem scCBegin : FnScope ["self", "last"] ["self", "last"] (defScope sCBegin) := ⟨rfl, rfl, rfl, by decide +kernel, rfl, by decide +kernel, by decide +kernel⟩
theorem scCN : FnScope ["self"] ["self"] (defScope sCN) := ⟨rfl, rfl, rfl, by decide +kernel, rfl, by decide +kernel, by decide +kernel⟩
theorem scCM : FnScope ["self", "state", "move", "weights"] ["self", "state", "move"] (defScope sCM) := ⟨rfl, rfl, rfl, by decide +kernel, rfl, by decide +kernel, by decide +kernel⟩
theorem scCL : FnScope ["self", "state", "letter", "weights"] ["self", "state", "letter"] (defScope sCL) := ⟨rfl, rfl, rfl, by decide +kernel, rfl, by decide +kernel, by decide +kernel⟩
theorem scCW : FnScope ["self", "states", "word", "left", "made", "state"] ["self", "states", "word"] (defScope sCW) := ⟨rfl, rfl, rfl, by decide +kernel, rfl, by decide +kernel, by decide +kernel⟩
theorem scTL : FnScope ["self"] ["self"] (defScope sTL) := ⟨rfl, rfl, rfl, by decide +kernel, rfl, by decide +kernel, by decide +kernel⟩
abbrev pl1 (k : Nat) : State → Nat × Nat × Nat := fun s => (1, 1, if s.place = k then 0 else 1)
def spCN (C : Addr) : Sp := fun vs H Q _ => ∃ (p dx : Addr) (k : Nat) (fs : List (Str × V)) (b c : V), vs = [.ref p] ∧ k ≤ 4 ∧ H p = some (.ins C dx fs) ∧ Fs3 fs (.int k) b c ∧
  ∀ (H' : Hp) (ql qm : Addr) (ms : List Addr) (jvs : List (List Key × V)) (F2 : Addr → Prop), H' p = some (.ins C dx (cF (.int k) b c (.int 0) (.ref ql) (.ref qm))) → Blk H' ql qm k (List.replicate (k + 1) [1, 1, 1, 1]) (pl1 k) ms jvs F2 → Sep k ms jvs → But p H H' → (∀ b, F2 b → H b = none) → Q .non H'
theorem ok_cn {f f1 f2 : Addr} {fd fd1 fd2 : FuncData} (F : Fun K "count_nothing" "Chain.count_nothing" sCN f fd) (T : TChain K mg C) (D1 : Dn K mg "first_letters" sFL ["last"] f1 fd1) (G1 : FnOk P w K mg base CX0 1 f1 fd1 ["last"] spFL) (D2 : Dn K mg "first_moves" sFM ["last"] f2 fd2) (G2 : FnOk P w K mg base CX0 2 f2 fd2 ["last"] spFM) :
    FnOk P w K mg base CX0 3 f fd ["self"] (spCN C) := by
  refine F.ok scCN (fun vs H Q E h => ?_) (fun cdv A outer s H vs Q E hr h => ?_)
  · obtain ⟨p, dx, k, fs, b, c, rfl, _⟩ := h
    rfl
  · obtain ⟨p, dx, k, fs, b, c, rfl, k4, hp, h3, kk⟩ := h
    have hr1 : Room 1 _ := hr.mono (by decide)
    refine ⟨_, pss_cons (ps_fld (pv 0) pe_int rfl)
      (pss_cons (ps_fld (pv 0) (pe_call G1 hr1 rfl D1.g D1.F.kp D1.b .nil pass0 (pa_cons (pe_fld (pv 0) rfl) pa_nil)) rfl)
      (pss_one (ps_fld (pv 0) (pe_call G2 hr rfl D2.g D2.F.kp D2.b .nil pass0 (pa_cons (pe_fld (pv 0) rfl) pa_nil)) rfl))), ?_⟩
    have l6 := fs3_len h3
    have l7 := putF_len "counted" (.int 0) fs
    refine ⟨_, rfl, p, C, dx, fs, rfl, hp, T.cl, T.nCounted, by omega, ?_⟩
    refine ⟨_, rfl, p, C, dx, _, _, rfl, upd_same, T.cl, T.nLast, (fs3_last h3 (.int 0) .non).2.1, k, rfl, k4, fun H2 ql ms n2 => ?_⟩
    refine ⟨_, rfl, p, C, dx, _, rfl, n2.1 _ _ upd_same, T.cl, T.nLL, by omega, ?_⟩
    have l8 := putF_len "learnt_letters" (.ref ql) (putF "counted" (.int 0) fs)
    refine ⟨_, rfl, p, C, dx, _, _, rfl, upd_same, T.cl, T.nLast, (fs3_last h3 (.int 0) (.ref ql)).2.2, k, rfl, k4, fun H4 qm jvs n4 => ?_⟩
    refine ⟨_, rfl, p, C, dx, _, rfl, n4.1 _ _ upd_same, T.cl, T.nLM, by omega, ?_⟩
    rw [fs_put6 h3]
    obtain ⟨F2, bk, sp, fr, bt⟩ := blk_new ⟨_, upd_same⟩ ⟨_, upd_same⟩ n2 (But.upd (a := p) (o := .ins C dx (putF "learnt_letters" (.ref ql) (putF "counted" (.int 0) fs)))) n4 (But.upd (a := p) (o := .ins C dx (cF (.int k) b c (.int 0) (.ref ql) (.ref qm))))
    exact kk _ ql qm ms jvs F2 upd_same bk sp (But.upd.trans bt) fun b hb => But.upd.free upd_same (fr b hb)
/-- begin_anew -/
def spBegin (C : Addr) : Sp := fun vs H Q _ => ∃ (p dx : Addr) (k : Nat) (fs : List (Str × V)), vs = [.ref p, .int k] ∧ 1 ≤ k ∧ k ≤ 4 ∧ H p = some (.ins C dx fs) ∧ FsOk fs ∧
  ∀ (H' : Hp) (F : Addr → Prop), SA C H' p ⟨Lf02.plainChain k, Lf02.noTally⟩ F → But p H H' → (∀ b, F b → b = p ∨ H b = none) → Q .non H'
theorem plain_gl (k : Nat) : (Lf02.plainChain k).ground :: (Lf02.plainChain k).letters = List.replicate (k + 1) [1, 1, 1, 1] := by
  rw [List.replicate_succ]
  rfl
theorem ok_begin {f f1 f2 f3 : Addr} {fd fd1 fd2 fd3 : FuncData} (F : Fun K "begin_anew" "Chain.begin_anew" sCBegin f fd) (T : TChain K mg C) (D1 : Dn K mg "first_letters" sFL ["last"] f1 fd1) (G1 : FnOk P w K mg base CX0 1 f1 fd1 ["last"] spFL) (D2 : Dn K mg "first_moves" sFM ["last"] f2 fd2) (G2 : FnOk P w K mg base CX0 2 f2 fd2 ["last"] spFM)
    (M : Meth K C "count_nothing" f3) (B3 : Binds K fd3 ["self"] []) (G3 : FnOk P w K mg base CX0 3 f3 fd3 ["self"] (spCN C)) : FnOk P w K mg base CX0 4 f fd ["self", "last"] (spBegin C) := by
  refine F.ok scCBegin (fun vs H Q E h => ?_) (fun cdv A outer s H vs Q E hr h => ?_)
  · obtain ⟨p, dx, k, fs, rfl, _⟩ := h
    rfl
  · obtain ⟨p, dx, k, fs, rfl, k1, k4, hp, hfs, kk⟩ := h
    have hr1 : Room 1 _ := hr.mono (by decide)
    have hr2 : Room 2 _ := hr.mono (by decide)
    refine ⟨_, pss_cons (ps_fld (pv 0) (pv 1) rfl)
      (pss_cons (ps_fld (pv 0) (pe_call G1 hr1 rfl D1.g D1.F.kp D1.b .nil pass0 (pa_cons (pv 1) pa_nil)) rfl)
      (pss_cons (ps_fld (pv 0) (pe_call G2 hr2 rfl D2.g D2.F.kp D2.b .nil pass0 (pa_cons (pv 1) pa_nil)) rfl)
      (pss_one (ps_expr (pe_meth0 (pv 0) T.cl M G3 hr B3 .nil pass0))))), ?_⟩
    have l6 := fsok_len hfs
    have l7 := putF_len "last" (.int k) fs
    refine ⟨_, rfl, _, rfl, p, C, dx, fs, rfl, hp, T.cl, T.nLast, by omega, ?_⟩
    refine ⟨_, rfl, k, rfl, k4, fun H2 pl ls n2 => ?_⟩
    refine ⟨_, rfl, p, C, dx, _, rfl, n2.1 _ _ upd_same, T.cl, T.nLetters, by omega, ?_⟩
    have l8 := putF_len "letters" (.ref pl) (putF "last" (.int k) fs)
    refine ⟨_, rfl, k, rfl, k4, fun H4 pm kvs n4 => ?_⟩
    refine ⟨_, rfl, p, C, dx, _, rfl, n4.1 _ _ upd_same, T.cl, T.nMoves, by omega, ?_⟩
    have h3 := fs_put3 hfs (.int k) (.ref pl) (.ref pm)
    revert h3
    generalize hfs' : putF "moves" (.ref pm) (putF "letters" (.ref pl) (putF "last" (.int k) fs)) = fs'
    intro h3
    obtain ⟨F1, bk, _, fr, bt⟩ := blk_new ⟨_, upd_same⟩ ⟨_, upd_same⟩ n2 (But.upd (a := p) (o := .ins C dx (putF "letters" (.ref pl) (putF "last" (.int k) fs)))) n4 (But.upd (a := p) (o := .ins C dx fs'))
    have p5 : (upd H4 p (.ins C dx fs')) p = some (.ins C dx fs') := upd_same
    revert bk bt p5
    generalize upd H4 p (.ins C dx fs') = H5
    intro bk bt p5
    have b05 : But p H H5 := But.upd.trans bt
    refine ⟨_, rfl, p, dx, fs', rfl, p5, fs3_cn h3, ?_⟩
    refine ⟨p, dx, k, fs', _, _, rfl, k4, p5, h3, fun H6 ql qm ms jvs F2 p6 bk2 sp2 bt2 fr2 => ?_⟩
    have nF1 : ¬ F1 p := fun z => by
      have := fr p z
      rw [upd_same] at this
      cases this
    have nF2 : ¬ F2 p := fun z => by
      have := fr2 p z
      rw [p5] at this
      cases this
    refine kk H6 (fun b => b = p ∨ F1 b ∨ F2 b) ⟨dx, pl, pm, ls, kvs, F1, ql, qm, ms, jvs, F2, p6, ?_, ?_, sp2, .inl rfl, fun b hb => .inr (.inl hb), fun b hb => .inr (.inr hb), fun b hb => hb, fun b h1 h2 => ?_, nF1, nF2⟩ (b05.trans bt2) ?_
    · show Blk H6 pl pm k ((Lf02.plainChain k).ground :: (Lf02.plainChain k).letters) _ ls kvs F1
      rw [plain_gl]
      exact bk.frame fun b o hb e => bt2 _ _ e fun z => nF1 (z ▸ hb)
    · show Blk H6 ql qm k (gl k Lf02.noTally) _ ms jvs F2
      rw [gl_plain]
      exact bk2
    · obtain ⟨o, ho⟩ := bk.tr b h1
      rw [fr2 b h2] at ho
      cases ho
    · rintro b (rfl | hb | hb)
      · exact .inl rfl
      · exact .inr (But.upd.free upd_same (fr b hb))
      · exact .inr (b05.free p5 (fr2 b hb))
theorem ok_cinit {f fB : Addr} {fd dB : FuncData} (F : Fun K "__init__" "Chain.__init__" sCInit f fd) (T : TChain K mg C) (MB : Meth K C "begin_anew" fB) (BB : Binds K dB ["self", "last"] []) (GB : FnOk P w K mg base CX0 4 fB dB ["self", "last"] (spBegin C)) :
    FnOk P w K mg base CX0 5 f fd ["self"] (spC0 C (SA C)) := by
  refine F.ok scCInit (fun vs H Q E h => ?_) (fun cdv A outer s H vs Q E hr h => ?_)
  · obtain ⟨x, dx, rfl, _⟩ := h
    rfl
  · obtain ⟨x, dx, rfl, hx, kk⟩ := h
    refine ⟨_, pss_one (ps_expr (pe_meth (pv 0) T.cl MB GB hr BB .nil pass0 (pa_cons pe_int pa_nil))), ?_⟩
    refine ⟨_, rfl, x, dx, [], rfl, hx, rfl, x, dx, 1, [], rfl, by decide, by decide, hx, .inl rfl, fun H' F' sa b f' => ?_⟩
    exact kk H' F' sa b f'
/-- take_learnt -/
def spTL (C : Addr) : Sp := fun vs H Q _ => ∃ (a : Addr) (st : Lf02.St) (F : Addr → Prop), vs = [.ref a] ∧ SA C H a st F ∧ st.chain.k ≤ 4 ∧
  ∀ (H' : Hp) (F' : Addr → Prop), SA C H' a ⟨Lf02.learnt st.chain.k st.tally, Lf02.noTally⟩ F' → But a H H' → (∀ b, F' b → F b ∨ H b = none) → Q .non H'
theorem ok_tl {f f3 : Addr} {fd fd3 : FuncData} (F : Fun K "take_learnt" "Chain.take_learnt" sTL f fd) (T : TChain K mg C) (M : Meth K C "count_nothing" f3) (B3 : Binds K fd3 ["self"] []) (G3 : FnOk P w K mg base CX0 3 f3 fd3 ["self"] (spCN C)) : FnOk P w K mg base CX0 4 f fd ["self"] (spTL C) := by
  refine F.ok scTL (fun vs H Q E h => ?_) (fun cdv A outer s H vs Q E hr h => ?_)
  · obtain ⟨a, st, F, rfl, _⟩ := h
    rfl
  · obtain ⟨a, st, Fp, rfl, ⟨dx, pl, pm, ls, kvs, F1, ql, qm, ms, jvs, F2, h⟩, k4, kk⟩ := h
    refine ⟨_, pss_cons (ps_fld (pv 0) (pe_fld (pv 0) rfl) rfl)
      (pss_cons (ps_fld (pv 0) (pe_fld (pv 0) rfl) rfl)
      (pss_one (ps_expr (pe_meth0 (pv 0) T.cl M G3 hr B3 .nil pass0)))), ?_⟩
    refine ⟨_, rfl, a, C, dx, _, _, rfl, h.ins, T.cl, T.nLL, cF_ll, _, rfl, a, C, dx, _, rfl, h.ins, T.cl, T.nLetters, by show 6 < 1000; decide, ?_⟩
    rw [cF_p_letters]
    refine ⟨_, rfl, a, C, dx, _, _, rfl, upd_same, T.cl, T.nLM, cF_lm, _, rfl, a, C, dx, _, rfl, upd_same, T.cl, T.nMoves, by show 6 < 1000; decide, ?_⟩
    rw [cF_p_moves, upd_upd]
    have b1 : But a H (upd H a (.ins C dx (cF (.int st.chain.k) (.ref ql) (.ref qm) (.int (st.tally.moves.length : Nat)) (.ref ql) (.ref qm)))) := But.upd
    have p1 : (upd H a (.ins C dx (cF (.int st.chain.k) (.ref ql) (.ref qm) (.int (st.tally.moves.length : Nat)) (.ref ql) (.ref qm)))) a = some (.ins C dx (cF (.int st.chain.k) (.ref ql) (.ref qm) (.int (st.tally.moves.length : Nat)) (.ref ql) (.ref qm))) := upd_same
    revert b1 p1
    generalize upd H a (.ins C dx (cF (.int st.chain.k) (.ref ql) (.ref qm) (.int (st.tally.moves.length : Nat)) (.ref ql) (.ref qm))) = H1
    intro b1 p1
    refine ⟨_, rfl, a, dx, _, rfl, p1, cF_count_nothing, ?_⟩
    refine ⟨a, dx, st.chain.k, _, _, _, rfl, k4, p1, .inr ⟨_, _, _, rfl⟩, fun H6 ql2 qm2 ms2 jvs2 F3 p6 bk3 sp3 bt3 fr3 => ?_⟩
    have b06 := b1.trans bt3
    have nF3 : ¬ F3 a := fun z => by
      have := fr3 a z
      rw [p1] at this
      cases this
    refine kk H6 (fun b => b = a ∨ F2 b ∨ F3 b) ⟨dx, ql, qm, ms, jvs, F2, ql2, qm2, ms2, jvs2, F3, p6, ?_, ?_, sp3, .inl rfl, fun b hb => .inr (.inl hb), fun b hb => .inr (.inr hb), fun b hb => hb, fun b h1 h2 => ?_, h.n2, nF3⟩ b06 ?_
    · have z := h.b2.frame (H' := H6) fun b o hb e => b06 _ _ e fun z => h.n2 (z ▸ hb)
      exact z.mv fun s hs => (moves_learnt hs).symm
    · show Blk H6 ql2 qm2 st.chain.k (gl st.chain.k Lf02.noTally) _ ms2 jvs2 F3
      rw [gl_plain]
      exact bk3
    · obtain ⟨o, ho⟩ := h.b2.tr b h1
      have z := b1 _ _ ho fun z => h.n2 (z ▸ h1)
      rw [fr3 b h2] at z
      cases z
    · rintro b (rfl | hb | hb)
      · exact .inl h.fa
      · exact .inl (h.f2 b hb)
      · exact .inr (b1.free p1 (fr3 b hb))
/-- count_move -/
def spCM (C : Addr) : Sp := fun vs H Q _ => ∃ (a ps : Addr) (st : Lf02.St) (F : Addr → Prop) (l : State) (m : Nat), vs = [.ref a, .ref ps, .int m] ∧ SA C H a st F ∧ H ps = some (.tup (stV l)) ∧ IsS st.chain.k l ∧ m ≤ 2 ∧ (m = 2 → l.place ≠ st.chain.k) ∧
  ∀ H' : Hp, SA C H' a ⟨st.chain, addMove st.tally l m⟩ F → Frm F H H' → Q .non H'
theorem ok_cm {f : Addr} {fd : FuncData} (F : Fun K "count_move" "Chain.count_move" sCM f fd) (T : TChain K mg C) : FnOk P w K mg base CX0 1 f fd ["self", "state", "move"] (spCM C) := by
  refine F.ok scCM (fun vs H Q E h => ?_) (fun cdv A outer s H vs Q E hr h => ?_)
  · obtain ⟨a, ps, st, F, l, m, rfl, _⟩ := h
    rfl
  · obtain ⟨a, ps, st, Fp, l, m, rfl, ⟨dx, pl, pm, ls, kvs, F1, ql, qm, ms, jvs, F2, h⟩, hps, hl, m2, hm, kk⟩ := h
    have hu := hu_of hr
    refine ⟨_, pss_cons (ps_set (i := 3) scCM.nd rfl (Or.inl rfl) (pe_dget hu (pe_fld (pv 0) rfl) (pv 1) (fun _ _ => rfl)))
      (pss_cons (ps_asg (pe_op op_add (pe_ix ix_list (pv 3) (pv 2) (fun _ _ => rfl)) pe_int) (pg_sub (pv 3) (pv 2) set_list))
      (pss_one (ps_fld (pv 0) (pe_op op_add (pe_fld (pv 0) rfl) pe_int) rfl))), ?_⟩
    obtain ⟨pa, v1, v2⟩ := h.b2.hms l hl
    have w3l : (w3 (wts st.chain.k st.tally l)).length = 3 := rfl
    have hx : (w3 (wts st.chain.k st.tally l))[m]? = some ((w3 (wts st.chain.k st.tally l)).getD m 0) := by
      rw [List.getD_eq_getElem?_getD, List.getElem?_eq_getElem (by rw [w3l]; omega), Option.getD_some]
    refine ⟨_, rfl, a, C, dx, _, _, rfl, h.ins, T.cl, T.nLM, cF_lm, _, rfl, qm, .ref pa, rfl, ?_, ?_⟩
    · have g := DGet.t (H := H) (a := qm) (b := ps) (kvs := jvs) (k := stK l) h.b2.hm hps
      rw [v1] at g
      exact g
    refine ⟨_, rfl, _, rfl, pa, _, _, _, rfl, rfl, SqL.of v2, atI_nat (natsV_get hx), _, _, rfl, rfl, ?_⟩
    refine ⟨_, rfl, _, rfl, pa, _, _, m, rfl, rfl, v2, ixN_nat (by show m < 3; omega), ?_⟩
    have ew : (mvV (wts st.chain.k st.tally l)).set m (.int (((w3 (wts st.chain.k st.tally l)).getD m 0 : Nat) + 1)) = mvV (wts st.chain.k (addMove st.tally l m) l) := by
      have e : (((w3 (wts st.chain.k st.tally l)).getD m 0 : Nat) : Int) + 1 = (((w3 (wts st.chain.k st.tally l)).getD m 0 + 1 : Nat) : Int) := by omega
      rw [e, mvV_w3, natsV_set, mvV_w3, wts_same m2 hm]
    have fpa : F2 pa := h.b2.fvs l pa hl v1
    have hap : a ≠ pa := fun z => h.n2 (z ▸ fpa)
    have b2' := h.b2.setMv h.sep gl_ne.1 gl_ne.2 (mv' := wts st.chain.k (addMove st.tally l m)) hl v1 (fun s hs => wts_other hs)
    have fr1 : Frm Fp H (upd H pa (.lst (mvV (wts st.chain.k (addMove st.tally l m) l)))) := ⟨fun b o e n => by
      rw [upd_ne (show b ≠ pa from fun z => n (h.f2 b (z ▸ fpa)))]
      exact e, fun b xs e => by
      rw [upd_ne fun z => by rw [z, v2] at e; cases e]
      exact e⟩
    have i1 : (upd H pa (.lst (mvV (wts st.chain.k (addMove st.tally l m) l)))) a = some _ := (upd_ne hap).trans h.ins
    have b1' : Blk (upd H pa (.lst (mvV (wts st.chain.k (addMove st.tally l m) l)))) pl pm st.chain.k (st.chain.ground :: st.chain.letters) (Lf02.movesOf st.chain) ls kvs F1 := h.b1.frame fun b o hb e => by
      rw [upd_ne (show b ≠ pa from fun z => h.dis b hb (z ▸ fpa))]
      exact e
    rw [ew]
    revert b2' fr1 i1 b1'
    generalize upd H pa (.lst (mvV (wts st.chain.k (addMove st.tally l m) l))) = H1
    intro b2' fr1 i1 b1'
    refine ⟨_, rfl, a, C, dx, _, _, rfl, i1, T.cl, T.nCounted, cF_counted, _, _, rfl, rfl, _, rfl, a, C, dx, _, rfl, i1, T.cl, T.nCounted, by show 6 < 1000; decide, ?_⟩
    rw [cF_p_counted]
    have fr2 : Frm Fp H1 (upd H1 a (.ins C dx (cF (.int st.chain.k) (.ref pl) (.ref pm) (.int ((st.tally.moves.length : Nat) + 1)) (.ref ql) (.ref qm)))) := ⟨fun b o e n => by
      rw [upd_ne (show b ≠ a from fun z => n (by rw [z]; exact h.fa))]
      exact e, fun b xs e => by
      rw [upd_ne fun z => by rw [z, i1] at e; cases e]
      exact e⟩
    refine kk _ ⟨dx, pl, pm, ls, kvs, F1, ql, qm, ms, jvs, F2, ?_, b1'.frame fun b o hb e => ?_, b2'.frame fun b o hb e => ?_, h.sep, h.fa, h.f1, h.f2, h.all, h.dis, h.n1, h.n2⟩ (fr1.trans fr2)
    · have e : (addMove st.tally l m).moves.length = st.tally.moves.length + 1 := by
        show (st.tally.moves ++ [(l, m)]).length = _
        rw [List.length_append]
        rfl
      rw [upd_same]
      show _ = some (HO.ins C dx (cF _ _ _ (.int ((addMove st.tally l m).moves.length : Nat)) _ _))
      rw [e]
      rfl
    · rw [upd_ne (show b ≠ a from fun z => h.n1 (z ▸ hb))]
      exact e
    · rw [upd_ne (show b ≠ a from fun z => h.n2 (z ▸ hb))]
      exact e
/-- count_letter -/
def spCL (C : Addr) : Sp := fun vs H Q _ => ∃ (a ps : Addr) (st : Lf02.St) (F : Addr → Prop) (s : State) (x : Nat), vs = [.ref a, .ref ps, .int x] ∧ SA C H a st F ∧ H ps = some (.tup (stV s)) ∧ s.place ≤ st.chain.k ∧ (s.sort = 0 → s.place ≠ 0) ∧ x < 4 ∧
  ∀ H' : Hp, SA C H' a ⟨st.chain, addLetter st.tally s x⟩ F → Frm F H H' → Q .non H'
theorem ok_cl {f f1 : Addr} {fd fd1 : FuncData} (F : Fun K "count_letter" "Chain.count_letter" sCL f fd) (T : TChain K mg C) (D1 : Dn K mg "letters_place" sLp ["sort", "place"] f1 fd1) (G1 : FnOk P w K mg base CX0 1 f1 fd1 ["sort", "place"] spLp) : FnOk P w K mg base CX0 2 f fd ["self", "state", "letter"] (spCL C) := by
  refine F.ok scCL (fun vs H Q E h => ?_) (fun cdv A outer s H vs Q E hr h => ?_)
  · obtain ⟨a, ps, st, F, s, x, rfl, _⟩ := h
    rfl
  · obtain ⟨a, ps, st, Fp, s, x, rfl, ⟨dx, pl, pm, ls, kvs, F1, ql, qm, ms, jvs, F2, h⟩, hps, hk, hs0, h4, kk⟩ := h
    refine ⟨_, pss_cons (ps_set (i := 3) scCL.nd rfl (Or.inl rfl) (pe_ix ix_list (pe_fld (pv 0) rfl) (pe_call G1 hr rfl D1.g D1.F.kp D1.b .nil pass0 (pa_cons (pe_ix ix_tup (pv 1) pe_int (fun _ _ => rfl)) (pa_cons (pe_ix ix_tup (pv 1) pe_int (fun _ _ => rfl)) pa_nil))) (fun _ _ => rfl)))
      (pss_one (ps_asg (pe_op op_add (pe_ix ix_list (pv 3) (pv 2) (fun _ _ => rfl)) pe_int) (pg_sub (pv 3) (pv 2) set_list))), ?_⟩
    obtain ⟨y, g1, g2, g3⟩ := gl_set (t := st.tally) hs0 hk h4
    obtain ⟨pa, e1, e2⟩ := h.b2.hls.get (i := if s.sort = 0 then s.place else 0) (x := natsV y) (by rw [List.getElem?_map, g1]; rfl)
    have hx : y[x]? = some (y.getD x 0) := by
      rw [List.getD_eq_getElem?_getD, List.getElem?_eq_getElem (by omega), Option.getD_some]
    refine ⟨_, rfl, a, C, dx, _, _, rfl, h.ins, T.cl, T.nLL, cF_ll, ?_⟩
    refine ⟨_, rfl, ps, _, _, _, rfl, rfl, SqT.of hps, at0, _, rfl, ps, _, _, _, rfl, rfl, SqT.of hps, at1, s.sort, s.place, rfl, ?_⟩
    refine ⟨ql, _, _, .ref pa, rfl, rfl, SqL.of h.b2.hl, atI_nat ?_, ?_⟩
    · rw [List.getElem?_map, e1]
      rfl
    refine ⟨_, rfl, _, rfl, pa, _, _, _, rfl, rfl, SqL.of e2, atI_nat (natsV_get hx), _, _, rfl, rfl, ?_⟩
    refine ⟨_, rfl, _, rfl, pa, _, _, x, rfl, rfl, e2, ixN_nat (by rw [natsV_len, g2]; exact h4), ?_⟩
    have ew : (natsV y).set x (.int ((y.getD x 0 : Nat) + 1)) = natsV (y.set x (y.getD x 0 + 1)) := by
      have e : ((y.getD x 0 : Nat) : Int) + 1 = ((y.getD x 0 + 1 : Nat) : Int) := by omega
      rw [e, natsV_set]
    have fpa : F2 pa := h.b2.fls pa (List.mem_of_getElem? e1)
    have hap : a ≠ pa := fun z => h.n2 (z ▸ fpa)
    have b2' := h.b2.setLs h.sep gl_ne.1 gl_ne.2 (x := y.set x (y.getD x 0 + 1)) e1
    rw [← g3] at b2'
    rw [ew]
    refine kk _ ⟨dx, pl, pm, ls, kvs, F1, ql, qm, ms, jvs, F2, ?_, h.b1.frame fun b o hb e => ?_, ?_, h.sep, h.fa, h.f1, h.f2, h.all, h.dis, h.n1, h.n2⟩ ⟨fun b o e n => ?_, fun b xs e => ?_⟩
    · rw [upd_ne hap, h.ins]
      have e : (addLetter st.tally s x).moves = st.tally.moves := by unfold addLetter; split <;> rfl
      show _ = some (HO.ins C dx (cF _ _ _ (.int ((addLetter st.tally s x).moves.length : Nat)) _ _))
      rw [e]
    · rw [upd_ne (show b ≠ pa from fun z => h.dis b hb (z ▸ fpa))]
      exact e
    · exact b2'.mv fun u hu => wts_letter.symm
    · rw [upd_ne (show b ≠ pa from fun z => n (h.f2 b (z ▸ fpa)))]
      exact e
    · rw [upd_ne fun z => by rw [z, e2] at e; cases e]
      exact e
end
end Fh

namespace Fh
open PySem PySem.Spec PyProof.Rows L2
open Fc
open Lf02 (Frac State Chain Word)
section
variable {P : Program} {w : World} {K : PySem.W.Frag} {mg : Str → Option Value} {base : Heap} {C : Addr}
/-- count_way -/
def spCW (C : Addr) : Sp := fun vs H Q _ => ∃ (a p pw : Addr) (st : Lf02.St) (F : Addr → Prop) (as : List Addr) (path : List State) (wd : Word), vs = [.ref a, .ref p, .ref pw] ∧ SA C H a st F ∧ H p = some (.lst (as.map V.ref)) ∧ ¬ F p ∧ Tups H as (path.map stV) ∧
  H pw = some (.lst (natsV wd)) ∧ ¬ F pw ∧ (∀ x ∈ wd, x < 4) ∧ Goes st.chain.k ⟨0, 0⟩ path wd ∧ ∀ H' : Hp, SA C H' a ⟨st.chain, Lf02.counted st.tally path wd⟩ F → Frm F H H' → Q .non H'
theorem ok_cw {f f1 f2 : Addr} {fd fd1 fd2 : FuncData} (F : Fun K "count_way" "Chain.count_way" sCW f fd) (T : TChain K mg C) (M1 : Meth K C "count_move" f1) (B1 : Binds K fd1 ["self", "state", "move"] []) (G1 : FnOk P w K mg base CX0 1 f1 fd1 ["self", "state", "move"] (spCM C))
    (M2 : Meth K C "count_letter" f2) (B2 : Binds K fd2 ["self", "state", "letter"] []) (G2 : FnOk P w K mg base CX0 2 f2 fd2 ["self", "state", "letter"] (spCL C)) : FnOk P w K mg base CX0 3 f fd ["self", "states", "word"] (spCW C) := by
  refine F.ok scCW (fun vs H Q E h => ?_) (fun cdv A outer s H vs Q E hr h => ?_)
  · obtain ⟨a, p, pw, st, F, as, path, wd, rfl, _⟩ := h
    rfl
  · obtain ⟨a, p, pw, st, Fp, as, path, wd, rfl, sa, hp, nFp, hT, hw, nFw, h4, hG, kk⟩ := h
    have hr1 : Room 1 _ := hr.mono (by decide)
    refine ⟨_, pss_cons (ps_set (i := 3) scCW.nd rfl (Or.inl rfl) (pe_tup (pa_cons pe_int (pa_cons pe_int pa_nil))))
      (pss_cons (ps_set (i := 4) scCW.nd rfl (Or.inl rfl) pe_int)
      (pss_cons (ps_for PassesOwn.never rfl (pi_list (pv 1)) (pg_name (i := 5) scCW.nd rfl (Or.inl rfl))
        (pss_cons (ps_expr (pe_meth (pv 0) T.cl M1 G1 hr1 B1 .nil pass0 (pa_cons (pv 3) (pa_cons (pe_ix ix_tup (pv 5) pe_int (fun _ _ => rfl)) pa_nil))))
        (pss_cons (ps_if (pt_cmpR op_ne (pe_ix ix_tup (pv 5) pe_int (fun _ _ => rfl)) pe_int (nomark _))
          (pss_cons (ps_expr (pe_meth (pv 0) T.cl M2 G2 hr B2 .nil pass0 (pa_cons (pv 5) (pa_cons (pe_ix ix_list (pv 2) (pv 4) (fun _ _ => rfl)) pa_nil))))
          (pss_one (ps_set (i := 4) scCW.nd rfl (Or.inl rfl) (pe_op op_add (pv 4) pe_int)))) pss_nil)
        (pss_one (ps_set (i := 3) scCW.nd rfl (Or.inl rfl) (pv 5))))))
      (pss_one (ps_expr (pe_meth (pv 0) T.cl M1 G1 hr1 B1 .nil pass0 (pa_cons (pv 3) (pa_cons pe_int pa_nil))))))), ?_⟩
    have las : as.length = path.length := by rw [hT.length, List.length_map]
    refine ⟨by show 2 ≤ sizeLine; decide, fun u hu => ?_⟩
    have s1 := sm_new (o := .tup [.int 0, .int 0]) hu
    have u1 : (upd H u (.tup [.int 0, .int 0])) u = some (.tup (stV ⟨0, 0⟩)) := upd_same
    show tSeq _ _ _ _ (upd H u (.tup [.int 0, .int 0]))
    revert s1 u1
    generalize upd H u (.tup [.int 0, .int 0]) = H1
    intro s1 u1
    have sa1 := sa_frame C _ H1 _ _ _ (fun b o _ e => s1 b o e) sa
    refine ⟨_, rfl, p, rfl, ⟨_, SqL.of (s1 _ _ hp)⟩, ?_⟩
    refine for_list (K := K) (a := p) (xs := as.map V.ref) (fun i σ H' => ∃ (pl : Addr) (l : State) (made : Nat) (t : Lf02.Tally) (v5 : Option V), σ = [some (.ref a), some (.ref p), some (.ref pw), some (.ref pl), some (.int made), v5] ∧ SA C H' a ⟨st.chain, t⟩ Fp ∧ H' pl = some (.tup (stV l)) ∧ IsS st.chain.k l ∧
        Goes st.chain.k l (path.drop i) (wd.drop made) ∧ finT t l (path.drop i) (wd.drop made) = Lf02.counted st.tally path wd ∧ Frm Fp H H')
      ⟨u, ⟨0, 0⟩, 0, st.tally, none, rfl, sa1, u1, isS_begin _, hG, rfl, Frm.of s1⟩ (fun i σ H' _ ⟨_, _, _, _, _, _, _, _, _, _, _, fr⟩ => SqL.of (fr.1 _ _ hp nFp)) ?_ ?_
    · rintro i y σ H2 hy ⟨pl, l, made, t, v5, rfl, sa2, hpl, hl, g2, e2, fr2⟩
      rw [List.getElem?_map] at hy
      obtain ⟨sa', hsa1, rfl⟩ := Option.map_eq_some_iff.mp hy
      obtain ⟨hlt, _⟩ := List.getElem?_eq_some_iff.mp hsa1
      have hi : i < path.length := by omega
      have hst : path[i]? = some path[i] := List.getElem?_eq_getElem hi
      obtain ⟨sb, i1, i2⟩ := hT.get (i := i) (x := stV path[i]) (by rw [List.getElem?_map, hst]; rfl)
      have eu : sb = sa' := Option.some.inj (i1.symm.trans hsa1)
      subst eu
      have ed : path.drop i = path[i] :: path.drop (i + 1) := List.drop_eq_getElem_cons hi
      rw [ed] at g2 e2
      have gc := goes_cons g2 hl.2.1
      have hsb := fr2.2 _ _ i2
      have so2 : path[i].sort ≤ 2 := gc.1.1
      have sa2' := sa2
      obtain ⟨dx, _, _, _, _, _, _, _, _, _, _, hc⟩ := sa2'
      -- self.count_move(left, state[0])
      refine ⟨_, rfl, a, dx, _, rfl, hc.ins, cF_count_move, _, rfl, _, rfl, sb, _, _, _, rfl, rfl, SqT.of hsb, at0, ?_⟩
      refine ⟨a, pl, ⟨st.chain, t⟩, Fp, l, path[i].sort, rfl, sa2, hpl, hl, so2, fun z => ?_, fun H3 sa3 fr3 => ?_⟩
      · rcases gc.2.2 with ⟨_, h, _⟩ | ⟨h, _⟩
        · exact Nat.ne_of_lt h
        · exact absurd z h
      have fr03 := fr2.trans fr3
      have hsb3 := fr3.2 _ _ hsb
      -- if state[0] != 2
      refine ⟨_, rfl, sb, _, _, _, rfl, rfl, SqT.of hsb3, at0, rfl, _, rfl, ?_⟩
      rcases gc.2.2 with ⟨h2, hk, g3⟩ | ⟨h2, x, r, hwd, g3⟩
      · refine if_f (by simp [h2]) ?_
        refine ⟨_, rfl, ?_⟩
        refine ⟨sb, path[i], made, addMove t l path[i].sort, some (.ref sb), rfl, sa3, hsb3, gc.1, g3, ?_, fr03⟩
        rw [finT_leave h2]
        exact e2
      · refine if_t (by simp; omega) ?_
        obtain ⟨m1, m2, m3, m4⟩ := drop_cons hwd
        have hx : wd[made]? = some x := by
          rw [List.getD_eq_getElem?_getD, List.getElem?_eq_getElem m1, Option.getD_some] at m2
          rw [List.getElem?_eq_getElem m1, m2]
        have hw3 := fr03.1 _ _ hw nFw
        have sa3' := sa3
        obtain ⟨dx3, _, _, _, _, _, _, _, _, _, _, hc3⟩ := sa3'
        refine ⟨_, rfl, a, dx3, _, rfl, hc3.ins, cF_count_letter, _, rfl, _, rfl, _, rfl, pw, _, _, _, rfl, rfl, SqL.of hw3, atI_nat (natsV_get hx), ?_⟩
        refine ⟨a, sb, ⟨st.chain, addMove t l path[i].sort⟩, Fp, path[i], x, rfl, sa3, hsb3, gc.1.2.1, fun z0 z1 => gc.2.1 ?_, h4 x (List.mem_of_getElem? hx), fun H4 sa4 fr4 => ?_⟩
        · rcases hq : path[i] with ⟨q1, q2⟩
          rw [hq] at z0 z1
          have z0' : q1 = 0 := z0
          have z1' : q2 = 0 := z1
          rw [z0', z1']
        refine ⟨_, rfl, _, _, rfl, rfl, ?_⟩
        refine ⟨_, rfl, ?_⟩
        refine ⟨sb, path[i], made + 1, addLetter (addMove t l path[i].sort) path[i] x, some (.ref sb), rfl, sa4, fr4.2 _ _ hsb3, gc.1, ?_, ?_, fr03.trans fr4⟩
        · rw [m3]; exact g3
        · rw [m3, finT_make h2 so2, ← hwd]
          exact e2
    · rintro σ H2 ⟨pl, l, made, t, v5, rfl, sa2, hpl, hl, g2, e2, fr2⟩
      have ed : path.drop (as.map V.ref).length = [] := by
        rw [List.length_map, las]
        exact List.drop_eq_nil_of_le (Nat.le_refl _)
      rw [ed] at g2 e2
      have gn := goes_nil g2
      rw [gn.2, finT_nil] at e2
      have sa2' := sa2
      obtain ⟨dx, _, _, _, _, _, _, _, _, _, _, hc⟩ := sa2'
      refine ⟨_, rfl, a, dx, _, rfl, hc.ins, cF_count_move, _, rfl, ?_⟩
      refine ⟨a, pl, ⟨st.chain, t⟩, Fp, l, 0, rfl, sa2, hpl, hl, by decide, (fun z => by cases z), fun H3 sa3 fr3 => ?_⟩
      refine kk H3 ?_ (fr2.trans fr3)
      rw [← e2]
      exact sa3
end
end Fh

namespace Fh
open PySem PySem.Spec PyProof.Rows L2
open Fc
open Lf02 (Frac State Chain Word)
/-- a way of lying in the heap that serves: it can be carried over, what it touches is there, the chain can be read -/
structure RepOk (C : Addr) (SA : Rep) : Prop where
  fr : Frames SA
  tr : Tracks SA
  rd : ∀ (H : Hp) (a : Addr) (st : Lf02.St) (F : Addr → Prop), SA H a st F → ChainAt C H a st.chain
def nats (l : List Int) : List Nat := l.map Int.toNat
theorem intsV_nats {l : List Int} (h : ∀ x ∈ l, 0 ≤ x ∧ x ≤ 4294967295) : intsV l = natsV (nats l) := by
  unfold intsV natsV nats
  rw [List.map_map]
  refine List.map_congr_left fun x hx => ?_
  have := h x hx
  show V.int x = V.int ((x.toNat : Nat) : Int)
  congr 1
  omega
theorem nats_ok {l : List Int} (h : ∀ x ∈ l, 0 ≤ x ∧ x ≤ 4294967295) : Lf02Neutral.nats l = true := by
  unfold Lf02Neutral.nats Lf02Neutral.nat
  rw [List.all_eq_true]
  intro x hx
  have := h x hx
  rw [Bool.and_eq_true, decide_eq_true_iff, decide_eq_true_iff]
  exact ⟨this.1, by omega⟩
theorem nat_ok {x : Int} (h : 0 ≤ x ∧ x ≤ 4294967295) : Lf02Neutral.nat x = true := by
  unfold Lf02Neutral.nat
  rw [Bool.and_eq_true, decide_eq_true_iff, decide_eq_true_iff]
  exact ⟨h.1, by omega⟩
theorem nats_len (l : List Int) : (nats l).length = l.length := List.length_map ..
/-! the specification's step, call by call -/
section
variable {st : Lf02.St} {row : List Int}
theorem step_total (h : ∀ x ∈ row, 0 ≤ x ∧ x ≤ 4294967295) : Lf02Neutral.step st (3 :: ([] ++ row)) = (st, ansTotal st.chain (nats row)) := by
  unfold Lf02Neutral.step
  have e : Lf02Neutral.callOf (3 :: ([] ++ row)) = some (.total (nats row)) := by
    show (if Lf02Neutral.nats row = true then some (Lf02.Call.total (row.map Int.toNat)) else none) = _
    rw [if_pos (nats_ok h)]
    rfl
  rw [e]
  rfl
theorem step_best (h : ∀ x ∈ row, 0 ≤ x ∧ x ≤ 4294967295) : Lf02Neutral.step st (4 :: ([] ++ row)) = (st, ansBest st.chain (nats row)) := by
  unfold Lf02Neutral.step
  have e : Lf02Neutral.callOf (4 :: ([] ++ row)) = some (.best (nats row)) := by
    show (if Lf02Neutral.nats row = true then some (Lf02.Call.best (row.map Int.toNat)) else none) = _
    rw [if_pos (nats_ok h)]
    rfl
  rw [e]
  rfl
theorem step_count (h : ∀ x ∈ row, 0 ≤ x ∧ x ≤ 4294967295) : Lf02Neutral.step st (5 :: ([] ++ row)) = (st, ansCount st.chain (nats row)) := by
  unfold Lf02Neutral.step
  have e : Lf02Neutral.callOf (5 :: ([] ++ row)) = some (.count (nats row)) := by
    show (if Lf02Neutral.nats row = true then some (Lf02.Call.count (row.map Int.toNat)) else none) = _
    rw [if_pos (nats_ok h)]
    rfl
  rw [e]
  rfl
end
section
variable {P : Program} {w : World} {K : PySem.W.Frag} {mg : Str → Option Value} {base : Heap} {C : Addr} {SA : Rep}
/-- a call that asks and changes nothing -/
theorem ask_ok {p : Int} {k : Nat} {f : Addr} {fd : FuncData} {ps : List Str} {g : Chain → Word → List Int} (hn : nOf p = 0) (R : RepOk C SA) (G : FnOk P w K mg base CX0 k f fd ps (spQ K C g))
    (hs : ∀ (st : Lf02.St) (row : List Int), (∀ x ∈ row, 0 ≤ x ∧ x ≤ 4294967295) → Lf02Neutral.step st (p :: ([] ++ row)) = (st, g st.chain (nats row))) : FnOk P w K mg base CX0 k f fd ps (spA K SA OkSt p) := by
  refine G.imp fun vs H Q E h => ?_
  obtain ⟨a, pn, pr, st, F, nums, row, rfl, sa, ok, h1, h2, n1, n2, ln, lr, nr, bn, br, kk⟩ := h
  rw [hn] at ln
  have e0 := List.length_eq_zero_iff.mp ln
  subst e0
  have es := hs st row br
  refine ⟨a, pn, pr, st.chain, nats row, rfl, ok.c, R.rd _ _ _ _ sa, SqL.of (by rw [← intsV_nats br]; exact h2), by rw [nats_len]; omega, fun H' q s nq e => ?_⟩
  refine kk H' F q ?_ (fun b o e _ => s _ _ e) (fun b hb => .inl hb) nq (fun z => ?_) ?_
  · rw [es]
    exact R.fr _ _ _ _ _ (fun b o _ e => s _ _ e) sa
  · obtain ⟨o, ho⟩ := R.tr _ _ _ _ sa q z
    rw [nq] at ho
    cases ho
  · rw [es]
    exact e
end
end Fh

namespace Fh
open PySem PySem.Spec PyProof.Rows L2
open Fc
open Lf02 (Frac State Chain Word)
theorem rep1 (C : Addr) : RepOk C (SA C) := ⟨sa_frame C, sa_tracks C, fun _ _ _ _ h => sa_rd h⟩
/-- a new list comes back and nothing else has changed -/
theorem back_same {SA : Rep} {C : Addr} (R : RepOk C SA) {H : Hp} {a : Addr} {st : Lf02.St} {F : Addr → Prop} {p : Int} {nums row : List Int} {pn pr : Addr} {Q : VK} {l : List Int} (sa : SA H a st F)
    (kk : ∀ (H' : Hp) (F' : Addr → Prop) (q : Addr), SA H' a (Lf02Neutral.step st (p :: (nums ++ row))).1 F' → (∀ b o, H b = some o → ¬ F b → H' b = some o) → (∀ b, F' b → F b ∨ H b = none ∨ b = pn ∨ b = pr) → H q = none → ¬ F' q →
      H' q = some (.lst (intsV (Lf02Neutral.step st (p :: (nums ++ row))).2)) → Q (.ref q) H')
    (es : Lf02Neutral.step st (p :: (nums ++ row)) = (st, l)) {H1 : Hp} (s1 : Same H H1) {q : Addr} (hq : H1 q = none) : Q (.ref q) (upd H1 q (.lst (intsV l))) := by
  have s2 := s1.trans (sm_new (o := .lst (intsV l)) hq)
  refine kk _ F q ?_ (fun b o e _ => s2 _ _ e) (fun b hb => .inl hb) (s1.free hq) (fun z => ?_) ?_
  · rw [es]
    exact R.fr _ _ _ _ _ (fun b o _ e => s2 _ _ e) sa
  · obtain ⟨o, ho⟩ := R.tr _ _ _ _ sa q z
    rw [s1.free hq] at ho
    cases ho
  · rw [es, upd_same]
theorem step_letters {st : Lf02.St} {i : Int} {row : List Int} (h : 0 ≤ i ∧ i ≤ 4294967295) (hr : ∀ x ∈ row, 0 ≤ x ∧ x ≤ 4294967295) : Lf02Neutral.step st (1 :: ([i] ++ row)) = Lf02.step st (.emit i.toNat (nats row)) := by
  unfold Lf02Neutral.step
  have e : Lf02Neutral.callOf (1 :: ([i] ++ row)) = some (.emit i.toNat (nats row)) := by
    show (if Lf02Neutral.nat i = true ∧ Lf02Neutral.nats row = true then some (Lf02.Call.emit i.toNat (row.map Int.toNat)) else none) = _
    rw [if_pos ⟨nat_ok h, nats_ok hr⟩]
    rfl
  rw [e]
theorem Lsts.set {H : Hp} {u : Addr} {x : List V} (hu : H u = some (.lst x)) : ∀ {as : List Addr} {xs : List (List V)} (i : Nat), Lsts H as xs → Lsts H (as.set i u) (xs.set i x)
  | _, _, _, .nil => .nil
  | _, _, 0, .cons _ t => .cons hu t
  | _, _, i + 1, .cons r t => .cons r (Lsts.set hu i t)
/-- another list of letters' weights is put in -/
theorem Blk.putLs {H : Hp} {pl pm : Addr} {k : Nat} {g : List (List Nat)} {mv : State → Nat × Nat × Nat} {ls : List Addr} {kvs : List (List Key × V)} {F : Addr → Prop} (h : Blk H pl pm k g mv ls kvs F) (hg : ∀ x ∈ g, x ≠ []) (h0 : g ≠ [])
    {i : Nat} {x : List Nat} {pr : Addr} (hpr : H pr = some (.lst (natsV x))) (npr : ¬ F pr) : Blk (upd H pl (.lst ((ls.map V.ref).set i (.ref pr)))) pl pm k (g.set i x) mv (ls.set i pr) kvs (fun b => F b ∨ b = pr) := by
  have ap := h.apart hg h0
  have nprpl : pr ≠ pl := fun z => npr (by rw [z]; exact h.fl)
  have n2 : pm ≠ pl := fun z => by
    have := h.hm
    rw [z, h.hl] at this
    cases this
  refine ⟨?_, ?_, by rw [upd_ne n2]; exact h.hm, fun s hs => ?_, h.no, h.few, .inl h.fl, .inl h.fm, fun b hb => ?_, fun s b hs e => .inl (h.fvs s b hs e), fun b hb => ?_⟩
  · rw [upd_same, List.map_set]
  · rw [List.map_set]
    refine Lsts.set (by rw [upd_ne nprpl]; exact hpr) _ (lsts_frame h.hls fun b o m e => ?_)
    rw [upd_ne (ap.1 b m)]
    exact e
  · obtain ⟨pa, q1, q2⟩ := h.hms s hs
    exact ⟨pa, q1, by rw [upd_ne (ap.2 s pa hs q1)]; exact q2⟩
  · rcases List.mem_or_eq_of_mem_set hb with z | z
    · exact .inl (h.fls b z)
    · exact .inr z
  · by_cases z : b = pl
    · rw [z]; exact ⟨_, upd_same⟩
    · rw [upd_ne z]
      rcases hb with q | q
      · exact h.tr b q
      · rw [q]; exact ⟨_, hpr⟩
/-- another list of moves' weights is put in -/
theorem Blk.putMv {H : Hp} {pl pm : Addr} {k : Nat} {g : List (List Nat)} {mv mv' : State → Nat × Nat × Nat} {ls : List Addr} {kvs : List (List Key × V)} {F : Addr → Prop} (h : Blk H pl pm k g mv ls kvs F)
    {l : State} (hl : IsS k l) {u : Addr} (hu : H u = some (.lst (mvV (mv' l)))) (e2 : ∀ t, t ≠ l → mv' t = mv t) : Blk (upd H pm (.dT (putK kvs (stK l) (.ref u)))) pl pm k g mv' ls (putK kvs (stK l) (.ref u)) (fun b => F b ∨ b = u) := by
  have past : ∀ b o, H b = some o → (∀ k, o ≠ .dT k) → (upd H pm (.dT (putK kvs (stK l) (.ref u)))) b = some o := fun b o e n => dt_past h.hm e n
  obtain ⟨pa, v1, _⟩ := h.hms l hl
  have fewer : (putK kvs (stK l) (.ref u)).length = kvs.length := by
    unfold putK
    rw [if_pos (by rw [valV_any, v1]; rfl), List.length_map]
  refine ⟨past _ _ h.hl (fun k e => by cases e), Paired.mapP h.hls fun b xs e => past _ _ e (fun k e => by cases e), upd_same, fun s hs => ?_, fun s hs => ?_, by rw [fewer]; exact h.few, .inl h.fl, .inl h.fm, fun b hb => .inl (h.fls b hb), fun s b hs e => ?_, fun b hb => ?_⟩
  · rw [valV_put]
    by_cases z : s = l
    · rw [if_pos (by rw [z]), z]
      exact ⟨u, rfl, past _ _ hu (fun k e => by cases e)⟩
    · rw [if_neg (fun e => z (stK_inj e)), e2 s z]
      obtain ⟨pb, q1, q2⟩ := h.hms s hs
      exact ⟨pb, q1, past _ _ q2 (fun k e => by cases e)⟩
  · rw [valV_put, if_neg (fun e => hs (by rw [stK_inj e]; exact hl))]
    exact h.no s hs
  · rw [valV_put] at e
    by_cases z : stK s = stK l
    · rw [if_pos z] at e
      cases e
      exact .inr rfl
    · rw [if_neg z] at e
      exact .inl (h.fvs s b hs e)
  · by_cases z : b = pm
    · rw [z]; exact ⟨_, upd_same⟩
    · rw [upd_ne z]
      rcases hb with q | q
      · exact h.tr b q
      · rw [q]; exact ⟨_, hu⟩
theorem okc_gl {c : Chain} (ok : OkC c) : (∀ x ∈ c.ground :: c.letters, x ≠ []) ∧ (c.ground :: c.letters) ≠ [] := by
  refine ⟨fun x hx e => ?_, fun e => by cases e⟩
  have l4 : x.length = 4 := by
    rcases List.mem_cons.mp hx with z | z
    · rw [z]; exact ok.g4.1
    · exact (ok.l4 _ z).1
  rw [e] at l4
  cases l4
theorem step_moves {st : Lf02.St} {t i a b d : Int} (h : ∀ x ∈ [t, i, a, b, d], 0 ≤ x ∧ x ≤ 4294967295) : Lf02Neutral.step st (2 :: ([t, i, a, b, d] ++ [])) = Lf02.step st (.moves t.toNat i.toNat a.toNat b.toNat d.toNat) := by
  unfold Lf02Neutral.step
  have e : Lf02Neutral.callOf (2 :: ([t, i, a, b, d] ++ [])) = some (.moves t.toNat i.toNat a.toNat b.toNat d.toNat) := by
    show (if Lf02Neutral.nats [t, i, a, b, d] = true then some (Lf02.Call.moves t.toNat i.toNat a.toNat b.toNat d.toNat) else none) = _
    rw [if_pos (nats_ok h)]
  rw [e]
theorem step_start {st : Lf02.St} {n : Int} (h : 0 ≤ n ∧ n ≤ 4294967295) : Lf02Neutral.step st (0 :: ([n] ++ [])) = if n.toNat = 0 ∨ 4 < n.toNat then (st, [-1]) else (⟨Lf02.plainChain n.toNat, Lf02.noTally⟩, [(n.toNat : Int)]) := by
  unfold Lf02Neutral.step
  have e : Lf02Neutral.callOf (0 :: ([n] ++ [])) = some (.start n.toNat) := by
    show (if Lf02Neutral.nat n = true then some (Lf02.Call.start n.toNat) else none) = _
    rw [if_pos (nat_ok h)]
  rw [e]
  rfl
section
variable {P : Program} {w : World} {K : PySem.W.Frag} {mg : Str → Option Value} {base : Heap} {C : Addr} {t1 t2 t3 t4 t5 : Tok}
abbrev sStart : Stmt := top 36
abbrev sLetters : Stmt := top 37
abbrev sMoves : Stmt := top 38
theorem scStart : FnScope ["chain", "numbers", "row", "last"] ["chain", "numbers", "row"] (defScope sStart) := ⟨rfl, rfl, rfl, by decide +kernel, rfl, by decide +kernel, by decide +kernel⟩
theorem scLetters : FnScope ["chain", "numbers", "row", "place"] ["chain", "numbers", "row"] (defScope sLetters) := ⟨rfl, rfl, rfl, by decide +kernel, rfl, by decide +kernel, by decide +kernel⟩
theorem scMoves : FnScope ["chain", "numbers", "row", "state", "weights", "on", "leaving"] ["chain", "numbers", "row"] (defScope sMoves) := ⟨rfl, rfl, rfl, by decide +kernel, rfl, by decide +kernel, by decide +kernel⟩
theorem ok_start {f fB : Addr} {fd dB : FuncData} (F : Fun K "answer_start" "answer_start" sStart f fd) (T : TChain K mg C) (B : Blt mg) (N : TNum mg t1 t2 t3 t4 t5) (MB : Meth K C "begin_anew" fB) (BB : Binds K dB ["self", "last"] []) (GB : FnOk P w K mg base CX0 4 fB dB ["self", "last"] (spBegin C)) :
    FnOk P w K mg base CX0 5 f fd ["chain", "numbers", "row"] (spA K (SA C) OkSt 0) := by
  refine F.ok scStart (fun vs H Q E h => ?_) (fun cdv A outer s H vs Q E hr h => ?_)
  · obtain ⟨a, pn, pr, st, F, nums, row, rfl, _⟩ := h
    rfl
  · obtain ⟨a, pn, pr, st, Fp, nums, row, rfl, sa, ok, hpn, hpr, npn, npr, ln, lr, nr, bn, br, kk⟩ := h
    have hu := hu_of hr
    refine ⟨_, pss_cons (ps_set (i := 3) scStart.nd rfl (Or.inl rfl) (pe_ix ix_list (pv 1) (pe_int) (fun _ _ => rfl)))
      (pss_cons (ps_if (PW.pt (pw_or (pt_cmpR op_lt (pv 3) (pe_int) (nomark _)) (pw_or1 (pt_cmpR op_gt (pv 3) (pe_glob rfl N.places (v := .int 4) ⟨_, rfl⟩) (nomark _))))) (pss_one (ps_ret (pe_lst (pa_cons (pe_glob rfl N.refused (v := .int (-1)) ⟨_, rfl⟩) pa_nil)))) (pss_nil))
      (pss_cons (ps_expr (pe_meth (pv 0) T.cl MB GB hr BB .nil pass0 (pa_cons (pv 3) pa_nil)))
      (pss_one (ps_ret (pe_lst (pa_cons (pv 3) pa_nil)))))), ?_⟩
    obtain ⟨n, rfl⟩ : ∃ n, nums = [n] := by
      match nums, ln with
      | [n], _ => exact ⟨n, rfl⟩
    have r0 := nr rfl
    subst r0
    have bnn := bn n (List.mem_cons_self ..)
    have es := step_start (st := st) bnn
    refine ⟨_, rfl, pn, _, _, _, rfl, rfl, SqL.of hpn, atI_nat (j := 0) rfl, ?_⟩
    refine ⟨_, rfl, _, _, rfl, rfl, _, rfl, ?_⟩
    have refuse : n.toNat = 0 ∨ 4 < n.toNat → ∀ D : Ends, D.rt = Q → tRet (tLst (tCons (tC (.int (-1))) tNil)) D [some (.ref a), some (.ref pn), some (.ref pr), some (.int n)] H := by
      intro c D hD
      rw [if_pos c] at es
      refine ⟨by show 1 ≤ sizeLine; decide, fun q hq => ?_⟩
      rw [hD]
      exact back_same (rep1 C) sa kk es (Same.refl H) hq
    by_cases c1 : n < 1
    · refine if_t (decide_eq_true c1) ?_
      exact refuse (by omega) _ rfl
    · refine if_f (decide_eq_false c1) ?_
      refine ⟨_, rfl, _, _, rfl, rfl, _, rfl, ?_⟩
      by_cases c2 : 4 < n
      · refine if_t (decide_eq_true c2) ?_
        exact refuse (by omega) _ rfl
      · refine if_f (decide_eq_false c2) ?_
        rw [if_neg (by omega)] at es
        have en : n = ((n.toNat : Nat) : Int) := by omega
        have sa' := sa
        obtain ⟨dx, pl, pm, ls, kvs, F1, ql, qm, ms, jvs, F2, h⟩ := sa'
        refine ⟨_, rfl, a, dx, _, rfl, h.ins, cF_begin_anew, _, rfl, ?_⟩
        refine ⟨a, dx, n.toNat, _, by show [V.ref a, V.int n] = [V.ref a, V.int ((n.toNat : Nat) : Int)]; rw [← en], by omega, by omega, h.ins, .inr ⟨_, _, _, _, _, _, rfl⟩, fun H1 F1' sa1 b1 f1 => ?_⟩
        refine ⟨_, rfl, by show 1 ≤ sizeLine; decide, fun q hq => ?_⟩
        have s2 := sm_new (o := .lst [.int n]) hq
        have sa1' := sa1
        obtain ⟨dx1, _, _, _, _, _, _, _, _, _, _, hs1⟩ := sa1'
        refine kk _ F1' q ?_ (fun b o e nb => ?_) (fun b hb => ?_) (b1.free hs1.ins hq) (fun z => ?_) ?_
        · rw [es]
          exact sa_frame C _ _ _ _ _ (fun b o _ e => s2 _ _ e) sa1
        · exact s2 _ _ (b1 _ _ e fun z => nb (by rw [z]; exact h.fa))
        · rcases f1 b hb with h' | h'
          · exact .inl (by rw [h']; exact h.fa)
          · exact .inr (.inl h')
        · obtain ⟨o, ho⟩ := sa_tracks C _ _ _ _ sa1 q z
          rw [hq] at ho
          cases ho
        · rw [es, upd_same]
          show _ = some (HO.lst [V.int ((n.toNat : Nat) : Int)])
          rw [← en]
theorem ok_letters {f fW : Addr} {fd dW : FuncData} (F : Fun K "answer_letters" "answer_letters" sLetters f fd) (T : TChain K mg C) (B : Blt mg) (N : TNum mg t1 t2 t3 t4 t5) (DW : Dn K mg "are_weights" sAreW ["weights"] fW dW) (GW : FnOk P w K mg base CX0 1 fW dW ["weights"] (spAreW K)) :
    FnOk P w K mg base CX0 2 f fd ["chain", "numbers", "row"] (spA K (SA C) OkSt 1) := by
  refine F.ok scLetters (fun vs H Q E h => ?_) (fun cdv A outer s H vs Q E hr h => ?_)
  · obtain ⟨a, pn, pr, st, F, nums, row, rfl, _⟩ := h
    rfl
  · obtain ⟨a, pn, pr, st, Fp, nums, row, rfl, sa, ok, hpn, hpr, npn, npr, ln, lr, nr, bn, br, kk⟩ := h
    have hu := hu_of hr
    refine ⟨_, pss_cons (ps_set (i := 3) scLetters.nd rfl (Or.inl rfl) (pe_ix ix_list (pv 1) (pe_int) (fun _ _ => rfl)))
      (pss_cons (ps_if (PW.pt (pw_or (pt_cmpR op_gt (pv 3) (pe_fld (pv 0) rfl) (nomark _)) (pw_or (pt_cmpR op_ne (pe_callB call_len_seq (by rfl) B.len PySem.boot_len (pa_cons (pv 2) pa_nil)) (pe_glob rfl N.letters (v := .int 4) ⟨_, rfl⟩) (nomark _)) (pw_or (pt_not (pt_val (pe_call GW hr rfl DW.g DW.F.kp DW.b .nil pass0 (pa_cons (pv 2) pa_nil)))) (pw_or1 (pt_cmpR op_eq (pe_callB (cr_sum rfl) (by rfl) B.sum (by decide +kernel) (pa_cons (pv 2) pa_nil)) (pe_int) (nomark _))))))) (pss_one (ps_ret (pe_lst (pa_cons (pe_glob rfl N.refused (v := .int (-1)) ⟨_, rfl⟩) pa_nil)))) (pss_nil))
      (pss_cons (ps_asg (pv 2) (pg_sub (pe_fld (pv 0) rfl) (pv 3) set_list))
      (pss_one (ps_ret (pe_lst (pa_cons (pe_int) pa_nil)))))), ?_⟩
    obtain ⟨i, rfl⟩ : ∃ i, nums = [i] := by
      match nums, ln with
      | [i], _ => exact ⟨i, rfl⟩
    have bi := bn i (List.mem_cons_self ..)
    have es := step_letters (st := st) bi br
    have ei : i = ((i.toNat : Nat) : Int) := by omega
    have hpr' : H pr = some (.lst (natsV (nats row))) := by rw [← intsV_nats br]; exact hpr
    have sa' := sa
    obtain ⟨dx, pl, pm, ls, kvs, F1, ql, qm, ms, jvs, F2, h⟩ := sa'
    have hrd : ChRd C H a st.chain _ dx pl pm ls kvs := ⟨h.ins, cF_last, cF_letters, cF_moves, h.b1.hl, h.b1.hls, h.b1.hm, h.b1.hms⟩
    have estep : ∀ c : st.chain.k < i.toNat ∨ Lf02.areWeights (nats row) = false, Lf02Neutral.step st (1 :: ([i] ++ row)) = (st, [-1]) := fun c => by
      rw [es]
      show (if st.chain.k < i.toNat ∨ Lf02.areWeights (nats row) = false then (st, [-1]) else _) = _
      rw [if_pos c]
    refine ⟨_, rfl, pn, _, _, _, rfl, rfl, SqL.of hpn, atI_nat (j := 0) rfl, ?_⟩
    have refuse : (st.chain.k < i.toNat ∨ Lf02.areWeights (nats row) = false) → ∀ (H1 : Hp) (D : Ends), Same H H1 → D.rt = Q → tRet (tLst (tCons (tC (.int (-1))) tNil)) D [some (.ref a), some (.ref pn), some (.ref pr), some (.int i)] H1 := by
      intro c H1 D s1 hD
      refine ⟨by show 1 ≤ sizeLine; decide, fun q hq => ?_⟩
      rw [hD]
      exact back_same (rep1 C) sa kk (estep c) s1 hq
    -- place > chain.last
    refine ⟨_, rfl, _, rfl, a, C, dx, _, _, rfl, hrd.ins, T.cl, T.nLast, hrd.last, _, _, rfl, rfl, _, rfl, ?_⟩
    by_cases c1 : (st.chain.k : Int) < i
    · refine if_t (decide_eq_true c1) ?_
      exact refuse (.inl (by omega)) H _ (Same.refl H) rfl
    refine if_f (decide_eq_false c1) ?_
    -- len(row) != LETTERS
    refine ⟨_, rfl, pr, _, rfl, .inl (SqL.of hpr'), rfl, _, rfl, ?_⟩
    rw [natsV_len]
    by_cases c2 : (nats row).length = 4
    rotate_left
    · refine if_t (by simp; omega) ?_
      refine refuse (.inr ?_) H _ (Same.refl H) rfl
      unfold Lf02.areWeights
      rw [beq_eq_false_iff_ne.mpr c2, Bool.false_and]
    refine if_f (by rw [c2]; rfl) ?_
    -- not are_weights(row)
    refine ⟨_, rfl, pr, nats row, rfl, SqL.of hpr', by omega, fun H1 s1 => ⟨_, rfl, ?_⟩⟩
    by_cases c3 : ((nats row).all fun a => decide (a ≤ 99)) = true
    rotate_left
    · have c3' : ((nats row).all fun a => decide (a ≤ 99)) = false := by simpa using c3
      refine if_t (by rw [c3']; rfl) ?_
      refine refuse (.inr ?_) H1 _ s1 rfl
      unfold Lf02.areWeights
      rw [c3', Bool.false_and, Bool.and_false]
    refine if_f (by rw [c3]; rfl) ?_
    -- sum(row) == 0
    refine ⟨_, rfl, pr, _, rfl, SqL.of (by rw [← natsV_ints]; exact s1 _ _ hpr'), rfl, _, rfl, ?_⟩
    rw [sum_ints]
    by_cases c4 : (nats row).sum = 0
    · refine if_t (by rw [c4]; rfl) ?_
      refine refuse (.inr ?_) H1 _ s1 rfl
      unfold Lf02.areWeights
      rw [sum_is, c4, decide_eq_false (by omega), Bool.and_false, Bool.and_false]
    refine if_f (by simp; omega) ?_
    -- chain.letters[place] = row
    have hk : i.toNat ≤ st.chain.k := by omega
    have ll : ls.length = st.chain.k + 1 := by
      have := hrd.hls.length
      rw [List.length_map, List.length_cons, ok.c.ll] at this
      exact this
    have h1 := hrd.keep s1
    refine ⟨_, rfl, _, rfl, a, C, dx, _, _, rfl, h1.ins, T.cl, T.nLetters, h1.letters, _, rfl, pl, _, _, i.toNat, rfl, rfl, h1.hl, ?_, ?_⟩
    · rw [List.length_map, ll]
      unfold ixN
      rw [if_pos bi.1, if_pos (by omega)]
    · refine ⟨by show 1 ≤ sizeLine; decide, fun q hq => ?_⟩
      have aw : Lf02.areWeights (nats row) = true := by
        unfold Lf02.areWeights
        rw [c3, sum_is, decide_eq_true (by omega), c2]
        rfl
      have es2 : Lf02Neutral.step st (1 :: ([i] ++ row)) = (⟨if i.toNat = 0 then ⟨st.chain.k, st.chain.letters, nats row, st.chain.moves⟩ else ⟨st.chain.k, st.chain.letters.set (i.toNat - 1) (nats row), st.chain.ground, st.chain.moves⟩, st.tally⟩, [0]) := by
        rw [es]
        show (if st.chain.k < i.toNat ∨ Lf02.areWeights (nats row) = false then (st, [-1]) else _) = _
        rw [if_neg]
        rintro (z | z)
        · omega
        · rw [aw] at z; cases z
      have s3 := sm_new (o := .lst [.int 0]) hq
      have hap : a ≠ pl := fun z => by
        have := h1.ins
        rw [z, h1.hl] at this
        cases this
      have hq1 : H1 q = none := by
        by_cases z : q = pl
        · rw [z, upd_same] at hq; cases hq
        · rw [upd_ne z] at hq; exact hq
      have n1pr : ¬ F1 pr := fun z => npr (h.f1 pr z)
      have b1' := (h.b1.frame (H' := H1) fun b o _ e => s1 _ _ e).putLs (okc_gl ok.c).1 (okc_gl ok.c).2 (i := i.toNat) (s1 _ _ hpr') n1pr
      have key : ∀ c' : Chain, c'.k = st.chain.k → c'.ground :: c'.letters = (st.chain.ground :: st.chain.letters).set i.toNat (nats row) → (∀ t, Lf02.movesOf c' t = Lf02.movesOf st.chain t) →
          SA C (upd (upd H1 pl (.lst ((ls.map V.ref).set i.toNat (.ref pr)))) q (.lst [.int 0])) a ⟨c', st.tally⟩ (fun b => Fp b ∨ b = pr) := by
        intro c' hk' hg' hm'
        refine ⟨dx, pl, pm, ls.set i.toNat pr, kvs, fun b => F1 b ∨ b = pr, ql, qm, ms, jvs, F2, s3 _ _ ?_, ?_, ?_, ?_, .inl h.fa, fun b hb => hb.elim (fun z => .inl (h.f1 b z)) .inr, fun b hb => .inl (h.f2 b hb), fun b hb => ?_, fun b hb => ?_, ?_, h.n2⟩
        · rw [upd_ne hap, h1.ins]
          show _ = some (HO.ins C dx (cF (.int (c'.k : Nat)) _ _ _ _ _))
          rw [hk']
        · show Blk _ pl pm c'.k (c'.ground :: c'.letters) (Lf02.movesOf c') _ _ _
          rw [hk', hg']
          exact (b1'.frame fun b o _ e => s3 _ _ e).mv fun t _ => (hm' t).symm
        · show Blk _ ql qm c'.k (gl c'.k st.tally) (wts c'.k st.tally) _ _ _
          rw [hk']
          exact h.b2.frame fun b o hb e => s3 _ _ (by rw [upd_ne (show b ≠ pl from fun z => h.dis pl h.b1.fl (z ▸ hb))]; exact s1 _ _ e)
        · show Sep c'.k ms jvs
          rw [hk']
          exact h.sep
        · rcases hb with z | z
          · rcases h.all b z with q | q | q
            · exact .inl q
            · exact .inr (.inl (.inl q))
            · exact .inr (.inr q)
          · exact .inr (.inl (.inr z))
        · rcases hb with z | z
          · exact h.dis b z
          · rw [z]; exact fun y => npr (h.f2 pr y)
        · rintro (z | z)
          · exact h.n1 z
          · exact npr (by rw [← z]; exact h.fa)
      refine kk _ (fun b => Fp b ∨ b = pr) q ?_ (fun b o e nb => ?_) (fun b hb => ?_) (s1.free hq1) (fun z => ?_) ?_
      · rw [es2]
        refine key _ (by split <;> rfl) ?_ (fun t => by split <;> rfl)
        by_cases z : i.toNat = 0
        · rw [if_pos z, z]
          rfl
        · rw [if_neg z]
          obtain ⟨j, hj⟩ : ∃ j, i.toNat = j + 1 := ⟨i.toNat - 1, by omega⟩
          rw [hj]
          rfl
      · exact s3 _ _ (by rw [upd_ne (show b ≠ pl from fun z => nb (by rw [z]; exact h.f1 _ h.b1.fl))]; exact s1 _ _ e)
      · rcases hb with h' | h'
        · exact .inl h'
        · exact .inr (.inr (.inr h'))
      · rcases z with h' | h'
        · obtain ⟨o, ho⟩ := sa_tracks C _ _ _ _ sa q h'
          rw [s1.free hq1] at ho
          cases ho
        · rw [h', s1 _ _ hpr'] at hq1
          cases hq1
      · rw [es2, upd_same]
        rfl
theorem ok_moves {f fW : Addr} {fd dW : FuncData} (F : Fun K "answer_moves" "answer_moves" sMoves f fd) (T : TChain K mg C) (B : Blt mg) (N : TNum mg t1 t2 t3 t4 t5) (DW : Dn K mg "are_weights" sAreW ["weights"] fW dW) (GW : FnOk P w K mg base CX0 1 fW dW ["weights"] (spAreW K)) :
    FnOk P w K mg base CX0 2 f fd ["chain", "numbers", "row"] (spA K (SA C) OkSt 2) := by
  refine F.ok scMoves (fun vs H Q E h => ?_) (fun cdv A outer s H vs Q E hr h => ?_)
  · obtain ⟨a, pn, pr, st, F, nums, row, rfl, _⟩ := h
    rfl
  · obtain ⟨a, pn, pr, st, Fp, nums, row, rfl, sa, ok, hpn, hpr, npn, npr, ln, lr, nr, bn, br, kk⟩ := h
    have hu := hu_of hr
    refine ⟨_, pss_cons (ps_set (i := 3) scMoves.nd rfl (Or.inl rfl) (pe_tup (pa_cons (pe_ix ix_list (pv 1) (pe_int) (fun _ _ => rfl)) (pa_cons (pe_ix ix_list (pv 1) (pe_int) (fun _ _ => rfl)) pa_nil))))
      (pss_cons (ps_set (i := 4) scMoves.nd rfl (Or.inl rfl) (pe_slice sl_list (pv 1) (po_some (pe_int)) po_none))
      (pss_cons (ps_set (i := 5) scMoves.nd rfl (Or.inl rfl) (pe_ix ix_list (pv 4) (pe_int) (fun _ _ => rfl)))
      (pss_cons (ps_set (i := 6) scMoves.nd rfl (Or.inl rfl) (pe_ix ix_list (pv 4) (pe_int) (fun _ _ => rfl)))
      (pss_cons (ps_if (PW.pt (pw_or (pt_cmp (pc_dnotin hu (pv 3) (pe_fld (pv 0) rfl))) (pw_or1 (pt_not (pt_val (pe_call GW hr rfl DW.g DW.F.kp DW.b .nil pass0 (pa_cons (pv 4) pa_nil))))))) (pss_one (ps_ret (pe_lst (pa_cons (pe_glob rfl N.refused (v := .int (-1)) ⟨_, rfl⟩) pa_nil)))) (pss_nil))
      (pss_cons (ps_if (PW.pt (pw_and (pt_cmpR op_eq (pe_ix ix_tup (pv 3) (pe_int) (fun _ _ => rfl)) (pe_fld (pv 0) rfl) (nomark _)) (pw_and1 (pt_cmpR op_ne (pv 6) (pe_int) (nomark _))))) (pss_one (ps_ret (pe_lst (pa_cons (pe_glob rfl N.refused (v := .int (-1)) ⟨_, rfl⟩) pa_nil)))) (pss_nil))
      (pss_cons (ps_if (PW.pt (pw_and (pt_cmpR op_eq (pv 5) (pe_int) (nomark _)) (pw_and1 (pt_cmpR op_eq (pv 6) (pe_int) (nomark _))))) (pss_one (ps_ret (pe_lst (pa_cons (pe_glob rfl N.refused (v := .int (-1)) ⟨_, rfl⟩) pa_nil)))) (pss_nil))
      (pss_cons (ps_dput hu (pe_fld (pv 0) rfl) (pv 3) (pv 4) rfl)
      (pss_one (ps_ret (pe_lst (pa_cons (pe_int) pa_nil))))))))))), ?_⟩
    obtain ⟨t, i, x, y, d, rfl⟩ : ∃ t i x y d, nums = [t, i, x, y, d] := by
      match nums, ln with
      | [t, i, x, y, d], _ => exact ⟨t, i, x, y, d, rfl⟩
    have r0 := nr rfl
    subst r0
    have bt := bn t (by simp)
    have bi := bn i (by simp)
    have bx := bn x (by simp)
    have by' := bn y (by simp)
    have bd := bn d (by simp)
    have es := step_moves (st := st) bn
    have et : t = ((t.toNat : Nat) : Int) := by omega
    have ei : i = ((i.toNat : Nat) : Int) := by omega
    have sa' := sa
    obtain ⟨dx, pl, pm, ls, kvs, F1, ql, qm, ms, jvs, F2, h⟩ := sa'
    have hrd : ChRd C H a st.chain _ dx pl pm ls kvs := ⟨h.ins, cF_last, cF_letters, cF_moves, h.b1.hl, h.b1.hls, h.b1.hm, h.b1.hms⟩
    have estep : ∀ c : Lf02.isState st.chain.k ⟨t.toNat, i.toNat⟩ = false ∨ 99 < x.toNat ∨ 99 < y.toNat ∨ 99 < d.toNat ∨ (i.toNat = st.chain.k ∧ d.toNat ≠ 0) ∨ x.toNat + d.toNat = 0, Lf02Neutral.step st (2 :: ([t, i, x, y, d] ++ [])) = (st, [-1]) := fun c => by
      rw [es]
      show (if _ then (st, [-1]) else _) = _
      rw [if_pos c]
    -- state = (numbers[0], numbers[1])
    refine ⟨_, rfl, pn, _, _, _, rfl, rfl, SqL.of hpn, atI_nat (j := 0) rfl, _, rfl, pn, _, _, _, rfl, rfl, SqL.of hpn, atI_nat (j := 1) rfl, by show 2 ≤ sizeLine; decide, fun ts hts => ?_⟩
    have s1 := sm_new (o := .tup [.int t, .int i]) hts
    -- weights = numbers[2:]
    refine ⟨_, rfl, _, rfl, pn, _, rfl, SqL.of (s1 _ _ hpn), fun pw hpw => ?_⟩
    have ecut : cutV (intsV [t, i, x, y, d]) (some 2) none = intsV [x, y, d] := rfl
    rw [ecut]
    have s2 := sm_new (o := .lst (intsV [x, y, d])) hpw
    have s12 := s1.trans s2
    have hts2 := s2 _ _ (upd_same (H := H) (a := ts) (o := .tup [.int t, .int i]))
    have hpw2 : (upd (upd H ts (.tup [.int t, .int i])) pw (.lst (intsV [x, y, d]))) pw = some (.lst (intsV [x, y, d])) := upd_same
    have nts : H ts = none := hts
    have npw : H pw = none := s1.free hpw
    revert s12 hts2 hpw2
    generalize upd (upd H ts (.tup [.int t, .int i])) pw (.lst (intsV [x, y, d])) = H2
    intro s12 hts2 hpw2
    refine ⟨_, rfl, pw, _, _, _, rfl, rfl, SqL.of hpw2, atI_nat (j := 0) rfl, ?_⟩
    refine ⟨_, rfl, pw, _, _, _, rfl, rfl, SqL.of hpw2, atI_nat (j := 2) rfl, ?_⟩
    have refuse : (Lf02.isState st.chain.k ⟨t.toNat, i.toNat⟩ = false ∨ 99 < x.toNat ∨ 99 < y.toNat ∨ 99 < d.toNat ∨ (i.toNat = st.chain.k ∧ d.toNat ≠ 0) ∨ x.toNat + d.toNat = 0) → ∀ (H1 : Hp) (D : Ends), Same H H1 → D.rt = Q →
        tRet (tLst (tCons (tC (.int (-1))) tNil)) D [some (.ref a), some (.ref pn), some (.ref pr), some (.ref ts), some (.ref pw), some (.int x), some (.int d)] H1 := by
      intro c H1 D s1 hD
      refine ⟨by show 1 ≤ sizeLine; decide, fun q hq => ?_⟩
      rw [hD]
      exact back_same (rep1 C) sa kk (estep c) s1 hq
    have h2 := hrd.keep s12
    have htsK : H2 ts = some (.tup ((stK ⟨t.toNat, i.toNat⟩).map kV)) := by
      rw [hts2]
      show some (HO.tup [V.int t, V.int i]) = some (HO.tup [V.int ((t.toNat : Nat) : Int), V.int ((i.toNat : Nat) : Int)])
      rw [← et, ← ei]
    -- state not in chain.moves
    refine ⟨_, rfl, _, rfl, a, C, dx, _, _, rfl, h2.ins, T.cl, T.nMoves, h2.moves, pm, _, rfl, DGet.t h2.hm htsK, _, rfl, ?_⟩
    by_cases c1 : IsS st.chain.k ⟨t.toNat, i.toNat⟩
    rotate_left
    · refine if_t (by rw [h.b1.no _ c1]; rfl) ?_
      refine refuse (.inl ?_) H2 _ s12 rfl
      cases e : Lf02.isState st.chain.k ⟨t.toNat, i.toNat⟩ with
      | false => rfl
      | true => exact absurd (isS_iff.mp e) c1
    obtain ⟨pa, v1, v2⟩ := h2.hms _ c1
    refine if_f (by rw [v1]; rfl) ?_
    -- not are_weights(weights)
    have b3 : ∀ z ∈ [x, y, d], 0 ≤ z ∧ z ≤ 4294967295 := fun z hz => bn z (List.mem_cons_of_mem _ (List.mem_cons_of_mem _ hz))
    have hpwN : H2 pw = some (.lst (natsV [x.toNat, y.toNat, d.toNat])) := by rw [hpw2, intsV_nats b3]; rfl
    refine ⟨_, rfl, pw, [x.toNat, y.toNat, d.toNat], rfl, SqL.of hpwN, by show 3 ≤ 600; decide, fun H3 s3 => ⟨_, rfl, ?_⟩⟩
    by_cases c2 : ([x.toNat, y.toNat, d.toNat].all fun a => decide (a ≤ 99)) = true
    rotate_left
    · have c2' : ([x.toNat, y.toNat, d.toNat].all fun a => decide (a ≤ 99)) = false := by simpa using c2
      refine if_t (by rw [c2']; rfl) ?_
      refine refuse (.inr ?_) H3 _ (s12.trans s3) rfl
      simp only [List.all_cons, List.all_nil, Bool.and_true, Bool.and_eq_true, decide_eq_true_iff] at c2
      omega
    refine if_f (by rw [c2]; rfl) ?_
    simp only [List.all_cons, List.all_nil, Bool.and_true, Bool.and_eq_true, decide_eq_true_iff] at c2
    have s13 := s12.trans s3
    have h3 := h2.keep s3
    have hts3 := s3 _ _ hts2
    -- if on == 0 and leaving == 0, a store, an answer
    have last : ¬ (i.toNat = st.chain.k ∧ d.toNat ≠ 0) → ∀ D : Ends, D.rt = Q → tSeq (tIfS (tAnd (tTest (tOp rEq (tVar 5) (tC (.int 0)))) (tTest (tOp rEq (tVar 6) (tC (.int 0))))) (tRet (tLst (tCons (tC (.int (-1))) tNil))) tNext)
        (tSeq (sDPut (tFld K (tVar 0) "moves") (tVar 3) (tVar 4)) (tRet (tLst (tCons (tC (.int 0)) tNil)))) D [some (.ref a), some (.ref pn), some (.ref pr), some (.ref ts), some (.ref pw), some (.int x), some (.int d)] H3 := by
      intro c4 D hD
      refine ⟨_, rfl, rfl, _, rfl, ?_⟩
      have go : ¬ (x.toNat + d.toNat = 0) → (tSeq (sDPut (tFld K (tVar 0) "moves") (tVar 3) (tVar 4)) (tRet (tLst (tCons (tC (.int 0)) tNil)))) D [some (.ref a), some (.ref pn), some (.ref pr), some (.ref ts), some (.ref pw), some (.int x), some (.int d)] H3 := by
        intro c5
        have hts3K := s3 _ _ htsK
        have few := h.b1.few
        refine ⟨_, rfl, _, rfl, a, C, dx, _, _, rfl, h3.ins, T.cl, T.nMoves, h3.moves, _, rfl, pm, _, rfl, DPut.t h3.hm hts3K (small1000 (by omega)), ?_⟩
        refine ⟨by show 1 ≤ sizeLine; decide, fun q hq => ?_⟩
        rw [hD]
        have es2 : Lf02Neutral.step st (2 :: ([t, i, x, y, d] ++ [])) = (⟨⟨st.chain.k, st.chain.letters, st.chain.ground, Lf02.putMoves st.chain.moves ⟨t.toNat, i.toNat⟩ (x.toNat, y.toNat, d.toNat)⟩, st.tally⟩, [0]) := by
          rw [es]
          show (if _ then (st, [-1]) else _) = _
          rw [if_neg]
          rintro (z | z | z | z | z | z)
          · rw [isS_iff.mpr c1] at z; cases z
          · omega
          · omega
          · omega
          · exact c4 z
          · exact c5 z
        have s5 := sm_new (o := .lst [.int 0]) hq
        have nqm : q ≠ pm := fun z => by rw [z, upd_same] at hq; cases hq
        have hq3 : H3 q = none := by rw [upd_ne nqm] at hq; exact hq
        have hpw3 := s3 _ _ hpwN
        have hap : a ≠ pm := fun z => by
          have := h3.ins
          rw [z, h3.hm] at this
          cases this
        have npF : ¬ Fp pw := fun z => by
          obtain ⟨o, ho⟩ := sa_tracks C _ _ _ _ sa pw z
          rw [npw] at ho
          cases ho
        have mvE : ∀ u, Lf02.movesOf ⟨st.chain.k, st.chain.letters, st.chain.ground, Lf02.putMoves st.chain.moves ⟨t.toNat, i.toNat⟩ (x.toNat, y.toNat, d.toNat)⟩ u = if u = ⟨t.toNat, i.toNat⟩ then (x.toNat, y.toNat, d.toNat) else Lf02.movesOf st.chain u := fun u => moves_put st.chain _ _ _
        have b1' := (h.b1.frame (H' := H3) fun b o _ e => s13 _ _ e).putMv (mv' := Lf02.movesOf ⟨st.chain.k, st.chain.letters, st.chain.ground, Lf02.putMoves st.chain.moves ⟨t.toNat, i.toNat⟩ (x.toNat, y.toNat, d.toNat)⟩) (l := ⟨t.toNat, i.toNat⟩) c1 (u := pw) (by rw [mvE, if_pos rfl]; exact hpw3) (fun u hu => by rw [mvE, if_neg hu])
        refine kk _ (fun b => Fp b ∨ b = pw) q ?_ (fun b o e nb => ?_) (fun b hb => ?_) (s13.free hq3) (fun z => ?_) ?_
        · rw [es2]
          refine ⟨dx, pl, pm, ls, putK kvs (stK ⟨t.toNat, i.toNat⟩) (.ref pw), fun b => F1 b ∨ b = pw, ql, qm, ms, jvs, F2, s5 _ _ (by rw [upd_ne hap]; exact h3.ins), b1'.frame fun b o _ e => s5 _ _ e, ?_, h.sep, .inl h.fa, fun b hb => hb.elim (fun z => .inl (h.f1 b z)) .inr, fun b hb => .inl (h.f2 b hb), fun b hb => ?_, fun b hb => ?_, ?_, h.n2⟩
          · exact h.b2.frame fun b o hb e => s5 _ _ (by rw [upd_ne (show b ≠ pm from fun z => h.dis pm h.b1.fm (z ▸ hb))]; exact s13 _ _ e)
          · rcases hb with z | z
            · rcases h.all b z with q | q | q
              · exact .inl q
              · exact .inr (.inl (.inl q))
              · exact .inr (.inr q)
            · exact .inr (.inl (.inr z))
          · rcases hb with z | z
            · exact h.dis b z
            · rw [z]; exact fun y => npF (h.f2 pw y)
          · rintro (z | z)
            · exact h.n1 z
            · exact npF (by rw [← z]; exact h.fa)
        · have z : b ≠ pm := fun z => nb (by rw [z]; exact h.f1 _ h.b1.fm)
          refine s5 _ _ ?_
          rw [upd_ne z]
          exact s13 _ _ e
        · rcases hb with h' | h'
          · exact .inl h'
          · exact .inr (.inl (by rw [h']; exact npw))
        · rcases z with h' | h'
          · obtain ⟨o, ho⟩ := sa_tracks C _ _ _ _ sa q h'
            rw [s13.free hq3] at ho
            cases ho
          · rw [h', hpw3] at hq3
            cases hq3
        · rw [es2, upd_same]
          rfl
      by_cases c5 : x = 0
      · refine if_t (by rw [c5]; rfl) ?_
        refine ⟨_, rfl, rfl, _, rfl, ?_⟩
        by_cases c6 : d = 0
        · refine if_t (by rw [c6]; rfl) ?_
          exact refuse (.inr (.inr (.inr (.inr (.inr (by omega)))))) H3 D s13 hD
        · refine if_f (by simpa using c6) ?_
          exact go (by omega)
      · refine if_f (by simpa using c5) ?_
        exact go (by omega)
    -- state[1] == chain.last and leaving != 0
    refine ⟨_, rfl, ts, _, _, _, rfl, rfl, SqT.of hts3, at1, _, rfl, a, C, dx, _, _, rfl, h3.ins, T.cl, T.nLast, h3.last, rfl, _, rfl, ?_⟩
    by_cases c3 : i.toNat = st.chain.k
    · refine if_t (decide_eq_true (by rw [← c3, ← ei])) ?_
      refine ⟨_, rfl, rfl, _, rfl, ?_⟩
      by_cases c4 : d.toNat = 0
      · refine if_f (by rw [show d = 0 by omega]; rfl) ?_
        exact last (fun z => z.2 c4) _ rfl
      · refine if_t (by simp; omega) ?_
        exact refuse (.inr (.inr (.inr (.inr (.inl ⟨c3, c4⟩))))) H3 _ s13 rfl
    · refine if_f (decide_eq_false (fun z => c3 (by injection z with z; omega))) ?_
      exact last (fun z => c3 z.1) _ rfl
end
end Fh

namespace Fh
open PySem PySem.Spec PyProof.Rows L2
open Fc
open Lf02 (Frac State Chain Word)
theorem step_lengths {st : Lf02.St} {n : Int} (h : 0 ≤ n ∧ n ≤ 4294967295) : Lf02Neutral.step st (7 :: ([n] ++ [])) = (st, if 8 < n.toNat then [-1] else Lf02.told (Lf02.lengths st.chain n.toNat)) := by
  unfold Lf02Neutral.step
  have e : Lf02Neutral.callOf (7 :: ([n] ++ [])) = some (.lengths n.toNat) := by
    show (if Lf02Neutral.nat n = true then some (Lf02.Call.lengths n.toNat) else none) = _
    rw [if_pos (nat_ok h)]
  rw [e]
  rfl
theorem step_take {st : Lf02.St} : Lf02Neutral.step st (9 :: ([] ++ [])) = (⟨Lf02.learnt st.chain.k st.tally, Lf02.noTally⟩, [((st.tally.moves.length : Nat) : Int)]) := rfl
theorem step_learn {st : Lf02.St} {row : List Int} (h : ∀ x ∈ row, 0 ≤ x ∧ x ≤ 4294967295) : Lf02Neutral.step st (8 :: ([] ++ row)) = Lf02.step st (.learn (nats row)) := by
  unfold Lf02Neutral.step
  have e : Lf02Neutral.callOf (8 :: ([] ++ row)) = some (.learn (nats row)) := by
    show (if Lf02Neutral.nats row = true then some (Lf02.Call.learn (row.map Int.toNat)) else none) = _
    rw [if_pos (nats_ok h)]
    rfl
  rw [e]
theorem rep_non (n : Nat) : (List.replicate n [V.non]).flatten = List.replicate n V.non := by
  induction n with
  | zero => rfl
  | succ n ih => rw [List.replicate_succ, List.flatten_cons, ih, List.replicate_succ]; rfl
section
variable {P : Program} {w : World} {K : PySem.W.Frag} {mg : Str → Option Value} {base : Heap} {C CR z o b : Addr} {t1 t2 t3 t4 t5 t6 t7 t8 t9 : Tok}
abbrev sLengths : Stmt := top 43
abbrev sLearn : Stmt := top 44
abbrev sTake : Stmt := top 45
theorem scLengths : FnScope ["chain", "numbers", "row", "length"] ["chain", "numbers", "row"] (defScope sLengths) := ⟨rfl, rfl, rfl, by decide +kernel, rfl, by decide +kernel, by decide +kernel⟩
theorem scLearn : FnScope ["chain", "numbers", "row", "rests", "states"] ["chain", "numbers", "row"] (defScope sLearn) := ⟨rfl, rfl, rfl, by decide +kernel, rfl, by decide +kernel, by decide +kernel⟩
theorem scTake : FnScope ["chain", "numbers", "row", "counted"] ["chain", "numbers", "row"] (defScope sTake) := ⟨rfl, rfl, rfl, by decide +kernel, rfl, by decide +kernel, by decide +kernel⟩
theorem ok_lengths {f f2 : Addr} {fd fd2 : FuncData} (F : Fun K "answer_lengths" "answer_lengths" sLengths f fd) (TR : TRest K mg CR) (TC : TCon K mg z o b) (B : Blt mg) (N : TNum mg t1 t2 t3 t4 t5) (N2 : TNum2 mg t6 t7 t8 t9)
    (D2 : Dn K mg "rests_of" sRests ["chain", "word"] f2 fd2) (G2 : FnOk P w K mg base CX0 5 f2 fd2 ["chain", "word"] (spRests K C CR)) :
    FnOk P w K mg base CX0 6 f fd ["chain", "numbers", "row"] (spA K (SA C) OkSt 7) := by
  refine F.ok scLengths (fun vs H Q E h => ?_) (fun cdv A outer s H vs Q E hr h => ?_)
  · obtain ⟨a, pn, pr, st, F, nums, row, rfl, _⟩ := h
    rfl
  · obtain ⟨a, pn, pr, st, Fp, nums, row, rfl, sa, ok, hpn, hpr, npn, npr, ln, lr, nr, bn, br, kk⟩ := h
    have hu := hu_of hr
    refine ⟨_, pss_cons (ps_set (i := 3) scLengths.nd rfl (Or.inl rfl) (pe_ix ix_list (pv 1) (pe_int) (fun _ _ => rfl)))
      (pss_cons (ps_if (pt_cmpR op_gt (pv 3) (pe_glob rfl N2.length (v := .int 8) ⟨_, rfl⟩) (nomark _)) (pss_one (ps_ret (pe_lst (pa_cons (pe_glob rfl N.refused (v := .int (-1)) ⟨_, rfl⟩) pa_nil)))) (pss_nil))
      (pss_one (ps_ret (pe_callTy call_list_of (by rfl) B.list (by decide +kernel) (pa_cons (pe_fld (pe_dgetW hu (pe_call G2 hr rfl D2.g D2.F.kp D2.b .nil pass0 (pa_cons (pv 0) (pa_cons (pe_op op_rep (pe_lst (pa_cons pe_non pa_nil)) (pv 3)) pa_nil))) (pe_glob rfl TC.beg (v := .ref b) rfl) (fun _ _ => rfl)) rfl) pa_nil))))), ?_⟩
    obtain ⟨n, rfl⟩ : ∃ n, nums = [n] := by
      match nums, ln with
      | [n], _ => exact ⟨n, rfl⟩
    have r0 := nr rfl
    subst r0
    have bnn := bn n (List.mem_cons_self ..)
    have es := step_lengths (st := st) bnn
    refine ⟨_, rfl, pn, _, _, _, rfl, rfl, SqL.of hpn, atI_nat (j := 0) rfl, ?_⟩
    refine ⟨_, rfl, _, _, rfl, rfl, _, rfl, ?_⟩
    by_cases c1 : 8 < n
    · refine if_t (decide_eq_true c1) ?_
      refine ⟨by show 1 ≤ sizeLine; decide, fun q hq => ?_⟩
      rw [if_pos (by omega)] at es
      exact back_same (rep1 C) sa kk es (Same.refl H) hq
    · refine if_f (decide_eq_false c1) ?_
      rw [if_neg (by omega)] at es
      refine ⟨_, rfl, by show 1 ≤ sizeLine; decide, fun g hg => ?_⟩
      have s1 := sm_new (o := .lst [.non]) hg
      refine ⟨_, rfl, g, n, _, rfl, rfl, upd_same, by omega, by omega, ?_, fun pw hpw => ?_⟩
      · exact Nat.le_of_lt (small1000 (by show 1 * n.toNat ≤ 1000; omega))
      rw [rep_non]
      have s2 := sm_new (o := .lst (List.replicate n.toNat .non)) hpw
      have s12 := s1.trans s2
      have hpw2 : (upd (upd H g (.lst [.non])) pw (.lst (List.replicate n.toNat .non))) pw = some (.lst (List.replicate n.toNat .non)) := upd_same
      revert s12 hpw2
      generalize upd (upd H g (.lst [.non])) pw (.lst (List.replicate n.toNat .non)) = H2
      intro s12 hpw2
      refine ⟨a, pw, st.chain, flatC st.chain, List.replicate n.toNat 0, rfl, ok.c, (sa_rd sa).keep s12, .inr ⟨rfl, SqL.of (by rw [List.length_replicate]; exact hpw2), fun x hx => (List.mem_replicate.mp hx).2⟩, by rw [List.length_replicate]; omega, fun H3 p kvs s3 np hp tab => ?_⟩
      obtain ⟨ra, r1, tg, ⟨dx, pt, pb, r2, r3, _⟩, _, _⟩ := tab (0, 0, 0) (vs_begin _ _)
      refine ⟨p, b, kvs, spK (0, 0, 0), .ref ra, rfl, rfl, .inl hp, TC.hb _, r1, ra, CR, dx, _, _, rfl, r2, TR.cl, TR.nTotal, rF_total, ?_⟩
      refine ⟨pt, _, rfl, .inr r3, fun q hq => ?_⟩
      have e : frV (rvl (flatC st.chain) (List.replicate n.toNat 0) (0, 0, 0)).total = intsV (Lf02.told (Lf02.lengths st.chain n.toNat)) := by
        rw [rvl_begin, ← lengths_total ok.c]
        rfl
      rw [e]
      exact back_same (rep1 C) sa kk es (s12.trans s3) hq
theorem ok_take {f f1 : Addr} {fd fd1 : FuncData} (F : Fun K "answer_take" "answer_take" sTake f fd) (T : TChain K mg C) (M : Meth K C "take_learnt" f1) (B1 : Binds K fd1 ["self"] []) (G1 : FnOk P w K mg base CX0 4 f1 fd1 ["self"] (spTL C)) :
    FnOk P w K mg base CX0 5 f fd ["chain", "numbers", "row"] (spA K (SA C) OkSt 9) := by
  refine F.ok scTake (fun vs H Q E h => ?_) (fun cdv A outer s H vs Q E hr h => ?_)
  · obtain ⟨a, pn, pr, st, F, nums, row, rfl, _⟩ := h
    rfl
  · obtain ⟨a, pn, pr, st, Fp, nums, row, rfl, sa, ok, hpn, hpr, npn, npr, ln, lr, nr, bn, br, kk⟩ := h
    refine ⟨_, pss_cons (ps_set (i := 3) scTake.nd rfl (Or.inl rfl) (pe_fld (pv 0) rfl))
      (pss_cons (ps_expr (pe_meth0 (pv 0) T.cl M G1 hr B1 .nil pass0))
      (pss_one (ps_ret (pe_lst (pa_cons (pv 3) pa_nil))))), ?_⟩
    have n0 : nums = [] := List.length_eq_zero_iff.mp ln
    subst n0
    have r0 := nr rfl
    subst r0
    have sa' := sa
    obtain ⟨dx, pl, pm, ls, kvs, F1, ql, qm, ms, jvs, F2, h⟩ := sa'
    refine ⟨_, rfl, a, C, dx, _, _, rfl, h.ins, T.cl, T.nCounted, cF_counted, ?_⟩
    refine ⟨_, rfl, a, dx, _, rfl, h.ins, cF_take_learnt, ?_⟩
    refine ⟨a, st, Fp, rfl, sa, ok.c.k4, fun H1 F1' sa1 b1 f1 => ?_⟩
    refine ⟨_, rfl, by show 1 ≤ sizeLine; decide, fun q hq => ?_⟩
    have s2 := sm_new (o := .lst [.int ((st.tally.moves.length : Nat) : Int)]) hq
    have sa1' := sa1
    obtain ⟨dx1, _, _, _, _, _, _, _, _, _, _, hs1⟩ := sa1'
    refine kk _ F1' q ?_ (fun b o e nb => ?_) (fun b hb => ?_) (b1.free hs1.ins hq) (fun z => ?_) ?_
    · rw [step_take]
      exact sa_frame C _ _ _ _ _ (fun b o _ e => s2 _ _ e) sa1
    · exact s2 _ _ (b1 _ _ e fun z => nb (by rw [z]; exact h.fa))
    · rcases f1 b hb with h' | h'
      · exact .inl h'
      · exact .inr (.inl h')
    · obtain ⟨o, ho⟩ := sa_tracks C _ _ _ _ sa1 q z
      rw [hq] at ho
      cases ho
    · rw [step_take, upd_same]
      rfl
theorem ok_learn {f f1 f2 f3 f4 f5 : Addr} {fd fd1 fd2 fd3 fd4 fd5 : FuncData} (F : Fun K "answer_learn" "answer_learn" sLearn f fd) (T : TChain K mg C) (TR : TRest K mg CR) (TC : TCon K mg z o b) (B : Blt mg) (N : TNum mg t1 t2 t3 t4 t5) (N2 : TNum2 mg t6 t7 t8 t9)
    (D1 : Dn K mg "is_word" sIsW ["word"] f1 fd1) (G1 : FnOk P w K mg base CX0 1 f1 fd1 ["word"] (spIsW K))
    (D2 : Dn K mg "rests_of" sRests ["chain", "word"] f2 fd2) (G2 : FnOk P w K mg base CX0 5 f2 fd2 ["chain", "word"] (spRests K C CR))
    (D3 : Dn K mg "best_states" sBest ["rests"] f3 fd3) (G3 : FnOk P w K mg base CX0 1 f3 fd3 ["rests"] (spBest K CR))
    (D4 : Dn K mg "told_states" sTold ["states"] f4 fd4) (G4 : FnOk P w K mg base CX0 1 f4 fd4 ["states"] spTold)
    (M5 : Meth K C "count_way" f5) (B5 : Binds K fd5 ["self", "states", "word"] []) (G5 : FnOk P w K mg base CX0 3 f5 fd5 ["self", "states", "word"] (spCW C)) :
    FnOk P w K mg base CX0 6 f fd ["chain", "numbers", "row"] (spA K (SA C) OkSt 8) := by
  refine F.ok scLearn (fun vs H Q E h => ?_) (fun cdv A outer s H vs Q E hr h => ?_)
  · obtain ⟨a, pn, pr, st, F, nums, row, rfl, _⟩ := h
    rfl
  · obtain ⟨a, pn, pr, st, Fp, nums, row, rfl, sa, ok, hpn, hpr, npn, npr, ln, lr, nr, bn, br, kk⟩ := h
    have hr1 : Room 1 _ := hr.mono (by decide)
    have hr3 : Room 3 _ := hr.mono (by decide)
    have hu := hu_of hr
    refine ⟨_, pss_cons (ps_if (pt_not (pt_val (pe_call G1 hr1 rfl D1.g D1.F.kp D1.b .nil pass0 (pa_cons (pv 2) pa_nil)))) (pss_one (ps_ret (pe_lst (pa_cons (pe_glob rfl N.refused (v := .int (-1)) ⟨_, rfl⟩) pa_nil)))) pss_nil)
      (pss_cons (ps_set (i := 3) scLearn.nd rfl (Or.inl rfl) (pe_call G2 hr rfl D2.g D2.F.kp D2.b .nil pass0 (pa_cons (pv 0) (pa_cons (pv 2) pa_nil))))
      (pss_cons (ps_if (pt_cmpR op_eq (pe_fld (pe_dgetW hu (pv 3) (pe_glob rfl TC.beg (v := .ref b) rfl) (fun _ _ => rfl)) rfl) pe_int (nomark _)) (pss_one (ps_ret (pe_lst (pa_cons (pe_glob rfl N2.noway (v := .int (-6)) ⟨_, rfl⟩) pa_nil)))) pss_nil)
      (pss_cons (ps_set (i := 4) scLearn.nd rfl (Or.inl rfl) (pe_call G3 hr1 rfl D3.g D3.F.kp D3.b .nil pass0 (pa_cons (pv 3) pa_nil)))
      (pss_cons (ps_if (pt_cmpR op_gt (pe_op op_add (pe_fld (pv 0) rfl) (pe_callB call_len_seq (by rfl) B.len PySem.boot_len (pa_cons (pv 4) pa_nil))) (pe_glob rfl N2.counted (v := .int 90) ⟨_, rfl⟩) (nomark _)) (pss_one (ps_ret (pe_lst (pa_cons (pe_glob rfl N2.many (v := .int (-5)) ⟨_, rfl⟩) pa_nil)))) pss_nil)
      (pss_cons (ps_expr (pe_meth (pv 0) T.cl M5 G5 hr3 B5 .nil pass0 (pa_cons (pv 4) (pa_cons (pv 2) pa_nil))))
      (pss_one (ps_ret (pe_call G4 hr1 rfl D4.g D4.F.kp D4.b .nil pass0 (pa_cons (pv 4) pa_nil))))))))), ?_⟩
    have n0 : nums = [] := List.length_eq_zero_iff.mp ln
    subst n0
    have es := step_learn (st := st) br
    have hprN : H pr = some (.lst (natsV (nats row))) := by rw [← intsV_nats br]; exact hpr
    have hw : SqL K H pr (natsV (nats row)) := SqL.of hprN
    generalize hwd : nats row = wd at *
    have lwd : wd.length ≤ 12 := by rw [← hwd, nats_len]; exact lr
    have est : Lf02.step st (.learn wd) = if Lf02.isWord wd = false then (st, [-1]) else (match Lf02.best st.chain wd with
        | none => (st, [-6])
        | some x => if 90 < st.tally.moves.length + x.1.1.length then (st, [-5]) else (⟨st.chain, Lf02.counted st.tally x.1.1 wd⟩, Lf02.toldWay x.1.1)) := rfl
    rw [est] at es
    refine ⟨_, rfl, pr, wd, rfl, hw, by omega, fun H1 s1 => ⟨_, rfl, ?_⟩⟩
    by_cases hW : Lf02.isWord wd = true
    rotate_left
    · have hW' : Lf02.isWord wd = false := by simpa using hW
      refine if_t (by rw [hW']; rfl) ?_
      refine ⟨by show 1 ≤ sizeLine; decide, fun q hq => ?_⟩
      rw [if_pos hW'] at es
      exact back_same (rep1 C) sa kk es s1 hq
    refine if_f (by rw [hW]; rfl) ?_
    rw [if_neg (by rw [hW]; decide)] at es
    have w5 := isW_5 hW
    refine ⟨_, rfl, _, rfl, a, pr, st.chain, st.chain, wd, rfl, ok.c, (sa_rd sa).keep s1, .inl ⟨rfl, s1.seq hw, w5.2⟩, Nat.le_trans w5.1 (by decide), fun H2 p kvs s2 np hp tab => ?_⟩
    have tab0 := tab (0, 0, 0) (vs_begin st.chain wd)
    obtain ⟨ra, r1, tg, ⟨dxr, pt, pb, r2, r3, r3'⟩, _, _⟩ := tab0
    have s12 := s1.trans s2
    refine ⟨_, rfl, p, b, kvs, spK (0, 0, 0), .ref ra, rfl, rfl, .inl hp, TC.hb _, r1, ra, CR, dxr, _, _, rfl, r2, TR.cl, TR.nWays, rF_ways, rfl, _, rfl, ?_⟩
    by_cases w0 : (rvl st.chain wd (0, 0, 0)).ways = 0
    · refine if_t (by rw [w0]; rfl) ?_
      refine ⟨by show 1 ≤ sizeLine; decide, fun q hq => ?_⟩
      rw [rvl_begin] at w0
      have e0 : Lf02.ways st.chain wd = [] := List.length_eq_zero_iff.mp w0
      rw [best_eq, e0] at es
      exact back_same (rep1 C) sa kk es s12 hq
    refine if_f (by simp; omega) ?_
    have pl := path_len ok.c w5.1
    have hne : Lf02.ways st.chain wd ≠ [] := fun e => w0 (by rw [rvl_begin, e]; rfl)
    obtain ⟨bb, hbb⟩ := some_of hne
    have epath : (rvl st.chain wd (0, 0, 0)).path = bb.1 := by
      rw [rvl_begin]
      exact path_some hbb
    rw [best_eq, hbb] at es
    have es' : Lf02Neutral.step st (8 :: ([] ++ row)) = if 90 < st.tally.moves.length + bb.1.length then (st, [-5]) else (⟨st.chain, Lf02.counted st.tally bb.1 wd⟩, Lf02.toldWay bb.1) := es
    have hG : Goes st.chain.k ⟨0, 0⟩ bb.1 wd := goes_from _ _ _ bb (Nat.zero_le _) (bst_mem hbb)
    refine ⟨_, rfl, p, kvs, st.chain, wd, rfl, hp, tab, w0, by omega, fun H3 l as s3 nl hL hT => ?_⟩
    rw [epath] at hT pl
    have s13 := s12.trans s3
    have las : as.length = bb.1.length := by rw [hT.length, List.length_map]
    have sa3 := sa_frame C _ H3 _ _ _ (fun b o _ e => s13 b o e) sa
    have sa3' := sa3
    obtain ⟨dx, _, _, _, _, _, _, _, _, _, _, hc⟩ := sa3'
    refine ⟨_, rfl, a, C, dx, _, _, rfl, hc.ins, T.cl, T.nCounted, cF_counted, _, rfl, l, _, rfl, .inl (SqL.of hL), _, _, rfl, rfl, _, _, rfl, rfl, _, rfl, ?_⟩
    rw [List.length_map, las]
    by_cases c2 : 90 < st.tally.moves.length + bb.1.length
    · refine if_t (decide_eq_true (by omega)) ?_
      refine ⟨by show 1 ≤ sizeLine; decide, fun q hq => ?_⟩
      rw [if_pos c2] at es'
      exact back_same (rep1 C) sa kk es' s13 hq
    refine if_f (decide_eq_false (by omega)) ?_
    rw [if_neg c2] at es'
    have nFl : ¬ Fp l := fun z => by
      obtain ⟨o, ho⟩ := sa_tracks C _ _ _ _ sa l z
      rw [s12 _ _ ho] at nl
      cases nl
    refine ⟨_, rfl, a, dx, _, rfl, hc.ins, cF_count_way, _, rfl, _, rfl, ?_⟩
    refine ⟨a, l, pr, st, Fp, as, bb.1, wd, rfl, sa3, hL, nFl, hT, s13 _ _ hprN, npr, w5.2, hG, fun H4 sa4 fr4 => ?_⟩
    have hL4 := fr4.1 _ _ hL nFl
    have hT4 : Tups H4 as (bb.1.map stV) := Paired.mapP hT fun b xs e => fr4.2 _ _ e
    refine ⟨_, rfl, l, as, bb.1, rfl, hL4, hT4, by omega, fun H5 q s5 nq hq => ?_⟩
    have sa5 := sa_frame C _ H5 _ _ _ (fun b o _ e => s5 b o e) sa4
    have hq0 : H q = none := by
      cases e : H q with
      | none => rfl
      | some o =>
        by_cases z : Fp q
        · obtain ⟨o', ho'⟩ := sa_tracks C _ _ _ _ sa4 q z
          rw [nq] at ho'
          cases ho'
        · rw [fr4.1 _ _ (s13 _ _ e) z] at nq
          cases nq
    refine kk H5 Fp q ?_ (fun b o e nb => s5 _ _ (fr4.1 _ _ (s13 _ _ e) nb)) (fun b hb => .inl hb) hq0 (fun z => ?_) ?_
    · rw [es']
      exact sa5
    · obtain ⟨o', ho'⟩ := sa_tracks C _ _ _ _ sa4 q z
      rw [nq] at ho'
      cases ho'
    · rw [es', hq]
end
end Fh

namespace Fh
open PySem PySem.Spec PyProof.Rows L2
open Fc
open Lf02 (Frac State Chain Word)
def ansShows (c : Chain) : List Int := (c.k : Int) :: Lf02.ints (c.letters.flatten ++ c.ground) ++ Lf02.ints ((Lf02.states c.k).flatMap fun x => [(Lf02.movesOf c x).1, (Lf02.movesOf c x).2.1, (Lf02.movesOf c x).2.2])
theorem step_shows {st : Lf02.St} : Lf02Neutral.step st (10 :: ([] ++ [])) = (st, ansShows st.chain) := rfl
theorem flat_more {l : List (List Nat)} {i : Nat} {x : List Nat} (h : l[i]? = some x) : natsV (l.take (i + 1)).flatten = natsV (l.take i).flatten ++ natsV x := by
  unfold natsV
  rw [take_more h, List.flatten_append, List.map_append]
  congr 2
  show (x ++ []) = x
  rw [List.append_nil]
theorem flat_len4 : ∀ {l : List (List Nat)}, (∀ x ∈ l, x.length = 4) → l.flatten.length = 4 * l.length
  | [], _ => rfl
  | x :: l, h => by
    rw [List.flatten_cons, List.length_append, h x (List.mem_cons_self ..), flat_len4 fun y hy => h y (List.mem_cons_of_mem _ hy), List.length_cons]
    omega
def mvF (c : Chain) (l : List State) : List Nat := l.flatMap fun x => w3 (Lf02.movesOf c x)
theorem mvF_more {c : Chain} {l : List State} {i : Nat} {s : State} (h : l[i]? = some s) : natsV (mvF c (l.take (i + 1))) = natsV (mvF c (l.take i)) ++ mvV (Lf02.movesOf c s) := by
  unfold mvF natsV
  rw [take_more h, List.flatMap_append, List.map_append]
  rfl
theorem mvF_len (c : Chain) : ∀ l : List State, (mvF c l).length = 3 * l.length
  | [] => rfl
  | x :: l => by
    have e : mvF c (x :: l) = w3 (Lf02.movesOf c x) ++ mvF c l := rfl
    rw [e, List.length_append, mvF_len c l, List.length_cons]
    show 3 + _ = _
    omega
section
variable {P : Program} {w : World} {K : PySem.W.Frag} {mg : Str → Option Value} {base : Heap} {C CR z o b : Addr} {t1 t2 t3 t4 t5 t6 t7 t8 t9 : Tok}
abbrev sShows : Stmt := top 46
theorem scShows : FnScope ["chain", "numbers", "row", "answer", "place", "state"] ["chain", "numbers", "row"] (defScope sShows) := ⟨rfl, rfl, rfl, by decide +kernel, rfl, by decide +kernel, by decide +kernel⟩
theorem ok_shows {f f1 : Addr} {fd fd1 : FuncData} (F : Fun K "answer_shows" "answer_shows" sShows f fd) (T : TChain K mg C) (B : Blt mg) (D1 : Dn K mg "states_of" sStates ["last"] f1 fd1) (G1 : FnOk P w K mg base CX0 1 f1 fd1 ["last"] spStates) :
    FnOk P w K mg base CX0 2 f fd ["chain", "numbers", "row"] (spA K (SA C) OkSt 10) := by
  refine F.ok scShows (fun vs H Q E h => ?_) (fun cdv A outer s H vs Q E hr h => ?_)
  · obtain ⟨a, pn, pr, st, F, nums, row, rfl, _⟩ := h
    rfl
  · obtain ⟨a, pn, pr, st, Fp, nums, row, rfl, sa, ok, hpn, hpr, npn, npr, ln, lr, nr, bn, br, kk⟩ := h
    have hu := hu_of hr
    refine ⟨_, pss_cons (ps_set (i := 3) scShows.nd rfl (Or.inl rfl) (pe_lst (pa_cons (pe_fld (pv 0) rfl) pa_nil)))
      (pss_cons (ps_for PassesOwn.never rfl (pi_range2 rfl B.range (pa_cons pe_int (pa_cons (pe_op op_add (pe_fld (pv 0) rfl) pe_int) pa_nil))) (pg_name (i := 4) scShows.nd rfl (Or.inl rfl))
        (pss_one (ps_expr (pe_bm PySem.F.plainAttrs_list PySem.F.slot_list_extend PySem.F.type_list_extend mt_extend (pv 3) (pa_cons (pe_ix ix_list (pe_fld (pv 0) rfl) (pv 4) (fun _ _ => rfl)) pa_nil)))))
      (pss_cons (ps_expr (pe_bm PySem.F.plainAttrs_list PySem.F.slot_list_extend PySem.F.type_list_extend mt_extend (pv 3) (pa_cons (pe_ix ix_list (pe_fld (pv 0) rfl) pe_int (fun _ _ => rfl)) pa_nil)))
      (pss_cons (ps_for PassesOwn.never rfl (pi_list (pe_call G1 hr rfl D1.g D1.F.kp D1.b .nil pass0 (pa_cons (pe_fld (pv 0) rfl) pa_nil))) (pg_name (i := 5) scShows.nd rfl (Or.inl rfl))
        (pss_one (ps_expr (pe_bm PySem.F.plainAttrs_list PySem.F.slot_list_extend PySem.F.type_list_extend mt_extend (pv 3) (pa_cons (pe_dget hu (pe_fld (pv 0) rfl) (pv 5) (fun _ _ => rfl)) pa_nil)))))
      (pss_one (ps_ret (pv 3)))))), ?_⟩
    have n0 : nums = [] := List.length_eq_zero_iff.mp ln
    subst n0
    have r0 := nr rfl
    subst r0
    obtain ⟨fs, dx, pl, pm, ls, kvs, hc⟩ := sa_rd sa
    have okc := ok.c
    revert hc okc
    generalize hcc : st.chain = c
    intro hc okc
    have k4 := okc.k4
    have ll := okc.ll
    have len4 : ∀ x ∈ c.letters, x.length = 4 := fun x hx => (okc.l4 x hx).1
    -- answer = [chain.last]
    refine ⟨_, rfl, a, C, dx, _, _, rfl, hc.ins, T.cl, T.nLast, hc.last, by show 1 ≤ sizeLine; decide, fun q hq => ?_⟩
    have s1 := sm_new (o := .lst [.int c.k]) hq
    have ne : ∀ b o, H b = some o → b ≠ q := fun b o e => ne_of_none e hq
    refine ⟨_, rfl, a, C, dx, _, _, rfl, s1 _ _ hc.ins, T.cl, T.nLast, hc.last, _, _, rfl, rfl, 1, (c.k : Int) + 1, rfl, ⟨by omega, by omega, by omega, by omega⟩, ?_⟩
    have en : ((c.k : Int) + 1 - 1).toNat = c.k := by omega
    rw [en]
    refine for_range (lo := 1) (n := c.k) (fun i σ H' => ∃ v4 : Option V, σ = [some (.ref a), some (.ref pn), some (.ref pr), some (.ref q), v4, none] ∧ Same H H' ∧ H' q = some (.lst (.int c.k :: natsV (c.letters.take i).flatten)))
      ⟨none, rfl, s1, upd_same⟩ ?_ ?_
    · rintro i σ H2 hi ⟨v4, rfl, s2, e2⟩
      have hx : c.letters[i]? = some c.letters[i] := List.getElem?_eq_getElem (by omega)
      obtain ⟨pa, i1, i2⟩ := hc.hls.get (i := i + 1) (x := natsV c.letters[i]) (by rw [List.getElem?_map, List.getElem?_cons_succ, hx]; rfl)
      have ei : (1 : Int) + (i : Int) = ((i + 1 : Nat) : Int) := by omega
      refine ⟨_, rfl, .inl ⟨rfl, _, SqL.of e2⟩, ?_⟩
      refine ⟨_, rfl, a, C, dx, _, _, rfl, s2 _ _ hc.ins, T.cl, T.nLetters, hc.letters, _, rfl, pl, _, _, .ref pa, rfl, rfl, SqL.of (s2 _ _ hc.hl), at_of (j := i + 1) ei (by rw [List.getElem?_map, i1]; rfl), ?_⟩
      refine ⟨q, pa, _, _, rfl, rfl, e2, s2 _ _ i2, ?_, some (.int (1 + (i : Int))), rfl, sm_mut s2 hq, ?_⟩
      · have l4 := len4 _ (List.getElem_mem (l := c.letters) (n := i) (by omega))
        have l5 : (c.letters.take i).flatten.length = 4 * (c.letters.take i).length := flat_len4 fun y hy => len4 y (List.mem_of_mem_take hy)
        rw [List.length_take] at l5
        rw [List.length_cons, natsV_len, natsV_len, l4, l5]
        exact Nat.le_of_lt (small1000 (by omega))
      · rw [upd_same, flat_more hx]
        rfl
    · rintro σ H2 ⟨v4, rfl, s2, e2⟩
      have et : c.letters.take c.k = c.letters := List.take_of_length_le (by omega)
      rw [et] at e2
      -- answer.extend(chain.letters[0])
      obtain ⟨pa, i1, i2⟩ := hc.hls.get (i := 0) (x := natsV c.ground) rfl
      refine ⟨_, rfl, .inl ⟨rfl, _, SqL.of e2⟩, ?_⟩
      refine ⟨_, rfl, a, C, dx, _, _, rfl, s2 _ _ hc.ins, T.cl, T.nLetters, hc.letters, pl, _, _, .ref pa, rfl, rfl, SqL.of (s2 _ _ hc.hl), atI_nat (j := 0) (by rw [List.getElem?_map, i1]; rfl), ?_⟩
      have lf := flat_len4 len4
      refine ⟨q, pa, _, _, rfl, rfl, e2, s2 _ _ i2, ?_, ?_⟩
      · rw [List.length_cons, natsV_len, natsV_len, okc.g4.1, lf]
        exact Nat.le_of_lt (small1000 (by omega))
      have s3 : Same H (upd H2 q (.lst ((.int c.k :: natsV c.letters.flatten) ++ natsV c.ground))) := sm_mut s2 hq
      have e3 : (upd H2 q (.lst ((.int c.k :: natsV c.letters.flatten) ++ natsV c.ground))) q = some (.lst ((.int c.k :: natsV c.letters.flatten) ++ natsV c.ground)) := upd_same
      revert s3 e3
      generalize upd H2 q (.lst ((.int c.k :: natsV c.letters.flatten) ++ natsV c.ground)) = H3
      intro s3 e3
      refine ⟨_, rfl, a, C, dx, _, _, rfl, s3 _ _ hc.ins, T.cl, T.nLast, hc.last, c.k, rfl, by omega, fun H5 p as s5 np e5 t5 => ?_⟩
      have las : as.length = (Lf02.states c.k).length := by rw [t5.length, List.length_map]
      have l14 : (Lf02.states c.k).length ≤ 14 := by rw [states_len]; omega
      have nqp : p ≠ q := fun z => by rw [z, e3] at np; cases np
      refine ⟨p, rfl, ⟨_, SqL.of e5⟩, ?_⟩
      refine for_list (K := K) (a := p) (xs := as.map V.ref) (fun i σ H' => ∃ (v4 v5 : Option V), σ = [some (.ref a), some (.ref pn), some (.ref pr), some (.ref q), v4, v5] ∧ But q H5 H' ∧ H' q = some (.lst (((.int c.k :: natsV c.letters.flatten) ++ natsV c.ground) ++ natsV (mvF c ((Lf02.states c.k).take i)))))
        ⟨v4, none, rfl, But.refl q H5, by rw [s5 _ _ e3]; show _ = some (HO.lst (_ ++ [])); rw [List.append_nil]⟩ (fun i σ H' _ ⟨_, _, _, b6, _⟩ => SqL.of (b6 _ _ e5 nqp)) ?_ ?_
      · rintro i y σ H6 hy ⟨v4, v5, rfl, b6, e6⟩
        rw [List.getElem?_map] at hy
        obtain ⟨sb, hsa1, rfl⟩ := Option.map_eq_some_iff.mp hy
        obtain ⟨hlt, _⟩ := List.getElem?_eq_some_iff.mp hsa1
        obtain ⟨u, hst⟩ : ∃ u, (Lf02.states c.k)[i]? = some u := ⟨_, List.getElem?_eq_getElem (by omega)⟩
        obtain ⟨sb', j1, j2⟩ := t5.get (i := i) (x := stV u) (by rw [List.getElem?_map, hst]; rfl)
        have eu : sb' = sb := Option.some.inj (j1.symm.trans hsa1)
        subst eu
        have hu6 : IsS c.k u := mem_states.mp (List.mem_of_getElem? hst)
        obtain ⟨pa, v1, v2⟩ := hc.hms u hu6
        have up : ∀ b o, H b = some o → H6 b = some o := fun b o e => b6 _ _ (s5 _ _ (s3 _ _ e)) (ne b o e)
        have nsb : sb' ≠ q := fun z => by rw [z, s5 _ _ e3] at j2; cases j2
        have j6 := b6 _ _ j2 nsb
        refine ⟨_, rfl, .inl ⟨rfl, _, SqL.of e6⟩, ?_⟩
        refine ⟨_, rfl, a, C, dx, _, _, rfl, up _ _ hc.ins, T.cl, T.nMoves, hc.moves, _, rfl, pm, .ref pa, rfl, ?_, ?_⟩
        · have g := DGet.t (H := H6) (a := pm) (b := sb') (kvs := kvs) (k := stK u) (up _ _ hc.hm) j6
          rw [v1] at g
          exact g
        refine ⟨q, pa, _, _, rfl, rfl, e6, up _ _ v2, ?_, v4, some (.ref sb'), rfl, b6.trans But.upd, ?_⟩
        · have l6 := mvF_len c ((Lf02.states c.k).take i)
          rw [List.length_take] at l6
          rw [List.length_append, List.length_append, List.length_cons, natsV_len, natsV_len, natsV_len, l6, okc.g4.1, lf]
          show _ + 3 ≤ _
          exact Nat.le_of_lt (small1000 (by omega))
        · rw [upd_same, mvF_more hst, ← List.append_assoc]
      · rintro σ H6 ⟨v4, v5, rfl, b6, e6⟩
        rw [List.length_map, las, List.take_length] at e6
        have sF : Same H H6 := fun b o e => b6 _ _ (s5 _ _ (s3 _ _ e)) (ne b o e)
        have ea : ((V.int c.k :: natsV c.letters.flatten) ++ natsV c.ground) ++ natsV (mvF c (Lf02.states c.k)) = intsV (ansShows c) := by
          unfold ansShows intsV Lf02.ints natsV mvF
          rw [List.cons_append, List.cons_append, List.cons_append, List.map_cons, List.map_append, List.map_append, List.map_append, List.map_map, List.map_map, List.map_map]
          rfl
        rw [ea] at e6
        refine ⟨_, rfl, ?_⟩
        subst hcc
        refine kk H6 Fp q ?_ (fun b o e _ => sF _ _ e) (fun b hb => .inl hb) hq (fun z => ?_) ?_
        · rw [step_shows]
          exact sa_frame C _ _ _ _ _ (fun b o _ e => sF _ _ e) sa
        · obtain ⟨o, ho⟩ := sa_tracks C _ _ _ _ sa q z
          rw [hq] at ho
          cases ho
        · rw [step_shows]
          exact e6
end
end Fh

namespace Fh
open PySem PySem.Spec PyProof.Rows L2
open Fc
open Lf02 (Frac State Chain Word)
theorem sz_gen {c : Chain} (ok : OkC c) {x : Frac} {e n : Nat} (g : Good x) (di : Di (den c ^ e) (q x)) (he : e ≤ 11) (le : q x ≤ ((4 ^ n : Nat) : Rat)) (hn : n ≤ 100) : Sz x := by
  have h0 := den_pos ok
  have h1 := den_le ok
  have dd : x.d ≤ den c ^ e := Nat.le_of_dvd (Nat.pow_pos h0) (d_dvd g di)
  have d2 : den c ^ e ≤ (2 ^ 171) ^ 11 := Nat.le_trans (Nat.pow_le_pow_left h1 e) (Nat.pow_le_pow_right (Nat.pow_pos (by decide)) he)
  rw [← Nat.pow_mul] at d2
  have d3 : x.d ≤ 2 ^ (171 * 11) := Nat.le_trans dd d2
  have n1 := n_le g.1 le
  have n2 : (4 : Nat) ^ n ≤ 4 ^ 100 := Nat.pow_le_pow_right (by decide) hn
  have n3 : (4 : Nat) ^ 100 = 2 ^ 200 := by decide
  have n4 : x.n ≤ 2 ^ 200 * 2 ^ (171 * 11) := Nat.le_trans n1 (Nat.mul_le_mul (by rw [← n3]; exact n2) d3)
  rw [← Nat.pow_add] at n4
  have a1 : (2 : Nat) ^ (200 + 171 * 11) < 2 ^ 4400 := Nat.pow_lt_pow_right (by decide) (by decide)
  have a2 : (2 : Nat) ^ (171 * 11) < 2 ^ 4400 := Nat.pow_lt_pow_right (by decide) (by decide)
  exact ⟨Nat.lt_of_le_of_lt n4 a1, g.1, Nat.lt_of_le_of_lt d3 a2⟩
theorem sz_rb {c : Chain} (ok : OkC c) {f : RF} {n : Nat} (h : RB c (4 ^ n) f) (hn : n ≤ 100) {t : Spot} (ht : t.2.1 + t.2.2 ≤ 11) : Sz (f t) := sz_gen ok (h.g t) (h.di t) ht (h.le t) hn
/-- what a dict says of each spot -/
def RepF (K : PySem.W.Frag) (H : Hp) (l : DX) (f : RF) : Prop := ∀ t : Spot, (valX l (spK t) = none ∧ f t = ⟨0, 1⟩) ∨ ∃ u, valX l (spK t) = some u ∧ SqT K H u (frV (f t))
theorem RepF.same {K : PySem.W.Frag} {H H' : Hp} {l : DX} {f : RF} (h : RepF K H l f) (e : ∀ a ys, SqT K H a ys → SqT K H' a ys) : RepF K H' l f := fun t => by
  rcases h t with z | ⟨u, h1, h2⟩
  · exact .inl z
  · exact .inr ⟨u, h1, e _ _ h2⟩
theorem RepF.get {K : PySem.W.Frag} {H : Hp} {l : DX} {f : RF} (h : RepF K H l f) {z : Addr} (hz : ∀ H : Hp, SqT K H z (frV ⟨0, 1⟩)) (t : Spot) : ∃ u, ((valX l (spK t)).map V.ref).getD (.ref z) = .ref u ∧ SqT K H u (frV (f t)) := by
  rcases h t with ⟨h1, h2⟩ | ⟨u, h1, h2⟩
  · exact ⟨z, by rw [h1]; rfl, by rw [h2]; exact hz H⟩
  · exact ⟨u, by rw [h1]; rfl, h2⟩
theorem RepF.put {K : PySem.W.Frag} {H : Hp} {l : DX} {f : RF} (h : RepF K H l f) {t : Spot} {b u : Addr} {y : Frac} (hu : SqT K H u (frV y)) : RepF K H (putX l (spK t) b u) (fun t' => if t' = t then y else f t') := fun t' => by
  rw [valX_put]
  by_cases e : t' = t
  · rw [if_pos (by rw [e])]
    refine .inr ⟨u, rfl, ?_⟩
    show SqT K H u (frV (if t' = t then y else f t'))
    rw [if_pos e]
    exact hu
  · rw [if_neg (fun z => e (spK_inj z))]
    have e2 : (fun t' => if t' = t then y else f t') t' = f t' := if_neg e
    rw [e2]
    exact h t'
theorem repF0 {K : PySem.W.Frag} {H : Hp} {b o : Addr} (ho : ∀ H : Hp, SqT K H o (frV ⟨1, 1⟩)) : RepF K H [(spK (0, 0, 0), b, o)] f0 := fun t => by
  by_cases e : t = (0, 0, 0)
  · subst e
    exact .inr ⟨o, by unfold valX; rw [List.find?_cons_of_pos (by simp)]; rfl, ho H⟩
  · refine .inl ⟨?_, by unfold f0; rw [if_neg e]⟩
    unfold valX
    rw [List.find?_cons_of_neg (by simp; exact fun z => e (spK_inj z).symm)]
    rfl
theorem addR_is (r : Frac) (f : RF) (x : Frac × Spot) : addR r f x = fun t' => if t' = x.2 then Lf02.plus (f x.2) (Lf02.times r x.1) else f t' := by
  funext t'
  unfold addR
  by_cases e : t' = x.2
  · rw [if_pos e, if_pos e, e]
  · rw [if_neg e, if_neg e]
theorem spots_len (k : Nat) : ∀ i, (spots k i).length = i * (Lf02.states k).length
  | 0 => by rw [Nat.zero_mul]; rfl
  | n + 1 => by rw [spots_succ, List.length_append, spots_len k n, List.length_map, Nat.add_mul, Nat.one_mul]
section
variable {P : Program} {w : World} {K : PySem.W.Frag} {mg : Str → Option Value} {base : Heap} {C CR z o b : Addr}
abbrev sDiv : Stmt := top 8
def spDiv (K : PySem.W.Frag) : Sp := fun vs H Q _ => ∃ (a b : Addr) (x y : Frac), vs = [.ref a, .ref b] ∧ SqT K H a (frV x) ∧ SqT K H b (frV y) ∧ Sz x ∧ Sz y ∧ 0 < y.n ∧ RetT H Q (frV (Lf02.over x y))
theorem scDiv : FnScope ["one", "other"] ["one", "other"] (defScope sDiv) := ⟨rfl, rfl, rfl, by decide +kernel, rfl, by decide +kernel, by decide +kernel⟩
theorem ok_div {f f1 : Addr} {fd fd1 : FuncData} (F : Fun K "divided" "divided" sDiv f fd) (D1 : Dn K mg "fraction" sFrac ["upper", "lower"] f1 fd1) (G : FnOk P w K mg base CX0 2 f1 fd1 ["upper", "lower"] spFrac) :
    FnOk P w K mg base CX0 3 f fd ["one", "other"] (spDiv K) := by
  refine F.ok scDiv (fun vs H Q E h => ?_) (fun cdv A outer s H vs Q E hr h => ?_)
  · obtain ⟨a, b, x, y, rfl, _⟩ := h
    rfl
  · obtain ⟨a, b, x, y, rfl, ha, hb, sx, sy, y0, k⟩ := h
    refine ⟨_, pss_one (ps_ret (pe_call G hr rfl D1.g D1.F.kp D1.b .nil pass0 (pa_cons (pe_op op_mulW (pe_ix ix_tup (pv 0) pe_int (fun _ _ => rfl)) (pe_ix ix_tup (pv 1) pe_int (fun _ _ => rfl)))
      (pa_cons (pe_op op_mulW (pe_ix ix_tup (pv 0) pe_int (fun _ _ => rfl)) (pe_ix ix_tup (pv 1) pe_int (fun _ _ => rfl))) pa_nil)))), ?_⟩
    refine ⟨_, rfl, a, _, _, _, rfl, rfl, ha, at0, _, rfl, b, _, _, _, rfl, rfl, hb, at1, _, _, rfl, rfl, mulW sx.1 sy.2.2, ?_⟩
    refine ⟨_, rfl, a, _, _, _, rfl, rfl, ha, at1, _, rfl, b, _, _, _, rfl, rfl, hb, at0, _, _, rfl, rfl, mulW sx.2.2 sy.1, ?_⟩
    exact ⟨x.n * y.d, x.d * y.n, rfl, Nat.mul_pos sx.2.1 y0, mul_lt sx.2.2 sy.1, k⟩
abbrev sReach : Stmt := top 18
def spReach (P : Program) (w : World) (K : PySem.W.Frag) (C : Addr) : Sp := fun vs H Q _ => ∃ (a pw : Addr) (c : Chain) (wd : Word), vs = [.ref a, .ref pw] ∧ OkC c ∧ ChainAt C H a c ∧ SqL K H pw (natsV wd) ∧ (∀ x ∈ wd, x < 4) ∧ wd.length ≤ 5 ∧
  ∀ (H' : Hp) (p : Addr) (l : DX), Same H H' → H p = none → H' p = some (dxO P w p l) → DxK K H' l → RepF K H' l (reachOf c wd) → Q (.ref p) H'
theorem scReach : FnScope ["chain", "word", "reaches", "made", "state", "spot", "reached", "chance", "target"] ["chain", "word"] (defScope sReach) := ⟨rfl, rfl, rfl, by decide +kernel, rfl, by decide +kernel, by decide +kernel⟩
theorem ok_reach {f f1 f2 f3 f4 : Addr} {fd fd1 fd2 fd3 fd4 : FuncData} (F : Fun K "reaches_of" "reaches_of" sReach f fd) (T : TChain K mg C) (TC : TCon K mg z o b) (B : Blt mg)
    (D1 : Dn K mg "states_of" sStates ["last"] f1 fd1) (G1 : FnOk P w K mg base CX0 1 f1 fd1 ["last"] spStates)
    (D2 : Dn K mg "steps_from" sSteps ["chain", "word", "spot"] f2 fd2) (G2 : FnOk P w K mg base CX0 4 f2 fd2 ["chain", "word", "spot"] (spSteps K C))
    (D3 : Dn K mg "times" sTimes ["one", "other"] f3 fd3) (G3 : FnOk P w K mg base CX0 3 f3 fd3 ["one", "other"] (sp2 K Lf02.times))
    (D4 : Dn K mg "plus" sPlus ["one", "other"] f4 fd4) (G4 : FnOk P w K mg base CX0 3 f4 fd4 ["one", "other"] (sp2 K Lf02.plus)) :
    FnOk P w K mg base CX0 5 f fd ["chain", "word"] (spReach P w K C) := by
  refine F.ok scReach (fun vs H Q E h => ?_) (fun cdv A outer s H vs Q E hr h => ?_)
  · obtain ⟨a, pw, c, wd, rfl, _⟩ := h
    rfl
  · obtain ⟨a, pw, c, wd, rfl, ok, ⟨fs, dx, ql, qm, ls, kvs, hc⟩, hw, h4, h5, k⟩ := h
    have hr1 : Room 1 _ := hr.mono (by decide)
    have hr3 : Room 3 _ := hr.mono (by decide)
    have hu := hu_of hr
    refine ⟨_, pss_cons (ps_set (i := 2) scReach.nd rfl (Or.inl rfl) (pe_dispX (Nat.lt_of_succ_lt hu) (pe_glob rfl TC.beg (v := .ref b) rfl) (pe_glob rfl TC.one (v := .ref o) rfl)))
      (pss_cons (ps_for PassesOwn.never rfl (pi_range1 rfl B.range (pa_cons (pe_op op_add (pe_callB call_len_seq (by rfl) B.len PySem.boot_len (pa_cons (pv 1) pa_nil)) pe_int) pa_nil)) (pg_name (i := 3) scReach.nd rfl (Or.inl rfl))
        (pss_one (ps_for PassesOwn.never rfl (pi_list (pe_call G1 hr1 rfl D1.g D1.F.kp D1.b .nil pass0 (pa_cons (pe_fld (pv 0) rfl) pa_nil))) (pg_name (i := 4) scReach.nd rfl (Or.inl rfl))
          (pss_cons (ps_set (i := 5) scReach.nd rfl (Or.inl rfl) (pe_tup (pa_cons (pe_ix ix_tup (pv 4) pe_int (fun _ _ => rfl)) (pa_cons (pe_ix ix_tup (pv 4) pe_int (fun _ _ => rfl)) (pa_cons (pv 3) pa_nil)))))
          (pss_cons (ps_set (i := 6) scReach.nd rfl (Or.inl rfl) (pe_xget2 hu (pv 2) (pv 5) (pe_glob rfl TC.zero (v := .ref z) rfl) ⟨rfl, rfl, rfl, rfl⟩))
          (pss_one (ps_for PassesOwn.never rfl (pi_list (pe_call G2 hr rfl D2.g D2.F.kp D2.b .nil pass0 (pa_cons (pv 0) (pa_cons (pv 1) (pa_cons (pv 5) pa_nil)))))
              (pg_tup rfl (pgs_cons (pg_name (i := 7) scReach.nd rfl (.inl rfl)) (pgs_cons (pg_name (i := 8) scReach.nd rfl (.inl rfl)) pgs_nil)))
            (pss_one (ps_xput hu (pv 2) (pv 8) (pe_call G4 hr3 rfl D4.g D4.F.kp D4.b .nil pass0 (pa_cons (pe_xget2 hu (pv 2) (pv 8) (pe_glob rfl TC.zero (v := .ref z) rfl) ⟨rfl, rfl, rfl, rfl⟩) (pa_cons (pe_call G3 hr3 rfl D3.g D3.F.kp D3.b .nil pass0 (pa_cons (pv 6) (pa_cons (pv 7) pa_nil))) pa_nil))) rfl)))))))))
      (pss_one (ps_ret (pv 2)))), ?_⟩
    -- reaches = {BEGINNING: ONE}
    intro p hp
    refine ⟨upd_same, b, o, spK (0, 0, 0), rfl, rfl, TC.hb _, ?_⟩
    rw [upd_upd]
    have s1 := sm_new (o := dxO P w p [(spK (0, 0, 0), b, o)]) hp
    have e1 : (upd H p (dxO P w p [(spK (0, 0, 0), b, o)])) p = some (dxO P w p [(spK (0, 0, 0), b, o)]) := upd_same
    have k1 : DxK K (upd H p (dxO P w p [(spK (0, 0, 0), b, o)])) [(spK (0, 0, 0), b, o)] := fun x hx => by
      rw [List.mem_singleton.mp hx]
      exact TC.hb _
    show tSeq _ _ _ _ (upd H p (dxO P w p [(spK (0, 0, 0), b, o)]))
    revert s1 e1 k1
    generalize upd H p (dxO P w p [(spK (0, 0, 0), b, o)]) = H1
    intro s1 e1 k1
    refine ⟨_, rfl, pw, _, rfl, .inl (s1.seq hw), _, _, rfl, rfl, ((natsV wd).length : Int) + 1, rfl, by rw [natsV_len]; omega, by rw [natsV_len]; omega, ?_⟩
    have en : (((natsV wd).length : Int) + 1).toNat = wd.length + 1 := by rw [natsV_len]; omega
    rw [en]
    have k4 := ok.k4
    have l14 : (Lf02.states c.k).length ≤ 14 := by rw [states_len]; omega
    refine for_range (lo := 0) (n := wd.length + 1) (fun i σ H' => ∃ (v3 v4 v5 v6 v7 v8 : Option V) (l : DX), σ = [some (.ref a), some (.ref pw), some (.ref p), v3, v4, v5, v6, v7, v8] ∧ Same H H' ∧ H' p = some (dxO P w p l) ∧ DxK K H' l ∧ l.length ≤ 1 + 42 * i ∧ RepF K H' l (runR c wd (spots c.k i)))
      ⟨none, none, none, none, none, none, _, rfl, s1, e1, k1, Nat.le_refl _, repF0 TC.ho⟩ ?_ ?_
    · rintro i σ H4 hi ⟨v3, v4, v5, v6, v7, v8, l, rfl, s4, e4, k4', len4, rep4⟩
      have hml : i ≤ wd.length := by omega
      have ei : (0 : Int) + (i : Int) = (i : Int) := by omega
      refine ⟨_, rfl, a, C, dx, _, _, rfl, s4 _ _ hc.ins, T.cl, T.nLast, hc.last, c.k, rfl, by omega, fun H5 q as s5 nq e5 t5 => ?_⟩
      have las : as.length = (Lf02.states c.k).length := by rw [t5.length, List.length_map]
      have nqp : q ≠ p := fun e => by rw [e, e4] at nq; cases nq
      refine ⟨q, rfl, ⟨_, SqL.of e5⟩, ?_⟩
      have s05 := s4.trans s5
      refine for_list (K := K) (a := q) (xs := as.map V.ref) (fun j σ H' => ∃ (v4 v5 v6 v7 v8 : Option V) (l : DX), σ = [some (.ref a), some (.ref pw), some (.ref p), some (.int i), v4, v5, v6, v7, v8] ∧ But p H5 H' ∧ H' p = some (dxO P w p l) ∧ DxK K H' l ∧ l.length ≤ 1 + 42 * i + 3 * j ∧
          RepF K H' l (runR c wd (spots c.k i ++ ((Lf02.states c.k).take j).map (stS i))))
        ⟨v4, v5, v6, v7, v8, l, by rw [ei]; rfl, But.refl p H5, s5 _ _ e4, k4'.same fun _ _ => sm_tup s5, by omega, by rw [List.take_zero, List.map_nil, List.append_nil]; exact rep4.same fun _ _ => sm_tup s5⟩
        (fun j σ H' _ ⟨_, _, _, _, _, _, _, b6, _⟩ => SqL.of (b6 _ _ e5 nqp)) ?_ ?_
      · rintro j y σ H6 hy ⟨v4, v5, v6, v7, v8, l6, rfl, b6, e6, k6, len6, rep6⟩
        rw [List.getElem?_map] at hy
        obtain ⟨sa, hsa1, rfl⟩ := Option.map_eq_some_iff.mp hy
        obtain ⟨hlt, _⟩ := List.getElem?_eq_some_iff.mp hsa1
        obtain ⟨st, hst⟩ : ∃ st, (Lf02.states c.k)[j]? = some st := ⟨_, List.getElem?_eq_getElem (by omega)⟩
        obtain ⟨sa', i1, i2⟩ := t5.get (i := j) (x := stV st) (by rw [List.getElem?_map, hst]; rfl)
        have eu : sa' = sa := Option.some.inj (i1.symm.trans hsa1)
        subst eu
        have hS : IsS c.k st := mem_states.mp (List.mem_of_getElem? hst)
        have nsa : sa' ≠ p := fun e => by rw [e, s5 _ _ e4] at i2; cases i2
        have hsa := b6 _ _ i2 nsa
        have s06 : Same H H6 := fun b o e => b6 _ _ (s05 _ _ e) (ne_of_none e hp)
        -- what is held to be so far
        have hin : ∀ t ∈ spots c.k i ++ ((Lf02.states c.k).take j).map (stS i), IsS c.k ⟨t.1, t.2.1⟩ ∧ t.2.2 ≤ wd.length := fun t ht => by
          rcases List.mem_append.mp ht with z | z
          · have := mem_spots.mp z
            exact ⟨this.1, by omega⟩
          · obtain ⟨s, hs, rfl⟩ := List.mem_map.mp z
            exact ⟨mem_states.mp (List.mem_of_mem_take hs), hml⟩
        have nlen : (spots c.k i ++ ((Lf02.states c.k).take j).map (stS i)).length ≤ 84 := by
          have z := spots_len c.k i
          have z2 : i * (Lf02.states c.k).length ≤ 5 * 14 := Nat.mul_le_mul (by omega) l14
          rw [List.length_append, List.length_map, List.length_take]
          omega
        have rb := rb_run ok hin
        have eT : runR c wd (spots c.k i ++ ((Lf02.states c.k).take (j + 1)).map (stS i)) = stepT c wd (runR c wd (spots c.k i ++ ((Lf02.states c.k).take j).map (stS i))) (stS i st) := by
          rw [take_more hst, List.map_append, ← List.append_assoc]
          unfold runR
          rw [List.foldl_append]
          rfl
        revert rb eT rep6
        generalize runR c wd (spots c.k i ++ ((Lf02.states c.k).take j).map (stS i)) = f
        intro rep6 rb eT
        -- spot = (state[0], state[1], made)
        refine ⟨_, rfl, sa', _, _, _, rfl, rfl, SqT.of hsa, at0, _, rfl, sa', _, _, _, rfl, rfl, SqT.of hsa, at1, _, rfl, by show 3 ≤ sizeLine; decide, fun ps hps => ?_⟩
        have s7 := sm_new (o := .tup [.int st.sort, .int st.place, .int i]) hps
        have ps7 : (upd H6 ps (.tup [.int st.sort, .int st.place, .int i])) ps = some (.tup ((spK (stS i st)).map kV)) := upd_same
        show tSeq _ _ _ _ (upd H6 ps (.tup [.int st.sort, .int st.place, .int i]))
        revert s7 ps7
        generalize upd H6 ps (.tup [.int st.sort, .int st.place, .int i]) = H7
        intro s7 ps7
        have s07 := s06.trans s7
        have e7 := s7 _ _ e6
        have k7 := k6.same fun _ _ => sm_tup (K := K) s7
        have rep7 := rep6.same fun _ _ => sm_tup s7
        -- reached = reaches.get(spot, ZERO)
        obtain ⟨ur, ur1, ur2⟩ := rep7.get TC.hz (stS i st)
        refine ⟨_, rfl, p, l6, rfl, e7, _, rfl, ps, spK (stS i st), l6, rfl, SqT.of ps7, e7, k7, ?_⟩
        rw [ur1]
        -- for chance, target in steps_from(chain, word, spot)
        refine ⟨_, rfl, _, rfl, _, rfl, ?_⟩
        refine ⟨a, pw, ps, c, c, wd, st, i, rfl, ok, ⟨fs, dx, ql, qm, ls, kvs, hc.keep s07⟩, .inl ⟨rfl, s07.seq hw, h4⟩, SqT.of ps7, hS, fun H10 l10 as10 s10 n10 e10 st10 => ?_⟩
        have s010 := s07.trans s10
        have e10p := s10 _ _ e7
        have nl10 : l10 ≠ p := fun e => by rw [e, e7] at n10; cases n10
        have l10s : as10.length = (stepsL c wd st i).length := Paired.length st10
        have l3 := steps_len c wd st i
        refine ⟨l10, rfl, ⟨_, SqL.of e10⟩, ?_⟩
        refine for_list (K := K) (a := l10) (xs := as10.map V.ref) (fun n σ H' => ∃ (v7 v8 : Option V) (l : DX), σ = [some (.ref a), some (.ref pw), some (.ref p), some (.int i), some (.ref sa'), some (.ref ps), some (.ref ur), v7, v8] ∧ But p H10 H' ∧ H' p = some (dxO P w p l) ∧ DxK K H' l ∧ l.length ≤ 1 + 42 * i + 3 * j + n ∧
            SqT K H' ur (frV (f (stS i st))) ∧ RepF K H' l (((stepsL c wd st i).take n).foldl (addR (f (stS i st))) f))
          ⟨v7, v8, l6, rfl, But.refl p H10, e10p, k7.same fun _ _ => sm_tup s10, by omega, sm_tup s10 ur2, rep7.same fun _ _ => sm_tup s10⟩ (fun n σ H' _ ⟨_, _, _, _, b11, _⟩ => SqL.of (b11 _ _ e10 nl10)) ?_ ?_
        · rintro n y σ H11 hn ⟨v7, v8, l11, rfl, b11, e11, k11, len11, ur11, rep11⟩
          obtain ⟨ua, hua, rfl⟩ : ∃ ua, as10[n]? = some ua ∧ y = .ref ua := by
            rw [List.getElem?_map] at hn
            obtain ⟨ua, h1, h2⟩ := Option.map_eq_some_iff.mp hn
            exact ⟨ua, h1, h2.symm⟩
          obtain ⟨hlt2, _⟩ := List.getElem?_eq_some_iff.mp hua
          obtain ⟨x, hxs⟩ : ∃ x, (stepsL c wd st i)[n]? = some x := ⟨_, List.getElem?_eq_getElem (by omega)⟩
          obtain ⟨ua', hua', pc, pt, j1, j2, j3⟩ := paired_get st10 hxs
          have eu2 : ua' = ua := Option.some.inj (hua'.symm.trans hua)
          subst eu2
          have hxm := List.mem_of_getElem? hxs
          have hok := step_ok ok hS hml hxm
          have hts := tgt_sum (steps_tgt hxm)
          have nua : ua' ≠ p := fun e => by rw [e, e10p] at j1; cases j1
          have npt : pt ≠ p := fun e => by rw [e, e10p] at j3; cases j3
          have m1 := b11 _ _ j1 nua
          have m3 := b11 _ _ j3 npt
          have m2 : SqT K H11 pc (frV x.1) := by
            rcases j2 with (q1 | ⟨q0, q1⟩) | q1
            · exact .inl (.inl (b11 _ _ q1 fun e => by rw [e, e10p] at q1; cases q1))
            · exact .inl (.inr ⟨q0, b11 _ _ q1 fun e => by rw [e, e10p] at q1; cases q1⟩)
            · exact .inr q1
          have rbp := rb_part ok hS hml rb n
          have rbp' : RB c (4 ^ ((spots c.k i ++ ((Lf02.states c.k).take j).map (stS i)).length + 1)) (((stepsL c wd st i).take n).foldl (addR (f (stS i st))) f) := by
            rw [Nat.pow_succ, Nat.mul_comm]
            exact rbp
          have hr0 : RrOk c (4 ^ (spots c.k i ++ ((Lf02.states c.k).take j).map (stS i)).length) st.place i (f (stS i st)) := ⟨rb.g _, rb.di (stS i st), rb.le _⟩
          have zt := rt_ok hr0 hok
          have hpl := hS.2.1
          -- chance, target
          refine ⟨ua', _, rfl, SqT.of m1, rfl, _, _, rfl, _, _, rfl, rfl, ?_⟩
          -- reaches.get(target, ZERO)
          obtain ⟨uo, uo1, uo2⟩ := rep11.get TC.hz x.2
          refine ⟨_, rfl, p, l11, rfl, e11, _, rfl, pt, spK x.2, l11, rfl, SqT.of m3, e11, k11, ?_⟩
          rw [uo1]
          refine ⟨_, rfl, _, rfl, ?_⟩
          refine ⟨ur, pc, f (stS i st), x.1, rfl, ur11, m2, sz_rb ok rb (by omega) (by show st.place + i ≤ 11; omega), ?_, fun H12 p12 s12 n12 e12 => ?_⟩
          · exact (sz_step ok (by omega : wd.length ≤ 8) hok).1
          refine ⟨uo, p12, _, Lf02.times (f (stS i st)) x.1, rfl, sm_tup s12 uo2, SqT.of e12, sz_rb ok rbp' (by omega) (by omega), sz_gen ok zt.1 zt.2.2.1 (by omega) zt.2.2.2 (by omega), fun H13 p13 s13 n13 e13 => ?_⟩
          have s1113 := s12.trans s13
          have e13p := s1113 _ _ e11
          have k13 := k11.same fun _ _ => sm_tup (K := K) s1113
          refine ⟨_, rfl, _, rfl, p, pt, p13, spK x.2, l11, rfl, rfl, rfl, e13p, k13, SqT.of (s1113 _ _ m3), small1000 (by omega), ?_⟩
          have up : ∀ a' ys, SqT K H13 a' ys → SqT K (upd H13 p (dxO P w p (putX l11 (spK x.2) pt p13))) a' ys := fun a' ys h => sqT_pastX e13p h
          refine ⟨some (.ref pc), some (.ref pt), putX l11 (spK x.2) pt p13, rfl, (b11.trans (But.of s1113)).trans But.upd, upd_same, ?_, ?_, up _ _ (sm_tup s1113 ur11), ?_⟩
          · exact (putX_keys k13 (SqT.of (s1113 _ _ m3))).same up
          · have := putX_len l11 (spK x.2) pt p13
            omega
          · rw [take_more hxs, List.foldl_append]
            show RepF K _ _ (addR (f (stS i st)) (((stepsL c wd st i).take n).foldl (addR (f (stS i st))) f) x)
            rw [addR_is]
            exact ((rep11.same fun _ _ => sm_tup s1113).put (SqT.of e13)).same up
        · rintro σ H11 ⟨v7, v8, l11, rfl, b11, e11, k11, len11, ur11, rep11⟩
          rw [List.length_map] at len11 rep11
          rw [l10s, List.take_length] at rep11
          refine ⟨some (.ref sa'), some (.ref ps), some (.ref ur), v7, v8, l11, rfl, ?_, e11, k11, by omega, ?_⟩
          · exact fun b o e n => b11 _ _ (s10 _ _ (s7 _ _ (b6 _ _ e n))) n
          · rw [eT]
            exact rep11
      · rintro σ H6 ⟨v4, v5, v6, v7, v8, l6, rfl, b6, e6, k6, len6, rep6⟩
        rw [List.length_map, las] at len6 rep6
        rw [List.take_length] at rep6
        refine ⟨some (.int i), v4, v5, v6, v7, v8, l6, rfl, fun b o e => b6 _ _ (s05 _ _ e) (ne_of_none e hp), e6, k6, by omega, ?_⟩
        rw [spots_succ]
        exact rep6
    · rintro σ H4 ⟨v3, v4, v5, v6, v7, v8, l, rfl, s4, e4, k4', len4, rep4⟩
      exact ⟨_, rfl, k H4 p l s4 hp e4 k4' rep4⟩
end
end Fh

namespace Fh
open PySem PySem.Spec PyProof.Rows L2
open Fc
open Lf02 (Frac State Chain Word)
theorem wb_ways {c : Chain} (ok : OkC c) {w : Word} (h8 : w.length ≤ 8) : Wb (den c ^ 13) (3 ^ 13) (Lf02.ways c w) := by
  have W := wb_way ok h8 (vs_begin c w)
  have ew : wayL c w (0, 0, 0) = Lf02.ways c w := by
    show (if c.k < 0 then _ else wf c ⟨0, 0⟩ (w.drop 0)) = _
    rw [if_neg (by omega), List.drop_zero, ways_eq]
  rw [ew] at W
  exact W
theorem sz_ch {c : Chain} (ok : OkC c) {w : Word} (h5 : w.length ≤ 5) {i : Nat} (hi : i < w.length) {s : State} (hs : IsS c.k s) (h2 : s.sort ≠ 2) : Sz (chOf c w i s) := by
  rw [ch_sel ok h5 hi hs h2]
  have W := (wb_ways ok (by omega : w.length ≤ 8)).sub (M := selW c w i s) (fun y hy => (List.mem_filter.mp hy).1) (List.length_filter_le _ _)
  exact (sz_wb ok W).1
/-- a list of pairs of a state and a chance -/
def IsMkr (K : PySem.W.Frag) (H : Hp) (a : Addr) (x : State × Frac) : Prop := ∃ ps pc, H a = some (.tup [.ref ps, .ref pc]) ∧ H ps = some (.tup (stV x.1)) ∧ SqT K H pc (frV x.2)
abbrev Mkrs (K : PySem.W.Frag) (H : Hp) : List Addr → List (State × Frac) → Prop := Paired (IsMkr K H)
theorem Mkrs.keep {K : PySem.W.Frag} {H H' : Hp} (e : Same H H') {as : List Addr} {l : List (State × Frac)} (h : Mkrs K H as l) : Mkrs K H' as l := Paired.mapP h fun a b ⟨ps, pc, h1, h2, h3⟩ => ⟨ps, pc, e _ _ h1, e _ _ h2, sm_tup e h3⟩
theorem Mkrs.past {K : PySem.W.Frag} {H : Hp} {l : Addr} {xs : List V} {o : HO} (h : H l = some (.lst xs)) {as : List Addr} {m : List (State × Frac)} (t : Mkrs K H as m) : Mkrs K (upd H l o) as m :=
  Paired.mapP t fun a b ⟨ps, pc, h1, h2, h3⟩ => ⟨ps, pc, tup_past h h1, tup_past h h2, sqT_past h h3⟩
def mkPs (c : Chain) (w : Word) (i : Nat) (l : List State) : List (State × Frac) := (l.filter (isMk c w i)).map fun s => (s, Lf02.over (chOf c w i s) (Lf02.total c w))
theorem step_place {st : Lf02.St} {i : Int} {row : List Int} (h : 0 ≤ i ∧ i ≤ 4294967295) (hr : ∀ x ∈ row, 0 ≤ x ∧ x ≤ 4294967295) : Lf02Neutral.step st (6 :: ([i] ++ row)) = (st, ansPlace st.chain i.toNat (nats row)) := by
  unfold Lf02Neutral.step
  have e : Lf02Neutral.callOf (6 :: ([i] ++ row)) = some (.place i.toNat (nats row)) := by
    show (if Lf02Neutral.nat i = true ∧ Lf02Neutral.nats row = true then some (Lf02.Call.place i.toNat (row.map Int.toNat)) else none) = _
    rw [if_pos ⟨nat_ok h, nats_ok hr⟩]
    rfl
  rw [e]
  rfl
section
variable {P : Program} {w : World} {K : PySem.W.Frag} {mg : Str → Option Value} {base : Heap} {C CR z o b : Addr} {t1 t2 t3 t4 t5 t6 t7 t8 t9 : Tok}
abbrev sMk : Stmt := top 19
def spMk (K : PySem.W.Frag) (C : Addr) : Sp := fun vs H Q _ => ∃ (a pw : Addr) (c : Chain) (wd : Word) (i : Nat), vs = [.ref a, .ref pw, .int i] ∧ OkC c ∧ ChainAt C H a c ∧ SqL K H pw (natsV wd) ∧ (∀ x ∈ wd, x < 4) ∧ wd.length ≤ 5 ∧ i < wd.length ∧
  ∀ (H' : Hp) (p : Addr) (as : List Addr), Same H H' → H p = none → H' p = some (.lst (as.map V.ref)) → Mkrs K H' as (mkPs c wd i (Lf02.states c.k)) → Q (.ref p) H'
theorem scMk : FnScope ["chain", "word", "at", "rests", "reaches", "makers", "state", "spot", "chance"] ["chain", "word", "at"] (defScope sMk) := ⟨rfl, rfl, rfl, by decide +kernel, rfl, by decide +kernel, by decide +kernel⟩
theorem ok_mk {f f1 f2 f3 f4 f5 : Addr} {fd fd1 fd2 fd3 fd4 fd5 : FuncData} (F : Fun K "makers_of" "makers_of" sMk f fd) (T : TChain K mg C) (TR : TRest K mg CR) (TC : TCon K mg z o b)
    (D1 : Dn K mg "states_of" sStates ["last"] f1 fd1) (G1 : FnOk P w K mg base CX0 1 f1 fd1 ["last"] spStates)
    (D2 : Dn K mg "rests_of" sRests ["chain", "word"] f2 fd2) (G2 : FnOk P w K mg base CX0 5 f2 fd2 ["chain", "word"] (spRests K C CR))
    (D3 : Dn K mg "times" sTimes ["one", "other"] f3 fd3) (G3 : FnOk P w K mg base CX0 3 f3 fd3 ["one", "other"] (sp2 K Lf02.times))
    (D4 : Dn K mg "divided" sDiv ["one", "other"] f4 fd4) (G4 : FnOk P w K mg base CX0 3 f4 fd4 ["one", "other"] (spDiv K))
    (D5 : Dn K mg "reaches_of" sReach ["chain", "word"] f5 fd5) (G5 : FnOk P w K mg base CX0 5 f5 fd5 ["chain", "word"] (spReach P w K C)) :
    FnOk P w K mg base CX0 6 f fd ["chain", "word", "at"] (spMk K C) := by
  refine F.ok scMk (fun vs H Q E h => ?_) (fun cdv A outer s H vs Q E hr h => ?_)
  · obtain ⟨a, pw, c, wd, i, rfl, _⟩ := h
    rfl
  · obtain ⟨a, pw, c, wd, i, rfl, ok, hcA, hw, h4, h5, hi, k⟩ := h
    have hr1 : Room 1 _ := hr.mono (by decide)
    have hr3 : Room 3 _ := hr.mono (by decide)
    have hu := hu_of hr
    refine ⟨_, pss_cons (ps_set (i := 3) scMk.nd rfl (Or.inl rfl) (pe_call G2 hr rfl D2.g D2.F.kp D2.b .nil pass0 (pa_cons (pv 0) (pa_cons (pv 1) pa_nil))))
      (pss_cons (ps_set (i := 4) scMk.nd rfl (Or.inl rfl) (pe_call G5 hr rfl D5.g D5.F.kp D5.b .nil pass0 (pa_cons (pv 0) (pa_cons (pv 1) pa_nil))))
      (pss_cons (ps_set (i := 5) scMk.nd rfl (Or.inl rfl) (pe_lst pa_nil))
      (pss_cons (ps_for PassesOwn.never rfl (pi_list (pe_call G1 hr1 rfl D1.g D1.F.kp D1.b .nil pass0 (pa_cons (pe_fld (pv 0) rfl) pa_nil))) (pg_name (i := 6) scMk.nd rfl (Or.inl rfl))
        (pss_cons (ps_set (i := 7) scMk.nd rfl (Or.inl rfl) (pe_tup (pa_cons (pe_ix ix_tup (pv 6) pe_int (fun _ _ => rfl)) (pa_cons (pe_ix ix_tup (pv 6) pe_int (fun _ _ => rfl)) (pa_cons (pe_op op_add (pv 2) pe_int) pa_nil)))))
        (pss_cons (ps_set (i := 8) scMk.nd rfl (Or.inl rfl) (pe_call G3 hr3 rfl D3.g D3.F.kp D3.b .nil pass0 (pa_cons (pe_xget2 hu (pv 4) (pv 7) (pe_glob rfl TC.zero (v := .ref z) rfl) ⟨rfl, rfl, rfl, rfl⟩) (pa_cons (pe_fld (pe_dget hu (pv 3) (pv 7) (fun _ _ => rfl)) rfl) pa_nil))))
        (pss_one (ps_if (PW.pt (pw_and (pt_cmpR op_ne (pe_ix ix_tup (pv 6) pe_int (fun _ _ => rfl)) pe_int (nomark _)) (pw_and1 (pt_cmpR (op_neD hr.units) (pv 8) (pe_glob rfl TC.zero (v := .ref z) rfl) (nomark _)))))
          (pss_one (ps_expr (pe_bm PySem.F.plainAttrs_list PySem.F.slot_list_append PySem.F.type_list_append mt_append (pv 5) (pa_cons (pe_tup (pa_cons (pv 6) (pa_cons (pe_call G4 hr3 rfl D4.g D4.F.kp D4.b .nil pass0 (pa_cons (pv 8) (pa_cons (pe_fld (pe_dgetW hu (pv 3) (pe_glob rfl TC.beg (v := .ref b) rfl) (fun _ _ => rfl)) rfl) pa_nil))) pa_nil))) pa_nil))))
          pss_nil)))))
      (pss_one (ps_ret (pv 5)))))), ?_⟩
    have k4 := ok.k4
    have l14 : (Lf02.states c.k).length ≤ 14 := by rw [states_len]; omega
    -- rests, reaches, makers
    refine ⟨_, rfl, _, rfl, a, pw, c, c, wd, rfl, ok, hcA, .inl ⟨rfl, hw, h4⟩, by omega, fun H1 pr kvr s1 n1 e1 tab1 => ?_⟩
    refine ⟨_, rfl, _, rfl, a, pw, c, wd, rfl, ok, hcA.keep s1, s1.seq hw, h4, h5, fun H2 px lx s2 n2 e2 k2 rep2 => ?_⟩
    have s02 := s1.trans s2
    refine ⟨by show 0 ≤ sizeLine; decide, fun q hq => ?_⟩
    have s3 := sm_new (o := .lst []) hq
    have q3 : (upd H2 q (.lst [])) q = some (.lst []) := upd_same
    have hq0 : H q = none := s02.free hq
    show tSeq _ _ _ _ (upd H2 q (.lst []))
    revert s3 q3
    generalize upd H2 q (.lst []) = H3
    intro s3 q3
    have s03 := s02.trans s3
    obtain ⟨fs, dx, ql, qm, ls, kvs, hc⟩ := hcA
    have pr3 := s3 _ _ (s2 _ _ e1)
    have px3 := s3 _ _ e2
    have tab3 := (tab1.keep s2).keep s3
    have k3 := k2.same fun _ _ => sm_tup (K := K) s3
    have rep3 := rep2.same fun _ _ => sm_tup s3
    -- for state in states_of(chain.last)
    refine ⟨_, rfl, a, C, dx, _, _, rfl, s03 _ _ hc.ins, T.cl, T.nLast, hc.last, c.k, rfl, by omega, fun H5 p as s5 np e5 t5 => ?_⟩
    have las : as.length = (Lf02.states c.k).length := by rw [t5.length, List.length_map]
    have npq : p ≠ q := fun e => by rw [e, q3] at np; cases np
    refine ⟨p, rfl, ⟨_, SqL.of e5⟩, ?_⟩
    refine for_list (K := K) (a := p) (xs := as.map V.ref) (fun j σ H' => ∃ (v6 v7 v8 : Option V) (ms : List Addr), σ = [some (.ref a), some (.ref pw), some (.int i), some (.ref pr), some (.ref px), some (.ref q), v6, v7, v8] ∧ But q H5 H' ∧ H' q = some (.lst (ms.map V.ref)) ∧ Mkrs K H' ms (mkPs c wd i ((Lf02.states c.k).take j)) ∧ ms.length ≤ j)
      ⟨none, none, none, [], rfl, But.refl q H5, s5 _ _ q3, .nil, Nat.le_refl _⟩ (fun j σ H' _ ⟨_, _, _, _, _, b6, _⟩ => SqL.of (b6 _ _ e5 npq)) ?_ ?_
    · rintro j y σ H6 hy ⟨v6, v7, v8, ms, rfl, b6, e6, m6, len6⟩
      rw [List.getElem?_map] at hy
      obtain ⟨sa, hsa1, rfl⟩ := Option.map_eq_some_iff.mp hy
      obtain ⟨hlt, _⟩ := List.getElem?_eq_some_iff.mp hsa1
      obtain ⟨st, hst⟩ : ∃ st, (Lf02.states c.k)[j]? = some st := ⟨_, List.getElem?_eq_getElem (by omega)⟩
      obtain ⟨sa', i1, i2⟩ := t5.get (i := j) (x := stV st) (by rw [List.getElem?_map, hst]; rfl)
      have eu : sa' = sa := Option.some.inj (i1.symm.trans hsa1)
      subst eu
      have hS : IsS c.k st := mem_states.mp (List.mem_of_getElem? hst)
      have q5 := s5 _ _ q3
      have nsa : sa' ≠ q := fun e => by rw [e, q5] at i2; cases i2
      have hsa := b6 _ _ i2 nsa
      have upT : ∀ a' ys, SqT K H5 a' ys → SqT K H6 a' ys := fun a' ys h => by
        rcases h with (q1 | ⟨q0, q1⟩) | q1
        · exact .inl (.inl (b6 _ _ q1 fun e => by rw [e, q5] at q1; cases q1))
        · exact .inl (.inr ⟨q0, b6 _ _ q1 fun e => by rw [e, q5] at q1; cases q1⟩)
        · exact .inr q1
      have npr : pr ≠ q := fun e => by rw [e, q3] at pr3; cases pr3
      have npx : px ≠ q := fun e => by rw [e, q3] at px3; cases px3
      have pr6 := b6 _ _ (s5 _ _ pr3) npr
      have px6 := b6 _ _ (s5 _ _ px3) npx
      have k6 := (k3.same fun _ _ => sm_tup (K := K) s5).same upT
      have rep6 := (rep3.same fun _ _ => sm_tup s5).same upT
      -- the entry of a spot in the table
      have ent : ∀ t, VS c wd t → ∃ ra dxr pt pb tg, valV kvr (spK t) = some (.ref ra) ∧ H6 ra = some (.ins CR dxr (rF (.ref pt) (.int (rvl c wd t).ways) (.ref pb) (.int (rvl c wd t).ties) tg)) ∧ SqT K H6 pt (frV (rvl c wd t).total) := fun t ht => by
        obtain ⟨ra, r1, tg, ⟨dxr, pt, pb, r2, r3, _⟩, _, _⟩ := tab3 t ht
        have r5 := s5 _ _ r2
        refine ⟨ra, dxr, pt, pb, tg, r1, b6 _ _ r5 fun e => ?_, upT _ _ (sm_tup s5 r3)⟩
        rw [e, q5] at r5
        cases r5
      have h8 : wd.length ≤ 8 := by omega
      -- spot
      refine ⟨_, rfl, sa', _, _, _, rfl, rfl, SqT.of hsa, at0, _, rfl, sa', _, _, _, rfl, rfl, SqT.of hsa, at1, _, rfl, _, _, rfl, rfl, by show 3 ≤ sizeLine; decide, fun ps hps => ?_⟩
      have s7 := sm_new (o := .tup [.int st.sort, .int st.place, .int ((i : Int) + 1)]) hps
      have ps7 : (upd H6 ps (.tup [.int st.sort, .int st.place, .int ((i : Int) + 1)])) ps = some (.tup ((spK (st.sort, st.place, i + 1)).map kV)) := upd_same
      show tSeq _ _ _ _ (upd H6 ps (.tup [.int st.sort, .int st.place, .int ((i : Int) + 1)]))
      revert s7 ps7
      generalize upd H6 ps (.tup [.int st.sort, .int st.place, .int ((i : Int) + 1)]) = H7
      intro s7 ps7
      -- chance
      obtain ⟨ur, ur1, ur2⟩ := (rep6.same fun _ _ => sm_tup s7).get TC.hz (st.sort, st.place, i + 1)
      refine ⟨_, rfl, px, lx, rfl, s7 _ _ px6, _, rfl, ps, spK (st.sort, st.place, i + 1), lx, rfl, SqT.of ps7, s7 _ _ px6, k6.same fun _ _ => sm_tup s7, ?_⟩
      rw [ur1]
      obtain ⟨ra, dxr, pt, pb, tg, a1, a2, a3⟩ := ent (st.sort, st.place, i + 1) (vs_spot hS hi)
      refine ⟨_, rfl, _, rfl, pr, .ref ra, rfl, ?_, ra, CR, dxr, _, _, rfl, s7 _ _ a2, TR.cl, TR.nTotal, rF_total, ?_⟩
      · have g := DGet.t (H := H7) (a := pr) (b := ps) (kvs := kvr) (k := spK (st.sort, st.place, i + 1)) (s7 _ _ pr6) ps7
        rw [a1] at g
        exact g
      have nlen : (spots c.k (wd.length + 1)).length ≤ 84 := by
        have z := spots_len c.k (wd.length + 1)
        have z2 : (wd.length + 1) * (Lf02.states c.k).length ≤ 6 * 14 := Nat.mul_le_mul (by omega) l14
        omega
      have hpl := hS.2.1
      refine ⟨ur, pt, _, _, rfl, ur2, sm_tup s7 a3, sz_rb ok (rb_reach ok wd) (by omega) (by show st.place + (i + 1) ≤ 11; omega), (sz_rvl ok h8 (vs_spot hS hi)).1, fun H8 pc s8 n8 e8 => ?_⟩
      have s68 := s7.trans s8
      have e8' : H8 pc = some (.tup (frV (chOf c wd i st))) := e8
      have hsa8 := s68 _ _ hsa
      have e68 := s68 _ _ e6
      have m8 := m6.keep s68
      -- if state[0] != 2 and chance != ZERO
      have skip : isMk c wd i st = false → ∃ (v6 v7 v8 : Option V) (ms : List Addr), [some (V.ref a), some (.ref pw), some (.int i), some (.ref pr), some (.ref px), some (.ref q), some (.ref sa'), some (.ref ps), some (.ref pc)] = [some (.ref a), some (.ref pw), some (.int i), some (.ref pr), some (.ref px), some (.ref q), v6, v7, v8] ∧ But q H5 H8 ∧ H8 q = some (.lst (ms.map V.ref)) ∧ Mkrs K H8 ms (mkPs c wd i ((Lf02.states c.k).take (j + 1))) ∧ ms.length ≤ j + 1 := fun e => by
        refine ⟨_, _, _, ms, rfl, b6.trans (But.of s68), e68, ?_, by omega⟩
        have ee : mkPs c wd i ((Lf02.states c.k).take (j + 1)) = mkPs c wd i ((Lf02.states c.k).take j) := by
          unfold mkPs
          rw [take_more hst, List.filter_append, List.filter_cons_of_neg (by rw [e]; decide), List.filter_nil, List.append_nil]
        rw [ee]
        exact m8
      refine ⟨_, rfl, sa', _, _, _, rfl, rfl, SqT.of hsa8, at0, rfl, _, rfl, ?_⟩
      by_cases c2 : st.sort = 2
      · refine if_f (by simp [c2]) ?_
        exact skip (by unfold isMk; simp [c2])
      refine if_t (by simp; omega) ?_
      refine ⟨_, rfl, frD (chOf c wd i st), frD ⟨0, 1⟩, dp_fr (SqT.of e8'), dp_fr (TC.hz H8), shaped_fr _, shaped_fr _, _, rfl, ?_⟩
      rw [eqv_fr]
      by_cases cz : chOf c wd i st = ⟨0, 1⟩
      · refine if_f (by rw [decide_eq_true cz]; rfl) ?_
        exact skip (by unfold isMk; simp [cz])
      refine if_t (by rw [decide_eq_false cz]; rfl) ?_
      have hmk : isMk c wd i st = true := by
        unfold isMk
        rw [decide_eq_false cz, bne_iff_ne.mpr c2]
        rfl
      have tot0 : (Lf02.total c wd).n ≠ 0 := fun e => by
        have hm : st ∈ mkL c wd i := List.mem_filter.mpr ⟨mem_states.mpr hS, hmk⟩
        rw [(mk_none ok h5 hi).mpr e] at hm
        cases hm
      have etot : (rvl c wd (0, 0, 0)).total = Lf02.total c wd := by rw [rvl_begin]; rfl
      obtain ⟨rb, dxb, ptb, pbb, tgb, g1, g2, g3⟩ := ent (0, 0, 0) (vs_begin c wd)
      rw [etot] at g3
      refine ⟨_, rfl, .inl ⟨rfl, _, SqL.of e68⟩, ?_⟩
      refine ⟨_, rfl, _, rfl, _, rfl, pr, b, kvr, spK (0, 0, 0), .ref rb, rfl, rfl, .inl (s68 _ _ pr6), TC.hb _, g1, rb, CR, dxb, _, _, rfl, s68 _ _ g2, TR.cl, TR.nTotal, rF_total, ?_⟩
      have szt := (sz_rvl ok h8 (vs_begin c wd)).1
      rw [etot] at szt
      refine ⟨pc, ptb, chOf c wd i st, Lf02.total c wd, rfl, SqT.of e8', sm_tup s68 g3, sz_ch ok h5 hi hS c2, szt, by omega, fun H9 pd s9 n9 e9 => ⟨by show 2 ≤ sizeLine; decide, fun u hu' => ?_⟩⟩
      have s10 := sm_new (o := .tup [.ref sa', .ref pd]) hu'
      have s910 := s9.trans s10
      have e10 := s910 _ _ e68
      refine ⟨q, _, _, rfl, rfl, e10, small1000 (by rw [List.length_map]; omega), ?_⟩
      refine ⟨some (.ref sa'), some (.ref ps), some (.ref pc), ms ++ [u], rfl, (b6.trans (But.of (s68.trans s910))).trans But.upd, ?_, ?_, ?_⟩
      · rw [upd_same, List.map_append]
        rfl
      · have ee : mkPs c wd i ((Lf02.states c.k).take (j + 1)) = mkPs c wd i ((Lf02.states c.k).take j) ++ [(st, Lf02.over (chOf c wd i st) (Lf02.total c wd))] := by
          unfold mkPs
          rw [take_more hst, List.filter_append, List.filter_cons_of_pos hmk, List.filter_nil, List.map_append]
          rfl
        rw [ee]
        refine Paired.snoc (Mkrs.past e10 (m8.keep s910)) ?_
        exact ⟨sa', pd, tup_past e10 upd_same, tup_past e10 (s910 _ _ hsa8), sqT_past e10 (SqT.of (s10 _ _ e9))⟩
      · rw [List.length_append]
        show ms.length + 1 ≤ j + 1
        omega
    · rintro σ H6 ⟨v6, v7, v8, ms, rfl, b6, e6, m6, len6⟩
      rw [List.length_map, las, List.take_length] at m6
      exact ⟨_, rfl, k H6 q ms (fun b o e => b6 _ _ (s5 _ _ (s03 _ _ e)) (ne_of_none e hq0)) hq0 e6 m6⟩
def flatMk (l : List (State × Frac)) : List V := l.flatMap fun x => stV x.1 ++ frV x.2
theorem flatMk_more {l : List (State × Frac)} {i : Nat} {x : State × Frac} (h : l[i]? = some x) : flatMk (l.take (i + 1)) = flatMk (l.take i) ++ stV x.1 ++ frV x.2 := by
  unfold flatMk
  rw [take_more h, List.flatMap_append, List.flatMap_cons, List.flatMap_nil, List.append_nil, List.append_assoc]
theorem flatMk_len : ∀ l : List (State × Frac), (flatMk l).length = 4 * l.length
  | [] => rfl
  | x :: l => by
    have e : flatMk (x :: l) = (stV x.1 ++ frV x.2) ++ flatMk l := rfl
    rw [e, List.length_append, flatMk_len l, List.length_cons]
    show 4 + _ = _
    omega
theorem flatMk_ints (c : Chain) (w : Word) (i : Nat) : ∀ l : List State, flatMk (l.map fun s => (s, Lf02.over (chOf c w i s) (Lf02.total c w))) = intsV (l.flatMap fun x => Lf02.ints [x.sort, x.place] ++ Lf02.told (Lf02.over (chOf c w i x) (Lf02.total c w)))
  | [] => rfl
  | s :: l => by
    have e : flatMk ((s :: l).map fun s => (s, Lf02.over (chOf c w i s) (Lf02.total c w))) = (stV s ++ frV (Lf02.over (chOf c w i s) (Lf02.total c w))) ++ flatMk (l.map fun s => (s, Lf02.over (chOf c w i s) (Lf02.total c w))) := rfl
    rw [e, flatMk_ints c w i l, List.flatMap_cons]
    unfold intsV
    rw [List.map_append]
    rfl
abbrev sPlace : Stmt := top 42
theorem scPlace : FnScope ["chain", "numbers", "row", "at", "makers", "answer", "state", "chance"] ["chain", "numbers", "row"] (defScope sPlace) := ⟨rfl, rfl, rfl, by decide +kernel, rfl, by decide +kernel, by decide +kernel⟩
theorem ok_place {f f1 f2 : Addr} {fd fd1 fd2 : FuncData} (F : Fun K "answer_place" "answer_place" sPlace f fd) (B : Blt mg) (N : TNum mg t1 t2 t3 t4 t5) (N2 : TNum2 mg t6 t7 t8 t9)
    (D1 : Dn K mg "is_word" sIsW ["word"] f1 fd1) (G1 : FnOk P w K mg base CX0 1 f1 fd1 ["word"] (spIsW K))
    (D2 : Dn K mg "makers_of" sMk ["chain", "word", "at"] f2 fd2) (G2 : FnOk P w K mg base CX0 6 f2 fd2 ["chain", "word", "at"] (spMk K C)) :
    FnOk P w K mg base CX0 7 f fd ["chain", "numbers", "row"] (spA K (SA C) OkSt 6) := by
  refine F.ok scPlace (fun vs H Q E h => ?_) (fun cdv A outer s H vs Q E hr h => ?_)
  · obtain ⟨a, pn, pr, st, F, nums, row, rfl, _⟩ := h
    rfl
  · obtain ⟨a, pn, pr, st, Fp, nums, row, rfl, sa, ok, hpn, hpr, npn, npr, ln, lr, nr, bn, br, kk⟩ := h
    have hr1 : Room 1 _ := hr.mono (by decide)
    refine ⟨_, pss_cons (ps_set (i := 3) scPlace.nd rfl (Or.inl rfl) (pe_ix ix_list (pv 1) (pe_int) (fun _ _ => rfl)))
      (pss_cons (ps_if (PW.pt (pw_or (pt_not (pt_val (pe_call G1 hr1 rfl D1.g D1.F.kp D1.b .nil pass0 (pa_cons (pv 2) pa_nil)))) (pw_or1 (pt_cmpR op_ge (pv 3) (pe_callB call_len_seq (by rfl) B.len PySem.boot_len (pa_cons (pv 2) pa_nil)) (nomark _))))) (pss_one (ps_ret (pe_lst (pa_cons (pe_glob rfl N.refused (v := .int (-1)) ⟨_, rfl⟩) pa_nil)))) (pss_nil))
      (pss_cons (ps_set (i := 4) scPlace.nd rfl (Or.inl rfl) (pe_call G2 hr rfl D2.g D2.F.kp D2.b .nil pass0 (pa_cons (pv 0) (pa_cons (pv 2) (pa_cons (pv 3) pa_nil)))))
      (pss_cons (ps_if (pt_cmpR op_eq (pe_callB call_len_seq (by rfl) B.len PySem.boot_len (pa_cons (pv 4) pa_nil)) pe_int (nomark _)) (pss_one (ps_ret (pe_lst (pa_cons (pe_glob rfl N2.noway (v := .int (-6)) ⟨_, rfl⟩) pa_nil)))) pss_nil)
      (pss_cons (ps_set (i := 5) scPlace.nd rfl (Or.inl rfl) (pe_lst (pa_cons (pe_callB call_len_seq (by rfl) B.len PySem.boot_len (pa_cons (pv 4) pa_nil)) pa_nil)))
      (pss_cons (ps_for PassesOwn.never rfl (pi_list (pv 4)) (pg_tup rfl (pgs_cons (pg_name (i := 6) scPlace.nd rfl (.inl rfl)) (pgs_cons (pg_name (i := 7) scPlace.nd rfl (.inl rfl)) pgs_nil)))
        (pss_cons (ps_expr (pe_bm PySem.F.plainAttrs_list PySem.F.slot_list_extend PySem.F.type_list_extend mt_extendT (pv 5) (pa_cons (pv 6) pa_nil)))
        (pss_one (ps_expr (pe_bm PySem.F.plainAttrs_list PySem.F.slot_list_extend PySem.F.type_list_extend mt_extendT (pv 5) (pa_cons (pv 7) pa_nil))))))
      (pss_one (ps_ret (pv 5)))))))), ?_⟩
    obtain ⟨i, rfl⟩ : ∃ i, nums = [i] := by
      match nums, ln with
      | [i], _ => exact ⟨i, rfl⟩
    have bi := bn i (List.mem_cons_self ..)
    have es := step_place (st := st) bi br
    have ei : i = ((i.toNat : Nat) : Int) := by omega
    have hprN : H pr = some (.lst (natsV (nats row))) := by rw [← intsV_nats br]; exact hpr
    have hw : SqL K H pr (natsV (nats row)) := SqL.of hprN
    generalize hwd : nats row = wd at *
    have lwd : wd.length ≤ 12 := by rw [← hwd, nats_len]; exact lr
    refine ⟨_, rfl, pn, _, _, _, rfl, rfl, SqL.of hpn, atI_nat (j := 0) rfl, ?_⟩
    refine ⟨_, rfl, pr, wd, rfl, hw, by omega, fun H1 s1 => ⟨_, rfl, ?_⟩⟩
    have refuse : (Lf02.isWord wd = false ∨ wd.length ≤ i.toNat) → ∀ D : Ends, D.rt = Q → tRet (tLst (tCons (tC (.int (-1))) tNil)) D [some (.ref a), some (.ref pn), some (.ref pr), some (.int i), none, none, none, none] H1 := by
      intro c D hD
      refine ⟨by show 1 ≤ sizeLine; decide, fun q hq => ?_⟩
      rw [hD]
      have es' : Lf02Neutral.step st (6 :: ([i] ++ row)) = (st, [-1]) := by
        rw [es]
        unfold ansPlace
        rw [if_pos c]
      exact back_same (rep1 C) sa kk es' s1 hq
    by_cases hW : Lf02.isWord wd = true
    rotate_left
    · have hW' : Lf02.isWord wd = false := by simpa using hW
      refine if_t (by rw [hW']; rfl) ?_
      exact refuse (.inl hW') _ rfl
    refine if_f (by rw [hW]; rfl) ?_
    have w5 := isW_5 hW
    refine ⟨_, rfl, _, rfl, pr, _, rfl, .inl (s1.seq hw), _, _, rfl, rfl, _, rfl, ?_⟩
    rw [natsV_len]
    by_cases c1 : wd.length ≤ i.toNat
    · refine if_t (decide_eq_true (by omega)) ?_
      exact refuse (.inr c1) _ rfl
    refine if_f (decide_eq_false (by omega)) ?_
    have hi : i.toNat < wd.length := by omega
    have ea := place_ans ok.c hW w5.1 hi
    rw [ea] at es
    -- makers = makers_of(chain, row, at)
    refine ⟨_, rfl, _, rfl, _, rfl, ?_⟩
    refine ⟨a, pr, st.chain, wd, i.toNat, by show [V.ref a, V.ref pr, V.int i] = [V.ref a, V.ref pr, V.int ((i.toNat : Nat) : Int)]; rw [← ei], ok.c, (sa_rd sa).keep s1, s1.seq hw, w5.2, w5.1, hi, fun H2 p as s2 np e2 m2 => ?_⟩
    have s12 := s1.trans s2
    have k4 := ok.c.k4
    have las : as.length = (mkL st.chain wd i.toNat).length := by
      rw [Paired.length m2]
      unfold mkPs
      rw [List.length_map]
      rfl
    have l14 : (mkL st.chain wd i.toNat).length ≤ 14 := by
      have z : (mkL st.chain wd i.toNat).length ≤ (Lf02.states st.chain.k).length := List.length_filter_le _ _
      rw [states_len] at z
      omega
    refine ⟨_, rfl, p, _, rfl, .inl (SqL.of e2), rfl, _, rfl, ?_⟩
    rw [List.length_map, las]
    by_cases c2 : mkL st.chain wd i.toNat = []
    · refine if_t (by rw [c2]; rfl) ?_
      refine ⟨by show 1 ≤ sizeLine; decide, fun q hq => ?_⟩
      rw [if_pos c2] at es
      exact back_same (rep1 C) sa kk es s12 hq
    have c3 : (mkL st.chain wd i.toNat).length ≠ 0 := fun e => c2 (List.length_eq_zero_iff.mp e)
    refine if_f (by simp; omega) ?_
    rw [if_neg c2] at es
    -- answer = [len(makers)]
    refine ⟨_, rfl, p, _, rfl, .inl (SqL.of e2), by show 1 ≤ sizeLine; decide, fun q hq => ?_⟩
    have hq0 : H q = none := s12.free hq
    have npq : p ≠ q := ne_of_none e2 hq
    have s3 := sm_new (o := .lst [.int ((as.map V.ref).length : Int)]) hq
    refine ⟨_, rfl, p, rfl, ⟨_, SqL.of (s3 _ _ e2)⟩, ?_⟩
    refine for_list (K := K) (a := p) (xs := as.map V.ref) (fun j σ H' => ∃ (v6 v7 : Option V), σ = [some (.ref a), some (.ref pn), some (.ref pr), some (.int i), some (.ref p), some (.ref q), v6, v7] ∧ But q H2 H' ∧ H' q = some (.lst ([.int ((as.map V.ref).length : Int)] ++ flatMk ((mkPs st.chain wd i.toNat (Lf02.states st.chain.k)).take j))))
      ⟨none, none, rfl, But.of s3, upd_same⟩ (fun j σ H' _ ⟨_, _, _, b5, _⟩ => SqL.of (b5 _ _ e2 npq)) ?_ ?_
    · rintro j y σ H5 hy ⟨v6, v7, rfl, b5, e5⟩
      rw [List.getElem?_map] at hy
      obtain ⟨u, hu1, rfl⟩ := Option.map_eq_some_iff.mp hy
      obtain ⟨hlt, _⟩ := List.getElem?_eq_some_iff.mp hu1
      have lm : as.length = (mkPs st.chain wd i.toNat (Lf02.states st.chain.k)).length := Paired.length m2
      obtain ⟨x, hx⟩ : ∃ x, (mkPs st.chain wd i.toNat (Lf02.states st.chain.k))[j]? = some x := ⟨_, List.getElem?_eq_getElem (by omega)⟩
      obtain ⟨u', j1, ps, pc, j2, j3, j4⟩ := paired_get m2 hx
      have eu : u' = u := Option.some.inj (j1.symm.trans hu1)
      subst eu
      have nu : u' ≠ q := ne_of_none j2 hq
      have nps : ps ≠ q := ne_of_none j3 hq
      have x4 : SqT K H5 pc (frV x.2) := by
        rcases j4 with (q1 | ⟨q0, q1⟩) | q1
        · exact .inl (.inl (b5 _ _ q1 (ne_of_none q1 hq)))
        · exact .inl (.inr ⟨q0, b5 _ _ q1 (ne_of_none q1 hq)⟩)
        · exact .inr q1
      have fl := flatMk_len ((mkPs st.chain wd i.toNat (Lf02.states st.chain.k)).take j)
      rw [List.length_take] at fl
      refine ⟨u', _, rfl, SqT.of (b5 _ _ j2 nu), rfl, _, _, rfl, _, _, rfl, rfl, ?_⟩
      refine ⟨_, rfl, .inl ⟨rfl, _, SqL.of e5⟩, _, rfl, ?_⟩
      refine ⟨q, ps, _, stV x.1, rfl, rfl, e5, SqT.of (b5 _ _ j3 nps), ?_, ?_⟩
      · rw [List.length_append, fl]
        refine Nat.le_of_lt (small1000 ?_)
        show 1 + 4 * min j _ + 2 ≤ 1000
        omega
      refine ⟨_, rfl, .inl ⟨rfl, _, SqL.of upd_same⟩, _, rfl, ?_⟩
      refine ⟨q, pc, _, frV x.2, rfl, rfl, upd_same, sqT_past e5 x4, ?_, ?_⟩
      · rw [List.length_append, List.length_append, fl]
        refine Nat.le_of_lt (small1000 ?_)
        show 1 + 4 * min j _ + 2 + 2 ≤ 1000
        omega
      · refine ⟨some (.ref ps), some (.ref pc), rfl, (b5.trans But.upd).trans But.upd, ?_⟩
        rw [upd_same, flatMk_more hx]
        simp only [List.append_assoc]
    · rintro σ H5 ⟨v6, v7, rfl, b5, e5⟩
      have lm : as.length = (mkPs st.chain wd i.toNat (Lf02.states st.chain.k)).length := Paired.length m2
      have sF : Same H H5 := fun b o e => b5 _ _ (s12 _ _ e) (ne_of_none e hq0)
      refine ⟨_, rfl, ?_⟩
      refine kk H5 Fp q ?_ (fun b o e _ => sF _ _ e) (fun b hb => .inl hb) hq0 (fun z => ?_) ?_
      · rw [es]
        exact sa_frame C _ _ _ _ _ (fun b o _ e => sF _ _ e) sa
      · obtain ⟨o, ho⟩ := sa_tracks C _ _ _ _ sa q z
        rw [hq0] at ho
        cases ho
      · rw [es, e5, List.length_map, lm, List.take_length, ← lm, las]
        have e9 := flatMk_ints st.chain wd i.toNat (mkL st.chain wd i.toNat)
        show some (HO.lst (V.int ((mkL st.chain wd i.toNat).length : Int) :: flatMk ((mkL st.chain wd i.toNat).map fun s => (s, Lf02.over (chOf st.chain wd i.toNat s) (Lf02.total st.chain wd))))) = _
        rw [e9]
        rfl
end
end Fh

namespace Fh
open PySem PySem.Spec PyProof.Rows L2
open Fc
open Lf02 (Frac State Chain Word)
theorem written {K : PySem.W.Frag} {a : Addr} {od : Option Addr} {n : Nat} {its : List Value} {sl : Array (Option Value)} {xs : List V} (h : K.lookup a = some ⟨.type "tuple", od, .seq its.toArray n, sl⟩) (hl : its.length ≤ 100) (hv : Vals xs its) (H : Hp) : SqT K H a xs :=
  .inr ⟨_, _, _, h, rfl, rfl, by rw [List.size_toArray]; exact Nat.le_of_lt (small1000 (by omega)), by simpa using hv⟩
theorem all_mk {P : Program} {w : World} {K : PySem.W.Frag} {h : Heap} {mg : Str → Option Value} {fa CR fri fra CC fci fcb fcn fcm fcl fcw ftl fgcd ffrac ftimes fplus fdiv fless fstates flp ftgts farr fsteps frests fbest freach fmk ffl ffm fareW fisW ftold fc0 fc1 fc2 fc3 fc4 fc5 fc6 fc7 fc8 fc9 fc10 fans zZ zO zB aC q0 q1 q2 q3 q4 q5 q6 q7 q8 q9 q10 : Addr} (X : K.In h) (G : h.Ns mainGlobals mg) (hfa : mg "answers" = some (.ref fa))
    {odri anri : Option Addr} {slri : Array (Option Value)} {ocri kVri dcri pmri cdri ctri : Value}
    {odra anra : Option Addr} {slra : Array (Option Value)} {ocra kVra dcra pmra cdra ctra : Value}
    {odci anci : Option Addr} {slci : Array (Option Value)} {occi kVci dcci pmci cdci ctci : Value}
    {odcb ancb : Option Addr} {slcb : Array (Option Value)} {occb kVcb dccb pmcb cdcb ctcb : Value}
    {odcn ancn : Option Addr} {slcn : Array (Option Value)} {occn kVcn dccn pmcn cdcn ctcn : Value}
    {odcm ancm : Option Addr} {slcm : Array (Option Value)} {occm kVcm dccm pmcm cdcm ctcm : Value}
    {odcl ancl : Option Addr} {slcl : Array (Option Value)} {occl kVcl dccl pmcl cdcl ctcl : Value}
    {odcw ancw : Option Addr} {slcw : Array (Option Value)} {occw kVcw dccw pmcw cdcw ctcw : Value}
    {odtl antl : Option Addr} {sltl : Array (Option Value)} {octl kVtl dctl pmtl cdtl cttl : Value}
    {odgcd angcd : Option Addr} {slgcd : Array (Option Value)} {ocgcd kVgcd dcgcd pmgcd cdgcd ctgcd : Value}
    {odfrac anfrac : Option Addr} {slfrac : Array (Option Value)} {ocfrac kVfrac dcfrac pmfrac cdfrac ctfrac : Value}
    {odtimes antimes : Option Addr} {sltimes : Array (Option Value)} {octimes kVtimes dctimes pmtimes cdtimes cttimes : Value}
    {odplus anplus : Option Addr} {slplus : Array (Option Value)} {ocplus kVplus dcplus pmplus cdplus ctplus : Value}
    {oddiv andiv : Option Addr} {sldiv : Array (Option Value)} {ocdiv kVdiv dcdiv pmdiv cddiv ctdiv : Value}
    {odless anless : Option Addr} {slless : Array (Option Value)} {ocless kVless dcless pmless cdless ctless : Value}
    {odstates anstates : Option Addr} {slstates : Array (Option Value)} {ocstates kVstates dcstates pmstates cdstates ctstates : Value}
    {odlp anlp : Option Addr} {sllp : Array (Option Value)} {oclp kVlp dclp pmlp cdlp ctlp : Value}
    {odtgts antgts : Option Addr} {sltgts : Array (Option Value)} {octgts kVtgts dctgts pmtgts cdtgts cttgts : Value}
    {odarr anarr : Option Addr} {slarr : Array (Option Value)} {ocarr kVarr dcarr pmarr cdarr ctarr : Value}
    {odsteps ansteps : Option Addr} {slsteps : Array (Option Value)} {ocsteps kVsteps dcsteps pmsteps cdsteps ctsteps : Value}
    {odrests anrests : Option Addr} {slrests : Array (Option Value)} {ocrests kVrests dcrests pmrests cdrests ctrests : Value}
    {odbest anbest : Option Addr} {slbest : Array (Option Value)} {ocbest kVbest dcbest pmbest cdbest ctbest : Value}
    {odreach anreach : Option Addr} {slreach : Array (Option Value)} {ocreach kVreach dcreach pmreach cdreach ctreach : Value}
    {odmk anmk : Option Addr} {slmk : Array (Option Value)} {ocmk kVmk dcmk pmmk cdmk ctmk : Value}
    {odfl anfl : Option Addr} {slfl : Array (Option Value)} {ocfl kVfl dcfl pmfl cdfl ctfl : Value}
    {odfm anfm : Option Addr} {slfm : Array (Option Value)} {ocfm kVfm dcfm pmfm cdfm ctfm : Value}
    {odareW anareW : Option Addr} {slareW : Array (Option Value)} {ocareW kVareW dcareW pmareW cdareW ctareW : Value}
    {odisW anisW : Option Addr} {slisW : Array (Option Value)} {ocisW kVisW dcisW pmisW cdisW ctisW : Value}
    {odtold antold : Option Addr} {sltold : Array (Option Value)} {octold kVtold dctold pmtold cdtold cttold : Value}
    {odc0 anc0 : Option Addr} {slc0 : Array (Option Value)} {occ0 kVc0 dcc0 pmc0 cdc0 ctc0 : Value}
    {odc1 anc1 : Option Addr} {slc1 : Array (Option Value)} {occ1 kVc1 dcc1 pmc1 cdc1 ctc1 : Value}
    {odc2 anc2 : Option Addr} {slc2 : Array (Option Value)} {occ2 kVc2 dcc2 pmc2 cdc2 ctc2 : Value}
    {odc3 anc3 : Option Addr} {slc3 : Array (Option Value)} {occ3 kVc3 dcc3 pmc3 cdc3 ctc3 : Value}
    {odc4 anc4 : Option Addr} {slc4 : Array (Option Value)} {occ4 kVc4 dcc4 pmc4 cdc4 ctc4 : Value}
    {odc5 anc5 : Option Addr} {slc5 : Array (Option Value)} {occ5 kVc5 dcc5 pmc5 cdc5 ctc5 : Value}
    {odc6 anc6 : Option Addr} {slc6 : Array (Option Value)} {occ6 kVc6 dcc6 pmc6 cdc6 ctc6 : Value}
    {odc7 anc7 : Option Addr} {slc7 : Array (Option Value)} {occ7 kVc7 dcc7 pmc7 cdc7 ctc7 : Value}
    {odc8 anc8 : Option Addr} {slc8 : Array (Option Value)} {occ8 kVc8 dcc8 pmc8 cdc8 ctc8 : Value}
    {odc9 anc9 : Option Addr} {slc9 : Array (Option Value)} {occ9 kVc9 dcc9 pmc9 cdc9 ctc9 : Value}
    {odc10 anc10 : Option Addr} {slc10 : Array (Option Value)} {occ10 kVc10 dcc10 pmc10 cdc10 ctc10 : Value}
    {odans anans : Option Addr} {slans : Array (Option Value)} {ocans kVans dcans pmans cdans ctans : Value}
    {odzZ : Option Addr} {nzZ : Nat} {slzZ : Array (Option Value)} {tzZ0 tzZ1 : Tok}
    {odzO : Option Addr} {nzO : Nat} {slzO : Array (Option Value)} {tzO0 tzO1 : Tok}
    {odzB : Option Addr} {nzB : Nat} {slzB : Array (Option Value)} {tzB0 tzB1 tzB2 : Tok}
    {tn0 : Tok}
    {tn1 : Tok}
    {tn2 : Tok}
    {tn3 : Tok}
    {tn4 : Tok}
    {tn5 : Tok}
    {tn6 : Tok}
    {tn7 : Tok}
    {tn8 : Tok}
    {odaC : Option Addr} {naC : Nat} {slaC : Array (Option Value)}
    {odq0 : Option Addr} {nq0 : Nat} {slq0 : Array (Option Value)} {tq01 : Tok}
    {odq1 : Option Addr} {nq1 : Nat} {slq1 : Array (Option Value)} {tq11 : Tok}
    {odq2 : Option Addr} {nq2 : Nat} {slq2 : Array (Option Value)} {tq21 : Tok}
    {odq3 : Option Addr} {nq3 : Nat} {slq3 : Array (Option Value)} {tq31 : Tok}
    {odq4 : Option Addr} {nq4 : Nat} {slq4 : Array (Option Value)} {tq41 : Tok}
    {odq5 : Option Addr} {nq5 : Nat} {slq5 : Array (Option Value)} {tq51 : Tok}
    {odq6 : Option Addr} {nq6 : Nat} {slq6 : Array (Option Value)} {tq61 : Tok}
    {odq7 : Option Addr} {nq7 : Nat} {slq7 : Array (Option Value)} {tq71 : Tok}
    {odq8 : Option Addr} {nq8 : Nat} {slq8 : Array (Option Value)} {tq81 : Tok}
    {odq9 : Option Addr} {nq9 : Nat} {slq9 : Array (Option Value)} {tq91 : Tok}
    {odq10 : Option Addr} {nq10 : Nat} {slq10 : Array (Option Value)} {tq101 : Tok}
    (aCR : PySem.W.nsIn K mainGlobals "Rest" = some (some (.ref CR)))
    (ari : PySem.W.findIn K (.ref CR) "__init__" = some (some (.ref fri)))
    (iri : PySem.W.isFn K (.ref fri) = true)
    (lri : K.lookup fri = some ⟨ocri, odri, .func (PySem.W.fnOf "__init__" "Rest.__init__" (defArgs sRInit) (defBody sRInit) (defScope sRInit) .none kVri dcri pmri anri cdri ctri), slri⟩)
    (cri_ : PySem.W.codeIn K cdri "Rest.__init__" = true)
    (kri : PySem.W.keepIn K (.ref fri) = true)
    (ara : PySem.W.findIn K (.ref CR) "add_step" = some (some (.ref fra)))
    (ira : PySem.W.isFn K (.ref fra) = true)
    (lra : K.lookup fra = some ⟨ocra, odra, .func (PySem.W.fnOf "add_step" "Rest.add_step" (defArgs sRAdd) (defBody sRAdd) (defScope sRAdd) .none kVra dcra pmra anra cdra ctra), slra⟩)
    (cra_ : PySem.W.codeIn K cdra "Rest.add_step" = true)
    (kra : PySem.W.keepIn K (.ref fra) = true)
    (pgCR : PySem.W.plainGet K CR Str.empty = true)
    (hdCR : PySem.W.hasDictIn K CR = true)
    (poCR : PySem.W.plainOver K CR = true)
    (saCR : PySem.W.findIn K (.ref CR) "__setattr__" = some (some (.builtin "object.__setattr__")))
    (mkCR : PySem.W.makesIn K CR = true)
    (kcCR : PySem.W.keepIn K (.ref CR) = true)
    (nCR_total : PySem.W.findIn K (.ref CR) "total" = some none)
    (nCR_ways : PySem.W.findIn K (.ref CR) "ways" = some none)
    (nCR_best : PySem.W.findIn K (.ref CR) "best" = some none)
    (nCR_ties : PySem.W.findIn K (.ref CR) "ties" = some none)
    (nCR_target : PySem.W.findIn K (.ref CR) "target" = some none)
    (aCC : PySem.W.nsIn K mainGlobals "Chain" = some (some (.ref CC)))
    (aci : PySem.W.findIn K (.ref CC) "__init__" = some (some (.ref fci)))
    (ici : PySem.W.isFn K (.ref fci) = true)
    (lci : K.lookup fci = some ⟨occi, odci, .func (PySem.W.fnOf "__init__" "Chain.__init__" (defArgs sCInit) (defBody sCInit) (defScope sCInit) .none kVci dcci pmci anci cdci ctci), slci⟩)
    (cci_ : PySem.W.codeIn K cdci "Chain.__init__" = true)
    (kci : PySem.W.keepIn K (.ref fci) = true)
    (acb : PySem.W.findIn K (.ref CC) "begin_anew" = some (some (.ref fcb)))
    (icb : PySem.W.isFn K (.ref fcb) = true)
    (lcb : K.lookup fcb = some ⟨occb, odcb, .func (PySem.W.fnOf "begin_anew" "Chain.begin_anew" (defArgs sCBegin) (defBody sCBegin) (defScope sCBegin) .none kVcb dccb pmcb ancb cdcb ctcb), slcb⟩)
    (ccb_ : PySem.W.codeIn K cdcb "Chain.begin_anew" = true)
    (kcb : PySem.W.keepIn K (.ref fcb) = true)
    (acn : PySem.W.findIn K (.ref CC) "count_nothing" = some (some (.ref fcn)))
    (icn : PySem.W.isFn K (.ref fcn) = true)
    (lcn : K.lookup fcn = some ⟨occn, odcn, .func (PySem.W.fnOf "count_nothing" "Chain.count_nothing" (defArgs sCN) (defBody sCN) (defScope sCN) .none kVcn dccn pmcn ancn cdcn ctcn), slcn⟩)
    (ccn_ : PySem.W.codeIn K cdcn "Chain.count_nothing" = true)
    (kcn : PySem.W.keepIn K (.ref fcn) = true)
    (acm : PySem.W.findIn K (.ref CC) "count_move" = some (some (.ref fcm)))
    (icm : PySem.W.isFn K (.ref fcm) = true)
    (lcm : K.lookup fcm = some ⟨occm, odcm, .func (PySem.W.fnOf "count_move" "Chain.count_move" (defArgs sCM) (defBody sCM) (defScope sCM) .none kVcm dccm pmcm ancm cdcm ctcm), slcm⟩)
    (ccm_ : PySem.W.codeIn K cdcm "Chain.count_move" = true)
    (kcm : PySem.W.keepIn K (.ref fcm) = true)
    (acl : PySem.W.findIn K (.ref CC) "count_letter" = some (some (.ref fcl)))
    (icl : PySem.W.isFn K (.ref fcl) = true)
    (lcl : K.lookup fcl = some ⟨occl, odcl, .func (PySem.W.fnOf "count_letter" "Chain.count_letter" (defArgs sCL) (defBody sCL) (defScope sCL) .none kVcl dccl pmcl ancl cdcl ctcl), slcl⟩)
    (ccl_ : PySem.W.codeIn K cdcl "Chain.count_letter" = true)
    (kcl : PySem.W.keepIn K (.ref fcl) = true)
    (acw : PySem.W.findIn K (.ref CC) "count_way" = some (some (.ref fcw)))
    (icw : PySem.W.isFn K (.ref fcw) = true)
    (lcw : K.lookup fcw = some ⟨occw, odcw, .func (PySem.W.fnOf "count_way" "Chain.count_way" (defArgs sCW) (defBody sCW) (defScope sCW) .none kVcw dccw pmcw ancw cdcw ctcw), slcw⟩)
    (ccw_ : PySem.W.codeIn K cdcw "Chain.count_way" = true)
    (kcw : PySem.W.keepIn K (.ref fcw) = true)
    (atl : PySem.W.findIn K (.ref CC) "take_learnt" = some (some (.ref ftl)))
    (itl : PySem.W.isFn K (.ref ftl) = true)
    (ltl : K.lookup ftl = some ⟨octl, odtl, .func (PySem.W.fnOf "take_learnt" "Chain.take_learnt" (defArgs sTL) (defBody sTL) (defScope sTL) .none kVtl dctl pmtl antl cdtl cttl), sltl⟩)
    (ctl_ : PySem.W.codeIn K cdtl "Chain.take_learnt" = true)
    (ktl : PySem.W.keepIn K (.ref ftl) = true)
    (pgCC : PySem.W.plainGet K CC Str.empty = true)
    (hdCC : PySem.W.hasDictIn K CC = true)
    (poCC : PySem.W.plainOver K CC = true)
    (saCC : PySem.W.findIn K (.ref CC) "__setattr__" = some (some (.builtin "object.__setattr__")))
    (mkCC : PySem.W.makesIn K CC = true)
    (kcCC : PySem.W.keepIn K (.ref CC) = true)
    (nCC_last : PySem.W.findIn K (.ref CC) "last" = some none)
    (nCC_letters : PySem.W.findIn K (.ref CC) "letters" = some none)
    (nCC_moves : PySem.W.findIn K (.ref CC) "moves" = some none)
    (nCC_counted : PySem.W.findIn K (.ref CC) "counted" = some none)
    (nCC_learnt_letters : PySem.W.findIn K (.ref CC) "learnt_letters" = some none)
    (nCC_learnt_moves : PySem.W.findIn K (.ref CC) "learnt_moves" = some none)
    (agcd : PySem.W.nsIn K mainGlobals "common_divisor" = some (some (.ref fgcd)))
    (lgcd : K.lookup fgcd = some ⟨ocgcd, odgcd, .func (PySem.W.fnOf "common_divisor" "common_divisor" (defArgs sGcd) (defBody sGcd) (defScope sGcd) .none kVgcd dcgcd pmgcd angcd cdgcd ctgcd), slgcd⟩)
    (cgcd_ : PySem.W.codeIn K cdgcd "common_divisor" = true)
    (kgcd : PySem.W.keepIn K (.ref fgcd) = true)
    (afrac : PySem.W.nsIn K mainGlobals "fraction" = some (some (.ref ffrac)))
    (lfrac : K.lookup ffrac = some ⟨ocfrac, odfrac, .func (PySem.W.fnOf "fraction" "fraction" (defArgs sFrac) (defBody sFrac) (defScope sFrac) .none kVfrac dcfrac pmfrac anfrac cdfrac ctfrac), slfrac⟩)
    (cfrac_ : PySem.W.codeIn K cdfrac "fraction" = true)
    (kfrac : PySem.W.keepIn K (.ref ffrac) = true)
    (atimes : PySem.W.nsIn K mainGlobals "times" = some (some (.ref ftimes)))
    (ltimes : K.lookup ftimes = some ⟨octimes, odtimes, .func (PySem.W.fnOf "times" "times" (defArgs sTimes) (defBody sTimes) (defScope sTimes) .none kVtimes dctimes pmtimes antimes cdtimes cttimes), sltimes⟩)
    (ctimes_ : PySem.W.codeIn K cdtimes "times" = true)
    (ktimes : PySem.W.keepIn K (.ref ftimes) = true)
    (aplus : PySem.W.nsIn K mainGlobals "plus" = some (some (.ref fplus)))
    (lplus : K.lookup fplus = some ⟨ocplus, odplus, .func (PySem.W.fnOf "plus" "plus" (defArgs sPlus) (defBody sPlus) (defScope sPlus) .none kVplus dcplus pmplus anplus cdplus ctplus), slplus⟩)
    (cplus_ : PySem.W.codeIn K cdplus "plus" = true)
    (kplus : PySem.W.keepIn K (.ref fplus) = true)
    (adiv : PySem.W.nsIn K mainGlobals "divided" = some (some (.ref fdiv)))
    (ldiv : K.lookup fdiv = some ⟨ocdiv, oddiv, .func (PySem.W.fnOf "divided" "divided" (defArgs sDiv) (defBody sDiv) (defScope sDiv) .none kVdiv dcdiv pmdiv andiv cddiv ctdiv), sldiv⟩)
    (cdiv_ : PySem.W.codeIn K cddiv "divided" = true)
    (kdiv : PySem.W.keepIn K (.ref fdiv) = true)
    (aless : PySem.W.nsIn K mainGlobals "is_less" = some (some (.ref fless)))
    (lless : K.lookup fless = some ⟨ocless, odless, .func (PySem.W.fnOf "is_less" "is_less" (defArgs sLess) (defBody sLess) (defScope sLess) .none kVless dcless pmless anless cdless ctless), slless⟩)
    (cless_ : PySem.W.codeIn K cdless "is_less" = true)
    (kless : PySem.W.keepIn K (.ref fless) = true)
    (astates : PySem.W.nsIn K mainGlobals "states_of" = some (some (.ref fstates)))
    (lstates : K.lookup fstates = some ⟨ocstates, odstates, .func (PySem.W.fnOf "states_of" "states_of" (defArgs sStates) (defBody sStates) (defScope sStates) .none kVstates dcstates pmstates anstates cdstates ctstates), slstates⟩)
    (cstates_ : PySem.W.codeIn K cdstates "states_of" = true)
    (kstates : PySem.W.keepIn K (.ref fstates) = true)
    (alp : PySem.W.nsIn K mainGlobals "letters_place" = some (some (.ref flp)))
    (llp : K.lookup flp = some ⟨oclp, odlp, .func (PySem.W.fnOf "letters_place" "letters_place" (defArgs sLp) (defBody sLp) (defScope sLp) .none kVlp dclp pmlp anlp cdlp ctlp), sllp⟩)
    (clp_ : PySem.W.codeIn K cdlp "letters_place" = true)
    (klp : PySem.W.keepIn K (.ref flp) = true)
    (atgts : PySem.W.nsIn K mainGlobals "targets_of" = some (some (.ref ftgts)))
    (ltgts : K.lookup ftgts = some ⟨octgts, odtgts, .func (PySem.W.fnOf "targets_of" "targets_of" (defArgs sTgts) (defBody sTgts) (defScope sTgts) .none kVtgts dctgts pmtgts antgts cdtgts cttgts), sltgts⟩)
    (ctgts_ : PySem.W.codeIn K cdtgts "targets_of" = true)
    (ktgts : PySem.W.keepIn K (.ref ftgts) = true)
    (aarr : PySem.W.nsIn K mainGlobals "arrival_chance" = some (some (.ref farr)))
    (larr : K.lookup farr = some ⟨ocarr, odarr, .func (PySem.W.fnOf "arrival_chance" "arrival_chance" (defArgs sArr) (defBody sArr) (defScope sArr) .none kVarr dcarr pmarr anarr cdarr ctarr), slarr⟩)
    (carr_ : PySem.W.codeIn K cdarr "arrival_chance" = true)
    (karr : PySem.W.keepIn K (.ref farr) = true)
    (asteps : PySem.W.nsIn K mainGlobals "steps_from" = some (some (.ref fsteps)))
    (lsteps : K.lookup fsteps = some ⟨ocsteps, odsteps, .func (PySem.W.fnOf "steps_from" "steps_from" (defArgs sSteps) (defBody sSteps) (defScope sSteps) .none kVsteps dcsteps pmsteps ansteps cdsteps ctsteps), slsteps⟩)
    (csteps_ : PySem.W.codeIn K cdsteps "steps_from" = true)
    (ksteps : PySem.W.keepIn K (.ref fsteps) = true)
    (arests : PySem.W.nsIn K mainGlobals "rests_of" = some (some (.ref frests)))
    (lrests : K.lookup frests = some ⟨ocrests, odrests, .func (PySem.W.fnOf "rests_of" "rests_of" (defArgs sRests) (defBody sRests) (defScope sRests) .none kVrests dcrests pmrests anrests cdrests ctrests), slrests⟩)
    (crests_ : PySem.W.codeIn K cdrests "rests_of" = true)
    (krests : PySem.W.keepIn K (.ref frests) = true)
    (abest : PySem.W.nsIn K mainGlobals "best_states" = some (some (.ref fbest)))
    (lbest : K.lookup fbest = some ⟨ocbest, odbest, .func (PySem.W.fnOf "best_states" "best_states" (defArgs sBest) (defBody sBest) (defScope sBest) .none kVbest dcbest pmbest anbest cdbest ctbest), slbest⟩)
    (cbest_ : PySem.W.codeIn K cdbest "best_states" = true)
    (kbest : PySem.W.keepIn K (.ref fbest) = true)
    (areach : PySem.W.nsIn K mainGlobals "reaches_of" = some (some (.ref freach)))
    (lreach : K.lookup freach = some ⟨ocreach, odreach, .func (PySem.W.fnOf "reaches_of" "reaches_of" (defArgs sReach) (defBody sReach) (defScope sReach) .none kVreach dcreach pmreach anreach cdreach ctreach), slreach⟩)
    (creach_ : PySem.W.codeIn K cdreach "reaches_of" = true)
    (kreach : PySem.W.keepIn K (.ref freach) = true)
    (amk : PySem.W.nsIn K mainGlobals "makers_of" = some (some (.ref fmk)))
    (lmk : K.lookup fmk = some ⟨ocmk, odmk, .func (PySem.W.fnOf "makers_of" "makers_of" (defArgs sMk) (defBody sMk) (defScope sMk) .none kVmk dcmk pmmk anmk cdmk ctmk), slmk⟩)
    (cmk_ : PySem.W.codeIn K cdmk "makers_of" = true)
    (kmk : PySem.W.keepIn K (.ref fmk) = true)
    (afl : PySem.W.nsIn K mainGlobals "first_letters" = some (some (.ref ffl)))
    (lfl : K.lookup ffl = some ⟨ocfl, odfl, .func (PySem.W.fnOf "first_letters" "first_letters" (defArgs sFL) (defBody sFL) (defScope sFL) .none kVfl dcfl pmfl anfl cdfl ctfl), slfl⟩)
    (cfl_ : PySem.W.codeIn K cdfl "first_letters" = true)
    (kfl : PySem.W.keepIn K (.ref ffl) = true)
    (afm : PySem.W.nsIn K mainGlobals "first_moves" = some (some (.ref ffm)))
    (lfm : K.lookup ffm = some ⟨ocfm, odfm, .func (PySem.W.fnOf "first_moves" "first_moves" (defArgs sFM) (defBody sFM) (defScope sFM) .none kVfm dcfm pmfm anfm cdfm ctfm), slfm⟩)
    (cfm_ : PySem.W.codeIn K cdfm "first_moves" = true)
    (kfm : PySem.W.keepIn K (.ref ffm) = true)
    (aareW : PySem.W.nsIn K mainGlobals "are_weights" = some (some (.ref fareW)))
    (lareW : K.lookup fareW = some ⟨ocareW, odareW, .func (PySem.W.fnOf "are_weights" "are_weights" (defArgs sAreW) (defBody sAreW) (defScope sAreW) .none kVareW dcareW pmareW anareW cdareW ctareW), slareW⟩)
    (careW_ : PySem.W.codeIn K cdareW "are_weights" = true)
    (kareW : PySem.W.keepIn K (.ref fareW) = true)
    (aisW : PySem.W.nsIn K mainGlobals "is_word" = some (some (.ref fisW)))
    (lisW : K.lookup fisW = some ⟨ocisW, odisW, .func (PySem.W.fnOf "is_word" "is_word" (defArgs sIsW) (defBody sIsW) (defScope sIsW) .none kVisW dcisW pmisW anisW cdisW ctisW), slisW⟩)
    (cisW_ : PySem.W.codeIn K cdisW "is_word" = true)
    (kisW : PySem.W.keepIn K (.ref fisW) = true)
    (atold : PySem.W.nsIn K mainGlobals "told_states" = some (some (.ref ftold)))
    (ltold : K.lookup ftold = some ⟨octold, odtold, .func (PySem.W.fnOf "told_states" "told_states" (defArgs sTold) (defBody sTold) (defScope sTold) .none kVtold dctold pmtold antold cdtold cttold), sltold⟩)
    (ctold_ : PySem.W.codeIn K cdtold "told_states" = true)
    (ktold : PySem.W.keepIn K (.ref ftold) = true)
    (ac0 : PySem.W.nsIn K mainGlobals "answer_start" = some (some (.ref fc0)))
    (lc0 : K.lookup fc0 = some ⟨occ0, odc0, .func (PySem.W.fnOf "answer_start" "answer_start" (defArgs sStart) (defBody sStart) (defScope sStart) .none kVc0 dcc0 pmc0 anc0 cdc0 ctc0), slc0⟩)
    (cc0_ : PySem.W.codeIn K cdc0 "answer_start" = true)
    (kc0 : PySem.W.keepIn K (.ref fc0) = true)
    (ac1 : PySem.W.nsIn K mainGlobals "answer_letters" = some (some (.ref fc1)))
    (lc1 : K.lookup fc1 = some ⟨occ1, odc1, .func (PySem.W.fnOf "answer_letters" "answer_letters" (defArgs sLetters) (defBody sLetters) (defScope sLetters) .none kVc1 dcc1 pmc1 anc1 cdc1 ctc1), slc1⟩)
    (cc1_ : PySem.W.codeIn K cdc1 "answer_letters" = true)
    (kc1 : PySem.W.keepIn K (.ref fc1) = true)
    (ac2 : PySem.W.nsIn K mainGlobals "answer_moves" = some (some (.ref fc2)))
    (lc2 : K.lookup fc2 = some ⟨occ2, odc2, .func (PySem.W.fnOf "answer_moves" "answer_moves" (defArgs sMoves) (defBody sMoves) (defScope sMoves) .none kVc2 dcc2 pmc2 anc2 cdc2 ctc2), slc2⟩)
    (cc2_ : PySem.W.codeIn K cdc2 "answer_moves" = true)
    (kc2 : PySem.W.keepIn K (.ref fc2) = true)
    (ac3 : PySem.W.nsIn K mainGlobals "answer_total" = some (some (.ref fc3)))
    (lc3 : K.lookup fc3 = some ⟨occ3, odc3, .func (PySem.W.fnOf "answer_total" "answer_total" (defArgs sTotal) (defBody sTotal) (defScope sTotal) .none kVc3 dcc3 pmc3 anc3 cdc3 ctc3), slc3⟩)
    (cc3_ : PySem.W.codeIn K cdc3 "answer_total" = true)
    (kc3 : PySem.W.keepIn K (.ref fc3) = true)
    (ac4 : PySem.W.nsIn K mainGlobals "answer_best" = some (some (.ref fc4)))
    (lc4 : K.lookup fc4 = some ⟨occ4, odc4, .func (PySem.W.fnOf "answer_best" "answer_best" (defArgs sBestA) (defBody sBestA) (defScope sBestA) .none kVc4 dcc4 pmc4 anc4 cdc4 ctc4), slc4⟩)
    (cc4_ : PySem.W.codeIn K cdc4 "answer_best" = true)
    (kc4 : PySem.W.keepIn K (.ref fc4) = true)
    (ac5 : PySem.W.nsIn K mainGlobals "answer_count" = some (some (.ref fc5)))
    (lc5 : K.lookup fc5 = some ⟨occ5, odc5, .func (PySem.W.fnOf "answer_count" "answer_count" (defArgs sCount) (defBody sCount) (defScope sCount) .none kVc5 dcc5 pmc5 anc5 cdc5 ctc5), slc5⟩)
    (cc5_ : PySem.W.codeIn K cdc5 "answer_count" = true)
    (kc5 : PySem.W.keepIn K (.ref fc5) = true)
    (ac6 : PySem.W.nsIn K mainGlobals "answer_place" = some (some (.ref fc6)))
    (lc6 : K.lookup fc6 = some ⟨occ6, odc6, .func (PySem.W.fnOf "answer_place" "answer_place" (defArgs sPlace) (defBody sPlace) (defScope sPlace) .none kVc6 dcc6 pmc6 anc6 cdc6 ctc6), slc6⟩)
    (cc6_ : PySem.W.codeIn K cdc6 "answer_place" = true)
    (kc6 : PySem.W.keepIn K (.ref fc6) = true)
    (ac7 : PySem.W.nsIn K mainGlobals "answer_lengths" = some (some (.ref fc7)))
    (lc7 : K.lookup fc7 = some ⟨occ7, odc7, .func (PySem.W.fnOf "answer_lengths" "answer_lengths" (defArgs sLengths) (defBody sLengths) (defScope sLengths) .none kVc7 dcc7 pmc7 anc7 cdc7 ctc7), slc7⟩)
    (cc7_ : PySem.W.codeIn K cdc7 "answer_lengths" = true)
    (kc7 : PySem.W.keepIn K (.ref fc7) = true)
    (ac8 : PySem.W.nsIn K mainGlobals "answer_learn" = some (some (.ref fc8)))
    (lc8 : K.lookup fc8 = some ⟨occ8, odc8, .func (PySem.W.fnOf "answer_learn" "answer_learn" (defArgs sLearn) (defBody sLearn) (defScope sLearn) .none kVc8 dcc8 pmc8 anc8 cdc8 ctc8), slc8⟩)
    (cc8_ : PySem.W.codeIn K cdc8 "answer_learn" = true)
    (kc8 : PySem.W.keepIn K (.ref fc8) = true)
    (ac9 : PySem.W.nsIn K mainGlobals "answer_take" = some (some (.ref fc9)))
    (lc9 : K.lookup fc9 = some ⟨occ9, odc9, .func (PySem.W.fnOf "answer_take" "answer_take" (defArgs sTake) (defBody sTake) (defScope sTake) .none kVc9 dcc9 pmc9 anc9 cdc9 ctc9), slc9⟩)
    (cc9_ : PySem.W.codeIn K cdc9 "answer_take" = true)
    (kc9 : PySem.W.keepIn K (.ref fc9) = true)
    (ac10 : PySem.W.nsIn K mainGlobals "answer_shows" = some (some (.ref fc10)))
    (lc10 : K.lookup fc10 = some ⟨occ10, odc10, .func (PySem.W.fnOf "answer_shows" "answer_shows" (defArgs sShows) (defBody sShows) (defScope sShows) .none kVc10 dcc10 pmc10 anc10 cdc10 ctc10), slc10⟩)
    (cc10_ : PySem.W.codeIn K cdc10 "answer_shows" = true)
    (kc10 : PySem.W.keepIn K (.ref fc10) = true)
    (aans : PySem.W.nsIn K mainGlobals "answers" = some (some (.ref fans)))
    (lans : K.lookup fans = some ⟨ocans, odans, .func (PySem.W.fnOf "answers" "answers" (defArgs sAns) (defBody sAns) (defScope sAns) .none kVans dcans pmans anans cdans ctans), slans⟩)
    (cans_ : PySem.W.codeIn K cdans "answers" = true)
    (kans : PySem.W.keepIn K (.ref fans) = true)
    (azZ : PySem.W.nsIn K mainGlobals "ZERO" = some (some (.ref zZ)))
    (lzZ : K.lookup zZ = some ⟨.type "tuple", odzZ, .seq #[.int 0 tzZ0, .int 1 tzZ1] nzZ, slzZ⟩)
    (azO : PySem.W.nsIn K mainGlobals "ONE" = some (some (.ref zO)))
    (lzO : K.lookup zO = some ⟨.type "tuple", odzO, .seq #[.int 1 tzO0, .int 1 tzO1] nzO, slzO⟩)
    (azB : PySem.W.nsIn K mainGlobals "BEGINNING" = some (some (.ref zB)))
    (lzB : K.lookup zB = some ⟨.type "tuple", odzB, .seq #[.int 0 tzB0, .int 0 tzB1, .int 0 tzB2] nzB, slzB⟩)
    (m0 : PySem.W.nsIn K mainGlobals "REFUSED" = some (some (.int (-1) tn0)))
    (m1 : PySem.W.nsIn K mainGlobals "MOST_PLACES" = some (some (.int 4 tn1)))
    (m2 : PySem.W.nsIn K mainGlobals "LETTERS" = some (some (.int 4 tn2)))
    (m3 : PySem.W.nsIn K mainGlobals "MOST_WEIGHT" = some (some (.int 99 tn3)))
    (m4 : PySem.W.nsIn K mainGlobals "MOST_LETTERS" = some (some (.int 5 tn4)))
    (m5 : PySem.W.nsIn K mainGlobals "TOO_MANY_COUNTED" = some (some (.int (-5) tn5)))
    (m6 : PySem.W.nsIn K mainGlobals "NO_WAY" = some (some (.int (-6) tn6)))
    (m7 : PySem.W.nsIn K mainGlobals "MOST_LENGTH" = some (some (.int 8 tn7)))
    (m8 : PySem.W.nsIn K mainGlobals "MOST_COUNTED" = some (some (.int 90 tn8)))
    (z_len : PySem.W.nsIn K mainGlobals "len" = some none)
    (z_range : PySem.W.nsIn K mainGlobals "range" = some none)
    (z_sum : PySem.W.nsIn K mainGlobals "sum" = some none)
    (z_all : PySem.W.nsIn K mainGlobals "all" = some none)
    (z_zip : PySem.W.nsIn K mainGlobals "zip" = some none)
    (z_reversed : PySem.W.nsIn K mainGlobals "reversed" = some none)
    (z_list : PySem.W.nsIn K mainGlobals "list" = some none)
    (aCALLS : PySem.W.nsIn K mainGlobals "CALLS" = some (some (.ref aC)))
    (lCALLS : K.lookup aC = some ⟨.type "tuple", odaC, .seq #[.ref q0, .ref q1, .ref q2, .ref q3, .ref q4, .ref q5, .ref q6, .ref q7, .ref q8, .ref q9, .ref q10] naC, slaC⟩)
    (lq0 : K.lookup q0 = some ⟨.type "tuple", odq0, .seq #[.ref fc0, .int 1 tq01, .bool false] nq0, slq0⟩)
    (lq1 : K.lookup q1 = some ⟨.type "tuple", odq1, .seq #[.ref fc1, .int 1 tq11, .bool true] nq1, slq1⟩)
    (lq2 : K.lookup q2 = some ⟨.type "tuple", odq2, .seq #[.ref fc2, .int 5 tq21, .bool false] nq2, slq2⟩)
    (lq3 : K.lookup q3 = some ⟨.type "tuple", odq3, .seq #[.ref fc3, .int 0 tq31, .bool true] nq3, slq3⟩)
    (lq4 : K.lookup q4 = some ⟨.type "tuple", odq4, .seq #[.ref fc4, .int 0 tq41, .bool true] nq4, slq4⟩)
    (lq5 : K.lookup q5 = some ⟨.type "tuple", odq5, .seq #[.ref fc5, .int 0 tq51, .bool true] nq5, slq5⟩)
    (lq6 : K.lookup q6 = some ⟨.type "tuple", odq6, .seq #[.ref fc6, .int 1 tq61, .bool true] nq6, slq6⟩)
    (lq7 : K.lookup q7 = some ⟨.type "tuple", odq7, .seq #[.ref fc7, .int 1 tq71, .bool false] nq7, slq7⟩)
    (lq8 : K.lookup q8 = some ⟨.type "tuple", odq8, .seq #[.ref fc8, .int 0 tq81, .bool true] nq8, slq8⟩)
    (lq9 : K.lookup q9 = some ⟨.type "tuple", odq9, .seq #[.ref fc9, .int 0 tq91, .bool false] nq9, slq9⟩)
    (lq10 : K.lookup q10 = some ⟨.type "tuple", odq10, .seq #[.ref fc10, .int 0 tq101, .bool false] nq10, slq10⟩)
    : ∃ fd : FuncData, (∀ (s : Shared) (us : List Value), us.length = (["calls"] : List Str).length → BindsTo s fd ⟨us, []⟩ ((["calls"] : List Str).zip us)) ∧ ∀ base : Heap, K.In base → base.Ns mainGlobals mg → FnOk P w K mg base CX0 8 fa fd ["calls"] (spAns K) := by
  have e := hfa.symm.trans (PySem.W.mg_of X G aans)
  cases e
  have Fri := fun_mk (st := sRInit) lri cri_ kri
  have Bri := Fri.binds (ps := ["self", "chance", "ways"]) fun _ _ _ _ _ _ us hl => match us, hl with | [_, _, _], _ => rfl
  have Fra := fun_mk (st := sRAdd) lra cra_ kra
  have Bra := Fra.binds (ps := ["self", "chance", "target", "ahead"]) fun _ _ _ _ _ _ us hl => match us, hl with | [_, _, _, _], _ => rfl
  have Fci := fun_mk (st := sCInit) lci cci_ kci
  have Bci := Fci.binds (ps := ["self"]) fun _ _ _ _ _ _ us hl => match us, hl with | [_], _ => rfl
  have Fcb := fun_mk (st := sCBegin) lcb ccb_ kcb
  have Bcb := Fcb.binds (ps := ["self", "last"]) fun _ _ _ _ _ _ us hl => match us, hl with | [_, _], _ => rfl
  have Fcn := fun_mk (st := sCN) lcn ccn_ kcn
  have Bcn := Fcn.binds (ps := ["self"]) fun _ _ _ _ _ _ us hl => match us, hl with | [_], _ => rfl
  have Fcm := fun_mk (st := sCM) lcm ccm_ kcm
  have Bcm := Fcm.binds (ps := ["self", "state", "move"]) fun _ _ _ _ _ _ us hl => match us, hl with | [_, _, _], _ => rfl
  have Fcl := fun_mk (st := sCL) lcl ccl_ kcl
  have Bcl := Fcl.binds (ps := ["self", "state", "letter"]) fun _ _ _ _ _ _ us hl => match us, hl with | [_, _, _], _ => rfl
  have Fcw := fun_mk (st := sCW) lcw ccw_ kcw
  have Bcw := Fcw.binds (ps := ["self", "states", "word"]) fun _ _ _ _ _ _ us hl => match us, hl with | [_, _, _], _ => rfl
  have Ftl := fun_mk (st := sTL) ltl ctl_ ktl
  have Btl := Ftl.binds (ps := ["self"]) fun _ _ _ _ _ _ us hl => match us, hl with | [_], _ => rfl
  have Fgcd := fun_mk (st := sGcd) lgcd cgcd_ kgcd
  have Dgcd : Dn K mg "common_divisor" sGcd ["one", "other"] fgcd _ := ⟨Fgcd, PySem.W.mg_of X G agcd, Fgcd.binds (ps := ["one", "other"]) fun _ _ _ _ _ _ us hl => match us, hl with | [_, _], _ => rfl⟩
  have Ffrac := fun_mk (st := sFrac) lfrac cfrac_ kfrac
  have Dfrac : Dn K mg "fraction" sFrac ["upper", "lower"] ffrac _ := ⟨Ffrac, PySem.W.mg_of X G afrac, Ffrac.binds (ps := ["upper", "lower"]) fun _ _ _ _ _ _ us hl => match us, hl with | [_, _], _ => rfl⟩
  have Ftimes := fun_mk (st := sTimes) ltimes ctimes_ ktimes
  have Dtimes : Dn K mg "times" sTimes ["one", "other"] ftimes _ := ⟨Ftimes, PySem.W.mg_of X G atimes, Ftimes.binds (ps := ["one", "other"]) fun _ _ _ _ _ _ us hl => match us, hl with | [_, _], _ => rfl⟩
  have Fplus := fun_mk (st := sPlus) lplus cplus_ kplus
  have Dplus : Dn K mg "plus" sPlus ["one", "other"] fplus _ := ⟨Fplus, PySem.W.mg_of X G aplus, Fplus.binds (ps := ["one", "other"]) fun _ _ _ _ _ _ us hl => match us, hl with | [_, _], _ => rfl⟩
  have Fdiv := fun_mk (st := sDiv) ldiv cdiv_ kdiv
  have Ddiv : Dn K mg "divided" sDiv ["one", "other"] fdiv _ := ⟨Fdiv, PySem.W.mg_of X G adiv, Fdiv.binds (ps := ["one", "other"]) fun _ _ _ _ _ _ us hl => match us, hl with | [_, _], _ => rfl⟩
  have Fless := fun_mk (st := sLess) lless cless_ kless
  have Dless : Dn K mg "is_less" sLess ["one", "other"] fless _ := ⟨Fless, PySem.W.mg_of X G aless, Fless.binds (ps := ["one", "other"]) fun _ _ _ _ _ _ us hl => match us, hl with | [_, _], _ => rfl⟩
  have Fstates := fun_mk (st := sStates) lstates cstates_ kstates
  have Dstates : Dn K mg "states_of" sStates ["last"] fstates _ := ⟨Fstates, PySem.W.mg_of X G astates, Fstates.binds (ps := ["last"]) fun _ _ _ _ _ _ us hl => match us, hl with | [_], _ => rfl⟩
  have Flp := fun_mk (st := sLp) llp clp_ klp
  have Dlp : Dn K mg "letters_place" sLp ["sort", "place"] flp _ := ⟨Flp, PySem.W.mg_of X G alp, Flp.binds (ps := ["sort", "place"]) fun _ _ _ _ _ _ us hl => match us, hl with | [_, _], _ => rfl⟩
  have Ftgts := fun_mk (st := sTgts) ltgts ctgts_ ktgts
  have Dtgts : Dn K mg "targets_of" sTgts ["chain", "spot"] ftgts _ := ⟨Ftgts, PySem.W.mg_of X G atgts, Ftgts.binds (ps := ["chain", "spot"]) fun _ _ _ _ _ _ us hl => match us, hl with | [_, _], _ => rfl⟩
  have Farr := fun_mk (st := sArr) larr carr_ karr
  have Darr : Dn K mg "arrival_chance" sArr ["chain", "word", "target"] farr _ := ⟨Farr, PySem.W.mg_of X G aarr, Farr.binds (ps := ["chain", "word", "target"]) fun _ _ _ _ _ _ us hl => match us, hl with | [_, _, _], _ => rfl⟩
  have Fsteps := fun_mk (st := sSteps) lsteps csteps_ ksteps
  have Dsteps : Dn K mg "steps_from" sSteps ["chain", "word", "spot"] fsteps _ := ⟨Fsteps, PySem.W.mg_of X G asteps, Fsteps.binds (ps := ["chain", "word", "spot"]) fun _ _ _ _ _ _ us hl => match us, hl with | [_, _, _], _ => rfl⟩
  have Frests := fun_mk (st := sRests) lrests crests_ krests
  have Drests : Dn K mg "rests_of" sRests ["chain", "word"] frests _ := ⟨Frests, PySem.W.mg_of X G arests, Frests.binds (ps := ["chain", "word"]) fun _ _ _ _ _ _ us hl => match us, hl with | [_, _], _ => rfl⟩
  have Fbest := fun_mk (st := sBest) lbest cbest_ kbest
  have Dbest : Dn K mg "best_states" sBest ["rests"] fbest _ := ⟨Fbest, PySem.W.mg_of X G abest, Fbest.binds (ps := ["rests"]) fun _ _ _ _ _ _ us hl => match us, hl with | [_], _ => rfl⟩
  have Freach := fun_mk (st := sReach) lreach creach_ kreach
  have Dreach : Dn K mg "reaches_of" sReach ["chain", "word"] freach _ := ⟨Freach, PySem.W.mg_of X G areach, Freach.binds (ps := ["chain", "word"]) fun _ _ _ _ _ _ us hl => match us, hl with | [_, _], _ => rfl⟩
  have Fmk := fun_mk (st := sMk) lmk cmk_ kmk
  have Dmk : Dn K mg "makers_of" sMk ["chain", "word", "at"] fmk _ := ⟨Fmk, PySem.W.mg_of X G amk, Fmk.binds (ps := ["chain", "word", "at"]) fun _ _ _ _ _ _ us hl => match us, hl with | [_, _, _], _ => rfl⟩
  have Ffl := fun_mk (st := sFL) lfl cfl_ kfl
  have Dfl : Dn K mg "first_letters" sFL ["last"] ffl _ := ⟨Ffl, PySem.W.mg_of X G afl, Ffl.binds (ps := ["last"]) fun _ _ _ _ _ _ us hl => match us, hl with | [_], _ => rfl⟩
  have Ffm := fun_mk (st := sFM) lfm cfm_ kfm
  have Dfm : Dn K mg "first_moves" sFM ["last"] ffm _ := ⟨Ffm, PySem.W.mg_of X G afm, Ffm.binds (ps := ["last"]) fun _ _ _ _ _ _ us hl => match us, hl with | [_], _ => rfl⟩
  have FareW := fun_mk (st := sAreW) lareW careW_ kareW
  have DareW : Dn K mg "are_weights" sAreW ["weights"] fareW _ := ⟨FareW, PySem.W.mg_of X G aareW, FareW.binds (ps := ["weights"]) fun _ _ _ _ _ _ us hl => match us, hl with | [_], _ => rfl⟩
  have FisW := fun_mk (st := sIsW) lisW cisW_ kisW
  have DisW : Dn K mg "is_word" sIsW ["word"] fisW _ := ⟨FisW, PySem.W.mg_of X G aisW, FisW.binds (ps := ["word"]) fun _ _ _ _ _ _ us hl => match us, hl with | [_], _ => rfl⟩
  have Ftold := fun_mk (st := sTold) ltold ctold_ ktold
  have Dtold : Dn K mg "told_states" sTold ["states"] ftold _ := ⟨Ftold, PySem.W.mg_of X G atold, Ftold.binds (ps := ["states"]) fun _ _ _ _ _ _ us hl => match us, hl with | [_], _ => rfl⟩
  have Fc0 := fun_mk (st := sStart) lc0 cc0_ kc0
  have Dc0 : Dn K mg "answer_start" sStart ["chain", "numbers", "row"] fc0 _ := ⟨Fc0, PySem.W.mg_of X G ac0, Fc0.binds (ps := ["chain", "numbers", "row"]) fun _ _ _ _ _ _ us hl => match us, hl with | [_, _, _], _ => rfl⟩
  have Fc1 := fun_mk (st := sLetters) lc1 cc1_ kc1
  have Dc1 : Dn K mg "answer_letters" sLetters ["chain", "numbers", "row"] fc1 _ := ⟨Fc1, PySem.W.mg_of X G ac1, Fc1.binds (ps := ["chain", "numbers", "row"]) fun _ _ _ _ _ _ us hl => match us, hl with | [_, _, _], _ => rfl⟩
  have Fc2 := fun_mk (st := sMoves) lc2 cc2_ kc2
  have Dc2 : Dn K mg "answer_moves" sMoves ["chain", "numbers", "row"] fc2 _ := ⟨Fc2, PySem.W.mg_of X G ac2, Fc2.binds (ps := ["chain", "numbers", "row"]) fun _ _ _ _ _ _ us hl => match us, hl with | [_, _, _], _ => rfl⟩
  have Fc3 := fun_mk (st := sTotal) lc3 cc3_ kc3
  have Dc3 : Dn K mg "answer_total" sTotal ["chain", "numbers", "row"] fc3 _ := ⟨Fc3, PySem.W.mg_of X G ac3, Fc3.binds (ps := ["chain", "numbers", "row"]) fun _ _ _ _ _ _ us hl => match us, hl with | [_, _, _], _ => rfl⟩
  have Fc4 := fun_mk (st := sBestA) lc4 cc4_ kc4
  have Dc4 : Dn K mg "answer_best" sBestA ["chain", "numbers", "row"] fc4 _ := ⟨Fc4, PySem.W.mg_of X G ac4, Fc4.binds (ps := ["chain", "numbers", "row"]) fun _ _ _ _ _ _ us hl => match us, hl with | [_, _, _], _ => rfl⟩
  have Fc5 := fun_mk (st := sCount) lc5 cc5_ kc5
  have Dc5 : Dn K mg "answer_count" sCount ["chain", "numbers", "row"] fc5 _ := ⟨Fc5, PySem.W.mg_of X G ac5, Fc5.binds (ps := ["chain", "numbers", "row"]) fun _ _ _ _ _ _ us hl => match us, hl with | [_, _, _], _ => rfl⟩
  have Fc6 := fun_mk (st := sPlace) lc6 cc6_ kc6
  have Dc6 : Dn K mg "answer_place" sPlace ["chain", "numbers", "row"] fc6 _ := ⟨Fc6, PySem.W.mg_of X G ac6, Fc6.binds (ps := ["chain", "numbers", "row"]) fun _ _ _ _ _ _ us hl => match us, hl with | [_, _, _], _ => rfl⟩
  have Fc7 := fun_mk (st := sLengths) lc7 cc7_ kc7
  have Dc7 : Dn K mg "answer_lengths" sLengths ["chain", "numbers", "row"] fc7 _ := ⟨Fc7, PySem.W.mg_of X G ac7, Fc7.binds (ps := ["chain", "numbers", "row"]) fun _ _ _ _ _ _ us hl => match us, hl with | [_, _, _], _ => rfl⟩
  have Fc8 := fun_mk (st := sLearn) lc8 cc8_ kc8
  have Dc8 : Dn K mg "answer_learn" sLearn ["chain", "numbers", "row"] fc8 _ := ⟨Fc8, PySem.W.mg_of X G ac8, Fc8.binds (ps := ["chain", "numbers", "row"]) fun _ _ _ _ _ _ us hl => match us, hl with | [_, _, _], _ => rfl⟩
  have Fc9 := fun_mk (st := sTake) lc9 cc9_ kc9
  have Dc9 : Dn K mg "answer_take" sTake ["chain", "numbers", "row"] fc9 _ := ⟨Fc9, PySem.W.mg_of X G ac9, Fc9.binds (ps := ["chain", "numbers", "row"]) fun _ _ _ _ _ _ us hl => match us, hl with | [_, _, _], _ => rfl⟩
  have Fc10 := fun_mk (st := sShows) lc10 cc10_ kc10
  have Dc10 : Dn K mg "answer_shows" sShows ["chain", "numbers", "row"] fc10 _ := ⟨Fc10, PySem.W.mg_of X G ac10, Fc10.binds (ps := ["chain", "numbers", "row"]) fun _ _ _ _ _ _ us hl => match us, hl with | [_, _, _], _ => rfl⟩
  have Fans := fun_mk (st := sAns) lans cans_ kans
  have B : Blt mg := ⟨PySem.W.mg_none_of X G z_len, PySem.W.mg_none_of X G z_range, PySem.W.mg_none_of X G z_sum, PySem.W.mg_none_of X G z_all, PySem.W.mg_none_of X G z_zip, PySem.W.mg_none_of X G z_reversed, PySem.W.mg_none_of X G z_list⟩
  have TR : TRest K mg CR := ⟨⟨pgCR, hdCR, poCR, saCR⟩, PySem.W.mg_of X G aCR, nCR_total, nCR_ways, nCR_best, nCR_ties, nCR_target⟩
  have TC : TChain K mg CC := ⟨⟨pgCC, hdCC, poCC, saCC⟩, PySem.W.mg_of X G aCC, nCC_last, nCC_letters, nCC_moves, nCC_counted, nCC_learnt_letters, nCC_learnt_moves⟩
  have TK : TCon K mg zZ zO zB := ⟨PySem.W.mg_of X G azZ, PySem.W.mg_of X G azO, PySem.W.mg_of X G azB, written (its := [_, _]) lzZ (by show 2 ≤ 100; decide) (.cons ⟨_, rfl⟩ (.cons ⟨_, rfl⟩ .nil)), written (its := [_, _]) lzO (by show 2 ≤ 100; decide) (.cons ⟨_, rfl⟩ (.cons ⟨_, rfl⟩ .nil)), written (its := [_, _, _]) lzB (by show 3 ≤ 100; decide) (.cons ⟨_, rfl⟩ (.cons ⟨_, rfl⟩ (.cons ⟨_, rfl⟩ .nil)))⟩
  have N : TNum mg tn0 tn1 tn2 tn3 tn4 := ⟨PySem.W.mg_of X G m0, PySem.W.mg_of X G m1, PySem.W.mg_of X G m2, PySem.W.mg_of X G m3, PySem.W.mg_of X G m4⟩
  have N2 : TNum2 mg tn5 tn6 tn7 tn8 := ⟨PySem.W.mg_of X G m5, PySem.W.mg_of X G m6, PySem.W.mg_of X G m7, PySem.W.mg_of X G m8⟩
  refine ⟨PySem.W.fnOf "answers" "answers" (defArgs sAns) (defBody sAns) (defScope sAns) .none kVans dcans pmans anans cdans ctans, fun s us hu => match us, hu with | [_], _ => .of_eq rfl, fun base _ _ => ?_⟩
  have Ggcd : FnOk P w K mg base CX0 1 _ _ _ spGcd := ok_gcd Fgcd
  have Gfrac : FnOk P w K mg base CX0 2 _ _ _ spFrac := ok_frac Ffrac Dgcd
  have Gtimes := ok_times Ftimes Dfrac Gfrac
  have Gplus := ok_plus Fplus Dfrac Gfrac
  have Gdiv := ok_div Fdiv Dfrac Gfrac
  have Gless : FnOk P w K mg base CX0 1 _ _ _ (spLess K) := ok_less Fless
  have Gstates : FnOk P w K mg base CX0 1 _ _ _ spStates := ok_states Fstates B
  have Glp : FnOk P w K mg base CX0 1 _ _ _ spLp := ok_lp Flp
  have Gri : FnOk P w K mg base CX0 1 _ _ _ (spRInit CR) := ok_rinit Fri TR
  have Gra := ok_radd Fra TR Dtimes Dplus Dless Gtimes Gplus Gless
  have Gtgts : FnOk P w K mg base CX0 1 _ _ _ (spTgts K CC) := ok_tgts Ftgts TC
  have Garr := ok_arr Farr TC TK B Dfrac Gfrac Dlp Glp
  have Gsteps := ok_steps Fsteps TC TK B Dfrac Gfrac Dtimes Gtimes Dtgts Gtgts Darr Garr
  have Grests := ok_rests Frests TC TR TK B Dstates Gstates Dsteps Gsteps ⟨mkCR, ari, iri, kcCR⟩ Bri Gri ⟨ara, ira, kra⟩ Bra Gra
  have Gbest : FnOk P w K mg base CX0 1 _ _ _ (spBest K CR) := ok_best Fbest TR TK
  have Greach := ok_reach Freach TC TK B Dstates Gstates Dsteps Gsteps Dtimes Gtimes Dplus Gplus
  have Gmk := ok_mk Fmk TC TR TK Dstates Gstates Drests Grests Dtimes Gtimes Ddiv Gdiv Dreach Greach
  have GareW : FnOk P w K mg base CX0 1 _ _ _ (spAreW K) := ok_areW FareW B N
  have GisW : FnOk P w K mg base CX0 1 _ _ _ (spIsW K) := ok_isW FisW B N
  have Gtold : FnOk P w K mg base CX0 1 _ _ _ spTold := ok_told Ftold B
  have Gfl : FnOk P w K mg base CX0 1 _ _ _ spFL := ok_fl Ffl B
  have Gfm := ok_fm Ffm Dstates Gstates
  have Gcn := ok_cn Fcn TC Dfl Gfl Dfm Gfm
  have Gcb := ok_begin Fcb TC Dfl Gfl Dfm Gfm ⟨acn, icn, kcn⟩ Bcn Gcn
  have Gci := ok_cinit Fci TC ⟨acb, icb, kcb⟩ Bcb Gcb
  have Gtl := ok_tl Ftl TC ⟨acn, icn, kcn⟩ Bcn Gcn
  have Gcm : FnOk P w K mg base CX0 1 _ _ _ (spCM CC) := ok_cm Fcm TC
  have Gcl := ok_cl Fcl TC Dlp Glp
  have Gcw := ok_cw Fcw TC ⟨acm, icm, kcm⟩ Bcm Gcm ⟨acl, icl, kcl⟩ Bcl Gcl
  have Gc0 := ok_start Fc0 TC B N ⟨acb, icb, kcb⟩ Bcb Gcb
  have Gc1 := ok_letters Fc1 TC B N DareW GareW
  have Gc2 := ok_moves Fc2 TC B N DareW GareW
  have Gc3 := ask_ok (p := 3) rfl (rep1 CC) (ok_total Fc3 TR TK B N DisW GisW Drests Grests) (fun st row h => step_total h)
  have Gc4 := ask_ok (p := 4) rfl (rep1 CC) (ok_bestA Fc4 TR TK B N DisW GisW Drests Grests Dbest Gbest Dtold Gtold) (fun st row h => step_best h)
  have Gc5 := ask_ok (p := 5) rfl (rep1 CC) (ok_count Fc5 TR TK B N DisW GisW Drests Grests) (fun st row h => step_count h)
  have Gc6 := ok_place Fc6 B N N2 DisW GisW Dmk Gmk
  have Gc7 := ok_lengths Fc7 TR TK B N N2 Drests Grests
  have Gc8 := ok_learn Fc8 TC TR TK B N N2 DisW GisW Drests Grests Dbest Gbest Dtold Gtold ⟨acw, icw, kcw⟩ Bcw Gcw
  have Gc9 := ok_take Fc9 TC ⟨atl, itl, ktl⟩ Btl Gtl
  have Gc10 := ok_shows Fc10 TC B Dstates Gstates
  have A0 : ∀ f sp, ((f = fc0 ∧ sp = spA K (SA CC) OkSt 0) ∨ (f = fc1 ∧ sp = spA K (SA CC) OkSt 1) ∨ (f = fc2 ∧ sp = spA K (SA CC) OkSt 2) ∨ (f = fc3 ∧ sp = spA K (SA CC) OkSt 3) ∨ (f = fc4 ∧ sp = spA K (SA CC) OkSt 4) ∨ (f = fc5 ∧ sp = spA K (SA CC) OkSt 5) ∨ (f = fc6 ∧ sp = spA K (SA CC) OkSt 6) ∨ (f = fc7 ∧ sp = spA K (SA CC) OkSt 7) ∨ (f = fc8 ∧ sp = spA K (SA CC) OkSt 8) ∨ (f = fc9 ∧ sp = spA K (SA CC) OkSt 9) ∨ (f = fc10 ∧ sp = spA K (SA CC) OkSt 10)) → Held P w K mg base 7 f sp := by
    rintro f sp (⟨rfl, rfl⟩ | ⟨rfl, rfl⟩ | ⟨rfl, rfl⟩ | ⟨rfl, rfl⟩ | ⟨rfl, rfl⟩ | ⟨rfl, rfl⟩ | ⟨rfl, rfl⟩ | ⟨rfl, rfl⟩ | ⟨rfl, rfl⟩ | ⟨rfl, rfl⟩ | ⟨rfl, rfl⟩)
    · exact ⟨_, _, Gc0.mono (by decide), kc0, Dc0.b⟩
    · exact ⟨_, _, Gc1.mono (by decide), kc1, Dc1.b⟩
    · exact ⟨_, _, Gc2.mono (by decide), kc2, Dc2.b⟩
    · exact ⟨_, _, Gc3.mono (by decide), kc3, Dc3.b⟩
    · exact ⟨_, _, Gc4.mono (by decide), kc4, Dc4.b⟩
    · exact ⟨_, _, Gc5.mono (by decide), kc5, Dc5.b⟩
    · exact ⟨_, _, Gc6.mono (by decide), kc6, Dc6.b⟩
    · exact ⟨_, _, Gc7.mono (by decide), kc7, Dc7.b⟩
    · exact ⟨_, _, Gc8.mono (by decide), kc8, Dc8.b⟩
    · exact ⟨_, _, Gc9.mono (by decide), kc9, Dc9.b⟩
    · exact ⟨_, _, Gc10.mono (by decide), kc10, Dc10.b⟩
  have T : TCalls K mg (SA CC) OkSt (fun f sp => (f = fc0 ∧ sp = spA K (SA CC) OkSt 0) ∨ (f = fc1 ∧ sp = spA K (SA CC) OkSt 1) ∨ (f = fc2 ∧ sp = spA K (SA CC) OkSt 2) ∨ (f = fc3 ∧ sp = spA K (SA CC) OkSt 3) ∨ (f = fc4 ∧ sp = spA K (SA CC) OkSt 4) ∨ (f = fc5 ∧ sp = spA K (SA CC) OkSt 5) ∨ (f = fc6 ∧ sp = spA K (SA CC) OkSt 6) ∨ (f = fc7 ∧ sp = spA K (SA CC) OkSt 7) ∨ (f = fc8 ∧ sp = spA K (SA CC) OkSt 8) ∨ (f = fc9 ∧ sp = spA K (SA CC) OkSt 9) ∨ (f = fc10 ∧ sp = spA K (SA CC) OkSt 10)) aC [q0, q1, q2, q3, q4, q5, q6, q7, q8, q9, q10] := by
    refine ⟨PySem.W.mg_of X G aCALLS, written (its := [_, _, _, _, _, _, _, _, _, _, _]) lCALLS (by show 11 ≤ 100; decide) (.cons rfl (.cons rfl (.cons rfl (.cons rfl (.cons rfl (.cons rfl (.cons rfl (.cons rfl (.cons rfl (.cons rfl (.cons rfl .nil))))))))))), fun p lo hi => ?_⟩
    have hp : p = 0 ∨ p = 1 ∨ p = 2 ∨ p = 3 ∨ p = 4 ∨ p = 5 ∨ p = 6 ∨ p = 7 ∨ p = 8 ∨ p = 9 ∨ p = 10 := by omega
    rcases hp with rfl | rfl | rfl | rfl | rfl | rfl | rfl | rfl | rfl | rfl | rfl
    · exact ⟨q0, fc0, rfl, written (its := [_, _, _]) lq0 (by show 3 ≤ 100; decide) (.cons rfl (.cons ⟨_, rfl⟩ (.cons rfl .nil))), .inl ⟨rfl, rfl⟩⟩
    · exact ⟨q1, fc1, rfl, written (its := [_, _, _]) lq1 (by show 3 ≤ 100; decide) (.cons rfl (.cons ⟨_, rfl⟩ (.cons rfl .nil))), .inr (.inl ⟨rfl, rfl⟩)⟩
    · exact ⟨q2, fc2, rfl, written (its := [_, _, _]) lq2 (by show 3 ≤ 100; decide) (.cons rfl (.cons ⟨_, rfl⟩ (.cons rfl .nil))), .inr (.inr (.inl ⟨rfl, rfl⟩))⟩
    · exact ⟨q3, fc3, rfl, written (its := [_, _, _]) lq3 (by show 3 ≤ 100; decide) (.cons rfl (.cons ⟨_, rfl⟩ (.cons rfl .nil))), .inr (.inr (.inr (.inl ⟨rfl, rfl⟩)))⟩
    · exact ⟨q4, fc4, rfl, written (its := [_, _, _]) lq4 (by show 3 ≤ 100; decide) (.cons rfl (.cons ⟨_, rfl⟩ (.cons rfl .nil))), .inr (.inr (.inr (.inr (.inl ⟨rfl, rfl⟩))))⟩
    · exact ⟨q5, fc5, rfl, written (its := [_, _, _]) lq5 (by show 3 ≤ 100; decide) (.cons rfl (.cons ⟨_, rfl⟩ (.cons rfl .nil))), .inr (.inr (.inr (.inr (.inr (.inl ⟨rfl, rfl⟩)))))⟩
    · exact ⟨q6, fc6, rfl, written (its := [_, _, _]) lq6 (by show 3 ≤ 100; decide) (.cons rfl (.cons ⟨_, rfl⟩ (.cons rfl .nil))), .inr (.inr (.inr (.inr (.inr (.inr (.inl ⟨rfl, rfl⟩))))))⟩
    · exact ⟨q7, fc7, rfl, written (its := [_, _, _]) lq7 (by show 3 ≤ 100; decide) (.cons rfl (.cons ⟨_, rfl⟩ (.cons rfl .nil))), .inr (.inr (.inr (.inr (.inr (.inr (.inr (.inl ⟨rfl, rfl⟩)))))))⟩
    · exact ⟨q8, fc8, rfl, written (its := [_, _, _]) lq8 (by show 3 ≤ 100; decide) (.cons rfl (.cons ⟨_, rfl⟩ (.cons rfl .nil))), .inr (.inr (.inr (.inr (.inr (.inr (.inr (.inr (.inl ⟨rfl, rfl⟩))))))))⟩
    · exact ⟨q9, fc9, rfl, written (its := [_, _, _]) lq9 (by show 3 ≤ 100; decide) (.cons rfl (.cons ⟨_, rfl⟩ (.cons rfl .nil))), .inr (.inr (.inr (.inr (.inr (.inr (.inr (.inr (.inr (.inl ⟨rfl, rfl⟩)))))))))⟩
    · exact ⟨q10, fc10, rfl, written (its := [_, _, _]) lq10 (by show 3 ≤ 100; decide) (.cons rfl (.cons ⟨_, rfl⟩ (.cons rfl .nil))), .inr (.inr (.inr (.inr (.inr (.inr (.inr (.inr (.inr (.inr (⟨rfl, rfl⟩))))))))))⟩
  exact ok_ans (k := 6) Fans B (rep1 CC).fr (rep1 CC).tr TC.g ⟨mkCC, aci, ici, kcCC⟩ Bci (Gci.mono (by decide)) T A0 init_ok (fun st p n r h => nstep_ok h _)
end Fh
open PySem PySem.W PyProof.Rows
set_option maxRecDepth 100000 in
set_option maxHeartbeats 8000000 in
theorem PySem.Challenge.cw_familychain_s01_answers_holds : PySem.Challenge.rw_familychain_s01_answers.Holds := by
  w_on; k_headS; (case hw => exact ⟨[.list [.int 10]], by decide +kernel, by decide +kernel⟩)
  k_fillS
  refine L2.walk_specK (r := PySem.Challenge.rw_familychain_s01_answers) (k := 8) (CX := L2.CX0) (ps := ["calls"]) (sp := Fh.spAns) (by decide +kernel) rfl rfl ⟨rfl, by decide, by decide⟩ (fun w h Y => PySem.W.kIn_of Y) ?F ?S (fun _ _ _ _ z => z)
  case F =>
    intro w mg fa h Y KX G hmg
    refine' Fh.all_mk KX G hmg ?aCR ?ari ?iri ?lri ?cri_ ?kri ?ara ?ira ?lra ?cra_ ?kra ?pgCR ?hdCR ?poCR ?saCR ?mkCR ?kcCR ?nCR_total ?nCR_ways ?nCR_best ?nCR_ties ?nCR_target ?aCC ?aci ?ici ?lci ?cci_ ?kci ?acb ?icb ?lcb ?ccb_ ?kcb ?acn ?icn ?lcn ?ccn_ ?kcn ?acm ?icm ?lcm ?ccm_ ?kcm ?acl ?icl ?lcl ?ccl_ ?kcl ?acw ?icw ?lcw ?ccw_ ?kcw ?atl ?itl ?ltl ?ctl_ ?ktl ?pgCC ?hdCC ?poCC ?saCC ?mkCC ?kcCC ?nCC_last ?nCC_letters ?nCC_moves ?nCC_counted ?nCC_learnt_letters ?nCC_learnt_moves ?agcd ?lgcd ?cgcd_ ?kgcd ?afrac ?lfrac ?cfrac_ ?kfrac ?atimes ?ltimes ?ctimes_ ?ktimes ?aplus ?lplus ?cplus_ ?kplus ?adiv ?ldiv ?cdiv_ ?kdiv ?aless ?lless ?cless_ ?kless ?astates ?lstates ?cstates_ ?kstates ?alp ?llp ?clp_ ?klp ?atgts ?ltgts ?ctgts_ ?ktgts ?aarr ?larr ?carr_ ?karr ?asteps ?lsteps ?csteps_ ?ksteps ?arests ?lrests ?crests_ ?krests ?abest ?lbest ?cbest_ ?kbest ?areach ?lreach ?creach_ ?kreach ?amk ?lmk ?cmk_ ?kmk ?afl ?lfl ?cfl_ ?kfl ?afm ?lfm ?cfm_ ?kfm ?aareW ?lareW ?careW_ ?kareW ?aisW ?lisW ?cisW_ ?kisW ?atold ?ltold ?ctold_ ?ktold ?ac0 ?lc0 ?cc0_ ?kc0 ?ac1 ?lc1 ?cc1_ ?kc1 ?ac2 ?lc2 ?cc2_ ?kc2 ?ac3 ?lc3 ?cc3_ ?kc3 ?ac4 ?lc4 ?cc4_ ?kc4 ?ac5 ?lc5 ?cc5_ ?kc5 ?ac6 ?lc6 ?cc6_ ?kc6 ?ac7 ?lc7 ?cc7_ ?kc7 ?ac8 ?lc8 ?cc8_ ?kc8 ?ac9 ?lc9 ?cc9_ ?kc9 ?ac10 ?lc10 ?cc10_ ?kc10 ?aans ?lans ?cans_ ?kans ?azZ ?lzZ ?azO ?lzO ?azB ?lzB ?m0 ?m1 ?m2 ?m3 ?m4 ?m5 ?m6 ?m7 ?m8 ?z_len ?z_range ?z_sum ?z_all ?z_zip ?z_reversed ?z_list ?aCALLS ?lCALLS ?lq0 ?lq1 ?lq2 ?lq3 ?lq4 ?lq5 ?lq6 ?lq7 ?lq8 ?lq9 ?lq10
    (case aCR => k_is)
    (case ari => k_is)
    (case iri => k_is)
    (case lri => k_is)
    (case cri_ => k_is)
    (case kri => k_is)
    (case ara => k_is)
    (case ira => k_is)
    (case lra => k_is)
    (case cra_ => k_is)
    (case kra => k_is)
    (case pgCR => k_is)
    (case hdCR => k_is)
    (case poCR => k_is)
    (case saCR => k_is)
    (case mkCR => k_is)
    (case kcCR => k_is)
    (case nCR_total => k_is)
    (case nCR_ways => k_is)
    (case nCR_best => k_is)
    (case nCR_ties => k_is)
    (case nCR_target => k_is)
    (case aCC => k_is)
    (case aci => k_is)
    (case ici => k_is)
    (case lci => k_is)
    (case cci_ => k_is)
    (case kci => k_is)
    (case acb => k_is)
    (case icb => k_is)
    (case lcb => k_is)
    (case ccb_ => k_is)
    (case kcb => k_is)
    (case acn => k_is)
    (case icn => k_is)
    (case lcn => k_is)
    (case ccn_ => k_is)
    (case kcn => k_is)
    (case acm => k_is)
    (case icm => k_is)
    (case lcm => k_is)
    (case ccm_ => k_is)
    (case kcm => k_is)
    (case acl => k_is)
    (case icl => k_is)
    (case lcl => k_is)
    (case ccl_ => k_is)
    (case kcl => k_is)
    (case acw => k_is)
    (case icw => k_is)
    (case lcw => k_is)
    (case ccw_ => k_is)
    (case kcw => k_is)
    (case atl => k_is)
    (case itl => k_is)
    (case ltl => k_is)
    (case ctl_ => k_is)
    (case ktl => k_is)
    (case pgCC => k_is)
    (case hdCC => k_is)
    (case poCC => k_is)
    (case saCC => k_is)
    (case mkCC => k_is)
    (case kcCC => k_is)
    (case nCC_last => k_is)
    (case nCC_letters => k_is)
    (case nCC_moves => k_is)
    (case nCC_counted => k_is)
    (case nCC_learnt_letters => k_is)
    (case nCC_learnt_moves => k_is)
    (case agcd => k_is)
    (case lgcd => k_is)
    (case cgcd_ => k_is)
    (case kgcd => k_is)
    (case afrac => k_is)
    (case lfrac => k_is)
    (case cfrac_ => k_is)
    (case kfrac => k_is)
    (case atimes => k_is)
    (case ltimes => k_is)
    (case ctimes_ => k_is)
    (case ktimes => k_is)
    (case aplus => k_is)
    (case lplus => k_is)
    (case cplus_ => k_is)
    (case kplus => k_is)
    (case adiv => k_is)
    (case ldiv => k_is)
    (case cdiv_ => k_is)
    (case kdiv => k_is)
    (case aless => k_is)
    (case lless => k_is)
    (case cless_ => k_is)
    (case kless => k_is)
    (case astates => k_is)
    (case lstates => k_is)
    (case cstates_ => k_is)
    (case kstates => k_is)
    (case alp => k_is)
    (case llp => k_is)
    (case clp_ => k_is)
    (case klp => k_is)
    (case atgts => k_is)
    (case ltgts => k_is)
    (case ctgts_ => k_is)
    (case ktgts => k_is)
    (case aarr => k_is)
    (case larr => k_is)
    (case carr_ => k_is)
    (case karr => k_is)
    (case asteps => k_is)
    (case lsteps => k_is)
    (case csteps_ => k_is)
    (case ksteps => k_is)
    (case arests => k_is)
    (case lrests => k_is)
    (case crests_ => k_is)
    (case krests => k_is)
    (case abest => k_is)
    (case lbest => k_is)
    (case cbest_ => k_is)
    (case kbest => k_is)
    (case areach => k_is)
    (case lreach => k_is)
    (case creach_ => k_is)
    (case kreach => k_is)
    (case amk => k_is)
    (case lmk => k_is)
    (case cmk_ => k_is)
    (case kmk => k_is)
    (case afl => k_is)
    (case lfl => k_is)
    (case cfl_ => k_is)
    (case kfl => k_is)
    (case afm => k_is)
    (case lfm => k_is)
    (case cfm_ => k_is)
    (case kfm => k_is)
    (case aareW => k_is)
    (case lareW => k_is)
    (case careW_ => k_is)
    (case kareW => k_is)
    (case aisW => k_is)
    (case lisW => k_is)
    (case cisW_ => k_is)
    (case kisW => k_is)
    (case atold => k_is)
    (case ltold => k_is)
    (case ctold_ => k_is)
    (case ktold => k_is)
    (case ac0 => k_is)
    (case lc0 => k_is)
    (case cc0_ => k_is)
    (case kc0 => k_is)
    (case ac1 => k_is)
    (case lc1 => k_is)
    (case cc1_ => k_is)
    (case kc1 => k_is)
    (case ac2 => k_is)
    (case lc2 => k_is)
    (case cc2_ => k_is)
    (case kc2 => k_is)
    (case ac3 => k_is)
    (case lc3 => k_is)
    (case cc3_ => k_is)
    (case kc3 => k_is)
    (case ac4 => k_is)
    (case lc4 => k_is)
    (case cc4_ => k_is)
    (case kc4 => k_is)
    (case ac5 => k_is)
    (case lc5 => k_is)
    (case cc5_ => k_is)
    (case kc5 => k_is)
    (case ac6 => k_is)
    (case lc6 => k_is)
    (case cc6_ => k_is)
    (case kc6 => k_is)
    (case ac7 => k_is)
    (case lc7 => k_is)
    (case cc7_ => k_is)
    (case kc7 => k_is)
    (case ac8 => k_is)
    (case lc8 => k_is)
    (case cc8_ => k_is)
    (case kc8 => k_is)
    (case ac9 => k_is)
    (case lc9 => k_is)
    (case cc9_ => k_is)
    (case kc9 => k_is)
    (case ac10 => k_is)
    (case lc10 => k_is)
    (case cc10_ => k_is)
    (case kc10 => k_is)
    (case aans => k_is)
    (case lans => k_is)
    (case cans_ => k_is)
    (case kans => k_is)
    (case azZ => k_is)
    (case lzZ => k_is)
    (case azO => k_is)
    (case lzO => k_is)
    (case azB => k_is)
    (case lzB => k_is)
    (case m0 => k_is)
    (case m1 => k_is)
    (case m2 => k_is)
    (case m3 => k_is)
    (case m4 => k_is)
    (case m5 => k_is)
    (case m6 => k_is)
    (case m7 => k_is)
    (case m8 => k_is)
    (case z_len => k_is)
    (case z_range => k_is)
    (case z_sum => k_is)
    (case z_all => k_is)
    (case z_zip => k_is)
    (case z_reversed => k_is)
    (case z_list => k_is)
    (case aCALLS => k_is)
    (case lCALLS => k_is)
    (case lq0 => k_is)
    (case lq1 => k_is)
    (case lq2 => k_is)
    (case lq3 => k_is)
    (case lq4 => k_is)
    (case lq5 => k_is)
    (case lq6 => k_is)
    (case lq7 => k_is)
    (case lq8 => k_is)
    (case lq9 => k_is)
    (case lq10 => k_is)
  case S =>
    intro K H xs a hO hwi hask hx
    cases hx with
    | cons h1 h2 =>
      cases h2
      cases h1 with
      | lst hs ha =>
        have e := L2.ints_dw a.1 _ ha
        subst e
        have q : ((Codec.inLen 0 600 a.1 && a.1.all (Codec.inInt 0 4294967295)) && true) = true := hwi
        rw [Bool.and_eq_true, Bool.and_eq_true] at q
        exact ⟨_, a.1, rfl, hs, fun x hx => Codec.inInt_iff.mp (List.all_eq_true.mp q.1.2 x hx), hask, fun H' p hp => .lst (L2.SqL.of hp) (L2.dw_ints _)⟩
#print axioms PySem.Challenge.cw_familychain_s01_answers_holds

