import PyProof.Rows.All
import Wide.All
import OpenK.AllK
import Wide.FinOn
import Open.SpecLaws
import KE.OsGo
import HandS.ForMost
import HandS.Spec
import HandS.Wide
import HandS.Lambda
import PySem.Challenge.RW_claimshares_s01_answers
import KE.KDictZip
import KE.SortData
import HandS.DictTup
import HandS.MapObj
import KE.SortKeyHeap
import HandS.Nested
import HandS.Conv
import KE.KNest
import Co07Spec
set_option linter.all false
namespace Cs
/-! ### sizes -/
def Sz (n : Nat) (q : Rat) : Prop := q.num.natAbs < 2 ^ n ∧ q.den < 2 ^ n
theorem pow_mono {m n : Nat} (h : m ≤ n) : 2 ^ m ≤ 2 ^ n := Nat.pow_le_pow_right (by decide) h
theorem Sz.mono {m n : Nat} {q : Rat} (h : Sz m q) (l : m ≤ n) : Sz n q := ⟨Nat.lt_of_lt_of_le h.1 (pow_mono l), Nat.lt_of_lt_of_le h.2 (pow_mono l)⟩
theorem sz_zero : Sz 1 0 := ⟨by decide, by decide⟩
/-- the fraction i / j in lowest terms -/
def frac (i j : Int) : Rat := mkRat i j.toNat
theorem frac_num {a b : Nat} (h : 0 < b) : (frac a b).num = ((a / Nat.gcd a b : Nat) : Int) := by
  unfold frac
  rw [Rat.num_mkRat, if_neg (by omega), Int.natCast_ediv, Int.toNat_natCast, Int.natAbs_natCast, Nat.gcd_comm]
theorem frac_den {a b : Nat} (h : 0 < b) : (frac a b).den = b / Nat.gcd a b := by
  unfold frac
  rw [Rat.den_mkRat, if_neg (by omega), Int.toNat_natCast, Int.natAbs_natCast, Nat.gcd_comm]
theorem sz_frac {i j : Int} {n : Nat} (hi : i.natAbs < 2 ^ n) (h0 : 0 < j) (hj : j.natAbs < 2 ^ n) : Sz n (frac i j) := by
  have hz : ¬ j.toNat = 0 := by omega
  constructor
  · unfold frac
    rw [Rat.num_mkRat, if_neg hz]
    refine Nat.lt_of_le_of_lt ?_ hi
    rw [Int.natAbs_ediv_of_dvd]
    · exact Nat.div_le_self _ _
    · exact Int.ofNat_dvd_left.mpr (Nat.gcd_dvd_right _ _)
  · unfold frac
    rw [Rat.den_mkRat, if_neg hz]
    refine Nat.lt_of_le_of_lt (Nat.div_le_self _ _) ?_
    omega
theorem dpos (q : Rat) : (0 : Int) < (q.den : Int) := Int.natCast_pos.mpr q.den_pos
theorem npos {q : Rat} (h : 0 < q) : 0 < q.num := by
  have h1 := (Rat.lt_iff 0 q).mp h
  simpa using h1
theorem nnon {q : Rat} (h : 0 ≤ q) : 0 ≤ q.num := Rat.num_nonneg.mpr h
theorem toNat_dd (p q : Rat) : ((p.den : Int) * (q.den : Int)).toNat = p.den * q.den := by
  rw [← Int.natCast_mul]
  exact Int.toNat_natCast _
theorem frac_add (p q : Rat) : frac (p.num * q.den + q.num * p.den) ((p.den : Int) * (q.den : Int)) = p + q := by
  unfold frac
  rw [toNat_dd, ← Rat.add_def']
theorem frac_sub (p q : Rat) : frac (p.num * q.den - q.num * p.den) ((p.den : Int) * (q.den : Int)) = p - q := by
  unfold frac
  rw [toNat_dd, ← Rat.sub_def']
theorem frac_mul (p q : Rat) : frac (p.num * q.num) ((p.den : Int) * (q.den : Int)) = p * q := by
  unfold frac
  rw [toNat_dd, ← Rat.mul_def']
theorem frac_of (i j : Int) (h : 0 < j) : frac i j = (i : Rat) / (j : Rat) := by
  unfold frac
  rw [Rat.mkRat_eq_div]
  have e : ((j.toNat : Nat) : Int) = j := by omega
  rw [← Rat.intCast_natCast, e]
theorem num_div (q : Rat) : (q.num : Rat) / (q.den : Rat) = q := by
  have := Rat.mkRat_self q
  rw [Rat.mkRat_eq_div] at this
  exact this
theorem frac_div {p q : Rat} (h : 0 < q) : frac (p.num * q.den) ((p.den : Int) * q.num) = p / q := by
  have hq := npos h
  have hp := dpos p
  rw [frac_of _ _ (Int.mul_pos hp hq)]
  have e1 := num_div p
  have e2 := num_div q
  have d1 : ((p.den : Int) : Rat) ≠ 0 := by
    intro z
    have := Rat.intCast_eq_zero_iff.mp z
    omega
  have d2 : ((q.den : Int) : Rat) ≠ 0 := by
    intro z
    have := Rat.intCast_eq_zero_iff.mp z
    have := dpos q
    omega
  have d3 : (q.num : Rat) ≠ 0 := by
    intro z
    have := Rat.intCast_eq_zero_iff.mp z
    omega
  rw [← Rat.intCast_natCast] at e1 e2
  conv => rhs; rw [← e1, ← e2]
  rw [Rat.intCast_mul, Rat.intCast_mul]
  grind
theorem frac_half (q : Rat) : frac q.num ((q.den : Int) * 2) = q / 2 := by
  have h := frac_div (p := q) (q := 2) (by decide)
  have e : ((2 : Rat).den : Int) = 1 := rfl
  have e2 : (2 : Rat).num = 2 := rfl
  rw [e, e2, Int.mul_one] at h
  exact h
theorem less_iff (p q : Rat) : p.num * (q.den : Int) < q.num * (p.den : Int) ↔ p < q := (Rat.lt_iff p q).symm
theorem nonneg_add {p q : Rat} (hp : 0 ≤ p) (hq : 0 ≤ q) : 0 ≤ p + q := Rat.add_nonneg hp hq
theorem div_nonneg {p q : Rat} (hp : 0 ≤ p) (hq : 0 < q) : 0 ≤ p / q := by
  rw [Rat.div_def]
  exact Rat.mul_nonneg hp (Rat.le_of_lt (Rat.inv_pos.mpr hq))
/-! raw sizes: what stands ahead of the division -/
theorem natAbs_mul_lt {i j : Int} {m n : Nat} (hi : i.natAbs < 2 ^ m) (hj : j.natAbs < 2 ^ n) : (i * j).natAbs < 2 ^ (m + n) := by
  rw [Int.natAbs_mul, Nat.pow_add]
  exact Nat.mul_lt_mul'' hi hj
theorem raw_nd {p q : Rat} {m n : Nat} (hp : Sz m p) (hq : Sz n q) : (p.num * (q.den : Int)).natAbs < 2 ^ (m + n) := natAbs_mul_lt hp.1 (by rw [Int.natAbs_natCast]; exact hq.2)
theorem raw_dn {p q : Rat} {m n : Nat} (hp : Sz m p) (hq : Sz n q) : ((p.den : Int) * q.num).natAbs < 2 ^ (m + n) := natAbs_mul_lt (by rw [Int.natAbs_natCast]; exact hp.2) hq.1
theorem raw_nn {p q : Rat} {m n : Nat} (hp : Sz m p) (hq : Sz n q) : (p.num * q.num).natAbs < 2 ^ (m + n) := natAbs_mul_lt hp.1 hq.1
theorem raw_dd {p q : Rat} {m n : Nat} (hp : Sz m p) (hq : Sz n q) : ((p.den : Int) * (q.den : Int)).natAbs < 2 ^ (m + n) := natAbs_mul_lt (by rw [Int.natAbs_natCast]; exact hp.2) (by rw [Int.natAbs_natCast]; exact hq.2)
theorem raw_add {p q : Rat} {m n : Nat} (hp : Sz m p) (hq : Sz n q) : (p.num * (q.den : Int) + q.num * (p.den : Int)).natAbs < 2 ^ (m + n + 1) := by
  have h1 := raw_nd hp hq
  have h2 := raw_nd hq hp
  rw [Nat.add_comm n m] at h2
  rw [Nat.pow_succ]
  have h3 := Int.natAbs_add_le (p.num * (q.den : Int)) (q.num * (p.den : Int))
  omega
theorem raw_sub0 {p q : Rat} (h : q ≤ p) : 0 ≤ p.num * (q.den : Int) - q.num * (p.den : Int) := by
  have := (Rat.le_iff q p).mp h
  omega
theorem raw_sub {p q : Rat} {m n : Nat} (hp : Sz m p) (hq : Sz n q) (h0 : 0 ≤ q) (h : q ≤ p) : (p.num * (q.den : Int) - q.num * (p.den : Int)).natAbs < 2 ^ (m + n) := by
  have h1 := raw_nd hp hq
  have h2 := raw_sub0 h
  have h3 : 0 ≤ q.num * (p.den : Int) := Int.mul_nonneg (nnon h0) (Int.le_of_lt (dpos p))
  omega
theorem sz_add {p q : Rat} {m n : Nat} (hp : Sz m p) (hq : Sz n q) : Sz (m + n + 1) (p + q) := by
  rw [← frac_add]
  exact sz_frac (raw_add hp hq) (Int.mul_pos (dpos p) (dpos q)) (Nat.lt_of_lt_of_le (raw_dd hp hq) (pow_mono (by omega)))
theorem sz_sub {p q : Rat} {m n : Nat} (hp : Sz m p) (hq : Sz n q) (h0 : 0 ≤ q) (h : q ≤ p) : Sz (m + n) (p - q) := by
  rw [← frac_sub]
  exact sz_frac (raw_sub hp hq h0 h) (Int.mul_pos (dpos p) (dpos q)) (raw_dd hp hq)
theorem sz_mul {p q : Rat} {m n : Nat} (hp : Sz m p) (hq : Sz n q) : Sz (m + n) (p * q) := by
  rw [← frac_mul]
  exact sz_frac (raw_nn hp hq) (Int.mul_pos (dpos p) (dpos q)) (raw_dd hp hq)
theorem sz_div {p q : Rat} {m n : Nat} (hp : Sz m p) (hq : Sz n q) (h : 0 < q) : Sz (m + n) (p / q) := by
  rw [← frac_div h]
  exact sz_frac (raw_nd hp hq) (Int.mul_pos (dpos p) (npos h)) (raw_dn hp hq)
theorem sz_half {p : Rat} {m : Nat} (hp : Sz m p) : Sz (m + 1) (p / 2) := by
  rw [← frac_half]
  refine sz_frac (Nat.lt_of_lt_of_le hp.1 (pow_mono (by omega))) ?_ ?_
  · have := dpos p
    omega
  · have := hp.2
    rw [Nat.pow_succ]
    omega
theorem sz_min {p q : Rat} {n : Nat} (hp : Sz n p) (hq : Sz n q) : Sz n (min p q) := by
  rw [Rat.min_def]
  split
  · exact hp
  · exact hq
theorem min_nn {p q : Rat} (hp : 0 ≤ p) (hq : 0 ≤ q) : 0 ≤ min p q := by
  rw [Rat.min_def]
  split
  · exact hp
  · exact hq
theorem min_le_l (p q : Rat) : min p q ≤ p := by grind
theorem sz_nat {a n : Nat} (h : a < 2 ^ n) (h1 : 1 ≤ n) : Sz n (a : Rat) := by
  refine ⟨by rw [Rat.num_natCast, Int.natAbs_natCast]; exact h, ?_⟩
  rw [Rat.den_natCast]
  exact Nat.lt_of_lt_of_le (by decide) (pow_mono h1)
/-! ### sums -/
theorem foldl_sum : ∀ (l : List Rat) (a : Rat), l.foldl (fun (a b : Rat) => a + b) a = a + Co07.sum l
  | [], a => by
    show a = a + 0
    grind
  | x :: l, a => by
    show l.foldl _ (a + x) = a + l.foldl _ (0 + x)
    rw [foldl_sum l (a + x), foldl_sum l (0 + x)]
    grind
theorem sum_nil : Co07.sum [] = 0 := rfl
theorem sum_cons (x : Rat) (l : List Rat) : Co07.sum (x :: l) = x + Co07.sum l := by
  show l.foldl _ (0 + x) = _
  rw [foldl_sum l (0 + x)]
  grind
theorem sum_app (l : List Rat) (x : Rat) : Co07.sum (l ++ [x]) = Co07.sum l + x := by
  unfold Co07.sum
  rw [List.foldl_append]
  rfl
theorem sum_nonneg : ∀ (l : List Rat), (∀ x ∈ l, 0 ≤ x) → 0 ≤ Co07.sum l
  | [], _ => by rw [sum_nil]; exact Rat.le_refl
  | x :: l, h => by
    rw [sum_cons]
    exact nonneg_add (h x (List.mem_cons_self ..)) (sum_nonneg l fun y hy => h y (List.mem_cons_of_mem _ hy))
theorem sum_pos (l : List Rat) (h : ∀ x ∈ l, 0 < x) (hn : l ≠ []) : 0 < Co07.sum l := by
  cases l with
  | nil => exact absurd rfl hn
  | cons x l =>
    rw [sum_cons]
    have h1 := h x (List.mem_cons_self ..)
    have h2 := sum_nonneg l fun y hy => Rat.le_of_lt (h y (List.mem_cons_of_mem _ hy))
    grind
theorem sz_sum {n : Nat} : ∀ (l : List Rat), (∀ x ∈ l, Sz n x) → Sz (1 + (n + 1) * l.length) (Co07.sum l) := by
  intro l
  suffices H : ∀ (l : List Rat) (a : Rat) (k : Nat), Sz k a → (∀ x ∈ l, Sz n x) → Sz (k + (n + 1) * l.length) (l.foldl (fun (a b : Rat) => a + b) a) from fun h => H l 0 1 sz_zero h
  intro l
  induction l with
  | nil => intro a k h _; exact h.mono (by omega)
  | cons x l ih =>
    intro a k h hx
    have h1 := ih (a + x) (k + n + 1) (sz_add h (hx x (List.mem_cons_self ..))) fun y hy => hx y (List.mem_cons_of_mem _ hy)
    refine Sz.mono h1 ?_
    rw [List.length_cons, Nat.mul_add]
    omega
theorem sum_le : ∀ (l m : List Rat), l.length = m.length → (∀ (i : Nat) (x y : Rat), l[i]? = some x → m[i]? = some y → x ≤ y) → Co07.sum l ≤ Co07.sum m
  | [], [], _, _ => Rat.le_refl
  | x :: l, y :: m, hl, h => by
    rw [sum_cons, sum_cons]
    have h1 := h 0 x y rfl rfl
    have h2 := sum_le l m (by simpa using hl) fun i a b ha hb => h (i + 1) a b ha hb
    grind
/-! ### sorting -/
def Asc (l : List Rat) : Prop := l.Pairwise (· ≤ ·)
theorem put_perm (x : Rat) : ∀ l, (Co07.put x l).Perm (x :: l)
  | [] => List.Perm.refl _
  | y :: l => by
    show (if y < x then y :: Co07.put x l else x :: y :: l).Perm _
    split
    · exact ((put_perm x l).cons y).trans (List.Perm.swap ..)
    · exact List.Perm.refl _
theorem put_asc (x : Rat) : ∀ l, Asc l → Asc (Co07.put x l)
  | [], _ => by
    show Asc [x]
    unfold Asc
    simp
  | y :: l, h => by
    unfold Asc at h ⊢
    show List.Pairwise (· ≤ ·) (if y < x then y :: Co07.put x l else x :: y :: l)
    have h1 := List.pairwise_cons.mp h
    split
    · rename_i c
      refine List.pairwise_cons.mpr ⟨fun z hz => ?_, put_asc x l h1.2⟩
      rcases List.mem_cons.mp ((put_perm x l).mem_iff.mp hz) with e | e
      · rw [e]; exact Rat.le_of_lt c
      · exact h1.1 z e
    · rename_i c
      have c' := Rat.not_lt.mp c
      refine List.pairwise_cons.mpr ⟨fun z hz => ?_, h⟩
      rcases List.mem_cons.mp hz with e | e
      · rw [e]; exact c'
      · exact Rat.le_trans c' (h1.1 z e)
theorem foldl_put : ∀ (l m : List Rat), Asc m → Asc (l.foldl (fun (m : List Rat) (x : Rat) => Co07.put x m) m) ∧ (l.foldl (fun (m : List Rat) (x : Rat) => Co07.put x m) m).Perm (l ++ m)
  | [], m, h => ⟨h, List.Perm.refl _⟩
  | x :: l, m, h => by
    obtain ⟨h1, h2⟩ := foldl_put l (Co07.put x m) (put_asc x m h)
    refine ⟨h1, h2.trans (((put_perm x m).append_left l).trans ?_)⟩
    exact List.perm_middle
theorem sorted_asc (l : List Rat) : Asc (Co07.sorted l) := (foldl_put l [] List.Pairwise.nil).1
theorem sorted_perm (l : List Rat) : (Co07.sorted l).Perm l := by
  have := (foldl_put l [] List.Pairwise.nil).2
  rwa [List.append_nil] at this
theorem asc_unique : ∀ {l m : List Rat}, l.Perm m → Asc l → Asc m → l = m
  | [], m, p, _, _ => (List.perm_nil.mp p.symm).symm ▸ rfl
  | x :: l, [], p, _, _ => by cases List.perm_nil.mp p
  | x :: l, y :: m, p, h1, h2 => by
    have a := List.pairwise_cons.mp h1
    have b := List.pairwise_cons.mp h2
    have exy : x = y := by
      have hx : x ∈ y :: m := p.mem_iff.mp (List.mem_cons_self ..)
      have hy : y ∈ x :: l := p.mem_iff.mpr (List.mem_cons_self ..)
      rcases List.mem_cons.mp hx with e | e
      · exact e
      · rcases List.mem_cons.mp hy with e' | e'
        · exact e'.symm
        · exact Rat.le_antisymm (a.1 y e') (b.1 x e)
    subst exy
    rw [asc_unique (List.Perm.cons_inv p) a.2 b.2]
theorem sorted_is {l m : List Rat} (p : m.Perm l) (h : Asc m) : m = Co07.sorted l := asc_unique (p.trans (sorted_perm l).symm) h (sorted_asc l)
/-! ### the level -/
/-- the program's level, claims from the least on: the level behind these, from the level lv and what is left -/
def lev : List Rat → Rat → Rat → Rat
  | [], lv, _ => lv
  | c :: l, _, e => if e / ((l.length + 1 : Nat) : Rat) < c then e / ((l.length + 1 : Nat) : Rat) else lev l (e / ((l.length + 1 : Nat) : Rat)) (e - c)
theorem cast_pos (n : Nat) : (0 : Rat) < ((n + 1 : Nat) : Rat) := Rat.natCast_pos.mpr (by omega)
theorem turn_iff {c e : Rat} {n : Nat} : e / ((n + 1 : Nat) : Rat) < c ↔ ¬ c * ((n + 1 : Nat) : Rat) ≤ e := by
  rw [Rat.div_lt_iff (cast_pos n), Rat.not_le]
/-- the program's level and the specification's give the same gains -/
theorem lev_is (top : Rat) : ∀ (l : List Rat) (lv e : Rat), Asc l → l ≠ [] → (∀ x ∈ l, x ≤ top) → (∃ x ∈ l, x = top) →
    lev l lv e = Co07.levelOf top l e ∨ (top ≤ lev l lv e ∧ Co07.levelOf top l e = top)
  | [], _, _, _, h, _, _ => absurd rfl h
  | c :: l, lv, e, ha, _, ht, hx => by
    have a := List.pairwise_cons.mp ha
    show (if e / ((l.length + 1 : Nat) : Rat) < c then e / ((l.length + 1 : Nat) : Rat) else lev l (e / ((l.length + 1 : Nat) : Rat)) (e - c)) = (if c * ((l.length + 1 : Nat) : Rat) ≤ e then Co07.levelOf top l (e - c) else e / ((l.length + 1 : Nat) : Rat)) ∨
      (top ≤ (if e / ((l.length + 1 : Nat) : Rat) < c then e / ((l.length + 1 : Nat) : Rat) else lev l (e / ((l.length + 1 : Nat) : Rat)) (e - c)) ∧ (if c * ((l.length + 1 : Nat) : Rat) ≤ e then Co07.levelOf top l (e - c) else e / ((l.length + 1 : Nat) : Rat)) = top)
    by_cases q : c * ((l.length + 1 : Nat) : Rat) ≤ e
    · rw [if_neg (fun z => turn_iff.mp z q), if_pos q]
      cases l with
      | nil =>
        right
        refine ⟨?_, rfl⟩
        obtain ⟨x, hx1, hx2⟩ := hx
        have : x = c := by simpa using hx1
        subst this
        subst hx2
        show x ≤ e / ((0 + 1 : Nat) : Rat)
        have h1 : (((0 + 1 : Nat)) : Rat) = 1 := rfl
        have q' : x * (((0 + 1 : Nat)) : Rat) ≤ e := q
        rw [h1] at q' ⊢
        grind
      | cons d l =>
        refine lev_is top (d :: l) _ (e - c) a.2 (by simp) (fun x hx => ht x (List.mem_cons_of_mem _ hx)) ?_
        obtain ⟨x, hx1, hx2⟩ := hx
        rcases List.mem_cons.mp hx1 with e1 | e1
        · refine ⟨d, List.mem_cons_self .., ?_⟩
          have h1 := a.1 d (List.mem_cons_self ..)
          have h2 := ht d (List.mem_cons_of_mem _ (List.mem_cons_self ..))
          rw [e1] at hx2
          rw [hx2] at h1
          exact Rat.le_antisymm h2 h1
        · exact ⟨x, e1, hx2⟩
    · rw [if_pos (turn_iff.mpr q), if_neg q]
      exact .inl rfl
theorem left_nonneg {c e : Rat} {l : List Rat} (hx : ∀ x ∈ c :: l, 0 ≤ x) (q : ¬ e / ((l.length + 1 : Nat) : Rat) < c) : c ≤ e := by
  have hc := hx c (List.mem_cons_self ..)
  have q1 : c * ((l.length + 1 : Nat) : Rat) ≤ e := Decidable.byContradiction fun z => q (turn_iff.mpr z)
  have h2 : (1 : Rat) ≤ ((l.length + 1 : Nat) : Rat) := by
    have := Rat.natCast_le_natCast.mpr (show 1 ≤ l.length + 1 by omega)
    exact this
  have h3 := Rat.mul_le_mul_of_nonneg_left h2 hc
  grind
theorem lev_nonneg : ∀ (l : List Rat) (lv e : Rat), 0 ≤ lv → 0 ≤ e → (∀ x ∈ l, 0 ≤ x) → 0 ≤ lev l lv e
  | [], lv, _, h, _, _ => h
  | c :: l, lv, e, h, he, hx => by
    have h1 : 0 ≤ e / ((l.length + 1 : Nat) : Rat) := div_nonneg he (cast_pos _)
    show 0 ≤ (if e / ((l.length + 1 : Nat) : Rat) < c then e / ((l.length + 1 : Nat) : Rat) else lev l (e / ((l.length + 1 : Nat) : Rat)) (e - c))
    split
    · exact h1
    · rename_i q
      refine lev_nonneg l _ _ h1 ?_ fun x hx' => hx x (List.mem_cons_of_mem _ hx')
      have := left_nonneg hx q
      grind
theorem sz_lev {n : Nat} : ∀ (l : List Rat) (lv e : Rat) (m : Nat), l.length ≤ 8 → Sz (m + 4) lv → Sz m e → 0 ≤ e → (∀ x ∈ l, 0 ≤ x) → (∀ x ∈ l, Sz n x) → Sz (m + n * l.length + 4) (lev l lv e)
  | [], lv, e, m, _, h, _, _, _, _ => h.mono (by omega)
  | c :: l, lv, e, m, hl, h, he, he0, hx0, hx => by
    rw [List.length_cons] at hl
    have hc4 : Sz 4 ((l.length + 1 : Nat) : Rat) := sz_nat (by omega) (by omega)
    have h1 : Sz (m + 4) (e / ((l.length + 1 : Nat) : Rat)) := sz_div he hc4 (cast_pos _)
    show Sz _ (if e / ((l.length + 1 : Nat) : Rat) < c then e / ((l.length + 1 : Nat) : Rat) else lev l (e / ((l.length + 1 : Nat) : Rat)) (e - c))
    split
    · exact h1.mono (by omega)
    · rename_i q
      have q1 := left_nonneg hx0 q
      have s1 := sz_sub he (hx c (List.mem_cons_self ..)) (hx0 c (List.mem_cons_self ..)) q1
      refine (sz_lev l _ (e - c) (m + n) (by omega) (h1.mono (by omega)) s1 (by grind) (fun x hx' => hx0 x (List.mem_cons_of_mem _ hx')) fun x hx' => hx x (List.mem_cons_of_mem _ hx')).mono ?_
      rw [List.length_cons, Nat.mul_add]
      omega
theorem greatest_le : ∀ (l : List Rat) (a : Rat), a ≤ l.foldl max a ∧ (∀ x ∈ l, x ≤ l.foldl max a) ∧ (l.foldl max a = a ∨ l.foldl max a ∈ l)
  | [], a => ⟨Rat.le_refl, fun x hx => absurd hx (by simp), .inl rfl⟩
  | y :: l, a => by
    obtain ⟨h1, h2, h3⟩ := greatest_le l (max a y)
    have e : (y :: l).foldl max a = l.foldl max (max a y) := rfl
    rw [e]
    have m1 : a ≤ max a y := by grind
    have m2 : y ≤ max a y := by grind
    refine ⟨Rat.le_trans m1 h1, fun x hx => ?_, ?_⟩
    · rcases List.mem_cons.mp hx with q | q
      · rw [q]; exact Rat.le_trans m2 h1
      · exact h2 x q
    · rcases h3 with q | q
      · have : max a y = a ∨ max a y = y := by grind
        rcases this with z | z
        · exact .inl (q.trans z)
        · right
          rw [q, z]
          exact List.mem_cons_self ..
      · exact .inr (List.mem_cons_of_mem _ q)
/-- equal gains, as the program reckons them -/
def gains (l : List Rat) (e : Rat) : List Rat := l.map fun c => min c (lev (Co07.sorted l) 0 e)
theorem gains_is (l : List Rat) (e : Rat) (h : ∀ x ∈ l, 0 < x) : gains l e = Co07.gains l e := by
  unfold gains Co07.gains
  cases hl : l with
  | nil => rfl
  | cons d l' =>
    rw [← hl]
    have hne : l ≠ [] := by rw [hl]; simp
    obtain ⟨g1, g2, g3⟩ := greatest_le l 0
    have g3' : l.foldl max 0 ∈ l := by
      rcases g3 with q | q
      · have h1 := g2 d (by rw [hl]; exact List.mem_cons_self ..)
        have h2 := h d (by rw [hl]; exact List.mem_cons_self ..)
        rw [q] at h1
        grind
      · exact q
    have key := lev_is (Co07.greatest l) (Co07.sorted l) 0 e (sorted_asc l) (fun z => hne (List.perm_nil.mp (z ▸ (sorted_perm l).symm))) (fun x hx => g2 x ((sorted_perm l).mem_iff.mp hx)) ⟨_, (sorted_perm l).mem_iff.mpr g3', rfl⟩
    refine List.map_congr_left fun c hc => ?_
    rcases key with k | ⟨k1, k2⟩
    · rw [k]
    · rw [k2]
      have h1 : c ≤ Co07.greatest l := g2 c hc
      grind
theorem gains_len (l : List Rat) (e : Rat) : (gains l e).length = l.length := by unfold gains; simp
theorem mem_sorted {l : List Rat} {x : Rat} : x ∈ Co07.sorted l ↔ x ∈ l := (sorted_perm l).mem_iff
theorem sorted_len (l : List Rat) : (Co07.sorted l).length = l.length := (sorted_perm l).length_eq
/-- the program's level of claims -/
def level (l : List Rat) (e : Rat) : Rat := lev (Co07.sorted l) 0 e
theorem level_nonneg {l : List Rat} {e : Rat} (he : 0 ≤ e) (h : ∀ x ∈ l, 0 ≤ x) : 0 ≤ level l e := lev_nonneg _ _ _ Rat.le_refl he fun x hx => h x (mem_sorted.mp hx)
theorem sz_level {l : List Rat} {e : Rat} {m n : Nat} (hl : l.length ≤ 8) (hm : Sz m e) (he : 0 ≤ e) (h : ∀ x ∈ l, 0 ≤ x) (hn : ∀ x ∈ l, Sz n x) : Sz (m + n * 8 + 4) (level l e) := by
  have := sz_lev (n := n) (Co07.sorted l) 0 e m (by rw [sorted_len]; exact hl) (sz_zero.mono (by omega)) hm he (fun x hx => h x (mem_sorted.mp hx)) fun x hx => hn x (mem_sorted.mp hx)
  rw [sorted_len] at this
  refine this.mono ?_
  have := Nat.mul_le_mul_left n hl
  omega
theorem gains_eq (l : List Rat) (e : Rat) : gains l e = l.map fun c => min c (level l e) := rfl
/-! ### the rules -/
def parts (l : List Rat) (e : Rat) : List Rat := l.map fun c => c * e / Co07.sum l
def less (l m : List Rat) : List Rat := (l.zip m).map fun x => x.1 - x.2
def losses (l : List Rat) (e : Rat) : List Rat := less l (gains l (Co07.sum l - e))
def halves (l : List Rat) : List Rat := l.map fun c => c / 2
def agreed (l : List Rat) (e : Rat) : List Rat := if Co07.sum (halves l) < e then less l (gains (halves l) (Co07.sum l - e)) else gains (halves l) e
def within (r : Nat) (l : List Rat) (e : Rat) : List Rat := if r = 0 then parts l e else if r = 1 then gains l e else if r = 2 then losses l e else agreed l e
theorem halves_pos {l : List Rat} (h : ∀ x ∈ l, 0 < x) : ∀ x ∈ halves l, 0 < x := fun x hx => by
  obtain ⟨c, hc, rfl⟩ := List.mem_map.mp hx
  have := h c hc
  grind
theorem parts_is (l : List Rat) (e : Rat) (h : ∀ x ∈ l, 0 < x) : parts l e = Co07.parts l e := by
  unfold parts Co07.parts
  refine List.map_congr_left fun c hc => ?_
  have := sum_pos l h (List.ne_nil_of_mem hc)
  rw [if_neg (Rat.ne_of_gt this), Rat.mul_comm]
theorem within_is (r : Nat) (l : List Rat) (e : Rat) (h : ∀ x ∈ l, 0 < x) : within r l e = Co07.within r l e := by
  unfold within
  by_cases h0 : r = 0
  · rw [if_pos h0, h0, parts_is l e h]
    rfl
  rw [if_neg h0]
  by_cases h1 : r = 1
  · rw [if_pos h1, h1, gains_is l e h]
    rfl
  rw [if_neg h1]
  by_cases h2 : r = 2
  · rw [if_pos h2, h2]
    show less l (gains l (Co07.sum l - e)) = Co07.losses l e
    rw [gains_is l _ h]
    rfl
  rw [if_neg h2]
  have e3 : Co07.within r l e = Co07.agreed l e := by
    match r, h0, h1, h2 with
    | 0, h, _, _ => exact absurd rfl h
    | 1, _, h, _ => exact absurd rfl h
    | 2, _, _, h => exact absurd rfl h
    | n + 3, _, _, _ => rfl
  rw [e3]
  unfold agreed
  show _ = (if e ≤ Co07.sum (halves l) then Co07.gains (halves l) e else (l.zip (Co07.gains (halves l) (Co07.sum l - e))).map fun (x : Rat × Rat) => x.1 - x.2)
  by_cases q : Co07.sum (halves l) < e
  · rw [if_pos q, if_neg (Rat.not_le.mpr q), gains_is _ _ (halves_pos h)]
    rfl
  · rw [if_neg q, if_pos (Rat.not_lt.mp q), gains_is _ _ (halves_pos h)]
theorem less_map (g : Rat → Rat) : ∀ l : List Rat, less l (l.map g) = l.map fun c => c - g c
  | [] => rfl
  | c :: l => by
    show (c - g c) :: less l (l.map g) = _
    rw [less_map g l]
    rfl
/-- what the rule r gives to a claim -/
def each (r : Nat) (l : List Rat) (e : Rat) : Rat → Rat :=
  if r = 0 then fun c => c * e / Co07.sum l else if r = 1 then fun c => min c (level l e) else if r = 2 then fun c => c - min c (level l (Co07.sum l - e))
  else if Co07.sum (halves l) < e then fun c => c - min (c / 2) (level (halves l) (Co07.sum l - e)) else fun c => min (c / 2) (level (halves l) e)
theorem gains_halves (l : List Rat) (e : Rat) : gains (halves l) e = l.map fun c => min (c / 2) (level (halves l) e) := by
  rw [gains_eq]
  unfold halves
  rw [List.map_map]
  rfl
theorem within_map (r : Nat) (l : List Rat) (e : Rat) : within r l e = l.map (each r l e) := by
  unfold within each
  by_cases h0 : r = 0
  · rw [if_pos h0, if_pos h0]; rfl
  rw [if_neg h0, if_neg h0]
  by_cases h1 : r = 1
  · rw [if_pos h1, if_pos h1]; rfl
  rw [if_neg h1, if_neg h1]
  by_cases h2 : r = 2
  · rw [if_pos h2, if_pos h2]
    unfold losses
    rw [gains_eq, less_map]
  rw [if_neg h2, if_neg h2]
  unfold agreed
  by_cases q : Co07.sum (halves l) < e
  · rw [if_pos q, if_pos q, gains_halves, less_map]
  · rw [if_neg q, if_neg q, gains_halves]
theorem within_len (r : Nat) (l : List Rat) (e : Rat) : (within r l e).length = l.length := by rw [within_map, List.length_map]
theorem sz_halves {l : List Rat} {n : Nat} (h : ∀ x ∈ l, Sz n x) : ∀ x ∈ halves l, Sz (n + 1) x := fun x hx => by
  obtain ⟨c, hc, rfl⟩ := List.mem_map.mp hx
  exact sz_half (h c hc)
theorem sz_sum8 {l : List Rat} {n : Nat} (hl : l.length ≤ 8) (h : ∀ x ∈ l, Sz n x) : Sz (1 + (n + 1) * 8) (Co07.sum l) := (sz_sum l h).mono (by
  have := Nat.mul_le_mul_left (n + 1) hl
  omega)
/-- the claims of a class -/
structure Claims (l : List Rat) : Prop where
  len : l.length ≤ 8
  pos : ∀ x ∈ l, 0 < x
  sz : ∀ x ∈ l, Sz 20 x
theorem Claims.nn {l : List Rat} (C : Claims l) : ∀ x ∈ l, 0 ≤ x := fun x hx => Rat.le_of_lt (C.pos x hx)
theorem Claims.sum0 {l : List Rat} (C : Claims l) : 0 ≤ Co07.sum l := sum_nonneg l C.nn
theorem Claims.szsum {l : List Rat} (C : Claims l) : Sz 169 (Co07.sum l) := sz_sum8 C.len C.sz
theorem Claims.half {l : List Rat} (C : Claims l) : (∀ x ∈ halves l, 0 ≤ x) ∧ (∀ x ∈ halves l, Sz 21 x) ∧ (halves l).length ≤ 8 :=
  ⟨fun x hx => Rat.le_of_lt (halves_pos C.pos x hx), sz_halves C.sz, by unfold halves; rw [List.length_map]; exact C.len⟩
theorem each_ok {r : Nat} {l : List Rat} {e : Rat} {m : Nat} (C : Claims l) (h0 : 0 ≤ e) (h1 : e ≤ Co07.sum l) (hm : Sz m e) {c : Rat} (hc : c ∈ l) : 0 ≤ each r l e c ∧ each r l e c ≤ c ∧ Sz (m + 361) (each r l e c) := by
  have c0 := C.pos c hc
  have cz := C.sz c hc
  have d0 : 0 ≤ Co07.sum l - e := by grind
  have dz : Sz (169 + m) (Co07.sum l - e) := sz_sub C.szsum hm h0 h1
  obtain ⟨hn, hz, hl⟩ := C.half
  have half0 : 0 ≤ c / 2 := by grind
  have halfc : c / 2 ≤ c := by grind
  unfold each
  split
  · have sp := sum_pos l C.pos (List.ne_nil_of_mem hc)
    refine ⟨div_nonneg (Rat.mul_nonneg (Rat.le_of_lt c0) h0) sp, ?_, (sz_div (sz_mul cz hm) C.szsum sp).mono (by omega)⟩
    have h2 := Rat.mul_le_mul_of_nonneg_left h1 (Rat.le_of_lt c0)
    refine Rat.not_lt.mp fun z => ?_
    have z2 := (Rat.lt_div_iff sp).mp z
    grind
  split
  · have l0 := level_nonneg h0 C.nn
    have lz := sz_level C.len hm h0 C.nn C.sz
    exact ⟨by grind, by grind, sz_min (cz.mono (by omega)) (lz.mono (by omega))⟩
  split
  · have l0 := level_nonneg d0 C.nn
    have lz := sz_level C.len dz d0 C.nn C.sz
    refine ⟨by grind, by grind, ?_⟩
    exact (sz_sub cz (sz_min (n := 169 + m + 20 * 8 + 4) (cz.mono (by omega)) lz) (by grind) (by grind)).mono (by omega)
  split
  · have l0 := level_nonneg d0 hn
    have lz := sz_level hl dz d0 hn hz
    refine ⟨by grind, by grind, ?_⟩
    exact (sz_sub cz (sz_min (n := 169 + m + 21 * 8 + 4) ((sz_half cz).mono (by omega)) lz) (by grind) (by grind)).mono (by omega)
  · have l0 := level_nonneg h0 hn
    have lz := sz_level hl hm h0 hn hz
    exact ⟨by grind, by grind, sz_min ((sz_half cz).mono (by omega)) (lz.mono (by omega))⟩
/-! ### class by class -/
def ClsOk (c : Co07.Class) : Prop := Claims c.claims ∧ c.method ≤ 3
theorem shared_ok {M : Nat} : ∀ (cs : List Co07.Class) (e : Rat) (m : Nat), (∀ c ∈ cs, ClsOk c) → 0 ≤ e → Sz m e → 169 ≤ M → m + 169 * (cs.length - 1) ≤ M →
    (Co07.shared cs e).length = cs.length ∧ ∀ (k : Nat) (c : Co07.Class), cs[k]? = some c → ∃ x, (Co07.shared cs e)[k]? = some (within c.method c.claims x) ∧ 0 ≤ x ∧ x ≤ Co07.sum c.claims ∧ Sz M x
  | [], _, _, _, _, _, _, _ => ⟨rfl, fun k c h => by simp at h⟩
  | c :: l, e, m, hc, h0, hm, hM, hb => by
    have C := (hc c (List.mem_cons_self ..)).1
    have hs0 := C.sum0
    have hsz := C.szsum
    rw [List.length_cons] at hb
    have ex : (0 : Rat) ≤ e - min e (Co07.sum c.claims) := by grind
    have ez : Sz (m + 169) (e - min e (Co07.sum c.claims)) := by
      by_cases q : e ≤ Co07.sum c.claims
      · have : e - min e (Co07.sum c.claims) = 0 := by grind
        rw [this]
        exact sz_zero.mono (by omega)
      · have : e - min e (Co07.sum c.claims) = e - Co07.sum c.claims := by grind
        rw [this]
        exact sz_sub hm hsz hs0 (by grind)
    have hd := fun d hd => hc d (List.mem_cons_of_mem _ hd)
    by_cases hl : l = []
    · subst hl
      refine ⟨rfl, fun k d hk => ?_⟩
      cases k with
      | zero =>
        cases hk
        refine ⟨min e (Co07.sum c.claims), ?_, by grind, by grind, sz_min (hm.mono (by omega)) (hsz.mono hM)⟩
        rw [within_is _ _ _ C.pos]
        rfl
      | succ k => simp at hk
    · have hlp : 1 ≤ l.length := by
        cases l with
        | nil => exact absurd rfl hl
        | cons a b => rw [List.length_cons]; omega
      obtain ⟨i1, i2⟩ := shared_ok (M := M) l (e - min e (Co07.sum c.claims)) (m + 169) hd ex ez hM (by omega)
      refine ⟨congrArg (· + 1) i1, fun k d hk => ?_⟩
      cases k with
      | zero =>
        cases hk
        refine ⟨min e (Co07.sum c.claims), ?_, by grind, by grind, sz_min (hm.mono (by omega)) (hsz.mono hM)⟩
        rw [within_is _ _ _ C.pos]
        rfl
      | succ k => exact i2 k d hk
end Cs

set_option Elab.async false
set_option linter.all false
set_option maxRecDepth 100000
set_option maxHeartbeats 2000000
namespace Cs
open PySem L2
def top (i : Nat) : Stmt := PySem.Challenge.pw_claimshares_s01_answers.main.body.getD i (.Pass ⟨0, 0, 0, 0⟩)
abbrev sGcd : Stmt := top 2
abbrev sLow : Stmt := top 3
abbrev sPlus : Stmt := top 4
abbrev sMinus : Stmt := top 5
abbrev sTimes : Stmt := top 6
abbrev sDiv : Stmt := top 7
abbrev sLess : Stmt := top 8
abbrev sLesser : Stmt := top 9
abbrev sTog : Stmt := top 10
abbrev sLine : Stmt := top 11
abbrev sAsc : Stmt := top 12
abbrev sPlaces : Stmt := top 13
abbrev sWhole1 : Stmt := top 14
/-! ### heaps: what grows; the tables of code objects may grow too -/
structure Up (T : List (Addr × Str)) (H H' : Hp) : Prop where
  ext : LamX.ExtN H H'
  tab : LamX.Tabs T H → LamX.Tabs T H'
theorem Up.refl {T : List (Addr × Str)} (H : Hp) : Up T H H := ⟨LamX.ExtN.refl H, id⟩
theorem Up.trans {T : List (Addr × Str)} {H H1 H2 : Hp} (a : Up T H H1) (b : Up T H1 H2) : Up T H H2 := ⟨a.ext.trans b.ext, fun t => b.tab (a.tab t)⟩
theorem Up.same {T : List (Addr × Str)} {H H' : Hp} (e : Same H H') : Up T H H' := ⟨LamX.ExtN.of e, fun t => t.ext e⟩
theorem same_new {H : Hp} {p : Addr} {o : HO} (h : H p = Option.none) : Same H (upd H p o) := fun b u e => by
  rw [upd_ne (ne_of_none e h)]
  exact e
theorem ext_tup {H H' : Hp} (e : LamX.ExtN H H') {K : PySem.W.Frag} {a : Addr} {xs : List V} (h : SqT K H a xs) : SqT K H' a xs := by
  rcases h with (h | ⟨o, h⟩) | h
  · exact .inl (.inl (e _ _ h fun _ z => by cases z))
  · exact .inl (.inr ⟨o, e _ _ h fun _ z => by cases z⟩)
  · exact .inr h
theorem ext_lst {H H' : Hp} (e : LamX.ExtN H H') {K : PySem.W.Frag} {a : Addr} {xs : List V} (h : SqL K H a xs) : SqL K H' a xs := by
  rcases h with (h | ⟨o, h⟩) | h
  · exact .inl (.inl (e _ _ h fun _ z => by cases z))
  · exact .inl (.inr ⟨o, e _ _ h fun _ z => by cases z⟩)
  · exact .inr h
/-! ### an amount in the heap -/
def Amt (K : PySem.W.Frag) (H : Hp) (v : V) (q : Rat) : Prop := ∃ p : Addr, v = .ref p ∧ SqT K H p [.int q.num, .int (q.den : Int)]
theorem Amt.ext {K : PySem.W.Frag} {H H' : Hp} {v : V} {q : Rat} (e : LamX.ExtN H H') (a : Amt K H v q) : Amt K H' v q := by
  obtain ⟨p, rfl, h⟩ := a
  exact ⟨p, rfl, ext_tup e h⟩
theorem Amt.same {K : PySem.W.Frag} {H H' : Hp} {v : V} {q : Rat} (e : Same H H') (a : Amt K H v q) : Amt K H' v q := a.ext (LamX.ExtN.of e)
/-- amounts in a list of values -/
structure Amts (K : PySem.W.Frag) (H : Hp) (vs : List V) (qs : List Rat) : Prop where
  len : vs.length = qs.length
  at_ : ∀ (i : Nat) (v : V) (q : Rat), vs[i]? = some v → qs[i]? = some q → Amt K H v q
theorem Amts.ext {K : PySem.W.Frag} {H H' : Hp} {vs : List V} {qs : List Rat} (e : LamX.ExtN H H') (a : Amts K H vs qs) : Amts K H' vs qs := ⟨a.len, fun i v q h1 h2 => (a.at_ i v q h1 h2).ext e⟩
theorem Amts.nil {K : PySem.W.Frag} {H : Hp} : Amts K H [] [] := ⟨rfl, fun i v q h => by simp at h⟩
theorem Amts.snoc {K : PySem.W.Frag} {H : Hp} {vs : List V} {qs : List Rat} {v : V} {q : Rat} (a : Amts K H vs qs) (h : Amt K H v q) : Amts K H (vs ++ [v]) (qs ++ [q]) := by
  refine ⟨by rw [List.length_append, List.length_append, a.len]; rfl, fun i u r h1 h2 => ?_⟩
  by_cases hi : i < vs.length
  · rw [List.getElem?_append_left hi] at h1
    rw [List.getElem?_append_left (by rw [← a.len]; exact hi)] at h2
    exact a.at_ i u r h1 h2
  · rw [List.getElem?_append_right (by omega)] at h1
    rw [List.getElem?_append_right (by rw [← a.len]; omega)] at h2
    rw [← a.len] at h2
    cases hk : i - vs.length with
    | zero =>
      rw [hk] at h1 h2
      cases h1
      cases h2
      exact h
    | succ k =>
      rw [hk] at h1
      simp at h1
theorem Amts.get {K : PySem.W.Frag} {H : Hp} {vs : List V} {qs : List Rat} (a : Amts K H vs qs) {i : Nat} {v : V} (h : vs[i]? = some v) : ∃ q, qs[i]? = some q ∧ Amt K H v q := by
  have hi := (List.getElem?_eq_some_iff.mp h).1
  rw [a.len] at hi
  exact ⟨qs[i], List.getElem?_eq_getElem hi, a.at_ i v _ h (List.getElem?_eq_getElem hi)⟩
/-! ### promises -/
def spGcd : Sp := fun vs H Q _ => ∃ a b : Nat, vs = [.int (a : Int), .int (b : Int)] ∧ Q (.int ((Nat.gcd a b : Nat) : Int)) H
def spLow : Sp := fun vs H Q _ => ∃ i j : Int, vs = [.int i, .int j] ∧ 0 ≤ i ∧ 0 < j ∧ j.natAbs < 2 ^ 9000 ∧
  ∀ p : Addr, H p = none → Q (.ref p) (upd H p (.tup [.int (frac i j).num, .int ((frac i j).den : Int)]))
/-- two amounts of at most so many bits together, and what is asked of them: a new amount -/
def spOp (K : PySem.W.Frag) (f : Rat → Rat → Rat) (pre : Rat → Rat → Prop) : Sp := fun vs H Q _ => ∃ (x y : V) (p q : Rat) (m n : Nat), vs = [x, y] ∧ Amt K H x p ∧ Amt K H y q ∧ Sz m p ∧ Sz n q ∧ m + n ≤ 8990 ∧ 0 ≤ p ∧ 0 ≤ q ∧ pre p q ∧
  ∀ (H' : Hp) (v : V), Same H H' → Amt K H' v (f p q) → Q v H'
def spLess (K : PySem.W.Frag) : Sp := fun vs H Q _ => ∃ (x y : V) (p q : Rat) (m n : Nat), vs = [x, y] ∧ Amt K H x p ∧ Amt K H y q ∧ Sz m p ∧ Sz n q ∧ m + n ≤ 8990 ∧ Q (.bl (decide (p < q))) H
def spLesser (K : PySem.W.Frag) : Sp := fun vs H Q _ => ∃ (x y : V) (p q : Rat) (m n : Nat), vs = [x, y] ∧ Amt K H x p ∧ Amt K H y q ∧ Sz m p ∧ Sz n q ∧ m + n ≤ 8990 ∧
  ∀ v : V, Amt K H v (min p q) → Q v H
def spTog (K : PySem.W.Frag) : Sp := fun vs H Q _ => ∃ (a : Addr) (xs : List V) (qs : List Rat) (n : Nat), vs = [.ref a] ∧ SqL K H a xs ∧ Amts K H xs qs ∧ qs.length ≤ 8 ∧ (∀ q ∈ qs, 0 ≤ q ∧ Sz n q) ∧ n ≤ 1000 ∧
  ∀ (H' : Hp) (v : V), Same H H' → Amt K H' v (Co07.sum qs) → Q v H'
section
variable {P : Program} {w : World} {K : PySem.W.Frag} {mg : Str → Option Value} {base : Heap}
/-! ### common_divisor -/
theorem scGcd : FnScope ["first", "second", "divisor", "rest", "next_rest"] ["first", "second"] (defScope sGcd) := ⟨rfl, rfl, rfl, by decide +kernel, rfl, by decide +kernel, by decide +kernel⟩
theorem ok_gcd {f : Addr} {fd : FuncData} (F : Fun K "common_divisor" "common_divisor" sGcd f fd) : FnOk P w K mg base CX0 1 f fd ["first", "second"] spGcd := by
  refine F.ok scGcd (fun vs H Q E h => ?_) (fun cdv A outer s H vs Q E hr h => ?_)
  · obtain ⟨a, b, rfl, _⟩ := h
    rfl
  · obtain ⟨a, b, rfl, k⟩ := h
    refine ⟨_, pss_cons (ps_set (i := 2) scGcd.nd rfl (Or.inl rfl) (pv 0)) (pss_cons (ps_set (i := 3) scGcd.nd rfl (Or.inl rfl) (pv 1))
      (pss_cons (ps_while PassesOwn.never (pt_cmpR op_gt (pv 3) pe_int (nomark _))
        (pss_cons (ps_set (i := 4) scGcd.nd rfl (Or.inl rfl) (pe_op op_modN (pv 2) (pv 3)))
        (pss_cons (ps_set (i := 2) scGcd.nd rfl (Or.inl rfl) (pv 3)) (pss_one (ps_set (i := 3) scGcd.nd rfl (Or.inl rfl) (pv 4))))))
      (pss_one (ps_ret (pv 2))))), ?_⟩
    refine ⟨_, rfl, _, rfl, ?_⟩
    refine while_by (fun σ H' => H' = H ∧ ∃ (c d : Nat) (z : Option V), σ = [some (.int (a : Int)), some (.int (b : Int)), some (.int (c : Int)), some (.int (d : Int)), z] ∧ Nat.gcd c d = Nat.gcd a b)
      (fun σ _ => match σ with | [_, _, _, some (.int d), _] => d.toNat | _ => 0) ⟨rfl, a, b, none, rfl, rfl⟩ ?_ ?_
    · rintro σ H' ⟨rfl, c, d, z, rfl, g⟩
      refine ⟨_, rfl, _, _, rfl, rfl, _, rfl, ?_⟩
      refine ite2 (fun q => ?_) (fun q => ?_)
      · have hd : 0 < d := by
          have := of_decide_eq_true q
          omega
        refine ⟨_, rfl, _, rfl, _, _, rfl, rfl, (by omega), _, rfl, _, rfl, ⟨rfl, d, c % d, some (.int ((c : Int).fmod (d : Int))), ?_, ?_⟩, ?_⟩
        · have e : (c : Int).fmod (d : Int) = ((c % d : Nat) : Int) := by
            rw [Int.fmod_eq_emod_of_nonneg _ (by omega)]
            rfl
          rw [← e]
          rfl
        · rw [← g, Nat.gcd_comm d (c % d), ← Nat.gcd_rec, Nat.gcd_comm]
        · show ((c : Int).fmod (d : Int)).toNat < (d : Int).toNat
          rw [Int.fmod_eq_emod_of_nonneg _ (by omega)]
          have h1 := Int.emod_lt_of_pos (c : Int) (show (0 : Int) < d by omega)
          have h2 := Int.emod_nonneg (c : Int) (show (d : Int) ≠ 0 by omega)
          omega
      · have hd : d = 0 := by
          have : ¬ (0 : Int) < (d : Int) := fun z => q (decide_eq_true z)
          omega
        subst hd
        refine ⟨_, rfl, ?_⟩
        have e : c = Nat.gcd a b := by rw [← g, Nat.gcd_zero_right]
        rw [e]
        exact k
    · intro σ H' Q1 Q2 hq h
      obtain ⟨v, e1, i, j, e2, e3, kk, e4, q⟩ := h
      exact ⟨v, e1, i, j, e2, e3, kk, e4, hq _ _ q⟩
/-! ### a def of the module, by its name -/
structure Has (P : Program) (w : World) (K : PySem.W.Frag) (mg : Str → Option Value) (base : Heap) (x : Str) (k : Nat) (ps : List Str) (sp : Sp) : Prop where
  ex : ∃ (f : Addr) (fd : FuncData), mg x = some (.ref f) ∧ PySem.W.keepIn K (.ref f) = true ∧ Binds K fd ps [] ∧ FnOk P w K mg base CX0 k f fd ps sp
end
theorem pe_has {X : Cx} {x : Str} {k : Nat} {ps : List Str} {sp : Sp} {p pos : Pos} {e : Expr} {es : List Expr} {t : TA} (D : Has X.prog X.w X.K X.mg X.base x k ps sp) (hr : Room k X.A) (hg : Gl X x) (ha : PA X (e :: es) t)
    (hdb : (x == ("__debug__" : Str)) = false := by decide) (he : starEach (e :: es) X.env = (false, eval e X.env) :: starEach es X.env := by rfl) (hpl : (backTo pos (starEach es X.env)).any (·.1) = false := by rfl) :
    PE X (.Call (.Name x p) (e :: es) [] pos) (tCall sp [] E0 t) := by
  obtain ⟨f, fd, hm, hk, hb, F⟩ := D.ex
  exact pe_call F hr hg hm hk hb .nil pass0 ha hdb he hpl
section
variable {P : Program} {w : World} {K : PySem.W.Frag} {mg : Str → Option Value} {base : Heap}
/-! ### lowest -/
theorem low_pair {i j : Int} (hi : 0 ≤ i) (hj : 0 < j) : (frac i j).num = i / ((Nat.gcd i.toNat j.toNat : Nat) : Int) ∧ ((frac i j).den : Int) = j / ((Nat.gcd i.toNat j.toNat : Nat) : Int) := by
  obtain ⟨a, rfl⟩ : ∃ a : Nat, i = a := ⟨i.toNat, by omega⟩
  obtain ⟨b, rfl⟩ : ∃ b : Nat, j = b := ⟨j.toNat, by omega⟩
  have hb : 0 < b := by omega
  rw [frac_num hb, frac_den hb]
  simp
theorem scLow : FnScope ["above", "below", "divisor"] ["above", "below"] (defScope sLow) := ⟨rfl, rfl, rfl, by decide +kernel, rfl, by decide +kernel, by decide +kernel⟩
theorem ok_low {f : Addr} {fd : FuncData} (F : Fun K "lowest" "lowest" sLow f fd) (G : Has P w K mg base "common_divisor" 1 ["first", "second"] spGcd) : FnOk P w K mg base CX0 2 f fd ["above", "below"] spLow := by
  refine F.ok scLow (fun vs H Q E h => ?_) (fun cdv A outer s H vs Q E hr h => ?_)
  · obtain ⟨a, b, rfl, _⟩ := h
    rfl
  · obtain ⟨i, j, rfl, hi, hj, hb, k⟩ := h
    refine ⟨_, pss_cons (ps_set (i := 2) scLow.nd rfl (Or.inl rfl) (pe_has G hr rfl (pa_cons (pv 0) (pa_cons (pv 1) pa_nil))))
      (pss_one (ps_ret (pe_tup (pa_cons (pe_op op_fdivW (pv 0) (pv 2)) (pa_cons (pe_op op_fdivW (pv 1) (pv 2)) pa_nil))))), ?_⟩
    obtain ⟨a, rfl⟩ : ∃ a : Nat, i = a := ⟨i.toNat, by omega⟩
    obtain ⟨b, rfl⟩ : ∃ b : Nat, j = b := ⟨j.toNat, by omega⟩
    have hb0 : 0 < b := by omega
    have g0 : 0 < Nat.gcd a b := Nat.gcd_pos_of_pos_right _ hb0
    have gb : ((Nat.gcd a b : Nat) : Int).natAbs < 2 ^ 9000 := by
      have h1 := Nat.gcd_le_right a hb0
      rw [Int.natAbs_natCast] at hb ⊢
      omega
    have c : ∀ z : Int, CDivW z ((Nat.gcd a b : Nat) : Int) := fun z => wide_div (by omega) gb (by decide) (by decide)
    refine ⟨_, rfl, _, rfl, a, b, rfl, ?_⟩
    refine ⟨_, rfl, _, rfl, _, _, rfl, rfl, c _, _, rfl, _, rfl, _, _, rfl, rfl, c _, (by show 2 ≤ sizeLine; decide), fun p hp => ?_⟩
    have e := k p hp
    obtain ⟨e1, e2⟩ := low_pair (i := (a : Int)) (j := (b : Int)) (by omega) (by omega)
    rw [e1, e2, Int.toNat_natCast, Int.toNat_natCast] at e
    exact e
/-! ### plus, minus, times, divided -/
theorem amt_new {H : Hp} {p : Addr} {q : Rat} : Amt K (upd H p (.tup [.int q.num, .int (q.den : Int)])) (.ref p) q := ⟨p, rfl, .inl (.inl upd_same)⟩
theorem bits {m n : Nat} {i j : Int} (hi : i.natAbs < 2 ^ m) (hj : j.natAbs < 2 ^ n) (h : m + n ≤ 8990) : CMulW i j := by
  have h1 : i.natAbs < 2 ^ (m + 1) := Nat.lt_of_lt_of_le hi (pow_mono (by omega))
  have h2 : j.natAbs < 2 ^ (n + 1) := Nat.lt_of_lt_of_le hj (pow_mono (by omega))
  exact wide_mul h1 h2 (by omega) (by omega) (by omega)
theorem Sz.d {n : Nat} {q : Rat} (h : Sz n q) : (q.den : Int).natAbs < 2 ^ n := by rw [Int.natAbs_natCast]; exact h.2
theorem lim {n : Nat} {i : Int} (h : i.natAbs < 2 ^ n) (l : n ≤ 9000) : i.natAbs < 2 ^ 9000 := Nat.lt_of_lt_of_le h (pow_mono l)
theorem scPlus : FnScope ["first", "second"] ["first", "second"] (defScope sPlus) := ⟨rfl, rfl, rfl, by decide +kernel, rfl, by decide +kernel, by decide +kernel⟩
theorem ok_plus {f : Addr} {fd : FuncData} (F : Fun K "plus" "plus" sPlus f fd) (G : Has P w K mg base "lowest" 2 ["above", "below"] spLow) : FnOk P w K mg base CX0 3 f fd ["first", "second"] (spOp K (fun p q => p + q) fun _ _ => True) := by
  refine F.ok scPlus (fun vs H Q E h => ?_) (fun cdv A outer s H vs Q E hr h => ?_)
  · obtain ⟨x, y, p, q, m, n, rfl, _⟩ := h
    rfl
  · obtain ⟨x, y, p, q, m, n, rfl, ⟨a, rfl, ha⟩, ⟨b, rfl, hb⟩, hm, hn, hmn, hp, hq, _, k⟩ := h
    refine ⟨_, pss_one (ps_ret (pe_has G hr rfl (pa_cons (pe_op op_add (pe_op op_mulW (pe_ix ix_tup (pv 0) pe_int (fun _ _ => rfl)) (pe_ix ix_tup (pv 1) pe_int (fun _ _ => rfl))) (pe_op op_mulW (pe_ix ix_tup (pv 1) pe_int (fun _ _ => rfl)) (pe_ix ix_tup (pv 0) pe_int (fun _ _ => rfl))))
      (pa_cons (pe_op op_mulW (pe_ix ix_tup (pv 0) pe_int (fun _ _ => rfl)) (pe_ix ix_tup (pv 1) pe_int (fun _ _ => rfl))) pa_nil)))), ?_⟩
    refine ⟨_, rfl, a, _, _, _, rfl, rfl, ha, rfl, _, rfl, b, _, _, _, rfl, rfl, hb, rfl, _, _, rfl, rfl, bits hm.1 hn.d (by omega), ?_⟩
    refine ⟨_, rfl, b, _, _, _, rfl, rfl, hb, rfl, _, rfl, a, _, _, _, rfl, rfl, ha, rfl, _, _, rfl, rfl, bits hn.1 hm.d (by omega), _, _, rfl, rfl, ?_⟩
    refine ⟨_, rfl, a, _, _, _, rfl, rfl, ha, rfl, _, rfl, b, _, _, _, rfl, rfl, hb, rfl, _, _, rfl, rfl, bits hm.d hn.d (by omega), ?_⟩
    refine ⟨_, _, rfl, Int.add_nonneg (Int.mul_nonneg (nnon hp) (Int.le_of_lt (dpos q))) (Int.mul_nonneg (nnon hq) (Int.le_of_lt (dpos p))), Int.mul_pos (dpos p) (dpos q), lim (raw_dd hm hn) (by omega), fun c hc => ?_⟩
    rw [frac_add]
    exact k _ _ (same_new hc) amt_new
theorem scMinus : FnScope ["first", "second"] ["first", "second"] (defScope sMinus) := ⟨rfl, rfl, rfl, by decide +kernel, rfl, by decide +kernel, by decide +kernel⟩
theorem ok_minus {f : Addr} {fd : FuncData} (F : Fun K "minus" "minus" sMinus f fd) (G : Has P w K mg base "lowest" 2 ["above", "below"] spLow) : FnOk P w K mg base CX0 3 f fd ["first", "second"] (spOp K (fun p q => p - q) fun p q => q ≤ p) := by
  refine F.ok scMinus (fun vs H Q E h => ?_) (fun cdv A outer s H vs Q E hr h => ?_)
  · obtain ⟨x, y, p, q, m, n, rfl, _⟩ := h
    rfl
  · obtain ⟨x, y, p, q, m, n, rfl, ⟨a, rfl, ha⟩, ⟨b, rfl, hb⟩, hm, hn, hmn, hp, hq, hle, k⟩ := h
    refine ⟨_, pss_one (ps_ret (pe_has G hr rfl (pa_cons (pe_op op_sub (pe_op op_mulW (pe_ix ix_tup (pv 0) pe_int (fun _ _ => rfl)) (pe_ix ix_tup (pv 1) pe_int (fun _ _ => rfl))) (pe_op op_mulW (pe_ix ix_tup (pv 1) pe_int (fun _ _ => rfl)) (pe_ix ix_tup (pv 0) pe_int (fun _ _ => rfl))))
      (pa_cons (pe_op op_mulW (pe_ix ix_tup (pv 0) pe_int (fun _ _ => rfl)) (pe_ix ix_tup (pv 1) pe_int (fun _ _ => rfl))) pa_nil)))), ?_⟩
    refine ⟨_, rfl, a, _, _, _, rfl, rfl, ha, rfl, _, rfl, b, _, _, _, rfl, rfl, hb, rfl, _, _, rfl, rfl, bits hm.1 hn.d (by omega), ?_⟩
    refine ⟨_, rfl, b, _, _, _, rfl, rfl, hb, rfl, _, rfl, a, _, _, _, rfl, rfl, ha, rfl, _, _, rfl, rfl, bits hn.1 hm.d (by omega), _, _, rfl, rfl, ?_⟩
    refine ⟨_, rfl, a, _, _, _, rfl, rfl, ha, rfl, _, rfl, b, _, _, _, rfl, rfl, hb, rfl, _, _, rfl, rfl, bits hm.d hn.d (by omega), ?_⟩
    refine ⟨_, _, rfl, raw_sub0 hle, Int.mul_pos (dpos p) (dpos q), lim (raw_dd hm hn) (by omega), fun c hc => ?_⟩
    rw [frac_sub]
    exact k _ _ (same_new hc) amt_new
theorem scTimes : FnScope ["first", "second"] ["first", "second"] (defScope sTimes) := ⟨rfl, rfl, rfl, by decide +kernel, rfl, by decide +kernel, by decide +kernel⟩
theorem ok_times {f : Addr} {fd : FuncData} (F : Fun K "times" "times" sTimes f fd) (G : Has P w K mg base "lowest" 2 ["above", "below"] spLow) : FnOk P w K mg base CX0 3 f fd ["first", "second"] (spOp K (fun p q => p * q) fun _ _ => True) := by
  refine F.ok scTimes (fun vs H Q E h => ?_) (fun cdv A outer s H vs Q E hr h => ?_)
  · obtain ⟨x, y, p, q, m, n, rfl, _⟩ := h
    rfl
  · obtain ⟨x, y, p, q, m, n, rfl, ⟨a, rfl, ha⟩, ⟨b, rfl, hb⟩, hm, hn, hmn, hp, hq, _, k⟩ := h
    refine ⟨_, pss_one (ps_ret (pe_has G hr rfl (pa_cons (pe_op op_mulW (pe_ix ix_tup (pv 0) pe_int (fun _ _ => rfl)) (pe_ix ix_tup (pv 1) pe_int (fun _ _ => rfl)))
      (pa_cons (pe_op op_mulW (pe_ix ix_tup (pv 0) pe_int (fun _ _ => rfl)) (pe_ix ix_tup (pv 1) pe_int (fun _ _ => rfl))) pa_nil)))), ?_⟩
    refine ⟨_, rfl, a, _, _, _, rfl, rfl, ha, rfl, _, rfl, b, _, _, _, rfl, rfl, hb, rfl, _, _, rfl, rfl, bits hm.1 hn.1 (by omega), ?_⟩
    refine ⟨_, rfl, a, _, _, _, rfl, rfl, ha, rfl, _, rfl, b, _, _, _, rfl, rfl, hb, rfl, _, _, rfl, rfl, bits hm.d hn.d (by omega), ?_⟩
    refine ⟨_, _, rfl, Int.mul_nonneg (nnon hp) (nnon hq), Int.mul_pos (dpos p) (dpos q), lim (raw_dd hm hn) (by omega), fun c hc => ?_⟩
    rw [frac_mul]
    exact k _ _ (same_new hc) amt_new
theorem scDiv : FnScope ["first", "second"] ["first", "second"] (defScope sDiv) := ⟨rfl, rfl, rfl, by decide +kernel, rfl, by decide +kernel, by decide +kernel⟩
theorem ok_div {f : Addr} {fd : FuncData} (F : Fun K "divided" "divided" sDiv f fd) (G : Has P w K mg base "lowest" 2 ["above", "below"] spLow) : FnOk P w K mg base CX0 3 f fd ["first", "second"] (spOp K (fun p q => p / q) fun _ q => 0 < q) := by
  refine F.ok scDiv (fun vs H Q E h => ?_) (fun cdv A outer s H vs Q E hr h => ?_)
  · obtain ⟨x, y, p, q, m, n, rfl, _⟩ := h
    rfl
  · obtain ⟨x, y, p, q, m, n, rfl, ⟨a, rfl, ha⟩, ⟨b, rfl, hb⟩, hm, hn, hmn, hp, hq, hpos, k⟩ := h
    refine ⟨_, pss_one (ps_ret (pe_has G hr rfl (pa_cons (pe_op op_mulW (pe_ix ix_tup (pv 0) pe_int (fun _ _ => rfl)) (pe_ix ix_tup (pv 1) pe_int (fun _ _ => rfl)))
      (pa_cons (pe_op op_mulW (pe_ix ix_tup (pv 0) pe_int (fun _ _ => rfl)) (pe_ix ix_tup (pv 1) pe_int (fun _ _ => rfl))) pa_nil)))), ?_⟩
    refine ⟨_, rfl, a, _, _, _, rfl, rfl, ha, rfl, _, rfl, b, _, _, _, rfl, rfl, hb, rfl, _, _, rfl, rfl, bits hm.1 hn.d (by omega), ?_⟩
    refine ⟨_, rfl, a, _, _, _, rfl, rfl, ha, rfl, _, rfl, b, _, _, _, rfl, rfl, hb, rfl, _, _, rfl, rfl, bits hm.d hn.1 (by omega), ?_⟩
    refine ⟨_, _, rfl, Int.mul_nonneg (nnon hp) (Int.le_of_lt (dpos q)), Int.mul_pos (dpos p) (npos hpos), lim (raw_dn hm hn) (by omega), fun c hc => ?_⟩
    rw [frac_div hpos]
    exact k _ _ (same_new hc) amt_new
/-! ### is_less, lesser -/
theorem scLess : FnScope ["first", "second"] ["first", "second"] (defScope sLess) := ⟨rfl, rfl, rfl, by decide +kernel, rfl, by decide +kernel, by decide +kernel⟩
theorem ok_less {f : Addr} {fd : FuncData} (F : Fun K "is_less" "is_less" sLess f fd) : FnOk P w K mg base CX0 1 f fd ["first", "second"] (spLess K) := by
  refine F.ok scLess (fun vs H Q E h => ?_) (fun cdv A outer s H vs Q E hr h => ?_)
  · obtain ⟨x, y, p, q, m, n, rfl, _⟩ := h
    rfl
  · obtain ⟨x, y, p, q, m, n, rfl, ⟨a, rfl, ha⟩, ⟨b, rfl, hb⟩, hm, hn, hmn, k⟩ := h
    refine ⟨_, pss_one (ps_ret (pe_cmpR op_lt (pe_op op_mulW (pe_ix ix_tup (pv 0) pe_int (fun _ _ => rfl)) (pe_ix ix_tup (pv 1) pe_int (fun _ _ => rfl))) (pe_op op_mulW (pe_ix ix_tup (pv 1) pe_int (fun _ _ => rfl)) (pe_ix ix_tup (pv 0) pe_int (fun _ _ => rfl))) (nomark _))), ?_⟩
    refine ⟨_, rfl, a, _, _, _, rfl, rfl, ha, rfl, _, rfl, b, _, _, _, rfl, rfl, hb, rfl, _, _, rfl, rfl, bits hm.1 hn.d (by omega), ?_⟩
    refine ⟨_, rfl, b, _, _, _, rfl, rfl, hb, rfl, _, rfl, a, _, _, _, rfl, rfl, ha, rfl, _, _, rfl, rfl, bits hn.1 hm.d (by omega), _, _, rfl, rfl, ?_⟩
    show Q (.bl (decide (p.num * (q.den : Int) < q.num * (p.den : Int)))) H
    rw [show decide (p.num * (q.den : Int) < q.num * (p.den : Int)) = decide (p < q) from decide_eq_decide.mpr (less_iff p q)]
    exact k
theorem scLesser : FnScope ["first", "second"] ["first", "second"] (defScope sLesser) := ⟨rfl, rfl, rfl, by decide +kernel, rfl, by decide +kernel, by decide +kernel⟩
theorem ok_lesser {f : Addr} {fd : FuncData} (F : Fun K "lesser" "lesser" sLesser f fd) (G : Has P w K mg base "is_less" 1 ["first", "second"] (spLess K)) : FnOk P w K mg base CX0 2 f fd ["first", "second"] (spLesser K) := by
  refine F.ok scLesser (fun vs H Q E h => ?_) (fun cdv A outer s H vs Q E hr h => ?_)
  · obtain ⟨x, y, p, q, m, n, rfl, _⟩ := h
    rfl
  · obtain ⟨x, y, p, q, m, n, rfl, ha, hb, hm, hn, hmn, k⟩ := h
    refine ⟨_, pss_cons (ps_if (pt_val (pe_has G hr rfl (pa_cons (pv 1) (pa_cons (pv 0) pa_nil)))) (pss_one (ps_ret (pv 1))) pss_nil) (pss_one (ps_ret (pv 0))), ?_⟩
    refine ⟨_, rfl, _, rfl, y, x, q, p, n, m, rfl, hb, ha, hn, hm, by omega, _, rfl, ?_⟩
    refine ite2 (fun c => ?_) (fun c => ?_)
    · refine ⟨_, rfl, k _ ?_⟩
      have c' : q < p := of_decide_eq_true c
      have e : min p q = q := by grind
      rw [e]
      exact hb
    · refine ⟨_, rfl, k _ ?_⟩
      have c' : ¬ q < p := fun z => c (decide_eq_true z)
      have e : min p q = p := by grind
      rw [e]
      exact ha
/-- the module's ZERO -/
structure Zero (K : PySem.W.Frag) (mg : Str → Option Value) : Prop where
  ex : ∃ z : Addr, mg "ZERO" = some (.ref z) ∧ ∀ H : Hp, SqT K H z [.int 0, .int 1]
theorem zero_amt {z : Addr} {H : Hp} (h : SqT K H z [.int 0, .int 1]) : Amt K H (.ref z) 0 := ⟨z, rfl, h⟩
/-! ### together -/
theorem take_succ {α : Type} {l : List α} {i : Nat} {x : α} (h : l[i]? = some x) : l.take (i + 1) = l.take i ++ [x] := by
  rw [List.take_add_one, h]
  rfl
theorem scTog : FnScope ["amounts", "result", "amount"] ["amounts"] (defScope sTog) := ⟨rfl, rfl, rfl, by decide +kernel, rfl, by decide +kernel, by decide +kernel⟩
theorem ok_tog {f : Addr} {fd : FuncData} (F : Fun K "together" "together" sTog f fd) (Z : Zero K mg) (G : Has P w K mg base "plus" 3 ["first", "second"] (spOp K (fun p q => p + q) fun _ _ => True)) : FnOk P w K mg base CX0 4 f fd ["amounts"] (spTog K) := by
  refine F.ok scTog (fun vs H Q E h => ?_) (fun cdv A outer s H vs Q E hr h => ?_)
  · obtain ⟨a, xs, qs, n, rfl, _⟩ := h
    rfl
  · obtain ⟨a, xs, qs, n, rfl, hS, hA, hl, hq, hn, k⟩ := h
    obtain ⟨z, mz, hz⟩ := Z.ex
    refine ⟨_, pss_cons (ps_set (i := 1) scTog.nd rfl (Or.inl rfl) (pe_glob (v := .ref z) rfl mz rfl))
      (pss_cons (ps_for PassesOwn.never rfl (pi_list (pv 0)) (pg_name (i := 2) scTog.nd rfl (Or.inl rfl))
        (pss_one (ps_set (i := 1) scTog.nd rfl (Or.inl rfl) (pe_has G hr rfl (pa_cons (pv 1) (pa_cons (pv 2) pa_nil))))))
      (pss_one (ps_ret (pv 1)))), ?_⟩
    refine ⟨_, rfl, a, rfl, ⟨_, hS⟩, for_list (K := K) (a := a) (xs := xs) (fun i σ H' => ∃ (v : V) (u : Option V), σ = [some (.ref a), some v, u] ∧ Same H H' ∧ Amt K H' v (Co07.sum (qs.take i)))
      ⟨.ref z, none, rfl, Same.refl H, zero_amt (hz H)⟩ (fun i σ H' _ ⟨_, _, _, s1, _⟩ => s1.seq hS) ?_ ?_⟩
    · rintro i x σ H' hi ⟨v, u, rfl, s1, hv⟩
      obtain ⟨q, hqi, hx⟩ := hA.get hi
      have hmem : q ∈ qs := List.mem_of_getElem? hqi
      have hil : i < qs.length := (List.getElem?_eq_some_iff.mp hqi).1
      have hpre : ∀ y ∈ qs.take i, 0 ≤ y ∧ Sz n y := fun y hy => hq y (List.mem_of_mem_take hy)
      have hszp : Sz (1 + (n + 1) * 7) (Co07.sum (qs.take i)) := (sz_sum _ fun y hy => (hpre y hy).2).mono (by
        have h1 : (qs.take i).length ≤ 7 := by rw [List.length_take]; omega
        have := Nat.mul_le_mul_left (n + 1) h1
        omega)
      refine ⟨_, rfl, _, rfl, v, x, Co07.sum (qs.take i), q, 1 + (n + 1) * 7, n, rfl, hv, hx.same s1, hszp, (hq q hmem).2, by omega, sum_nonneg _ fun y hy => (hpre y hy).1, (hq q hmem).1, trivial, fun H2 v2 s2 h2 => ?_⟩
      refine ⟨v2, some x, rfl, s1.trans s2, ?_⟩
      rw [take_succ hqi, sum_app]
      exact h2
    · rintro σ H' ⟨v, u, rfl, s1, hv⟩
      refine ⟨_, rfl, k _ _ s1 ?_⟩
      rw [hA.len, List.take_length] at hv
      exact hv
end
end Cs

set_option Elab.async false
set_option linter.all false
set_option maxRecDepth 100000
set_option maxHeartbeats 2000000
namespace Cs
open PySem L2
abbrev sParts : Stmt := top 16
abbrev sLevel : Stmt := top 17
abbrev sGains : Stmt := top 18
abbrev sLessL : Stmt := top 19
abbrev sLosses : Stmt := top 20
abbrev sAgree : Stmt := top 21
abbrev sRule : Stmt := top 22
/-! ### tuples stay -/
def TK (H H' : Hp) : Prop := ∀ (b : Addr) (xs : List V), Rd H b (.tup xs) → Rd H' b (.tup xs)
theorem TK.amt {K : PySem.W.Frag} {H H' : Hp} {v : V} {q : Rat} (e : TK H H') (a : Amt K H v q) : Amt K H' v q := by
  obtain ⟨p, rfl, h⟩ := a
  rcases h with h | h
  · exact ⟨p, rfl, .inl (e _ _ h)⟩
  · exact ⟨p, rfl, .inr h⟩
theorem TK.amts {K : PySem.W.Frag} {H H' : Hp} {vs : List V} {qs : List Rat} (e : TK H H') (a : Amts K H vs qs) : Amts K H' vs qs := ⟨a.len, fun i v q h1 h2 => e.amt (a.at_ i v q h1 h2)⟩
theorem tk_lst {H : Hp} {D : Addr} {acc acc' : List V} (h : H D = some (.lst acc)) : TK H (upd H D (.lst acc')) := fun b xs r => by
  have nb : b ≠ D := fun z => by
    rw [z] at r
    rcases r with r | ⟨o, r⟩ <;> rw [h] at r <;> cases r
  rcases r with r | ⟨o, r⟩
  · exact .inl (by rw [upd_ne nb]; exact r)
  · exact .inr ⟨o, by rw [upd_ne nb]; exact r⟩
theorem same_write {H H' : Hp} {D : Addr} {o : HO} (s : Same H H') (h : H D = Option.none) : Same H (upd H' D o) := fun b u e => by
  rw [upd_ne (ne_of_none e h)]
  exact s b u e
/-- [f(x) for x in xs], amounts from amounts -/
theorem lc_amts {K : PySem.W.Frag} {a D : Addr} {xs : List V} {qs : List Rat} {te : TE} {j : Nat} {σ : L2.St} {H1 : Hp} {Qd : Hp → Prop} (f : Rat → Rat) (hS : SqL K H1 a xs) (hA : Amts K H1 xs qs) (hlen : qs.length ≤ 8) (hD : H1 D = Option.none)
    (step : ∀ (i : Nat) (x : V) (q : Rat) (H' : Hp), qs[i]? = some q → Same H1 H' → Amt K H' x q → ∀ R : VK, (∀ y H4, Same H' H4 → Amt K H4 y (f q) → R y H4) → te ((wipe σ [j]).set j (some x)) H' R)
    (fin : ∀ (H' : Hp) (ys : List V), Same H1 H' → H' D = some (.lst ys) → Amts K H' ys (qs.map f) → Qd H') :
    ∃ W : Nat → Nat → Hp → Prop, (∃ m, W 0 m (upd H1 D (.lst []))) ∧ ∀ i m H, W i m H →
      ((Itl K a).stop i H ∧ Qd H) ∨ ((Itl K a).go i H ∧ ∃ Nx : Hp → Prop, (∀ H', Nx H' → ∃ m', m' < m ∧ W (i + 1) m' H') ∧ ∀ x H', (Itl K a).yld i H x H' → gName j x (wipe σ [j]) H' fun σ2 H2 => wipe σ2 [j] = wipe σ [j] ∧ tYes σ2 H2 fun b H3 =>
        if b = true then te σ2 H3 fun y H4 => ∃ acc, H4 D = some (.lst acc) ∧ acc.length < sizeLine ∧ Nx (upd H4 D (.lst (acc ++ [y]))) else Nx H3) := by
  refine lc_list (K := K) (a := a) (xs := xs) (fun i H' => Same H1 H' ∧ ∃ acc, H' D = some (.lst acc) ∧ Amts K H' acc ((qs.take i).map f)) ⟨same_new hD, [], upd_same, Amts.nil⟩ (fun i H' _ ⟨s1, _⟩ => s1.seq hS) ?_ ?_
  · rintro i x H' hi ⟨s1, acc, hacc, hAc⟩
    obtain ⟨q, hq, hx⟩ := hA.get hi
    refine ⟨?_, ?_⟩
    · show ((σ.set j none).set j (some x)).set j none = σ.set j none
      rw [List.set_set, List.set_set]
    · unfold tYes
      refine iteT (step i x q H' hq s1 (hx.same s1) _ fun y H4 s4 h4 => ?_)
      refine ⟨acc, s4 _ _ hacc, ?_, same_write (s1.trans s4) hD, acc ++ [y], upd_same, ?_⟩
      · have h1 := hAc.len
        rw [List.length_map, List.length_take] at h1
        exact Nat.lt_of_le_of_lt (show acc.length ≤ 8 by omega) (by decide)
      · rw [take_succ hq, List.map_append]
        exact (tk_lst (s4 _ _ hacc)).amts ((hAc.ext (LamX.ExtN.of s4)).snoc h4)
  · rintro H' ⟨s1, acc, hacc, hAc⟩
    rw [hA.len, List.take_length] at hAc
    exact fin H' acc s1 hacc hAc
/-! ### new addresses: nothing but a table stood there -/
def Fr (H : Hp) (b : Addr) : Prop := ∀ o, H b = some o → ∃ ps, o = HO.tbl ps
theorem Fr.back {H H1 : Hp} {b : Addr} (e : LamX.ExtN H H1) (h : Fr H1 b) : Fr H b := fun o ho => Classical.byContradiction fun n => by
  obtain ⟨ps, z⟩ := h o (e _ _ ho fun ps z => n ⟨ps, z⟩)
  exact n ⟨ps, z⟩
theorem Fr.none {H : Hp} {b : Addr} (h : H b = Option.none) : Fr H b := fun o ho => by
  rw [h] at ho
  cases ho
theorem Fr.of {H H1 : Hp} {b : Addr} (e : LamX.ExtN H H1) (h : H1 b = Option.none) : Fr H b := Fr.back e (Fr.none h)
/-! ### promises -/
structure Cl (n : Nat) (qs : List Rat) : Prop where
  len : qs.length ≤ 8
  pos : ∀ q ∈ qs, 0 < q
  sz : ∀ q ∈ qs, Sz n q
theorem Cl.nn {n : Nat} {qs : List Rat} (C : Cl n qs) : ∀ q ∈ qs, 0 ≤ q := fun q h => Rat.le_of_lt (C.pos q h)
theorem Cl.up {n : Nat} {qs : List Rat} (C : Claims qs) (h : 20 ≤ n) : Cl n qs := ⟨C.len, C.pos, fun q hq => (C.sz q hq).mono h⟩
theorem Cl.half {qs : List Rat} (C : Claims qs) : Cl 21 (halves qs) := ⟨C.half.2.2, halves_pos C.pos, C.half.2.1⟩
def spAsc (T : List (Addr × Str)) (K : PySem.W.Frag) : Sp := fun vs H Q _ => ∃ (a : Addr) (xs : List V) (qs : List Rat), vs = [.ref a] ∧ SqL K H a xs ∧ Amts K H xs qs ∧ Cl 21 qs ∧ LamX.Tabs T H ∧
  ∀ (H' : Hp) (b : Addr) (ys : List V), Up T H H' → H' b = some (.lst ys) → Amts K H' ys (Co07.sorted qs) → Q (.ref b) H'
def spLevel (T : List (Addr × Str)) (K : PySem.W.Frag) : Sp := fun vs H Q _ => ∃ (a : Addr) (xs : List V) (qs : List Rat) (y : V) (e : Rat) (m : Nat), vs = [.ref a, y] ∧ SqL K H a xs ∧ Amts K H xs qs ∧ Cl 21 qs ∧ LamX.Tabs T H ∧ Amt K H y e ∧ 0 ≤ e ∧ Sz m e ∧ m ≤ 8000 ∧
  ∀ (H' : Hp) (v : V), Up T H H' → Amt K H' v (level qs e) → Q v H'
def spRule (T : List (Addr × Str)) (K : PySem.W.Frag) (n mx : Nat) (f : List Rat → Rat → List Rat) (pre : List Rat → Rat → Prop) : Sp := fun vs H Q _ => ∃ (a : Addr) (xs : List V) (qs : List Rat) (y : V) (e : Rat) (m : Nat), vs = [.ref a, y] ∧ SqL K H a xs ∧ Amts K H xs qs ∧ Cl n qs ∧ LamX.Tabs T H ∧
  Amt K H y e ∧ 0 ≤ e ∧ Sz m e ∧ m ≤ mx ∧ pre qs e ∧ ∀ (H' : Hp) (b : Addr) (ys : List V), Up T H H' → Fr H b → H' b = some (.lst ys) → Amts K H' ys (f qs e) → Q (.ref b) H'
def spLessL (K : PySem.W.Frag) : Sp := fun vs H Q _ => ∃ (a b : Addr) (xs ys : List V) (qs rs : List Rat), vs = [.ref a, .ref b] ∧ SqL K H a xs ∧ SqL K H b ys ∧ Amts K H xs qs ∧ Amts K H ys rs ∧ qs.length ≤ 8 ∧ rs.length = qs.length ∧
  (∀ (i : Nat) (q r : Rat), qs[i]? = some q → rs[i]? = some r → 0 ≤ r ∧ r ≤ q ∧ Sz 20 q ∧ Sz 8500 r) ∧ ∀ (H' : Hp) (c : Addr) (zs : List V), Same H H' → Fr H c → H' c = some (.lst zs) → Amts K H' zs (less qs rs) → Q (.ref c) H'
def spShare (T : List (Addr × Str)) (K : PySem.W.Frag) : Sp := fun vs H Q _ => ∃ (r : Nat) (a : Addr) (xs : List V) (qs : List Rat) (y : V) (e : Rat) (m : Nat), vs = [.int (r : Int), .ref a, y] ∧ SqL K H a xs ∧ Amts K H xs qs ∧ Claims qs ∧ LamX.Tabs T H ∧
  Amt K H y e ∧ 0 ≤ e ∧ e ≤ Co07.sum qs ∧ Sz m e ∧ m ≤ 7600 ∧ ∀ (H' : Hp) (b : Addr) (ys : List V), Up T H H' → Fr H b → H' b = some (.lst ys) → Amts K H' ys (within r qs e) → Q (.ref b) H'
theorem up_lst {H : Hp} {K : PySem.W.Frag} {b : Addr} {ys : List V} (h : H b = some (.lst ys)) : SqL K H b ys := .inl (.inl h)
section
variable {P : Program} {w : World} {K : PySem.W.Frag} {mg : Str → Option Value} {base : Heap} {T : List (Addr × Str)}
/-! ### by_parts -/
theorem scParts : FnScope ["claims", "has", "claimed", "claim"] ["claims", "has"] (defScope sParts) := ⟨rfl, rfl, rfl, by decide +kernel, rfl, by decide +kernel, by decide +kernel⟩
theorem ok_parts {f : Addr} {fd : FuncData} (F : Fun K "by_parts" "by_parts" sParts f fd) (GT : Has P w K mg base "together" 4 ["amounts"] (spTog K)) (GM : Has P w K mg base "times" 3 ["first", "second"] (spOp K (fun p q => p * q) fun _ _ => True))
    (GD : Has P w K mg base "divided" 3 ["first", "second"] (spOp K (fun p q => p / q) fun _ q => 0 < q)) : FnOk P w K mg base CX0 5 f fd ["claims", "has"] (spRule T K 20 7800 parts fun _ _ => True) := by
  refine F.ok scParts (fun vs H Q E h => ?_) (fun cdv A outer s H vs Q E hr h => ?_)
  · obtain ⟨a, xs, qs, y, e, m, rfl, _⟩ := h
    rfl
  · obtain ⟨a, xs, qs, y, e, m, rfl, hS, hA, C, hT, hy, he, hm, hm8, _, k⟩ := h
    have hr3 : Room 3 _ := hr.mono (by decide)
    refine ⟨_, pss_cons (ps_set (i := 2) scParts.nd rfl (Or.inr rfl) (pe_has GT hr rfl (pa_cons (pv 0) pa_nil)))
      (pss_one (ps_ret (pe_lc (own := [("claim", 3)]) (g := gName 3) (tt := tYes) rfl scParts.nd (pi_list (pv 0)) (blkOk_by (N := ["claims", "has", "claimed", "claim"]) (sc := defScope sParts) (by decide +kernel))
        (fun _ _ _ _ _ => pg_name (i := 3) scParts.nd rfl (Or.inl rfl)) (fun _ _ _ _ _ => pts_nil)
        (fun _ _ _ _ _ => pe_has GD hr3 rfl (pa_cons (pe_has GM hr3 rfl (pa_cons (pv 3) (pa_cons (pv 1) pa_nil))) (pa_cons (pv 2) pa_nil)))))), ?_⟩
    refine ⟨_, rfl, a, xs, qs, 20, rfl, hS, hA, C.len, fun q hq => ⟨C.nn q hq, C.sz q hq⟩, by omega, fun H1 v1 s1 h1 => ?_⟩
    refine ⟨_, rfl, a, rfl, ⟨_, s1.seq hS⟩, fun D hD => lc_amts (fun c => c * e / Co07.sum qs) (s1.seq hS) (hA.ext (LamX.ExtN.of s1)) C.len hD (fun i x q H' hq s2 hx R hR => ?_) fun H' ys s2 hb hys => ?_⟩
    · have hmem := List.mem_of_getElem? hq
      have sp := sum_pos qs C.pos (List.ne_nil_of_mem hmem)
      have ssz : Sz 169 (Co07.sum qs) := sz_sum8 C.len C.sz
      refine ⟨_, rfl, _, rfl, x, y, q, e, 20, m, rfl, hx, hy.same (s1.trans s2), C.sz q hmem, hm, by omega, C.nn q hmem, he, trivial, fun H3 v3 s3 h3 => ?_⟩
      refine ⟨_, rfl, v3, v1, q * e, Co07.sum qs, 20 + m, 169, rfl, h3, h1.same (s2.trans s3), sz_mul (C.sz q hmem) hm, ssz, by omega, Rat.mul_nonneg (C.nn q hmem) he, Rat.le_of_lt sp, sp, fun H4 v4 s4 h4 => ?_⟩
      exact hR v4 H4 (s3.trans s4) h4
    · exact k H' D ys (Up.same (s1.trans s2)) (Fr.of (LamX.ExtN.of s1) hD) hb hys
/-! ### gains_level -/
theorem scLevel : FnScope ["claims", "has", "level", "left", "count", "claim"] ["claims", "has"] (defScope sLevel) := ⟨rfl, rfl, rfl, by decide +kernel, rfl, by decide +kernel, by decide +kernel⟩
theorem drop_at {α : Type} {l : List α} {i : Nat} {x : α} (h : l[i]? = some x) : l.drop i = x :: l.drop (i + 1) := by
  obtain ⟨h1, h2⟩ := List.getElem?_eq_some_iff.mp h
  rw [List.drop_eq_getElem_cons h1, h2]
theorem ok_level {f : Addr} {fd : FuncData} (F : Fun K "gains_level" "gains_level" sLevel f fd) (Z : Zero K mg) (zl : mg "len" = none) (GA : Has P w K mg base "ascending" 4 ["amounts"] (spAsc T K)) (GD : Has P w K mg base "divided" 3 ["first", "second"] (spOp K (fun p q => p / q) fun _ q => 0 < q))
    (GL : Has P w K mg base "is_less" 1 ["first", "second"] (spLess K)) (GM : Has P w K mg base "minus" 3 ["first", "second"] (spOp K (fun p q => p - q) fun p q => q ≤ p)) : FnOk P w K mg base CX0 5 f fd ["claims", "has"] (spLevel T K) := by
  refine F.ok scLevel (fun vs H Q E h => ?_) (fun cdv A outer s H vs Q E hr h => ?_)
  · obtain ⟨a, xs, qs, y, e, m, rfl, _⟩ := h
    rfl
  · obtain ⟨a, xs, qs, y, e, m, rfl, hS, hA, C, hT, hy, he, hm, hm8, k⟩ := h
    obtain ⟨z, mz, hz⟩ := Z.ex
    have hr3 : Room 3 _ := hr.mono (by decide)
    have hr1 : Room 1 _ := hr.mono (by decide)
    refine ⟨_, pss_cons (ps_set (i := 2) scLevel.nd rfl (Or.inl rfl) (pe_glob (v := .ref z) rfl mz rfl)) (pss_cons (ps_set (i := 3) scLevel.nd rfl (Or.inl rfl) (pv 1))
      (pss_cons (ps_set (i := 4) scLevel.nd rfl (Or.inl rfl) (pe_callB call_len_seq (by rfl) zl PySem.boot_len (pa_cons (pv 0) pa_nil)))
      (pss_cons (ps_for PassesOwn.never rfl (pi_list (pe_has GA hr rfl (pa_cons (pv 0) pa_nil))) (pg_name (i := 5) scLevel.nd rfl (Or.inl rfl))
        (pss_cons (ps_set (i := 2) scLevel.nd rfl (Or.inl rfl) (pe_has GD hr3 rfl (pa_cons (pv 3) (pa_cons (pe_tup (pa_cons (pv 4) (pa_cons pe_int pa_nil))) pa_nil))))
        (pss_cons (ps_if (pt_val (pe_has GL hr1 rfl (pa_cons (pv 2) (pa_cons (pv 5) pa_nil)))) (pss_one ps_break) pss_nil)
        (pss_cons (ps_set (i := 3) scLevel.nd rfl (Or.inl rfl) (pe_has GM hr3 rfl (pa_cons (pv 3) (pa_cons (pv 5) pa_nil))))
        (pss_one (ps_aug (i := 4) scLevel.nd rfl (Or.inl rfl) pe_int ip_sub))))))
      (pss_one (ps_ret (pv 2)))))), ?_⟩
    have hxl : xs.length = qs.length := hA.len
    refine ⟨_, rfl, _, rfl, a, _, rfl, .inl hS, ?_⟩
    refine ⟨_, rfl, a, xs, qs, rfl, hS, hA, C, hT, fun H1 b ys u1 hb hB => ?_⟩
    have hSb : SqL K H1 b ys := up_lst hb
    have hsl : ys.length = (Co07.sorted qs).length := hB.len
    have hsq : (Co07.sorted qs).length = qs.length := sorted_len qs
    refine ⟨b, rfl, ⟨_, hSb⟩, for_list (K := K) (a := b) (xs := ys) (fun i σ H' => ∃ (v l : V) (lv e' : Rat) (u : Option V), σ = [some (.ref a), some y, some v, some l, some (.int ((qs.length - i : Nat) : Int)), u] ∧ Same H1 H' ∧ Amt K H' v lv ∧ Amt K H' l e' ∧
        lev ((Co07.sorted qs).drop i) lv e' = level qs e ∧ 0 ≤ e' ∧ Sz (m + 21 * i) e')
      ⟨.ref z, y, 0, e, none, ?_, Same.refl H1, zero_amt (hz H1), hy.ext u1.ext, by rw [List.drop_zero]; rfl, he, hm⟩ (fun i σ H' _ ⟨_, _, _, _, _, _, s1, _⟩ => s1.seq hSb) ?_ ?_⟩
    · rw [hxl]
      rfl
    · rintro i x σ H' hi ⟨v, l, lv, e', u, rfl, s1, hv, hl, hlev, he', hz'⟩
      obtain ⟨c, hc, hx⟩ := hB.get hi
      have hil : i < qs.length := by
        have := (List.getElem?_eq_some_iff.mp hc).1
        omega
      have h8 := C.len
      have hcm : c ∈ qs := mem_sorted.mp (List.mem_of_getElem? hc)
      have hd := drop_at hc
      have hdl : ((Co07.sorted qs).drop (i + 1)).length + 1 = qs.length - i := by rw [List.length_drop, hsq]; omega
      have hx' := hx.same s1
      have cz : Sz 4 ((qs.length - i : Nat) : Rat) := sz_nat (by omega) (by omega)
      have cp : (0 : Rat) < ((qs.length - i : Nat) : Rat) := Rat.natCast_pos.mpr (by omega)
      -- level = divided(left, (count, 1))
      refine ⟨_, rfl, _, rfl, (by show 2 ≤ sizeLine; decide), fun t ht => ?_⟩
      have st := same_new (o := .tup [.int ((qs.length - i : Nat) : Int), .int 1]) ht
      refine ⟨l, .ref t, e', ((qs.length - i : Nat) : Rat), m + 21 * i, 4, rfl, hl.same st, ⟨t, rfl, .inl (.inl upd_same)⟩, hz', cz, by omega, he', Rat.le_of_lt cp, cp, fun H2 v2 s2 h2 => ?_⟩
      have s12 := st.trans s2
      -- if is_less(level, claim): break
      have lz : Sz (m + 21 * i + 4) (e' / ((qs.length - i : Nat) : Rat)) := sz_div hz' cz cp
      refine ⟨_, rfl, _, rfl, v2, x, _, c, m + 21 * i + 4, 21, rfl, h2, hx'.same s12, lz, C.sz c hcm, by omega, _, rfl, ?_⟩
      rw [hd] at hlev
      have hlev' : (if e' / ((((Co07.sorted qs).drop (i + 1)).length + 1 : Nat) : Rat) < c then e' / ((((Co07.sorted qs).drop (i + 1)).length + 1 : Nat) : Rat) else lev ((Co07.sorted qs).drop (i + 1)) (e' / ((((Co07.sorted qs).drop (i + 1)).length + 1 : Nat) : Rat)) (e' - c)) = level qs e := hlev
      refine ite2 (fun q => ?_) (fun q => ?_)
      · have q' := of_decide_eq_true q
        refine ⟨_, rfl, k _ _ (u1.trans (Up.same (s1.trans s12))) ?_⟩
        rw [hdl, if_pos q'] at hlev'
        rw [← hlev']
        exact h2
      · have q' : ¬ e' / ((qs.length - i : Nat) : Rat) < c := fun z => q (decide_eq_true z)
        rw [hdl, if_neg q'] at hlev'
        have hle : c ≤ e' := left_nonneg (l := (Co07.sorted qs).drop (i + 1)) (fun x hx => by
          rw [← hd] at hx
          exact C.nn x (mem_sorted.mp (List.mem_of_mem_drop hx))) (by rw [hdl]; exact q')
        -- left = minus(left, claim); count -= 1
        refine ⟨_, rfl, _, rfl, l, x, e', c, m + 21 * i, 21, rfl, hl.same s12, hx'.same s12, hz', C.sz c hcm, by omega, he', C.nn c hcm, hle, fun H3 v3 s3 h3 => ?_⟩
        refine ⟨_, rfl, _, _, rfl, rfl, v2, v3, _, e' - c, some x, ?_, s1.trans (s12.trans s3), h2.same s3, h3, hlev', by grind, ?_⟩
        · have en : ((qs.length - i : Nat) : Int) - 1 = ((qs.length - (i + 1) : Nat) : Int) := by omega
          rw [← en]
          rfl
        · have := sz_sub hz' (C.sz c hcm) (C.nn c hcm) hle
          rw [Nat.mul_add]
          exact this.mono (by omega)
    · rintro σ H' ⟨v, l, lv, e', u, rfl, s1, hv, hl, hlev, he', hz'⟩
      refine ⟨_, rfl, k _ _ (u1.trans (Up.same s1)) ?_⟩
      rw [hsl, List.drop_length] at hlev
      have hlev' : lv = level qs e := hlev
      rw [← hlev']
      exact hv
/-! ### equal_gains -/
theorem scGains : FnScope ["claims", "has", "level", "claim"] ["claims", "has"] (defScope sGains) := ⟨rfl, rfl, rfl, by decide +kernel, rfl, by decide +kernel, by decide +kernel⟩
theorem ok_gains {f : Addr} {fd : FuncData} (F : Fun K "equal_gains" "equal_gains" sGains f fd) (GV : Has P w K mg base "gains_level" 5 ["claims", "has"] (spLevel T K)) (GL : Has P w K mg base "lesser" 2 ["first", "second"] (spLesser K)) :
    FnOk P w K mg base CX0 6 f fd ["claims", "has"] (spRule T K 21 8000 gains fun _ _ => True) := by
  refine F.ok scGains (fun vs H Q E h => ?_) (fun cdv A outer s H vs Q E hr h => ?_)
  · obtain ⟨a, xs, qs, y, e, m, rfl, _⟩ := h
    rfl
  · obtain ⟨a, xs, qs, y, e, m, rfl, hS, hA, C, hT, hy, he, hm, hm8, _, k⟩ := h
    have hr2 : Room 2 _ := hr.mono (by decide)
    refine ⟨_, pss_cons (ps_set (i := 2) scGains.nd rfl (Or.inr rfl) (pe_has GV hr rfl (pa_cons (pv 0) (pa_cons (pv 1) pa_nil))))
      (pss_one (ps_ret (pe_lc (own := [("claim", 3)]) (g := gName 3) (tt := tYes) rfl scGains.nd (pi_list (pv 0)) (blkOk_by (N := ["claims", "has", "level", "claim"]) (sc := defScope sGains) (by decide +kernel))
        (fun _ _ _ _ _ => pg_name (i := 3) scGains.nd rfl (Or.inl rfl)) (fun _ _ _ _ _ => pts_nil)
        (fun _ _ _ _ _ => pe_has GL hr2 rfl (pa_cons (pv 3) (pa_cons (pv 2) pa_nil)))))), ?_⟩
    refine ⟨_, rfl, _, rfl, a, xs, qs, y, e, m, rfl, hS, hA, C, hT, hy, he, hm, by omega, fun H1 v1 u1 h1 => ?_⟩
    have lz : Sz (m + 21 * 8 + 4) (level qs e) := sz_level (n := 21) (m := m) C.len hm he C.nn C.sz
    refine ⟨_, rfl, a, rfl, ⟨_, ext_lst u1.ext hS⟩, fun D hD => lc_amts (fun c => min c (level qs e)) (ext_lst u1.ext hS) (hA.ext u1.ext) C.len hD (fun i x q H' hq s2 hx R hR => ?_) fun H' ys s2 hb hys => ?_⟩
    · have hmem := List.mem_of_getElem? hq
      refine ⟨_, rfl, _, rfl, x, v1, q, level qs e, 21, m + 21 * 8 + 4, rfl, hx, h1.same s2, C.sz q hmem, lz, by omega, fun v hv => ?_⟩
      exact hR v H' (Same.refl _) hv
    · exact k H' D ys (u1.trans (Up.same s2)) (Fr.of u1.ext hD) hb hys
/-! ### less_losses -/
/-- [f(x, y) for x, y in zip(xs, ys)], lists of one length -/
theorem lc_zipL {K : PySem.W.Frag} {a b : Addr} {xs ys : List V} {g : TG} {tt : TT} {te : TE} {vs : List Nat} {σ : L2.St} {H1 : Hp} {D : Addr} {Qd : Hp → Prop} (hl : xs.length = ys.length) (Pv : Nat → Hp → Prop) (h0 : Pv 0 (upd H1 D (.lst []))) (hq : ∀ i H, Pv i H → SqL K H a xs ∧ SqL K H b ys)
    (hs : ∀ (i : Nat) (x y : V) (T : Addr) (H : Hp), xs[i]? = some x → ys[i]? = some y → Pv i H → H T = none → g (.ref T) (wipe σ vs) (upd H T (.tup [x, y])) fun σ2 H2 => wipe σ2 vs = wipe σ vs ∧ tt σ2 H2 fun b H3 =>
      if b = true then te σ2 H3 fun y H4 => ∃ acc, H4 D = some (.lst acc) ∧ acc.length < sizeLine ∧ Pv (i + 1) (upd H4 D (.lst (acc ++ [y]))) else Pv (i + 1) H3) (hd : ∀ H, Pv xs.length H → Qd H) :
    ∃ W : Nat → Nat → Hp → Prop, (∃ m, W 0 m (upd H1 D (.lst []))) ∧ ∀ i m H, W i m H →
      ((Itz K a b).stop i H ∧ Qd H) ∨ ((Itz K a b).go i H ∧ ∃ Nx : Hp → Prop, (∀ H', Nx H' → ∃ m', m' < m ∧ W (i + 1) m' H') ∧ ∀ x H', (Itz K a b).yld i H x H' → g x (wipe σ vs) H' fun σ2 H2 => wipe σ2 vs = wipe σ vs ∧ tt σ2 H2 fun b H3 =>
        if b = true then te σ2 H3 fun y H4 => ∃ acc, H4 D = some (.lst acc) ∧ acc.length < sizeLine ∧ Nx (upd H4 D (.lst (acc ++ [y]))) else Nx H3) := by
  refine ⟨fun i m H => m = xs.length - i ∧ i ≤ xs.length ∧ Pv i H, ⟨xs.length, by simp, Nat.zero_le _, h0⟩, ?_⟩
  rintro i m H ⟨rfl, hi, p⟩
  obtain ⟨qx, qy⟩ := hq i H p
  by_cases hlt : i < xs.length
  · have hx : xs[i]? = some xs[i] := List.getElem?_eq_getElem hlt
    have hlt2 : i < ys.length := by omega
    have hy : ys[i]? = some ys[i] := List.getElem?_eq_getElem hlt2
    refine .inr ⟨⟨xs, ys, _, _, qx, qy, hx, hy⟩, Pv (i + 1), fun H' p' => ⟨xs.length - (i + 1), by omega, rfl, hlt, p'⟩, fun v H' y => ?_⟩
    obtain ⟨T, x', y', rfl, hT, rfl, f1, f2⟩ := y
    exact hs i x' y' T H (f1 xs qx) (f2 ys qy) p hT
  · have e : i = xs.length := by omega
    subst e
    exact .inl ⟨⟨xs, ys, qx, qy, .inl (Nat.le_refl _)⟩, hd H p⟩
theorem scLessL : FnScope ["claims", "losses", "claim", "loss"] ["claims", "losses"] (defScope sLessL) := ⟨rfl, rfl, rfl, by decide +kernel, rfl, by decide +kernel, by decide +kernel⟩
theorem less_take {qs rs : List Rat} {i : Nat} {q r : Rat} (h1 : qs[i]? = some q) (h2 : rs[i]? = some r) : less (qs.take (i + 1)) (rs.take (i + 1)) = less (qs.take i) (rs.take i) ++ [q - r] := by
  have hq := (List.getElem?_eq_some_iff.mp h1).1
  have hr := (List.getElem?_eq_some_iff.mp h2).1
  rw [take_succ h1, take_succ h2]
  unfold less
  rw [List.zip_append (by rw [List.length_take, List.length_take]; omega), List.map_append]
  rfl
theorem less_len (qs rs : List Rat) : (less qs rs).length = min qs.length rs.length := by
  unfold less
  rw [List.length_map, List.length_zip]
theorem ok_lessL {f : Addr} {fd : FuncData} (F : Fun K "less_losses" "less_losses" sLessL f fd) (zz : mg "zip" = none) (GM : Has P w K mg base "minus" 3 ["first", "second"] (spOp K (fun p q => p - q) fun p q => q ≤ p)) :
    FnOk P w K mg base CX0 4 f fd ["claims", "losses"] (spLessL K) := by
  refine F.ok scLessL (fun vs H Q E h => ?_) (fun cdv A outer s H vs Q E hr h => ?_)
  · obtain ⟨a, b, xs, ys, qs, rs, rfl, _⟩ := h
    rfl
  · obtain ⟨a, b, xs, ys, qs, rs, rfl, hSa, hSb, hA, hB, h8, hrl, hq, k⟩ := h
    have hxy : xs.length = ys.length := by rw [hA.len, hB.len, hrl]
    refine ⟨_, pss_one (ps_ret (pe_lc (own := [("claim", 2), ("loss", 3)]) (g := gTup K 2 (gCons (gName 2) (gCons (gName 3) gNil))) (tt := tYes) rfl scLessL.nd (pi_zip (by rfl) zz (pa_cons (pv 0) (pa_cons (pv 1) pa_nil)))
        (blkOk_by (N := ["claims", "losses", "claim", "loss"]) (sc := defScope sLessL) (by decide +kernel))
        (fun _ _ _ _ _ => pg_tup rfl (pgs_cons (pg_name (i := 2) scLessL.nd rfl (Or.inl rfl)) (pgs_cons (pg_name (i := 3) scLessL.nd rfl (Or.inl rfl)) pgs_nil))) (fun _ _ _ _ _ => pts_nil)
        (fun _ _ _ _ _ => pe_has GM hr rfl (pa_cons (pv 2) (pa_cons (pv 3) pa_nil))))), ?_⟩
    refine ⟨_, rfl, _, rfl, a, b, xs, ys, rfl, hSa, hSb, fun D hD => lc_zipL hxy (fun i H' => Same H H' ∧ ∃ acc, H' D = some (.lst acc) ∧ Amts K H' acc (less (qs.take i) (rs.take i))) ⟨same_new hD, [], upd_same, Amts.nil⟩
      (fun i H' ⟨s1, _⟩ => ⟨s1.seq hSa, s1.seq hSb⟩) ?_ ?_⟩
    · rintro i x y t H' hx hy ⟨s1, acc, hacc, hAc⟩ ht
      obtain ⟨q, hqi, hxa⟩ := hA.get hx
      obtain ⟨r, hri, hya⟩ := hB.get hy
      obtain ⟨r0, rq, qz, rz⟩ := hq i q r hqi hri
      have st := same_new (o := .tup [x, y]) ht
      refine ⟨t, [x, y], rfl, .inl (.inl upd_same), rfl, x, [y], rfl, y, [], rfl, rfl, rfl, ?_⟩
      unfold tYes
      refine iteT ?_
      have e0 : 0 ≤ q := Rat.le_trans r0 rq
      refine ⟨_, rfl, _, rfl, x, y, q, r, 20, 8500, rfl, hxa.same (s1.trans st), hya.same (s1.trans st), qz, rz, by omega, e0, r0, rq, fun H4 v s4 h4 => ?_⟩
      have hD4 := s4 _ _ (st _ _ hacc)
      refine ⟨acc, hD4, ?_, same_write (s1.trans (st.trans s4)) hD, acc ++ [v], upd_same, ?_⟩
      · have h1 := hAc.len
        rw [less_len, List.length_take, List.length_take] at h1
        exact Nat.lt_of_le_of_lt (show acc.length ≤ 8 by omega) (by decide)
      · rw [less_take hqi hri]
        exact (tk_lst hD4).amts ((hAc.ext (LamX.ExtN.of (st.trans s4))).snoc h4)
    · rintro H' ⟨s1, acc, hacc, hAc⟩
      rw [hA.len, List.take_length, ← hrl, List.take_length] at hAc
      exact k H' D acc s1 (Fr.none hD) hacc hAc
/-! ### equal_losses -/
theorem scLosses : FnScope ["claims", "has", "missing"] ["claims", "has"] (defScope sLosses) := ⟨rfl, rfl, rfl, by decide +kernel, rfl, by decide +kernel, by decide +kernel⟩
theorem map_get {α β : Type} {g : α → β} {l : List α} {i : Nat} {x : α} {y : β} (h1 : l[i]? = some x) (h2 : (l.map g)[i]? = some y) : y = g x := by
  rw [List.getElem?_map, h1] at h2
  exact (Option.some.inj h2).symm
theorem ok_losses {f : Addr} {fd : FuncData} (F : Fun K "equal_losses" "equal_losses" sLosses f fd) (GT : Has P w K mg base "together" 4 ["amounts"] (spTog K)) (GM : Has P w K mg base "minus" 3 ["first", "second"] (spOp K (fun p q => p - q) fun p q => q ≤ p))
    (GG : Has P w K mg base "equal_gains" 6 ["claims", "has"] (spRule T K 21 8000 gains fun _ _ => True)) (GL : Has P w K mg base "less_losses" 4 ["claims", "losses"] (spLessL K)) : FnOk P w K mg base CX0 7 f fd ["claims", "has"] (spRule T K 20 7800 losses fun qs e => e ≤ Co07.sum qs ∧ Claims qs) := by
  refine F.ok scLosses (fun vs H Q E h => ?_) (fun cdv A outer s H vs Q E hr h => ?_)
  · obtain ⟨a, xs, qs, y, e, m, rfl, _⟩ := h
    rfl
  · obtain ⟨a, xs, qs, y, e, m, rfl, hS, hA, C, hT, hy, he, hm, hm8, ⟨hes, CC⟩, k⟩ := h
    have hr4 : Room 4 _ := hr.mono (by decide)
    have hr3 : Room 3 _ := hr.mono (by decide)
    refine ⟨_, pss_cons (ps_set (i := 2) scLosses.nd rfl (Or.inl rfl) (pe_has GM hr3 rfl (pa_cons (pe_has GT hr4 rfl (pa_cons (pv 0) pa_nil)) (pa_cons (pv 1) pa_nil))))
      (pss_one (ps_ret (pe_has GL hr4 rfl (pa_cons (pv 0) (pa_cons (pe_has GG hr rfl (pa_cons (pv 0) (pa_cons (pv 2) pa_nil))) pa_nil))))), ?_⟩
    refine ⟨_, rfl, a, xs, qs, 20, rfl, hS, hA, C.len, fun q hq => ⟨C.nn q hq, C.sz q hq⟩, by omega, fun H1 v1 s1 h1 => ?_⟩
    refine ⟨_, rfl, v1, y, Co07.sum qs, e, 169, m, rfl, h1, hy.same s1, CC.szsum, hm, by omega, CC.sum0, he, hes, fun H2 v2 s2 h2 => ?_⟩
    have s12 := s1.trans s2
    have d0 : 0 ≤ Co07.sum qs - e := by grind
    have dz : Sz (169 + m) (Co07.sum qs - e) := sz_sub CC.szsum hm he hes
    refine ⟨_, rfl, _, rfl, _, rfl, a, xs, qs, v2, Co07.sum qs - e, 169 + m, rfl, s12.seq hS, hA.ext (LamX.ExtN.of s12), Cl.up CC (by decide), hT.ext s12, h2, d0, dz, by omega, trivial, fun H3 b ys u3 _ hb hB => ?_⟩
    have lz : Sz (169 + m + 20 * 8 + 4) (level qs (Co07.sum qs - e)) := sz_level (n := 20) (m := 169 + m) CC.len dz d0 CC.nn CC.sz
    have l0 := level_nonneg d0 CC.nn
    have x3 := (LamX.ExtN.of s12).trans u3.ext
    refine ⟨a, b, xs, ys, qs, gains qs (Co07.sum qs - e), rfl, ext_lst x3 hS, up_lst hb, hA.ext x3, hB, C.len, gains_len _ _, fun i q r h1 h2 => ?_, fun H4 c zs s4 f4 hc hz => ?_⟩
    · have e1 : r = min q (level qs (Co07.sum qs - e)) := map_get (g := fun c => min c (level qs (Co07.sum qs - e))) h1 h2
      have qm := List.mem_of_getElem? h1
      rw [e1]
      exact ⟨min_nn (C.nn q qm) l0, min_le_l _ _, C.sz q qm, sz_min ((C.sz q qm).mono (by omega)) (lz.mono (by omega))⟩
    · exact k H4 c zs ((Up.same s12).trans (u3.trans (Up.same s4))) (f4.back x3) hc hz
/-! ### as_two_agree -/
theorem scAgree : FnScope ["claims", "has", "halves", "missing", "claim"] ["claims", "has"] (defScope sAgree) := ⟨rfl, rfl, rfl, by decide +kernel, rfl, by decide +kernel, by decide +kernel⟩
theorem ok_agree {f : Addr} {fd : FuncData} (F : Fun K "as_two_agree" "as_two_agree" sAgree f fd) (GO : Has P w K mg base "lowest" 2 ["above", "below"] spLow) (GI : Has P w K mg base "is_less" 1 ["first", "second"] (spLess K)) (GT : Has P w K mg base "together" 4 ["amounts"] (spTog K))
    (GM : Has P w K mg base "minus" 3 ["first", "second"] (spOp K (fun p q => p - q) fun p q => q ≤ p)) (GG : Has P w K mg base "equal_gains" 6 ["claims", "has"] (spRule T K 21 8000 gains fun _ _ => True)) (GL : Has P w K mg base "less_losses" 4 ["claims", "losses"] (spLessL K)) :
    FnOk P w K mg base CX0 7 f fd ["claims", "has"] (spRule T K 20 7800 agreed fun qs e => e ≤ Co07.sum qs ∧ Claims qs) := by
  refine F.ok scAgree (fun vs H Q E h => ?_) (fun cdv A outer s H vs Q E hr h => ?_)
  · obtain ⟨a, xs, qs, y, e, m, rfl, _⟩ := h
    rfl
  · obtain ⟨a, xs, qs, y, e, m, rfl, hS, hA, C, hT, hy, he, hm, hm8, ⟨hes, CC⟩, k⟩ := h
    have hr4 : Room 4 _ := hr.mono (by decide)
    have hr3 : Room 3 _ := hr.mono (by decide)
    have hr2 : Room 2 _ := hr.mono (by decide)
    have hr1 : Room 1 _ := hr.mono (by decide)
    refine ⟨_, pss_cons (ps_setLc (i := 2) (own := [("claim", 4)]) (g := gName 4) (tt := tYes) (te := tCall spLow [] E0 (tCons (tOp (rIxT K) (tVar 4) (tC (.int 0))) (tCons (tOp (rI CMulW fun i j => .int (i * j)) (tOp (rIxT K) (tVar 4) (tC (.int 1))) (tC (.int 2))) tNil))) rfl scAgree.nd rfl rfl (sw_true rfl rfl rfl (by decide +kernel)) (pi_list (pv 0)) (blkOk_by (N := ["claims", "has", "halves", "missing", "claim"]) (sc := defScope sAgree) (by decide +kernel))
        (fun _ _ _ _ _ => pg_name (i := 4) scAgree.nd rfl (Or.inl rfl)) (fun _ _ _ _ _ => pts_nil)
        (fun _ _ _ _ _ => pe_has GO hr2 rfl (pa_cons (pe_ix ix_tup (pv 4) pe_int (fun _ _ => rfl)) (pa_cons (pe_op op_mulW (pe_ix ix_tup (pv 4) pe_int (fun _ _ => rfl)) pe_int) pa_nil))))
      (pss_cons (ps_if (pt_not (pt_val (pe_has GI hr1 rfl (pa_cons (pe_has GT hr4 rfl (pa_cons (pv 2) pa_nil)) (pa_cons (pv 1) pa_nil))))) (pss_one (ps_ret (pe_has GG hr rfl (pa_cons (pv 2) (pa_cons (pv 1) pa_nil))))) pss_nil)
      (pss_cons (ps_set (i := 3) scAgree.nd rfl (Or.inl rfl) (pe_has GM hr3 rfl (pa_cons (pe_has GT hr4 rfl (pa_cons (pv 0) pa_nil)) (pa_cons (pv 1) pa_nil))))
      (pss_one (ps_ret (pe_has GL hr4 rfl (pa_cons (pv 0) (pa_cons (pe_has GG hr rfl (pa_cons (pv 2) (pa_cons (pv 3) pa_nil))) pa_nil))))))), ?_⟩
    have CH := Cl.half CC
    have hsz : Sz 177 (Co07.sum (halves qs)) := sz_sum8 CH.len CH.sz
    refine ⟨_, rfl, a, rfl, ⟨_, hS⟩, fun D hD => lc_amts (fun c => c / 2) hS hA C.len hD (fun i x q H' hq s2 hx R hR => ?_) fun H1 hs s1 hb1 hh => ?_⟩
    · have hmem := List.mem_of_getElem? hq
      obtain ⟨t, rfl, ht⟩ := hx
      have qd := dpos q
      refine ⟨_, rfl, t, _, _, _, rfl, rfl, ht, rfl, _, rfl, t, _, _, _, rfl, rfl, ht, rfl, _, _, rfl, rfl, bits (C.sz q hmem).d (n := 2) (by decide) (by omega), ?_⟩
      have qz := (C.sz q hmem).2
      have qb : ((q.den : Int) * 2).natAbs < 2 ^ 21 := by omega
      refine ⟨_, _, rfl, nnon (C.nn q hmem), by omega, lim qb (by omega), fun c hc => ?_⟩
      rw [frac_half]
      exact hR _ _ (same_new hc) amt_new
    · have hSD : SqL K H1 D hs := up_lst hb1
      refine ⟨_, rfl, D, hs, halves qs, 21, rfl, hSD, hh, CH.len, fun q hq => ⟨CH.nn q hq, CH.sz q hq⟩, by omega, fun H2 v2 s2 h2 => ?_⟩
      have s12 := s1.trans s2
      refine ⟨_, rfl, v2, y, Co07.sum (halves qs), e, 177, m, rfl, h2, hy.same s12, hsz, hm, by omega, _, rfl, ?_⟩
      have hT2 := hT.ext s12
      by_cases c : Co07.sum (halves qs) < e
      · rw [decide_eq_true c]
        refine iteF ?_
        refine ⟨_, rfl, a, xs, qs, 20, rfl, s12.seq hS, hA.ext (LamX.ExtN.of s12), C.len, fun q hq => ⟨C.nn q hq, C.sz q hq⟩, by omega, fun H3 v3 s3 h3 => ?_⟩
        have s13 := s12.trans s3
        refine ⟨_, rfl, v3, y, Co07.sum qs, e, 169, m, rfl, h3, hy.same s13, CC.szsum, hm, by omega, CC.sum0, he, hes, fun H4 v4 s4 h4 => ?_⟩
        have s14 := s13.trans s4
        have s24 := s2.trans (s3.trans s4)
        have d0 : 0 ≤ Co07.sum qs - e := by grind
        have dz : Sz (169 + m) (Co07.sum qs - e) := sz_sub CC.szsum hm he hes
        refine ⟨_, rfl, _, rfl, _, rfl, D, hs, halves qs, v4, Co07.sum qs - e, 169 + m, rfl, s24.seq hSD, hh.ext (LamX.ExtN.of s24), CH, hT.ext s14, h4, d0, dz, by omega, trivial, fun H5 b ys u5 _ hb hB => ?_⟩
        have lz : Sz (169 + m + 21 * 8 + 4) (level (halves qs) (Co07.sum qs - e)) := sz_level (n := 21) (m := 169 + m) CH.len dz d0 CH.nn CH.sz
        have l0 := level_nonneg d0 CH.nn
        have x5 := (LamX.ExtN.of s14).trans u5.ext
        refine ⟨a, b, xs, ys, qs, gains (halves qs) (Co07.sum qs - e), rfl, ext_lst x5 hS, up_lst hb, hA.ext x5, hB, C.len, by rw [gains_halves, List.length_map], fun i q r h1 h2 => ?_, fun H6 c' zs s6 f6 hc hz => ?_⟩
        · rw [gains_halves] at h2
          have e1 : r = min (q / 2) (level (halves qs) (Co07.sum qs - e)) := map_get (g := fun c => min (c / 2) (level (halves qs) (Co07.sum qs - e))) h1 h2
          have qm := List.mem_of_getElem? h1
          have qp := C.pos q qm
          have q2 : 0 ≤ q / 2 := by grind
          have q3 : q / 2 ≤ q := by grind
          rw [e1]
          exact ⟨min_nn q2 l0, Rat.le_trans (min_le_l _ _) q3, C.sz q qm, sz_min ((sz_half (C.sz q qm)).mono (by omega)) (lz.mono (by omega))⟩
        · refine k H6 c' zs ((Up.same s14).trans (u5.trans (Up.same s6))) (f6.back x5) hc ?_
          unfold agreed
          rw [if_pos c]
          exact hz
      · rw [decide_eq_false c]
        refine iteT ?_
        refine ⟨_, rfl, _, rfl, D, hs, halves qs, y, e, m, rfl, s2.seq hSD, hh.ext (LamX.ExtN.of s2), CH, hT2, hy.same s12, he, hm, by omega, trivial, fun H3 b ys u3 f3 hb hB => ?_⟩
        refine k H3 b ys ((Up.same s12).trans u3) (f3.back (LamX.ExtN.of s12)) hb ?_
        unfold agreed
        rw [if_neg c]
        exact hB
/-! ### shares_by_rule -/
theorem scRule : FnScope ["rule", "claims", "has"] ["rule", "claims", "has"] (defScope sRule) := ⟨rfl, rfl, rfl, by decide +kernel, rfl, by decide +kernel, by decide +kernel⟩
theorem ok_rule {f : Addr} {fd : FuncData} (F : Fun K "shares_by_rule" "shares_by_rule" sRule f fd) (G0 : Has P w K mg base "by_parts" 5 ["claims", "has"] (spRule T K 20 7800 parts fun _ _ => True)) (G1 : Has P w K mg base "equal_gains" 6 ["claims", "has"] (spRule T K 21 8000 gains fun _ _ => True))
    (G2 : Has P w K mg base "equal_losses" 7 ["claims", "has"] (spRule T K 20 7800 losses fun qs e => e ≤ Co07.sum qs ∧ Claims qs)) (G3 : Has P w K mg base "as_two_agree" 7 ["claims", "has"] (spRule T K 20 7800 agreed fun qs e => e ≤ Co07.sum qs ∧ Claims qs)) :
    FnOk P w K mg base CX0 8 f fd ["rule", "claims", "has"] (spShare T K) := by
  refine F.ok scRule (fun vs H Q E h => ?_) (fun cdv A outer s H vs Q E hr h => ?_)
  · obtain ⟨r, a, xs, qs, y, e, m, rfl, _⟩ := h
    rfl
  · obtain ⟨r, a, xs, qs, y, e, m, rfl, hS, hA, C, hT, hy, he, hes, hm, hm8, k⟩ := h
    have hr5 : Room 5 _ := hr.mono (by decide)
    have hr6 : Room 6 _ := hr.mono (by decide)
    refine ⟨_, pss_cons (ps_if (pt_cmpR op_eq (pv 0) pe_int (nomark _)) (pss_one (ps_ret (pe_has G0 hr5 rfl (pa_cons (pv 1) (pa_cons (pv 2) pa_nil))))) pss_nil)
      (pss_cons (ps_if (pt_cmpR op_eq (pv 0) pe_int (nomark _)) (pss_one (ps_ret (pe_has G1 hr6 rfl (pa_cons (pv 1) (pa_cons (pv 2) pa_nil))))) pss_nil)
      (pss_cons (ps_if (pt_cmpR op_eq (pv 0) pe_int (nomark _)) (pss_one (ps_ret (pe_has G2 hr rfl (pa_cons (pv 1) (pa_cons (pv 2) pa_nil))))) pss_nil)
      (pss_one (ps_ret (pe_has G3 hr rfl (pa_cons (pv 1) (pa_cons (pv 2) pa_nil))))))), ?_⟩
    have yes : ∀ {j : Nat}, decide (V.int (r : Int) = V.int (j : Int)) = true → r = j := fun {j} z => by
      have z' : (r : Int) = (j : Int) := V.int.inj (of_decide_eq_true z)
      omega
    have no : ∀ {j : Nat}, ¬ decide (V.int (r : Int) = V.int (j : Int)) = true → ¬ r = j := fun {j} z q => z (decide_eq_true (by rw [q]))
    have kk : ∀ (g : List Rat → Rat → List Rat), within r qs e = g qs e → ∀ (H' : Hp) (b : Addr) (ys : List V), Up T H H' → Fr H b → H' b = some (.lst ys) → Amts K H' ys (g qs e) → Q (.ref b) H' := fun g eg H' b ys u fr hb hA => k H' b ys u fr hb (by rw [eg]; exact hA)
    refine ⟨_, rfl, rfl, _, rfl, ?_⟩
    refine ite2 (fun c => ?_) (fun c => ?_)
    · have c0 : r = 0 := yes c
      exact ⟨_, rfl, _, rfl, a, xs, qs, y, e, m, rfl, hS, hA, Cl.up C (by decide), hT, hy, he, hm, by omega, trivial, kk parts (by unfold within; rw [if_pos c0])⟩
    have n0 : ¬ r = 0 := no c
    refine ⟨_, rfl, rfl, _, rfl, ?_⟩
    refine ite2 (fun c => ?_) (fun c => ?_)
    · have c1 : r = 1 := yes c
      exact ⟨_, rfl, _, rfl, a, xs, qs, y, e, m, rfl, hS, hA, Cl.up C (by decide), hT, hy, he, hm, by omega, trivial, kk gains (by unfold within; rw [if_neg n0, if_pos c1])⟩
    have n1 : ¬ r = 1 := no c
    refine ⟨_, rfl, rfl, _, rfl, ?_⟩
    refine ite2 (fun c => ?_) (fun c => ?_)
    · have c2 : r = 2 := yes c
      exact ⟨_, rfl, _, rfl, a, xs, qs, y, e, m, rfl, hS, hA, Cl.up C (by decide), hT, hy, he, hm, by omega, ⟨hes, C⟩, kk losses (by unfold within; rw [if_neg n0, if_neg n1, if_pos c2])⟩
    have n2 : ¬ r = 2 := no c
    exact ⟨_, rfl, _, rfl, a, xs, qs, y, e, m, rfl, hS, hA, Cl.up C (by decide), hT, hy, he, hm, by omega, ⟨hes, C⟩, kk agreed (by unfold within; rw [if_neg n0, if_neg n1, if_neg n2])⟩
end
end Cs

set_option Elab.async false
set_option linter.all false
set_option maxRecDepth 100000
set_option maxHeartbeats 2000000
namespace Cs
open PySem PySem.Spec PyProof.Rows L2
/-! ### a zip of two lists, drawn from while the pairs given out are kept -/
structure ZSt (h : Heap) (z TI TO i1 i2 l1 l2 S : Addr) (i : Nat) : Prop where
  ins : IsPair h TI (.ref i1) (.ref i2)
  out : ∃ a b, IsPair h TO a b
  it1 : h.IsListIter i1 l1 i
  it2 : h.IsListIter i2 l2 i
  zip : IsZip h z TI TO .none ∨ ∃ (T : Addr) (f : Bool) (oT : Obj), IsZipHeld h z TI TO T f ∧ h.get? T = some oT ∧ S < T
theorem ZSt.keep {h h' : Heap} {z TI TO i1 i2 l1 l2 S : Addr} {i : Nat} (t : ZSt h z TI TO i1 i2 l1 l2 S i) (hz : z < S) (h1 : TI < S) (h2 : TO < S) (h3 : i1 < S) (h4 : i2 < S) (k : ∀ b o, b ≠ S → h.get? b = some o → h'.get? b = some o) : ZSt h' z TI TO i1 i2 l1 l2 S i := by
  obtain ⟨p1, ⟨a, b, p2⟩, p3, p4, p5⟩ := t
  refine ⟨k _ _ (Nat.ne_of_lt h1) p1, ⟨a, b, k _ _ (Nat.ne_of_lt h2) p2⟩, p3.at fun o e => k _ _ (Nat.ne_of_lt h3) e, p4.at fun o e => k _ _ (Nat.ne_of_lt h4) e, ?_⟩
  rcases p5 with q | ⟨T, f, oT, q1, q2, q3⟩
  · exact .inl (k _ _ (Nat.ne_of_lt hz) q)
  · exact .inr ⟨T, f, oT, k _ _ (Nat.ne_of_lt hz) q1, k _ _ (Nat.ne_of_gt q3) q2, q3⟩
structure ZCells (z TI TO i1 i2 l1 l2 S : Addr) : Prop where
  ap : ZipApart z TI TO i1 i2 l1 l2
  z : z < S
  TI : TI < S
  TO : TO < S
  i1 : i1 < S
  i2 : i2 < S
  l1 : l1 < S
  l2 : l2 < S
section
variable {prog : Program} {w : World} {A : Around} {E : Value → Shared → Prop} {s : Shared} {z TI TO i1 i2 l1 l2 S : Addr} {i : Nat} {xs ys : List Value}
theorem nxtZ {x y : Value} {Q : Option Value → Shared → Prop} (C : ZCells z TI TO i1 i2 l1 l2 S) (t : ZSt s.heap z TI TO i1 i2 l1 l2 S i) (hS : S < s.heap.objs.size) (hl1 : s.heap.IsList l1 xs.toArray) (hl2 : s.heap.IsList l2 ys.toArray) (hx : xs[i]? = some x) (hy : ys[i]? = some y)
    (hQ : ∀ h', ZSt h' z TI TO i1 i2 l1 l2 S (i + 1) → h'.get? s.heap.objs.size = some { cls := .type "tuple", data := .seq #[x, y] } → h'.objs.size = s.heap.objs.size + 1 → (∀ b o, b ≠ z → b ≠ TO → b ≠ i1 → b ≠ i2 → s.heap.get? b = some o → h'.get? b = some o) → Q (some (.ref s.heap.objs.size)) { s with heap := h' }) :
    wpAny (model prog w) A (pyNext (.ref z)) Q E s := by
  obtain ⟨p1, ⟨a, b, p2⟩, p3, p4, p5⟩ := t
  have hx' : xs.toArray[i]? = some x := by simpa using hx
  have hy' : ys.toArray[i]? = some y := by simpa using hy
  rcases p5 with q | ⟨T, f, oT, q1, q2, q3⟩
  · exact wpAny_pyNext_zip_item C.ap q p1 p2 p3 p4 hl1 hl2 hx' hy' fun h' a1 a2 a3 a4 a5 a6 a7 => hQ h' ⟨a7 _ _ C.ap.TIz C.ap.TITO C.ap.TIi1 C.ap.TIi2 p1, ⟨_, _, a2⟩, a3, a4, .inr ⟨s.heap.objs.size, false, _, a1, a5, hS⟩⟩ a5 a6 a7
  · have nT : ∀ c, c < S → T ≠ c := fun c hc e => Nat.lt_asymm hc (e ▸ q3)
    exact wpAny_pyNext_zip_item_held C.ap q1 q2 p1 p3 p4 hl1 hl2 hx' hy' fun h' a1 a3 a4 a5 a6 a7 => hQ h' ⟨a7 _ _ C.ap.TIz C.ap.TIi1 C.ap.TIi2 p1, ⟨a, b, a7 _ _ C.ap.TOz C.ap.TOi1 C.ap.TOi2 p2⟩, a3, a4,
      .inr ⟨T, true, oT, a1, a7 _ _ (nT _ C.z) (nT _ C.i1) (nT _ C.i2) q2, q3⟩⟩ a5 a6 fun b o n1 _ n3 n4 e => a7 b o n1 n3 n4 e
theorem finZ {Q : Option Value → Shared → Prop} (hh : A.handled = none) (C : ZCells z TI TO i1 i2 l1 l2 S) (t : ZSt s.heap z TI TO i1 i2 l1 l2 S i) (hl1 : s.heap.IsList l1 xs.toArray) (hl2 : s.heap.IsList l2 ys.toArray) (hx : xs[i]? = none)
    (hQ : ∀ h', (∀ b o, b ≠ z → b ≠ TO → b ≠ i1 → b ≠ i2 → s.heap.get? b = some o → h'.get? b = some o) → Q none { s with heap := h' }) : wpAny (model prog w) A (pyNext (.ref z)) Q E s := by
  obtain ⟨p1, ⟨a, b, p2⟩, p3, p4, p5⟩ := t
  have hx' : xs.toArray[i]? = none := by simpa using hx
  rcases p5 with q | ⟨T, f, oT, q1, q2, q3⟩
  · exact wpAny_pyNext_zip_end hh C.ap q p1 p2 p3 p4 hl1 hl2 (.inl hx') fun h' a7 => hQ h' a7
  · exact wpAny_pyNext_zip_end_held hh C.ap q1 q2 p1 p3 p4 hl1 hl2 (.inl hx') fun h' a7 => hQ h' fun b o n1 _ n3 n4 e => a7 b o n1 n3 n4 e
end
/-- the pairs that were made -/
structure MadeZ (xs ys : List Value) (lo : Addr) (h : Heap) (as : List Addr) : Prop where
  rise : as.Pairwise (· < ·)
  above : ∀ a ∈ as, lo < a
  pairs : ∀ (j : Nat) (a : Addr), as[j]? = some a → ∃ x y, xs[j]? = some x ∧ ys[j]? = some y ∧ h.get? a = some { cls := .type "tuple", data := .seq #[x, y] }
theorem MadeZ.there {xs ys : List Value} {lo : Addr} {h : Heap} {as : List Addr} (g : MadeZ xs ys lo h as) {a : Addr} (ha : a ∈ as) : a < h.objs.size := by
  obtain ⟨j, hj⟩ := List.mem_iff_getElem?.mp ha
  obtain ⟨_, _, _, _, e⟩ := g.pairs j a hj
  exact Heap.lt_size e
section
variable {prog : Program} {w : World} {A : Around} {s : Shared} {R : Result → Shared → Prop} {z TI TO i1 i2 l1 l2 S : Addr} {xs ys : List Value}
theorem loopZ (hh : A.handled = none) (C : ZCells z TI TO i1 i2 l1 l2 S) (hxy : xs.length = ys.length) (hn : xs.length ≤ sizeLine) (res : Value) {h₁ : Heap}
    (hR : ∀ h' tk acc c as, (∀ b o, b ≠ S → b ≠ z → b ≠ TO → b ≠ i1 → b ≠ i2 → h₁.get? b = some o → h'.get? b = some o) → h'.get? S = some { cls := .type "list", dict := none, data := .seq acc c, slots := #[] } → as.length = xs.length → MadeZ xs ys S h' as →
      acc.toList = as.map Value.ref → R (.ok (.ret res)) { s with heap := h', toks := tk }) :
    ∀ (k i : Nat) (h : Heap) (tk c : Nat) (acc : Array Value) (as : List Addr), xs.length - i = k → i ≤ xs.length → ZSt h z TI TO i1 i2 l1 l2 S i → h.IsList l1 xs.toArray → h.IsList l2 ys.toArray →
      (∀ b o, b ≠ S → b ≠ z → b ≠ TO → b ≠ i1 → b ≠ i2 → h₁.get? b = some o → h.get? b = some o) →
      h.get? S = some { cls := .type "list", dict := none, data := .seq acc c, slots := #[] } → acc.toList = as.map Value.ref → as.length = i → MadeZ xs ys S h as →
      codeAny (model prog w) A (.builtin "list.extend.loop" ⟨[.ref S, .ref z, res], []⟩) R { s with heap := h, toks := tk } := by
  have nz : S ≠ z := Nat.ne_of_gt C.z
  have nTO : S ≠ TO := Nat.ne_of_gt C.TO
  have n1 : S ≠ i1 := Nat.ne_of_gt C.i1
  have n2 : S ≠ i2 := Nat.ne_of_gt C.i2
  intro k
  induction k with
  | zero =>
    intro i h tk c acc as hk hi hst hL1 hL2 hkeep hS hacc hal hG
    refine codeAny_builtin PySem.F.entry_extend_loop ?_
    rw [Around.under_plainId PySem.F.plain_extend_loop _]
    show wpAny _ A.in1 (pyNext (.ref z) >>= _) _ _ _
    refine wpAny_bind (finZ (s := { s with heap := h, toks := tk }) (A := A.in1) hh C hst hL1 hL2 (List.getElem?_eq_none (by omega)) fun h' he => ?_)
    refine wpAny_pure (hR h' tk acc c as (fun b o a0 a1 a2 a3 a4 e => he b o a1 a2 a3 a4 (hkeep b o a0 a1 a2 a3 a4 e)) (he S _ nz nTO n1 n2 hS) (by omega) ⟨hG.rise, hG.above, fun j a hj => ?_⟩ hacc)
    obtain ⟨x, y, e1, e2, e3⟩ := hG.pairs j a hj
    have hb := hG.above a (List.mem_of_getElem? hj)
    exact ⟨x, y, e1, e2, he a _ (Nat.ne_of_gt (Nat.lt_trans C.z hb)) (Nat.ne_of_gt (Nat.lt_trans C.TO hb)) (Nat.ne_of_gt (Nat.lt_trans C.i1 hb)) (Nat.ne_of_gt (Nat.lt_trans C.i2 hb)) e3⟩
  | succ k ih =>
    intro i h tk c acc as hk hi hst hL1 hL2 hkeep hS hacc hal hG
    have hlt : i < xs.length := by omega
    have hlt2 : i < ys.length := by omega
    have hsz : acc.size = i := by rw [← Array.length_toList, hacc, List.length_map, hal]
    have hSl : S < h.objs.size := Heap.lt_size hS
    refine codeAny_builtin PySem.F.entry_extend_loop ?_
    rw [Around.under_plainId PySem.F.plain_extend_loop _]
    show wpAny _ A.in1 (pyNext (.ref z) >>= _) _ _ _
    refine wpAny_bind (nxtZ (s := { s with heap := h, toks := tk }) C hst hSl hL1 hL2 (List.getElem?_eq_getElem hlt) (List.getElem?_eq_getElem hlt2) fun h' hst' ht hz hkp => ?_)
    dsimp only at ht hz hkp ⊢
    have hS' := hkp S _ nz nTO n1 n2 hS
    have up : ∀ b o, b ≠ S → h'.get? b = some o → (h'.update S (Obj.mapSeq (·.push (Value.ref h.objs.size)))).get? b = some o := fun b o hb e => (Heap.get?_update_other _ _ (Ne.symm hb)).trans e
    have lst : ∀ {l : Addr} {us : Array Value}, l < S → l ≠ z → l ≠ TO → l ≠ i1 → l ≠ i2 → h.IsList l us → (h'.update S (Obj.mapSeq (·.push (Value.ref h.objs.size)))).IsList l us := fun {l us} a0 a1 a2 a3 a4 hl => hl.at fun o e => up _ _ (Nat.ne_of_lt a0) (hkp _ _ a1 a2 a3 a4 e)
    show wpAny _ A.in1 (updateSeq S (·.push (Value.ref h.objs.size)) >>= _) _ _ _
    refine wpAny_bind ?_
    refine wpAny_updateSeq hS' rfl (wpAny_pure ⟨plainId_quiet PySem.F.plain_extend_loop _, ih (i + 1) _ tk _ (acc.push (Value.ref h.objs.size)) (as ++ [h.objs.size]) (by omega) hlt (hst'.keep C.z C.TI C.TO C.i1 C.i2 up) (lst C.l1 C.ap.l1z C.ap.l1TO C.ap.l1i1 C.ap.l1i2 hL1) (lst C.l2 C.ap.l2z C.ap.l2TO C.ap.l2i1 C.ap.l2i2 hL2)
      (fun b o a0 a1 a2 a3 a4 e => up b o a0 (hkp b o a1 a2 a3 a4 (hkeep b o a0 a1 a2 a3 a4 e))) (Heap.get?_update_self _ hS' rfl) (by rw [Array.toList_push, hacc, List.map_append]; rfl) (by rw [List.length_append, hal]; rfl) ⟨?_, ?_, ?_⟩⟩) (by rw [hsz]; omega) (by show (acc.push (Value.ref h.objs.size)).size ≤ sizeLine + 1; rw [Array.size_push, hsz]; omega)
    · refine List.pairwise_append.mpr ⟨hG.rise, List.pairwise_singleton _ _, fun a ha b hb => ?_⟩
      rw [List.mem_singleton.mp hb]
      exact hG.there ha
    · intro a ha
      rcases List.mem_append.mp ha with ha | ha
      · exact hG.above a ha
      · rw [List.mem_singleton.mp ha]; exact hSl
    · intro j b hj
      rcases Nat.lt_trichotomy j as.length with h1 | h1 | h1
      · rw [List.getElem?_append_left h1] at hj
        obtain ⟨x, y, e1, e2, e3⟩ := hG.pairs j b hj
        have hb := hG.above b (List.mem_of_getElem? hj)
        exact ⟨x, y, e1, e2, up b _ (Nat.ne_of_gt hb) (hkp b _ (Nat.ne_of_gt (Nat.lt_trans C.z hb)) (Nat.ne_of_gt (Nat.lt_trans C.TO hb)) (Nat.ne_of_gt (Nat.lt_trans C.i1 hb)) (Nat.ne_of_gt (Nat.lt_trans C.i2 hb)) e3)⟩
      · subst h1
        have hb : h.objs.size = b := by simpa using hj
        subst hb
        subst hal
        exact ⟨_, _, List.getElem?_eq_getElem hlt, List.getElem?_eq_getElem hlt2, up _ _ (Nat.ne_of_gt hSl) ht⟩
      · have hnone : (as ++ [h.objs.size])[j]? = none := List.getElem?_eq_none (by rw [List.length_append, List.length_singleton]; omega)
        rw [hnone] at hj; cases hj
end
theorem nolen_zip : typeLookup (.type "zip") "__len__" = pure none := by rw [typeLookup_type, builtinLookup_eq_fast]; kernel_rfl
theorem nohint_zip : typeLookup (.type "zip") "__length_hint__" = pure none := by rw [typeLookup_type, builtinLookup_eq_fast]; kernel_rfl
section
variable {prog : Program} {w : World} {A : Around} {E : Value → Shared → Prop} {s : Shared} {z TI TO i1 i2 l1 l2 : Addr} {xs ys : List Value}
theorem collectZ {Q : List Value → Shared → Prop} (hh : A.handled = none) (C : ZCells z TI TO i1 i2 l1 l2 s.heap.objs.size) (hxy : xs.length = ys.length) (hn : xs.length ≤ sizeLine)
    (t : ZSt s.heap z TI TO i1 i2 l1 l2 s.heap.objs.size 0) (hz : IsZip s.heap z TI TO .none) (hl1 : s.heap.IsList l1 xs.toArray) (hl2 : s.heap.IsList l2 ys.toArray)
    (hQ : ∀ (h' : Heap) (tk : Nat) (as : List Addr), (∀ b o, b ≠ z → b ≠ TO → b ≠ i1 → b ≠ i2 → s.heap.get? b = some o → h'.get? b = some o) → s.heap.objs.size < h'.objs.size → as.length = xs.length → MadeZ xs ys s.heap.objs.size h' as → Q (as.map Value.ref) { s with heap := h', toks := tk }) :
    wpAny (model prog w) A (collect (.ref z)) Q E s := by
  have hSz : s.heap.objs.size ≠ z := Nat.ne_of_gt C.z
  unfold collect
  refine wpAny_bind (wpAny_runValue (codeAny_builtin F.entry_proto_collect ?_))
  rw [Around.under_plainId F.plain_proto_collect _]
  show wpAny _ A.in1 (newList [] >>= fun l => again (.builtin "list.__iadd__" ⟨[l, .ref z], []⟩)) _ _ s
  refine wpAny_bind (wpAny_newObj_type ?_)
  refine wpAny_pure ⟨plainId_quiet F.plain_list_iadd _, codeAny_builtin F.entry_list_iadd ?_⟩
  rw [Around.under_plainId F.plain_list_iadd _]
  have hz₁ : IsZip (s.heap.push { cls := .type "list", data := .seq ([] : List Value).toArray }) z TI TO .none := Heap.get?_push_of_some _ hz
  show wpAny _ A.in1 (Builtin.List.listExtendWith (.ref s.heap.objs.size) (.ref z) (.ref s.heap.objs.size)) _ _ _
  unfold Builtin.List.listExtendWith
  refine wpAny_bind (wpAny_typeOf (T := "zip") ⟨_, hz₁, rfl⟩ ?_)
  have h1 : Builtin.List.listSameRef (.ref s.heap.objs.size) (.ref z) = false := by simp [Builtin.List.listSameRef, hSz]
  have h2 : (Value.type "zip" == Value.type "list") = false := by decide
  have h3 : (Value.type "zip" == Value.type "tuple") = false := by decide
  simp only [h1, h2, h3, Bool.or_false, Bool.false_eq_true, if_false]
  refine wpAny_bind (wpAny_pyIter_zip hz₁ ?_)
  refine wpAny_bind (wpAny_holding ?_)
  unfold Builtin.List.listLengthHint
  refine wpAny_bind (wpAny_specialOf (T := "zip") ⟨_, hz₁, rfl⟩ nolen_zip ?_)
  show wpAny _ A.in1 (specialOf (Value.ref z) (Str.ofString "__length_hint__") >>= _) _ _ _
  refine wpAny_bind (wpAny_specialOf (T := "zip") ⟨_, hz₁, rfl⟩ nohint_zip ?_)
  refine wpAny_pure ?_
  show wpAny _ A.in1 (rule "list.extend.makes-room" >>= fun _ => Builtin.List.listTouch (.ref s.heap.objs.size) >>= fun _ =>
    again (.builtin "list.extend.loop" ⟨[.ref s.heap.objs.size, .ref z, .ref s.heap.objs.size], []⟩)) _ _ _
  refine wpAny_bind (wpAny_rule ?_)
  have hS₁ : (s.heap.push { cls := .type "list", data := .seq ([] : List Value).toArray }).get? s.heap.objs.size = some { cls := .type "list", data := .seq ([] : List Value).toArray } := Heap.get?_push_size _ rfl
  refine wpAny_bind ?_
  show wpAny _ A.in1 (updateSeq s.heap.objs.size (·.push .none) >>= fun _ => updateSeq s.heap.objs.size (·.pop)) _ _ _
  refine wpAny_bind (wpAny_updateSeq hS₁ rfl ?_)
  have hS₂ := Heap.get?_update_self (Obj.mapSeq (·.push Value.none)) hS₁ rfl
  refine wpAny_updateSeq hS₂ rfl ?_
  have hS₃ := Heap.get?_update_self (Obj.mapSeq (·.pop)) hS₂ rfl
  have oth : ∀ b o, b ≠ s.heap.objs.size → s.heap.get? b = some o →
      (((s.heap.push { cls := .type "list", data := .seq ([] : List Value).toArray }).update s.heap.objs.size (Obj.mapSeq (·.push Value.none))).update s.heap.objs.size (Obj.mapSeq (·.pop))).get? b = some o :=
    fun b o hb e => (Heap.get?_update_other _ _ (Ne.symm hb)).trans ((Heap.get?_update_other _ _ (Ne.symm hb)).trans (Heap.get?_push_of_some _ e))
  refine wpAny_pure ⟨plainId_quiet F.plain_extend_loop _, loopZ (s := s) (h₁ := s.heap) hh C hxy hn _ (fun h' tk acc c as hk hS' hl hG hacc => ?_) xs.length 0 _ s.toks _ #[] [] (Nat.sub_zero _) (Nat.zero_le _) (t.keep C.z C.TI C.TO C.i1 C.i2 oth)
    (hl1.at fun o e => oth _ _ (Nat.ne_of_lt C.l1) e) (hl2.at fun o e => oth _ _ (Nat.ne_of_lt C.l2) e) (fun b o a0 _ _ _ _ e => oth b o a0 e) hS₃ rfl rfl ⟨List.Pairwise.nil, (fun _ ha => nomatch ha), (fun j a hj => by simp at hj)⟩⟩
  show wpAny _ A (load s.heap.objs.size >>= _) _ _ _
  refine wpAny_bind (wpAny_load hS' ?_)
  refine wpAny_pure ?_
  show Q acc.toList _
  rw [hacc]
  exact hQ h' tk as (fun b o a1 a2 a3 a4 e => hk b o (Nat.ne_of_lt (Heap.lt_size e)) a1 a2 a3 a4 e) (Heap.lt_size hS') hl hG
/-- sorted(zip(xs, ys)) up to the sort of the pairs -/
theorem sortedZ {Q : Value → Shared → Prop} (hh : A.handled = none) (C : ZCells z TI TO i1 i2 l1 l2 s.heap.objs.size) (hxy : xs.length = ys.length) (hn : xs.length ≤ sizeLine)
    (t : ZSt s.heap z TI TO i1 i2 l1 l2 s.heap.objs.size 0) (hz : IsZip s.heap z TI TO .none) (hl1 : s.heap.IsList l1 xs.toArray) (hl2 : s.heap.IsList l2 ys.toArray)
    (h : ∀ (h' : Heap) (tk : Nat) (as : List Addr), (∀ b o, b ≠ z → b ≠ TO → b ≠ i1 → b ≠ i2 → s.heap.get? b = some o → h'.get? b = some o) → s.heap.objs.size < h'.objs.size → as.length = xs.length → MadeZ xs ys s.heap.objs.size h' as →
      wpAny (model prog w) A.in1 (call (.builtin "list.sort") [.ref h'.objs.size]) (fun _ s' => Q (.ref h'.objs.size) s') E { s with heap := h'.push { cls := .type "list", data := .seq (as.map Value.ref).toArray }, toks := tk }) :
    wpAny (model prog w) A (call (.builtin "sorted") [.ref z]) Q E s := by
  refine Calls.call_function_entry kind_sorted plain_sorted entry_sorted (args_sorted1 _) ?_
  unfold Builtin.«sorted»
  refine wpAny_bind (m := checkCount "sorted" 1 1 _) (wpAny_pure ?_)
  refine wpAny_bind (collectZ (A := A.in1) hh C hxy hn t hz hl1 hl2 fun h' tk as hk hlt hl hG => ?_)
  refine wpAny_bind (wpAny_newList ?_ (by rw [List.length_map, hl]; exact hn))
  have hg := h h' tk as hk hlt hl hG
  refine wpAny_bind (wpAny_holding (wpAny_mono hg (fun _ s' x => ?_) fun _ _ e => e))
  exact wpAny_pure ⟨_, rfl, x⟩
end
end Cs

set_option Elab.async false
set_option linter.all false
set_option maxRecDepth 100000
set_option maxHeartbeats 2000000
namespace Cs
open PySem PySem.Spec PyProof.Rows L2
/-! ### sorted(zip(sizes, amounts)) -/
abbrev ZB : Type := Addr × Int × V × Rat
def encZ (b : ZB) : PyData := .tuple [.int b.2.1, .tuple [.int b.2.2.2.num, .int (b.2.2.2.den : Int)]]
theorem alikeZ (a b : ZB) : PySem.W.alike (encZ a) (encZ b) = true := by simp [encZ, PySem.W.alike, PySem.W.alikeAll]
def leZ (a b : ZB) : Bool := decide (a.2.1 < b.2.1 ∨ (a.2.1 = b.2.1 ∧ (a.2.2.2.num < b.2.2.2.num ∨ (a.2.2.2.num = b.2.2.2.num ∧ a.2.2.2.den ≤ b.2.2.2.den))))
theorem dataLe_Z : PySem.W.dataLe false encZ = leZ := by
  funext p q
  show (!PySem.W.dataLt (encZ q) (encZ p)) = _
  unfold encZ leZ
  rw [PySem.W.dataLt_pair (by simp [PySem.W.alike]) (by simp [PySem.W.alike, PySem.W.alikeAll]), PySem.W.dataLt_int, PySem.W.dataLt_ii]
  simp only [PyData.eqv, PyData.eqvAll, beq_iff_eq, Bool.and_true, Bool.and_eq_true]
  by_cases h1 : q.2.1 = p.2.1
  · rw [if_pos h1]
    by_cases h2 : q.2.2.2.num = p.2.2.2.num ∧ (q.2.2.2.den : Int) = (p.2.2.2.den : Int)
    · rw [if_pos h2]
      simp only [Bool.not_false]
      exact (decide_eq_true (by omega)).symm
    · rw [if_neg h2]
      by_cases h3 : q.2.2.2.num < p.2.2.2.num ∨ (q.2.2.2.num = p.2.2.2.num ∧ (q.2.2.2.den : Int) < (p.2.2.2.den : Int))
      · rw [decide_eq_true h3]
        exact (decide_eq_false (by omega)).symm
      · rw [decide_eq_false h3]
        exact (decide_eq_true (by omega)).symm
  · rw [if_neg h1]
    by_cases h3 : q.2.1 < p.2.1
    · rw [decide_eq_true h3]
      exact (decide_eq_false (by omega)).symm
    · rw [decide_eq_false h3]
      exact (decide_eq_true (by omega)).symm
theorem leZ_sorted (l : List ZB) : (l.mergeSort leZ).Pairwise fun a b => a.2.1 ≤ b.2.1 := by
  refine List.Pairwise.imp (fun {a b} h => ?_) (List.pairwise_mergeSort (le := leZ) (fun a b c h1 h2 => ?_) (fun a b => ?_) l)
  · have := of_decide_eq_true h
    omega
  · have h1 := of_decide_eq_true h1
    have h2 := of_decide_eq_true h2
    exact decide_eq_true (by omega)
  · unfold leZ
    simp only [Bool.or_eq_true, decide_eq_true_eq]
    omega
def tSortZip (K : PySem.W.Frag) (ta : TA) : TE := fun σ H Q => ta σ H fun vs H1 => ∃ (a b : Addr) (ns : List Int) (ys : List V) (qs : List Rat), vs = [.ref a, .ref b] ∧ SqL K H1 a (ns.map V.int) ∧ SqL K H1 b ys ∧ Amts K H1 ys qs ∧ ns.length = ys.length ∧
  ∀ (H' : Hp) (p : Addr) (zs : List ZB), Same H1 H' → H' p = some (.lst (zs.map fun z => V.ref z.1)) → (zs.map (·.2)).Perm (ns.zip (ys.zip qs)) → zs.Pairwise (fun x y => x.2.1 ≤ y.2.1) → (∀ z ∈ zs, H' z.1 = some (.tup [.int z.2.1, z.2.2.1])) → Q (.ref p) H'
theorem each_refs : ∀ {bs : List ZB} {out : List Value}, PySem.W.EachIs (fun (v : Value) (b : ZB) => v = .ref b.1) out bs → out = bs.map fun b => Value.ref b.1
  | _, _, .nil => rfl
  | _, _, .cons h t => by rw [h, each_refs t]; rfl
theorem refs_each : ∀ (bs : List ZB), PySem.W.EachIs (fun (v : Value) (b : ZB) => v = .ref b.1) (bs.map fun b => Value.ref b.1) bs
  | [] => .nil
  | b :: bs => .cons rfl (refs_each bs)
theorem each_all {R : Value → ZB → Prop} : ∀ (bs : List ZB), (∀ b ∈ bs, R (.ref b.1) b) → PySem.W.EachIs R (bs.map fun b => Value.ref b.1) bs
  | [], _ => .nil
  | b :: bs, h => .cons (h b (List.mem_cons_self ..)) (each_all bs fun x hx => h x (List.mem_cons_of_mem _ hx))
theorem ltA {a b : Nat} (h : a < b) : @LT.lt Addr _ a b := h
theorem leA {a b : Nat} (h : a ≤ b) : @LE.le Addr _ a b := h
theorem neA {a b : Nat} (h : a ≠ b) : @Ne Addr a b := h
theorem ofA {a b : Addr} (h : a < b) : @LT.lt Nat _ a b := h
theorem pe_sortZip {X : Cx} {e e2 : Expr} {ta : TA} {p p2 pos pos2 : Pos} (hcl : X.calm = true) (hr : X.A.units + 16 < cLine) (hg : Gl X "sorted") (hm : X.mg "sorted" = none) (hg2 : Gl X "zip") (hm2 : X.mg "zip" = none) (ha : PA X [e, e2] ta)
    (hs : starEach [e, e2] X.env = (false, eval e X.env) :: starEach [e2] X.env := by rfl) (hpl : (backTo pos2 (starEach [e2] X.env)).any (·.1) = false := by rfl) :
    PE X (.Call (.Name "sorted" p) [.Call (.Name "zip" p2) [e, e2] [] pos2] [] pos) (tSortZip X.K ta) := by
  refine ⟨fun pins s σ H Q I h => ?_⟩
  have hbl : bootBuiltins "sorted" = some (.builtin "sorted") := by decide +kernel
  refine wpAny_Call_Name_kw (ld_blt I hg hm hbl ?_)
  refine PyProof.Rows.callWith_builtin1 (Calls.spliced_cons ?_) rfl rfl
  refine Call_ (ld_blt I hg2 hm2 PyProof.Rows.boot_zip (PyProof.Rows.callWith_type1 (thn (ha.run pos2 pins s σ H _ I h) fun us s1 ⟨vs, H1, I1, r1, q1⟩ => ?_) hs hpl))
  obtain ⟨a, b, ns, ys, qs, ex, hSa, hSb, hA, hlen, fin⟩ := q1
  subst ex
  cases r1 with
  | cons r rr =>
    cases rr with
    | cons r' rr =>
      cases rr
      cases r
      cases r'
      obtain ⟨its, rv, pl1, hz1⟩ := I1.list hSa
      obtain ⟨its2, rv2, pl2, hz2⟩ := I1.list hSb
      refine call_zip_2 pl1.isList pl2.isList fun h' hz hTI hTO h1 h2 hsz hk => Calls.spliced_nil ?_
      have hh : X.A.handled = none := I1.ok.hd hcl
      have e1 : its.length = ns.length := by rw [← rv.length, List.length_map]
      have e2 : its2.length = ys.length := rv2.length.symm
      have ap := PySem.W.ktu_apart s1.heap.objs.size a b pl1.lt pl2.lt
      have C : ZCells (s1.heap.objs.size + 4) (s1.heap.objs.size + 2) (s1.heap.objs.size + 3) s1.heap.objs.size (s1.heap.objs.size + 1) a b h'.objs.size := by
        have x1 := pl1.lt
        have x2 := pl2.lt
        rw [hsz]
        have x1 := ofA x1
        have x2 := ofA x2
        exact ⟨ap, ltA (by omega), ltA (by omega), ltA (by omega), ltA (by omega), ltA (by omega), ltA (by omega), ltA (by omega)⟩
      refine sortedZ (s := { s1 with heap := h' }) hh C (by omega) (by rw [e1, ← List.length_map (f := V.int)]; exact hz1) ⟨hTI, ⟨_, _, hTO⟩, h1, h2, .inl hz⟩ hz (pl1.isList.at fun o e => hk _ _ e) (pl2.isList.at fun o e => hk _ _ e) fun g tk as kp hlt hal hG => ?_
      dsimp only at kp hlt hG ⊢
      have kpg : ∀ b o, s1.heap.get? b = some o → g.get? b = some o := fun b o e => by
        have hb := ofA (Heap.lt_size e)
        exact kp b o (neA (by omega)) (neA (by omega)) (neA (by omega)) (neA (by omega)) (hk b o e)
      have lowg : s1.heap.objs.size < g.objs.size := by
        have := ofA hlt
        exact ltA (by omega)
      -- the pairs
      let bs : List ZB := as.zip (ns.zip (ys.zip qs))
      have hAl := hA.len
      have lbs : bs.length = as.length := by
        show (as.zip (ns.zip (ys.zip qs))).length = _
        rw [List.length_zip, List.length_zip, List.length_zip]
        omega
      have mbs : bs.map (fun b => Value.ref b.1) = as.map Value.ref := by
        show (as.zip (ns.zip (ys.zip qs))).map (fun b => Value.ref b.1) = _
        have : (as.zip (ns.zip (ys.zip qs))).map (fun b => Value.ref b.1) = ((as.zip (ns.zip (ys.zip qs))).map (·.1)).map Value.ref := by rw [List.map_map]; rfl
        rw [this, List.map_fst_zip (by rw [List.length_zip, List.length_zip]; omega)]
      have get_bs : ∀ x ∈ bs, ∃ j : Nat, as[j]? = some x.1 ∧ ns[j]? = some x.2.1 ∧ ys[j]? = some x.2.2.1 ∧ qs[j]? = some x.2.2.2 := fun x hx => by
        obtain ⟨j, hj⟩ := List.mem_iff_getElem?.mp hx
        obtain ⟨j1, j2⟩ := List.getElem?_zip_eq_some.mp hj
        obtain ⟨j3, j4⟩ := List.getElem?_zip_eq_some.mp j2
        obtain ⟨j5, j6⟩ := List.getElem?_zip_eq_some.mp j4
        exact ⟨j, j1, j3, j5, j6⟩
      have pr : ∀ x ∈ bs, ∃ (t0 : Tok) (y : Addr), x.2.2.1 = .ref y ∧ g.get? x.1 = some { cls := .type "tuple", data := .seq #[.int x.2.1 t0, .ref y] } ∧ SqT X.K H1 y [.int x.2.2.2.num, .int (x.2.2.2.den : Int)] := fun x hx => by
        obtain ⟨j, j1, j2, j3, j4⟩ := get_bs x hx
        obtain ⟨u, v, u1, u2, u3⟩ := hG.pairs j _ j1
        obtain ⟨u', e1', r1'⟩ := rv.get (i := j) (x := .int x.2.1) (by rw [List.getElem?_map, j2]; rfl)
        obtain ⟨v', e2', r2'⟩ := rv2.get j3
        rw [u1] at e1'
        rw [u2] at e2'
        cases e1'
        cases e2'
        obtain ⟨y, hy, hq⟩ := hA.at_ j _ _ j3 j4
        obtain ⟨t0, rfl⟩ := r1'
        rw [hy] at r2'
        have r2'' : v = .ref y := r2'
        subst r2''
        exact ⟨t0, y, hy, u3, hq⟩
      have hob : (g.push { cls := .type "list", data := .seq (as.map Value.ref).toArray }).get? g.objs.size = some (seqObj "list" (as.map Value.ref).toArray 0) := Heap.get?_push_size _ rfl
      have ka : ∀ b o, g.get? b = some o → (g.push { cls := .type "list", data := .seq (as.map Value.ref).toArray }).get? b = some o := fun b o e => Heap.get?_push_of_some _ e
      generalize hh2 : g.push { cls := .type "list", data := .seq (as.map Value.ref).toArray } = h2 at hob ka ⊢
      have rd : PySem.W.EachIs (fun v b => ∃ as, Reads h2 v (encZ b) as ∧ g.objs.size ∉ as) (as.map Value.ref) bs := by
        rw [← mbs]
        refine each_all (R := fun v b => ∃ as, Reads h2 v (encZ b) as ∧ g.objs.size ∉ as) bs fun x hx => ?_
        obtain ⟨t0, y, hy, hgx, hq⟩ := pr x hx
        obtain ⟨its3, rv3, ⟨o3, ho3, hc3, n3, hd3⟩, _⟩ := I1.tuple hq
        obtain ⟨u1, u2, rfl, ri, rj⟩ := vals2 rv3
        obtain ⟨t1, rfl⟩ := ri
        obtain ⟨t2, rfl⟩ := rj
        refine ⟨_, .tuple (ka _ _ hgx) rfl rfl (.cons (.int _ _) (.cons (.tuple (ka _ _ (kpg _ _ ho3)) hc3 hd3 (.cons (.int _ _) (.cons (.int _ _) .nil))) .nil)), by simp⟩
      refine PySem.W.list_sort_data (s := { s1 with heap := h2, toks := tk }) (R := fun (v : Value) (b : ZB) => v = .ref b.1) (enc := encZ) (bs := bs) hob (by rw [← mbs]; exact refs_each bs) rd (PySem.W.AllAlike.of alikeZ) (PySem.W.Sortable.tuples fun b => ⟨_, _, rfl⟩) (by rw [lbs, hal, e1, ← List.length_map (f := V.int)]; exact hz1)
        (fun b _ => ?_) fun out hol eo => ?_
      · have hd : (encZ b).depth ≤ 2 := by simp [encZ, PyData.depth, PyData.depthAll]
        show X.A.units + 1 + 1 + (encZ b).depth < cLine
        omega
      · rw [dataLe_Z] at eo
        have ez := each_refs eo
        show EP X pins σ Q (.ref g.objs.size) { s1 with heap := sortedHeap h2 g.objs.size (as.map Value.ref) (List.toArray out), toks := tk }
        generalize hzs : bs.mergeSort leZ = zs at ez eo
        have pz : zs.Perm bs := by rw [← hzs]; exact List.mergeSort_perm bs leZ
        have sz : zs.Pairwise fun a b => a.2.1 ≤ b.2.1 := by rw [← hzs]; exact leZ_sorted bs
        have ne0 : ∀ b o, g.get? b = some o → b ≠ g.objs.size := fun b o e => Nat.ne_of_lt (Heap.lt_size e)
        have kF : ∀ b o, b ≠ g.objs.size → h2.get? b = some o → (sortedHeap h2 g.objs.size (as.map Value.ref) (List.toArray out)).get? b = some o := fun b o hb e => (PyProof.Rows.sortedHeap_old hb (Heap.lt_size e)).trans e
        have kS : ∀ b o, s1.heap.get? b = some o → (sortedHeap h2 g.objs.size (as.map Value.ref) (List.toArray out)).get? b = some o := fun b o e => kF b o (ne0 _ _ (kpg b o e)) (ka b o (kpg b o e))
        obtain ⟨eF, heF⟩ := PyProof.Rows.sortedHeap_at (vs := as.map Value.ref) (out := List.toArray out) hob
        have J1 : Inv X pins σ H1 { s1 with heap := sortedHeap h2 g.objs.size (as.map Value.ref) (List.toArray out), toks := tk } := I1.kept (t' := tk) kS
        have hn0 : H1 g.objs.size = none := I1.hok.fresh (Nat.le_of_lt lowg)
        have lzs : zs.length = ns.length := by rw [pz.length_eq, lbs, hal, e1]
        have hlen2 : (zs.map fun z => V.ref z.1).length ≤ sizeLine := by
          rw [List.length_map, lzs, ← List.length_map (f := V.int)]
          exact hz1
        have rv9 : Vals (zs.map fun z => V.ref z.1) out := by
          rw [ez]
          exact vals_maps (fun z : ZB => V.ref z.1) (fun z => Value.ref z.1) zs fun _ _ => rfl
        have J2 : Inv X pins σ (upd H1 g.objs.size (.lst (zs.map fun z => V.ref z.1))) { s1 with heap := sortedHeap h2 g.objs.size (as.map Value.ref) (List.toArray out), toks := tk } :=
          J1.take (h' := sortedHeap h2 g.objs.size (as.map Value.ref) (List.toArray out)) (t' := tk) (fun b ob _ e => e) (I1.fpOk (Nat.le_of_lt lowg) hn0) ⟨hlen2, out, eF, rv9, heF⟩
        have nd : as.Nodup := List.Pairwise.imp (fun h => Nat.ne_of_lt h) hG.rise
        have inb : ∀ t ∈ as, ∃ x ∈ bs, x.1 = t := fun t ht => by
          have : Value.ref t ∈ bs.map (fun b => Value.ref b.1) := by rw [mbs]; exact List.mem_map.mpr ⟨t, ht, rfl⟩
          obtain ⟨x, hx, e⟩ := List.mem_map.mp this
          exact ⟨x, hx, by injection e⟩
        obtain ⟨H2, J3, gr0, qt⟩ := DX.takeT (P := fun t vs => ∃ x ∈ bs, x.1 = t ∧ vs = [.int x.2.1, x.2.2.1]) I1 as _ J2 nd fun t ht => by
          obtain ⟨x, hx, rfl⟩ := inb t ht
          obtain ⟨t0, y, hy, hgx, hq⟩ := pr x hx
          have hbl : s1.heap.objs.size ≤ x.1 := by
            have := ofA (hG.above _ ht)
            exact leA (by omega)
          refine ⟨hbl, ?_, [.int x.2.1, x.2.2.1], ⟨x, hx, rfl, rfl⟩, fun H3 => ⟨(by show 2 ≤ sizeLine; decide), [Value.int x.2.1 t0, Value.ref y], .cons ⟨t0, rfl⟩ (.cons (by rw [hy]; rfl) .nil), ⟨_, kF _ _ (ne0 _ _ hgx) (ka _ _ hgx), rfl, 0, rfl⟩⟩⟩
          rw [upd_ne (ne0 _ _ hgx)]
          exact I1.hok.fresh hbl
        have gr : Same H1 H2 := fun b o e => gr0 b o (by rw [upd_ne (ne_of_none e hn0)]; exact e)
        refine ⟨.ref g.objs.size, H2, J3, rfl, fin H2 g.objs.size zs gr (gr0 _ _ upd_same) ?_ sz fun z' hz' => ?_⟩
        · have e := pz.map (·.2)
          have m2 : bs.map (·.2) = ns.zip (ys.zip qs) := List.map_snd_zip (by rw [List.length_zip, List.length_zip]; omega)
          rw [m2] at e
          exact e
        · have hz'b := pz.mem_iff.mp hz'
          obtain ⟨i, i1, i2, i3, i4⟩ := get_bs z' hz'b
          obtain ⟨vs, ⟨x, hx, ex, ev⟩, hH⟩ := qt z'.1 (List.mem_of_getElem? i1)
          obtain ⟨j, j1, j2, j3, j4⟩ := get_bs x hx
          rw [ex] at j1
          have eij : i = j := (List.getElem?_inj (List.getElem?_eq_some_iff.mp i1).1 nd).mp (i1.trans j1.symm)
          subst eij
          have q1 : x.2.1 = z'.2.1 := Option.some.inj (j2.symm.trans i2)
          have q2 : x.2.2.1 = z'.2.2.1 := Option.some.inj (j3.symm.trans i3)
          rw [ev, q1, q2] at hH
          exact hH
end Cs

set_option Elab.async false
set_option linter.all false
set_option maxRecDepth 100000
set_option maxHeartbeats 2000000
namespace Cs
open PySem PySem.Spec PyProof.Rows L2
/-! ### a whole number, reckoned in a frame without a change of the heap -/
def EvI (P : Program) (w : World) (A : Around) (env : Env) (h : Heap) (e : Expr) (i : Int) : Prop :=
  ∀ (s : Shared) (Q E : Value → Shared → Prop), s.heap = h → (∀ (t : Tok) (tk : Nat), Q (.int i t) { s with toks := tk }) → wpAny (model P w) A (eval e env) Q E s
section
variable {P : Program} {w : World} {A : Around} {env : Env} {h : Heap} {a b : Expr} {i j : Int} {pos : Pos}
theorem ev_mul (ha : EvI P w A env h a i) (hb : EvI P w A env h b j) (hm : CMulW i j) : EvI P w A env h (.BinOp a .Mult b pos) (i * j) := fun s Q E hs hq =>
  wpAny_BinOp (ha s _ E hs fun t tk => hb { s with toks := tk } _ E hs fun t' tk' => PyProof.Rows.mul_int (hq _ _) hm.ok)
theorem ev_fdiv (ha : EvI P w A env h a i) (hb : EvI P w A env h b j) (hm : CDivW i j) : EvI P w A env h (.BinOp a .FloorDiv b pos) (i / j) := fun s Q E hs hq =>
  wpAny_BinOp (ha s _ E hs fun t tk => hb { s with toks := tk } _ E hs fun t' tk' => floordiv_int (by have := hm.1; omega) (by rw [Int.fdiv_eq_ediv_of_nonneg i (by have := hm.1; omega)]; exact hq _ _) (.inl (PyProof.noPylong_of_log2 hm.2)))
theorem ev_free {x : Str} {c : Addr} {t0 : Tok} (hk : env.scope.kind = .function) (hl : env.scope.names.lookup x = some .free) (hc : env.cells.lookup x = some c) (hv : h.IsCell c (some (.int i t0))) (hd : (x == ("__debug__" : Str)) = false := by decide) (hcd : (x == ("__classdict__" : Str)) = false := by decide) :
    EvI P w A env h (.Name x pos) i := fun s Q E hs hq => by
  subst hs
  exact wpAny_Name (wpAny_loadName_free hk hl hc hv (hq _ _) hcd) hd
theorem ev_item {x : Str} {t : Addr} {its : Array Value} {k : Int} {m : Str → Option Value} {p1 p2 : Pos} {kk : Nat} {t0 : Tok} {j : Nat} (hk : env.scope.kind = .function) (hl : env.scope.names.lookup x = some .local) (hn : h.Ns env.locals m) (hm : m x = some (.ref t)) (ht : IsTup h t its)
    (hlo : -(2 ^ 63) ≤ k) (hhi : k < 2 ^ 63) (hj : seqIndex? k its.size = some j) (hx : its[j]? = some (.int i t0)) (hd : (x == ("__debug__" : Str)) = false := by decide) : EvI P w A env h (.Subscript (.Name x p1) (.Constant (.int k) kk p2) pos) i := fun s Q E hs hq => by
  subst hs
  refine Subscript_ (wpAny_Name (wpAny_loadName_local hk hl hn hm ?_) hd)
  refine wpAny_Constant_int ?_
  exact subscriptTail_builtinR (x := .int i t0) ht.typeIs slot_tuple_getitem.lookup (getItem_tuple (j := j) ht hlo hhi hj hx ⟨rfl, hq _ _⟩) rfl
end
section
variable {P : Program} {w : World} {A : Around} {env : Env} {h : Heap} {a b : Expr} {i j : Int} {pos : Pos}
theorem ev_neg (ha : EvI P w A env h a i) : EvI P w A env h (.UnaryOp .USub a pos) (-i) := fun s Q E hs hq =>
  wpAny_UnaryOp (ha s _ E hs fun t tk => PyProof.Rows.neg_int (hq _ _))
theorem ev_at {x y : Str} {l : Addr} {its : Array Value} {m : Str → Option Value} {k : Nat} {t0 t1 : Tok} {c : Addr} {p1 p2 : Pos} (hk : env.scope.kind = .function) (hf : env.scope.names.lookup x = some .free) (hc : env.cells.lookup x = some c) (hv : h.IsCell c (some (.ref l))) (hL : h.IsList l its)
    (hl : env.scope.names.lookup y = some .local) (hn : h.Ns env.locals m) (hm : m y = some (.int (k : Int) t1)) (hj : (k : Int) < 2 ^ 63) (hx : its[k]? = some (.int i t0)) (hd : (x == ("__debug__" : Str)) = false := by decide) (hcd : (x == ("__classdict__" : Str)) = false := by decide)
    (hd2 : (y == ("__debug__" : Str)) = false := by decide) : EvI P w A env h (.Subscript (.Name x p1) (.Name y p2) pos) i := fun s Q E hs hq => by
  subst hs
  refine Subscript_ (wpAny_Name (wpAny_loadName_free hk hf hc hv ?_ hcd) hd)
  refine wpAny_Name (wpAny_loadName_local hk hl hn hm ?_) hd2
  exact subscriptTail_builtinR (x := .int i t0) hL.typeIs slot_list_getitem.lookup (wpAny_getItem_list hL (by omega) hj (by simpa using hx) ⟨rfl, hq _ _⟩) rfl
end
/-! ### sorted(xs, key=lambda ..) -/
structure LamAt (X : Cx) (scope : Scope) (par : Str) (σ : L2.St) (H : Hp) (env : Env) (h : Heap) (v : Value) : Prop where
  sc : env.scope = scope
  loc : ∃ m, h.Ns env.locals m ∧ m par = some v
  free : ∀ (i : Nat) (y : Str) (z : V), X.N[i]? = some y → σ[i]? = some (some z) → scope.names.lookup y = some .free → ∃ c u, env.cells.lookup y = some c ∧ h.IsCell c (some u) ∧ RelV z u
  hok : HOk X.prog X.w H h
  kin : X.K.In h
/-! ### sorted(range(n), key=lambda ..) -/
theorem cr_range1 {X : Cx} : CallR X (.type "range") (fun vs H Q => ∃ j, vs = [V.int j] ∧ ∀ p, H p = none → Q (.ref p) (upd H p (.rng 0 j))) := by
  intro pins s σ H vs us Q I r h
  obtain ⟨j, rfl, q⟩ := h
  obtain ⟨u1, rfl, ri⟩ := vals1 r
  obtain ⟨t, rfl⟩ := ri
  refine call_range_1 ⟨.ref s.heap.objs.size, upd H s.heap.objs.size (.rng 0 j), I.laid (t' := s.toks + 1 + 1) (fun b o e => Heap.get?_push_of_some _ e) (Nat.le_refl _) ?_, rfl, q _ (I.hok.fresh (Nat.le_refl _))⟩
  exact ⟨_, _, _, Heap.get?_push_size _ rfl⟩
theorem each_at {β : Type} {R : Value → β → Prop} : ∀ {vs : List Value} {bs : List β}, vs.length = bs.length → (∀ (j : Nat) v b, vs[j]? = some v → bs[j]? = some b → R v b) → PySem.W.EachIs R vs bs
  | [], [], _, _ => .nil
  | [], _ :: _, h, _ => by simp at h
  | _ :: _, [], h, _ => by simp at h
  | v :: vs, b :: bs, h, f => .cons (f 0 v b rfl rfl) (each_at (by simpa using h) fun j v b h1 h2 => f (j + 1) v b (by simpa using h1) (by simpa using h2))
def IntOf (v : Value) (b : Nat) : Prop := ∃ t, v = .int (b : Int) t
/-- the numbers of a range, in a heap that has grown -/
theorem collectR {prog : Program} {w : World} {A : Around} {E : Value → Shared → Prop} {s : Shared} {l : Addr} {n : Nat} {t u v : Tok} {Q : List Value → Shared → Prop} (hh : A.handled = none) (hr : IsRange s.heap l 0 (n : Int) 1 t u v) (hs : Builtin.Range.small 0 (n : Int) 1 = true) (hn : Builtin.Range.rangeSize 0 (n : Int) 1 = n) (hl : n ≤ 2 ^ 24)
    (hQ : ∀ (h' : Heap) (tk : Nat) (acc : Array Value), s.heap.objs.size < h'.objs.size → (∀ b o, s.heap.get? b = some o → h'.get? b = some o) → ItemsOf (fun i v => ∃ t, v = .int (0 + i * 1) t) acc n → Q acc.toList { s with heap := h', toks := tk }) : wpAny (model prog w) A (collect (.ref l)) Q E s := by
  unfold collect; refine wpAny_bind (wpAny_runValue (codeAny_builtin F.entry_proto_collect ?_))
  rw [Around.under_plainId F.plain_proto_collect _]; show wpAny _ A.in1 (newList [] >>= fun m => again (.builtin "list.__iadd__" ⟨[m, .ref l], []⟩)) _ _ s
  refine wpAny_bind (wpAny_newObj_type ?_); refine wpAny_pure ⟨plainId_quiet F.plain_list_iadd _, codeAny_builtin F.entry_list_iadd ?_⟩
  rw [Around.under_plainId F.plain_list_iadd _]; show wpAny _ A.in1 (Builtin.List.listExtendWith (.ref s.heap.objs.size) (.ref l) (.ref s.heap.objs.size)) _ _ _
  have hS : (s.heap.push { cls := .type "list", data := .seq ([] : List Value).toArray }).get? s.heap.objs.size = some { cls := .type "list", data := .seq #[] 0 } := by exact Heap.get?_push_size _ rfl
  have key := wpAny_extend_range (A := A) (prog := prog) (w := w) (R := fun rr s' => ∃ (h' : Heap) (tk : Nat) (acc : Array Value) (c' : Nat), rr = .ok (.ret (.ref s.heap.objs.size)) ∧ s' = { s with heap := h', toks := tk } ∧ (∀ b o, s.heap.get? b = some o → h'.get? b = some o) ∧
      h'.get? s.heap.objs.size = some { cls := .type "list", dict := none, data := .seq acc c', slots := #[] } ∧ ItemsOf (fun i v => ∃ t, v = .int (0 + i * 1) t) acc n) (s := { s with heap := s.heap.push { cls := .type "list", data := .seq ([] : List Value).toArray } })
    hh (Heap.get?_push_of_some _ hr) hs hn hl _ _ 0 hS (fun h' tk acc c' hk e hi => ⟨h', tk, acc, c', rfl, rfl, fun b o q => hk b o (Nat.ne_of_lt (Heap.lt_size q)) (Heap.get?_push_of_some _ q), e, hi⟩)
  refine wpAny_mono key (fun fin s' x => ?_) (fun e s' x => ?_)
  · cases fin with
    | done f =>
      obtain ⟨h', tk, acc, c', e, rfl, hk, hS', hi⟩ := x
      cases e
      exact wpAny_bind (wpAny_load hS' (wpAny_pure (hQ h' tk acc (Heap.lt_size hS') hk hi)))
    | again c' =>
      refine ⟨x.1, codeAny_mono x.2 fun rr s'' y => ?_⟩
      obtain ⟨h', tk, acc, c', rfl, rfl, hk, hS', hi⟩ := y
      exact wpAny_bind (wpAny_load hS' (wpAny_pure (hQ h' tk acc (Heap.lt_size hS') hk hi)))
  · obtain ⟨_, _, _, _, e', _⟩ := x
    cases e'
theorem sortedKeyRng {prog : Program} {w : World} {A : Around} {E : Value → Shared → Prop} {s : Shared} {l f : Addr} {n : Nat} {t u v : Tok} {Q : Value → Shared → Prop} (hh : A.handled = none) (hr : IsRange s.heap l 0 (n : Int) 1 t u v) (hn : n ≤ 64) (k : Nat → Int) (hu : A.units + 3 < cLine)
    (turn : ∀ (v : Value) (x : Nat), IntOf v x → x < n → ∀ (h : Heap) (tk : Nat), (∀ b o, s.heap.get? b = some o → h.get? b = some o) →
      wpAny (model prog w) A.in1.in1 (call (.ref f) [v]) (PySem.W.KeyPure (.int (k x)) { s with heap := h, toks := tk }) (fun _ _ => False) { s with heap := h, toks := tk })
    (h : ∀ (out : List Value) (c : Nat) (h' : Heap) (tk p : Nat), (∀ b o, s.heap.get? b = some o → h'.get? b = some o) → s.heap.objs.size ≤ p → h'.get? p = some (seqObj "list" (List.toArray out) c) → PySem.W.EachIs IntOf out ((List.range n).mergeSort fun a b => decide (k a ≤ k b)) →
      Q (.ref p) { s with heap := h', toks := tk }) : wpAny (model prog w) A (call (.builtin "sorted") [.ref l] [(Str.ofString "key", .ref f)]) Q E s := by
  refine call_function_entry_kw kind_sorted plain_sorted entry_sorted (ksk_s1 _ _) ?_
  unfold Builtin.«sorted»
  refine wpAny_bind (m := checkCount "sorted" 1 1 _) (wpAny_pure ?_)
  refine wpAny_bind (collectR (A := A.in1) (n := n) hh hr (small_one (by decide) (by decide) (by omega) (by omega)) (by rw [rangeSize_one]; split <;> omega) (by omega) fun h' tk acc hgrow hk hi => ?_)
  have la : acc.toList.length = n := by rw [Array.length_toList]; exact hi.1
  refine wpAny_bind (wpAny_newList ?_ (by rw [la]; exact Nat.le_trans hn (by decide)))
  have hob : (h'.push { cls := .type "list", data := .seq acc.toList.toArray }).get? h'.objs.size = some (seqObj "list" acc.toList.toArray 0) := Heap.get?_push_size _ rfl
  have kb : ∀ b o, s.heap.get? b = some o → (h'.push { cls := .type "list", data := .seq acc.toList.toArray }).get? b = some o := fun b o e => Heap.get?_push_of_some _ (hk b o e)
  have ne0 : ∀ b o, s.heap.get? b = some o → b ≠ h'.objs.size := fun b o e => Nat.ne_of_lt (Heap.lt_size (hk b o e))
  have e : PySem.W.EachIs IntOf acc.toList (List.range n) := each_at (by rw [la, List.length_range]) fun j v b h1 h2 => by
    have h3 : acc[j]? = some v := by rw [← Array.getElem?_toList]; exact h1
    obtain ⟨t, rfl⟩ := hi.2 j v h3
    have hb : b = j := by
      obtain ⟨hl, hb⟩ := List.getElem?_eq_some_iff.mp h2
      rw [← hb, List.getElem_range]
    subst hb
    exact ⟨t, by simp⟩
  refine wpAny_bind (wpAny_holding (wpAny_mono (PySem.W.list_sort_key_data (s := { s with heap := h'.push { cls := .type "list", data := .seq acc.toList.toArray }, toks := tk }) (A := A.in1) (b := false) (Q := fun _ s' => Q (.ref h'.objs.size) s') (R := IntOf) (bs := List.range n) (fun x => .int (k x)) hob e
    (PySem.W.AllAlike.of fun _ _ => by simp [PySem.W.alike]) (PySem.W.Sortable.others fun b => ⟨by simp, fun _ => by simp⟩) (by rw [List.length_range]; exact Nat.le_trans hn (by decide)) (fun x _ => ?_) (ksk_l1 _ _) (ksk_t1 _ _)
    (fun v x hR hx hp tk' kp => ?_) fun out c g tk' kp hD hol eo => ?_) (fun _ s' x => wpAny_pure ⟨_, rfl, x⟩) fun _ _ e => e))
  · have hd : (PyData.int (k x)).depth = 0 := by simp [PyData.depth]
    show A.units + 1 + 1 + _ < cLine
    omega
  · exact turn v x hR (List.mem_range.mp hx) hp tk' fun b o e => kp b o (ne0 b o e) (kb b o e)
  · rw [PySem.W.dataLe_int (β := Nat) k] at eo
    refine h out c g tk' h'.objs.size (fun b o e => kp b o (ne0 b o e) (kb b o e)) ?_ hD eo
    exact Nat.le_of_lt hgrow
def tSortRng (T : List (Addr × Str)) (key : L2.St → Hp → V → Int → Prop) (ta : TE) : TE := fun σ H Q => ta σ H fun x H1 => ∃ (a : Addr) (n : Nat) (ks : Nat → Int), x = .ref a ∧ H1 a = some (.rng 0 (n : Int)) ∧ n ≤ 64 ∧ (∀ i < n, key σ H1 (.int (i : Int)) (ks i)) ∧ LamX.Tabs T H1 ∧
  ∀ (H2 : Hp) (p : Addr), LamX.ExtN H1 H2 → LamX.Tabs T H2 → H2 p = none → Q (.ref p) (upd H2 p (.lst (((List.range n).mergeSort fun a b => decide (ks a ≤ ks b)).map fun (i : Nat) => V.int (i : Int))))
theorem vals_intOf : ∀ {out : List Value} {bs : List Nat}, PySem.W.EachIs IntOf out bs → Vals (bs.map fun (i : Nat) => V.int (i : Int)) out
  | _, _, .nil => .nil
  | _, _, .cons r t => .cons r (vals_intOf t)
theorem pe_sortRng {X : Cx} {T : List (Addr × Str)} {key : L2.St → Hp → V → Int → Prop} {e : Expr} {ta : TE} {params : Arguments} {body : Expr} {scope : Scope} {par : Str} {c P : Addr} {p pos lpos kpos : Pos} (hcl : X.calm = true) (hg : Gl X "sorted") (hm : X.mg "sorted" = none) (ha : PA X [e] (tCons ta tNil))
    (TB : LamX.TabB X.base X.mg c P) (hcode : X.env.code = .ref c) (hmT : (P, X.env.qual ++ "<lambda>") ∈ T) (hu : ∀ p ∈ T, p.1 = P → p.2 = X.env.qual ++ "<lambda>") (hr : Room 3 X.A)
    (hkind : scope.kind = .function) (hco : scope.isCoroutine = false) (hgen : scope.isGenerator = false) (nocell : ∀ y ∈ scope.names, y.2 ≠ .cell) (hpar : scope.names.lookup par = some .local)
    (hfree : ∀ y ∈ scope.names, y.2 = .free → X.env.scope.names.lookup y.1 = some .cell ∨ X.env.scope.names.lookup y.1 = some .free) (hdef : defaultsOf params X.env = ([], []))
    (hbind : ∀ (q : Str) (cl : List (Str × Addr)) (pm cv ctv v : Value), bindArgs (PySem.W.kla_fn "<lambda>" q params body scope cl pm cv ctv) ⟨[v], []⟩ = pure [(par, v)])
    (ev : ∀ (A : Around) (env : Env) (h : Heap) (v : Value) (x : V) (k : Int) (σ : L2.St) (H : Hp), LamAt X scope par σ H env h v → RelV x v → key σ H x k → EvI X.prog X.w A env h body k)
    (mono : ∀ (σ : L2.St) (H H' : Hp) (x : V) (k : Int), LamX.ExtN H H' → key σ H x k → key σ H' x k)
    (he : backTo pos (starEach [e] X.env) = (false, eval e X.env) :: backTo pos (starEach [] X.env) := by rfl) (hpl : (backTo pos (starEach [e] X.env)).any (·.1) = false := by rfl) :
    PE X (.Call (.Name "sorted" p) [e] [⟨some "key", .Lambda params body scope lpos, kpos⟩] pos) (tSortRng T key ta) := by
  refine ⟨fun pins s σ H Q I h => ?_⟩
  have hbl : bootBuiltins "sorted" = some (.builtin "sorted") := by decide +kernel
  refine wpAny_Call_Name_kw (ld_blt I hg hm hbl ?_)
  have hfr : ∀ y ∈ scope.names, y.2 = .free → ∃ c, X.env.cells.lookup y.1 = some c := fun y hy e => (hfree y hy e).elim (fun z => I.ok.has _ (.inl z)) fun z => I.ok.has _ (.inr z)
  refine PyProof.Rows.callWith_kw (thn (ha.run pos pins s σ H (fun vs H1 => match vs with
    | [x] => ∃ (a : Addr) (n : Nat) (ks : Nat → Int), x = .ref a ∧ H1 a = some (.rng 0 (n : Int)) ∧ n ≤ 64 ∧ (∀ i < n, key σ H1 (.int (i : Int)) (ks i)) ∧ LamX.Tabs T H1 ∧
        ∀ (H2 : Hp) (p : Addr), LamX.ExtN H1 H2 → LamX.Tabs T H2 → H2 p = none → Q (.ref p) (upd H2 p (.lst (((List.range n).mergeSort fun a b => decide (ks a ≤ ks b)).map fun (i : Nat) => V.int (i : Int))))
    | _ => False) I h) fun us s1 ⟨vs, H1, I1, r1, q1⟩ => ?_) he hpl rfl rfl
  match vs, r1, q1 with
  | [x], r1, q1 =>
    obtain ⟨a, n, ks, rfl, hR0, hn, hkey, hT, fin⟩ := q1
    obtain rfl := Vals.ref1 r1
    show wpAny _ _ (evalAll [do let v ← eval (.Lambda params body scope lpos) X.env; standAt pos; pure v]) _ _ s1
    refine wpAny_evalAll_cons (wpAny_bind (LamX.lam_make2 I1 TB hcode hmT hu hT hdef hfr fun f c' pm ctv H2 s2 I2 eN T2 hf hfn hfrs hco2 => wpAny_bind (wpAny_standAt (wpAny_pure (wpAny_evalAll_nil ?_)))))
    show wpAny _ _ (call (.builtin "sorted") [.ref a] [(Str.ofString "key", .ref f)]) _ _ s2
    have hR2 : H2 a = some (.rng 0 (n : Int)) := eN _ _ hR0 fun _ z => by cases z
    obtain ⟨t1, t2, t3, ho⟩ := I2.hok a _ hR2
    refine sortedKeyRng (I2.ok.hd hcl) ho hn ks (by have := hr.un; omega) (fun v x hx hlt hh tk kp => ?_) fun out cc h' tk p kp hp hD eo => ?_
    · -- the lambda called with v, in a heap hh that keeps all
      have of1 : hh.get? f = some (PySem.W.kla_obj "<lambda>" (X.env.qual ++ "<lambda>") params body scope (cloFrom X.env.cells scope.names []) pm c' ctv) := kp _ _ hf
      obtain ⟨⟨oc, vs, t, hoc, hdc, hvc⟩, _, _⟩ := I2.hok c' _ hco2
      have rd : X.A.in1.in1.depth < recursionLimit := hr.in1.in1.depth
      refine wpAny_call (PySem.W.kla_callFunE rd of1 rfl hco hgen rfl ⟨c', oc, vs, t, rfl, kp _ _ hoc, hdc, hvc⟩ ?_)
      rw [hbind]
      refine wpAny_pure (wpAny_newFunctionEnv nocell (fun y hy => ?_) (fun h₁ hns hsb => ⟨(I2.nolimit.keeps kp).fresh _ hsb, ?_⟩) hkind)
      · have e : y = (par, v) := by simpa using hy
        rw [e]
        exact hpar
      · have kp1 : ∀ b o, hh.get? b = some o → h₁.get? b = some o := fun b o e => hsb.extBut b o (Nat.ne_of_lt (Heap.lt_size e)) (Heap.get?_push_of_some _ e)
        have kp2 : ∀ b o, s2.heap.get? b = some o → h₁.get? b = some o := fun b o e => kp1 b o (kp b o e)
        show codeAny _ _ (.expr body (LamX.lamEnv X scope hh.objs.size f c')) _ _
        have key2 : key σ H2 (.int (x : Int)) (ks x) := mono _ _ _ _ _ eN (hkey x hlt)
        have LA : LamAt X scope par σ H2 (LamX.lamEnv X scope hh.objs.size f c') h₁ v := by
          refine ⟨rfl, ⟨_, hns, ?_⟩, fun i y z hy hz hf => ?_, I2.hok.kept kp2, fun b o e => kp2 b o (I2.kIn b o e)⟩
          · show List.lookup par [(par, v)] = some v
            simp [List.lookup]
          · have hmem : (y, NameKind.free) ∈ scope.names := PySem.mem_of_lookup hf
            have hv := hfree _ hmem rfl
            obtain ⟨m, hn, hl⟩ := I2.loc
            obtain ⟨u, ru, lk⟩ := hl i y z hy hz (hv.elim (fun k => .inr (.inl k)) fun k => .inr (.inr k))
            rcases lk with ⟨k1, _⟩ | ⟨_, cc, hc, hcell⟩
            · have k1 : X.env.scope.names.lookup y = some .local := k1
              rcases hv with k2 | k2 <;> rw [show X.env.scope.names.lookup y = _ from k2] at k1 <;> cases k1
            · obtain ⟨o, ho, hd⟩ := hcell
              exact ⟨cc, u, NdefX.clo_has hfr hmem hc, ⟨o, kp2 _ _ ho, hd⟩, ru⟩
        refine PySem.W.kla_codeExpr (ev _ _ h₁ v (.int (x : Int)) (ks x) σ H2 LA hx key2 _ _ _ rfl fun t tk => ?_)
        exact ⟨h₁, _, rfl, kp1, Reads.int _ _⟩
    · have vo := vals_intOf eo
      refine ⟨.ref p, upd H2 p (.lst (((List.range n).mergeSort fun a b => decide (ks a ≤ ks b)).map fun (i : Nat) => V.int (i : Int))), I2.laid (t' := tk) kp hp ⟨?_, out, cc, vo, hD⟩, rfl, fin H2 _ eN T2 (I2.hok.fresh hp)⟩
      rw [List.length_map, List.length_mergeSort, List.length_range]
      exact Nat.le_trans hn (by decide)
end Cs

set_option Elab.async false
set_option linter.all false
set_option maxRecDepth 100000
set_option maxHeartbeats 2000000
namespace Cs
open PySem L2
/-! ### keys above one common line -/
def prodD (qs : List Rat) : Nat := qs.foldl (fun n q => n * q.den) 1
theorem foldl_den : ∀ (qs : List Rat) (n : Nat), qs.foldl (fun n q => n * q.den) n = n * prodD qs
  | [], n => (Nat.mul_one n).symm
  | q :: qs, n => by
    show qs.foldl (fun n q => n * q.den) (n * q.den) = n * qs.foldl (fun n q => n * q.den) (1 * q.den)
    rw [foldl_den qs (n * q.den), foldl_den qs (1 * q.den), Nat.one_mul, Nat.mul_assoc]
theorem prodD_cons (q : Rat) (qs : List Rat) : prodD (q :: qs) = q.den * prodD qs := by
  show qs.foldl (fun n q => n * q.den) (1 * q.den) = _
  rw [foldl_den, Nat.one_mul]
theorem prodD_app (qs : List Rat) (q : Rat) : prodD (qs ++ [q]) = prodD qs * q.den := by
  unfold prodD
  rw [List.foldl_append]
  rfl
theorem prodD_pos : ∀ qs : List Rat, 0 < prodD qs
  | [] => by decide
  | q :: qs => by
    rw [prodD_cons]
    exact Nat.mul_pos q.den_pos (prodD_pos qs)
theorem prodD_dvd : ∀ {qs : List Rat} {q : Rat}, q ∈ qs → q.den ∣ prodD qs
  | [], _, h => absurd h (by simp)
  | r :: qs, q, h => by
    rw [prodD_cons]
    rcases List.mem_cons.mp h with e | e
    · rw [e]
      exact Nat.dvd_mul_right _ _
    · exact Nat.dvd_trans (prodD_dvd e) (Nat.dvd_mul_left _ _)
theorem prodD_lt {n : Nat} : ∀ qs : List Rat, (∀ q ∈ qs, Sz n q) → prodD qs ≤ 2 ^ (n * qs.length)
  | [], _ => by
    show 1 ≤ 2 ^ (n * 0)
    exact Nat.one_le_two_pow
  | q :: qs, h => by
    rw [prodD_cons, List.length_cons, Nat.mul_add, Nat.mul_one, Nat.add_comm, Nat.pow_add]
    exact Nat.mul_le_mul (Nat.le_of_lt (h q (List.mem_cons_self ..)).2) (prodD_lt qs fun x hx => h x (List.mem_cons_of_mem _ hx))
def keyOf (D : Nat) (q : Rat) : Int := q.num * ((D : Int) / (q.den : Int))
theorem keyOf_cast {D : Nat} {q : Rat} (h : q.den ∣ D) : ((keyOf D q : Int) : Rat) = q * (D : Rat) := by
  obtain ⟨m, rfl⟩ := h
  have hd : ((q.den : Int)) ≠ 0 := Int.ne_of_gt (dpos q)
  unfold keyOf
  rw [Int.natCast_mul, Int.mul_ediv_cancel_left _ hd]
  have e := num_div q
  have hq : (q.den : Rat) ≠ 0 := by
    intro z
    have := Rat.natCast_eq_zero_iff.mp z
    exact q.den_nz this
  rw [Rat.intCast_mul, Rat.natCast_mul, Rat.intCast_natCast]
  conv => rhs; rw [← e]
  grind
/-- the amount that a key stands for -/
def valOf (D : Nat) (k : Int) : Rat := (k : Rat) / (D : Rat)
theorem val_key {D : Nat} {q : Rat} (h : q.den ∣ D) (hD : 0 < D) : valOf D (keyOf D q) = q := by
  unfold valOf
  rw [keyOf_cast h]
  exact Rat.mul_div_cancel (fun z => by have := Rat.natCast_eq_zero_iff.mp z; omega)
theorem val_mono {D : Nat} {k l : Int} (hD : 0 < D) (h : k ≤ l) : valOf D k ≤ valOf D l := by
  unfold valOf
  rw [Rat.div_def, Rat.div_def]
  exact Rat.mul_le_mul_of_nonneg_right (Rat.intCast_le_intCast.mpr h) (Rat.le_of_lt (Rat.inv_pos.mpr (Rat.natCast_pos.mpr hD)))
theorem zip_get {α β : Type} {l : List α} {m : List β} {p : α × β} (h : p ∈ l.zip m) : ∃ i : Nat, l[i]? = some p.1 ∧ m[i]? = some p.2 := by
  obtain ⟨i, hi⟩ := List.mem_iff_getElem?.mp h
  exact ⟨i, (List.getElem?_zip_eq_some.mp hi)⟩
theorem zip_snd {α β : Type} : ∀ {l : List α} {m : List β}, l.length = m.length → (l.zip m).map (·.2) = m
  | [], [], _ => rfl
  | _ :: l, _ :: m, h => congrArg _ (zip_snd (by simpa using h))
/-- pairs sorted by their keys stand for the sorted amounts -/
theorem sorted_z {K : PySem.W.Frag} {H : Hp} {ys : List V} {qs : List Rat} (hA : Amts K H ys qs) {zs : List ZB} (hp : (zs.map (·.2)).Perm ((qs.map (keyOf (prodD qs))).zip (ys.zip qs))) (hs : zs.Pairwise fun x y => x.2.1 ≤ y.2.1) : Amts K H (zs.map fun z => z.2.2.1) (Co07.sorted qs) := by
  have hD := prodD_pos qs
  have at_ : ∀ z ∈ zs, ∃ j : Nat, (qs.map (keyOf (prodD qs)))[j]? = some z.2.1 ∧ ys[j]? = some z.2.2.1 ∧ qs[j]? = some z.2.2.2 := fun z hz => by
    have hm : z.2 ∈ (qs.map (keyOf (prodD qs))).zip (ys.zip qs) := hp.mem_iff.mp (List.mem_map.mpr ⟨z, hz, rfl⟩)
    obtain ⟨j, j1, j2⟩ := zip_get hm
    obtain ⟨j3, j4⟩ := List.getElem?_zip_eq_some.mp j2
    exact ⟨j, j1, j3, j4⟩
  have key : ∀ z ∈ zs, z.2.1 = keyOf (prodD qs) z.2.2.2 ∧ z.2.2.2 ∈ qs ∧ Amt K H z.2.2.1 z.2.2.2 := fun z hz => by
    obtain ⟨j, j1, j2, j3⟩ := at_ z hz
    rw [List.getElem?_map, j3] at j1
    exact ⟨(Option.some.inj j1).symm, List.mem_of_getElem? j3, hA.at_ j _ _ j2 j3⟩
  have hl : (qs.map (keyOf (prodD qs))).length = (ys.zip qs).length := by
    rw [List.length_map, List.length_zip, hA.len, Nat.min_self]
  have e : zs.map (fun z => z.2.2.2) = Co07.sorted qs := by
    refine sorted_is ?_ ?_
    · have h1 := hp.map (fun p : Int × V × Rat => p.2.2)
      rw [List.map_map] at h1
      have h2 : ((qs.map (keyOf (prodD qs))).zip (ys.zip qs)).map (fun p : Int × V × Rat => p.2.2) = qs := by
        have : (fun p : Int × V × Rat => p.2.2) = (fun p : V × Rat => p.2) ∘ (fun p : Int × V × Rat => p.2) := rfl
        rw [this, ← List.map_map, zip_snd hl, zip_snd hA.len]
      rw [h2] at h1
      exact h1
    · unfold Asc
      rw [List.pairwise_map]
      refine List.Pairwise.imp_of_mem (fun {x y} hx hy h => ?_) hs
      obtain ⟨k1, m1, _⟩ := key x hx
      obtain ⟨k2, m2, _⟩ := key y hy
      have := val_mono hD h
      rw [k1, k2, val_key (prodD_dvd m1) hD, val_key (prodD_dvd m2) hD] at this
      exact this
  rw [← e]
  refine ⟨by rw [List.length_map, List.length_map], fun i v q h1 h2 => ?_⟩
  rw [List.getElem?_map] at h1 h2
  cases e : zs[i]? with
  | none =>
    rw [e] at h1
    cases h1
  | some p =>
    rw [e] at h1 h2
    cases h1
    cases h2
    exact (key p (List.mem_of_getElem? e)).2.2
/-! ### above_common_line -/
/-- a def of the text whose code object's table is known: it makes a lambda -/
structure FunT (K : PySem.W.Frag) (x qual : Str) (st : Stmt) (f : Addr) (fd : FuncData) (c : Addr) : Prop where
  ex : ∃ (oc : Value) (od : Option Addr) (kV doc pm : Value) (an : Option Addr) (ct : Value) (osl : Array (Option Value)),
    fd = PySem.W.fnOf x qual (defArgs st) (defBody st) (defScope st) .none kV doc pm an (.ref c) ct ∧ K.lookup f = some ⟨oc, od, .func fd, osl⟩ ∧ PySem.W.codeIn K (.ref c) qual = true
  kp : PySem.W.keepIn K (.ref f) = true
theorem FunT.to {K : PySem.W.Frag} {x qual : Str} {st : Stmt} {f : Addr} {fd : FuncData} {c : Addr} (F : FunT K x qual st f fd c) : Fun K x qual st f fd := by
  obtain ⟨oc, od, kV, doc, pm, an, ct, osl, e, l, h⟩ := F.ex
  exact ⟨⟨oc, od, kV, doc, pm, an, .ref c, ct, osl, e, l, h⟩, F.kp⟩
section
variable {P : Program} {w : World} {K : PySem.W.Frag} {mg : Str → Option Value} {base : Heap} {T : List (Addr × Str)}
theorem FunT.ok {x qual : Str} {st : Stmt} {f : Addr} {fd : FuncData} {c : Addr} {N ps : List Str} {k : Nat} {sp : Sp} (F : FunT K x qual st f fd c) (S : FnScope N ps (defScope st)) (len : ∀ vs H Q E, sp vs H Q E → vs.length = ps.length)
    (hbody : ∀ (A : Around) (outer : List Env) (s : Shared) (H : Hp) (vs : List V) (Q : VK) (E : XK), Room k (A.deeper (PyProof.Rows.envOfC qual (defScope st) s.heap.objs.size f (.ref c))) → sp vs H Q E →
      ∃ t, PSs (cxOf CX0 P w K mg base N qual (defScope st) f (.ref c) A outer s H E).nox (defBody st) t ∧ t { nx := fun _ H' => Q .non H', rt := Q } (L2.start N vs) H) : FnOk P w K mg base CX0 (k + 1) f fd ps sp := by
  obtain ⟨oc, od, kV, doc, pm, an, ct, osl, rfl, lk, hcd⟩ := F.ex
  refine fn_of lk hcd S len fun A outer s H vs Q E hr hsp => ?_
  obtain ⟨t, h, q⟩ := hbody A outer s H vs Q E hr hsp
  exact ⟨t, h.nox, q⟩
def spLine (K : PySem.W.Frag) : Sp := fun vs H Q _ => ∃ (a : Addr) (xs : List V) (qs : List Rat) (n : Nat), vs = [.ref a] ∧ SqL K H a xs ∧ Amts K H xs qs ∧ qs.length ≤ 8 ∧ (∀ q ∈ qs, Sz n q) ∧ n ≤ 990 ∧
  ∀ (H' : Hp) (b : Addr), Same H H' → H' b = some (.lst ((qs.map (keyOf (prodD qs))).map V.int)) → Q (.ref b) H'
theorem scLine : FnScope ["amounts", "common", "amount"] ["amounts"] (defScope sLine) := ⟨rfl, rfl, rfl, by decide +kernel, rfl, by decide +kernel, by decide +kernel⟩
theorem key_bits {D n : Nat} {q : Rat} (hD : D ≤ 2 ^ (n * 8)) : ((D : Int) / (q.den : Int)).natAbs < 2 ^ (n * 8 + 1) := by
  have e : ((D : Int) / (q.den : Int)).natAbs = D / q.den := by rw [← Int.natCast_ediv, Int.natAbs_natCast]
  rw [e]
  exact Nat.lt_of_le_of_lt (Nat.le_trans (Nat.div_le_self _ _) hD) (Nat.pow_lt_pow_right (by decide) (by omega))
theorem ok_line {f : Addr} {fd : FuncData} (F : Fun K "above_common_line" "above_common_line" sLine f fd) : FnOk P w K mg base CX0 1 f fd ["amounts"] (spLine K) := by
  refine F.ok scLine (fun vs H Q E h => ?_) (fun cdv A outer s H vs Q E hr h => ?_)
  · obtain ⟨a, xs, qs, n, rfl, _⟩ := h
    rfl
  · obtain ⟨a, xs, qs, n, rfl, hS, hA, h8, hz, hn, k⟩ := h
    refine ⟨_, pss_cons (ps_set (i := 1) scLine.nd rfl (Or.inr rfl) pe_int)
      (pss_cons (ps_for PassesOwn.never rfl (pi_list (pv 0)) (pg_name (i := 2) scLine.nd rfl (Or.inl rfl))
        (pss_one (ps_set (i := 1) scLine.nd rfl (Or.inr rfl) (pe_op op_mulW (pv 1) (pe_ix ix_tup (pv 2) pe_int (fun _ _ => rfl))))))
      (pss_one (ps_ret (pe_lc (own := [("amount", 2)]) (g := gName 2) (tt := tYes) (te := tOp (rI CMulW fun i j => .int (i * j)) (tOp (rIxT K) (tVar 2) (tC (.int 0))) (tOp (rI CDivW fun i j => .int (i / j)) (tVar 1) (tOp (rIxT K) (tVar 2) (tC (.int 1))))) rfl scLine.nd (pi_list (pv 0)) (blkOk_by (N := ["amounts", "common", "amount"]) (sc := defScope sLine) (by decide +kernel))
        (fun _ _ _ _ _ => pg_name (i := 2) scLine.nd rfl (Or.inl rfl)) (fun _ _ _ _ _ => pts_nil)
        (fun _ _ _ _ _ => pe_op op_mulW (pe_ix ix_tup (pv 2) pe_int (fun _ _ => rfl)) (pe_op op_fdivW (pv 1) (pe_ix ix_tup (pv 2) pe_int (fun _ _ => rfl)))))))), ?_⟩
    have pd : ∀ i : Nat, prodD (qs.take i) ≤ 2 ^ (n * 8) := fun i => Nat.le_trans (prodD_lt (n := n) _ fun y hy => hz y (List.mem_of_mem_take hy)) (pow_mono (Nat.mul_le_mul_left n (by rw [List.length_take]; omega)))
    refine ⟨_, rfl, a, rfl, ⟨_, hS⟩, for_list (K := K) (a := a) (xs := xs) (fun i σ H' => H' = H ∧ ∃ u : Option V, σ = [some (.ref a), some (.int ((prodD (qs.take i) : Nat) : Int)), u]) ⟨rfl, none, rfl⟩ (fun i σ H' _ ⟨e, _⟩ => by rw [e]; exact hS) ?_ ?_⟩
    · rintro i x σ H' hi ⟨rfl, u, rfl⟩
      obtain ⟨q, hq, p, rfl, hp⟩ := hA.get hi
      have hm := List.mem_of_getElem? hq
      have b1 : prodD (qs.take i) < 2 ^ (n * 8 + 1) := Nat.lt_of_le_of_lt (pd i) (Nat.pow_lt_pow_right (by decide) (by omega))
      refine ⟨_, rfl, _, rfl, p, _, _, _, rfl, rfl, hp, rfl, _, _, rfl, rfl, bits (m := n * 8 + 1) (n := n) (by rw [Int.natAbs_natCast]; exact b1) (hz q hm).d (by omega), rfl, some (.ref p), ?_⟩
      rw [take_succ hq, prodD_app, Int.natCast_mul]
      rfl
    · rintro σ H' ⟨rfl, u, rfl⟩
      rw [hA.len, List.take_length]
      have hD : prodD qs ≤ 2 ^ (n * 8) := by
        have := pd qs.length
        rw [List.take_length] at this
        exact this
      refine ⟨_, rfl, a, rfl, ⟨_, hS⟩, fun D hDn => lc_list (K := K) (a := a) (xs := xs) (fun i H1 => Same H' H1 ∧ H1 D = some (.lst (((qs.take i).map (keyOf (prodD qs))).map V.int))) ⟨same_new hDn, upd_same⟩ (fun i H1 _ ⟨s1, _⟩ => s1.seq hS) ?_ ?_⟩
      · rintro i x H1 hi ⟨s1, hacc⟩
        obtain ⟨q, hq, p, rfl, hp⟩ := hA.get hi
        have hm := List.mem_of_getElem? hq
        have hp1 : SqT K H1 p [.int q.num, .int (q.den : Int)] := ext_tup (LamX.ExtN.of s1) hp
        have il := (List.getElem?_eq_some_iff.mp hq).1
        refine ⟨rfl, ?_⟩
        unfold tYes
        refine iteT ⟨_, rfl, p, _, _, _, rfl, rfl, hp1, rfl, _, rfl, _, rfl, p, _, _, _, rfl, rfl, hp1, rfl, _, _, rfl, rfl, wide_div (dpos q) (b := n + 1) (Nat.lt_of_lt_of_le (hz q hm).d (pow_mono (by omega))) (by omega) (by omega), _, _, rfl, rfl, bits (m := n) (n := n * 8 + 1) (hz q hm).1 (key_bits hD) (by omega), _, hacc, ?_, ?_, ?_⟩
        · rw [List.length_map, List.length_map, List.length_take]
          exact Nat.lt_of_le_of_lt (show min i qs.length ≤ 8 by omega) (by decide)
        · exact same_write s1 hDn
        · rw [upd_same, take_succ hq, List.map_append, List.map_append]
          rfl
      · rintro H1 ⟨s1, hacc⟩
        rw [hA.len, List.take_length] at hacc
        exact k H1 D s1 hacc
/-! ### ascending -/
theorem scAsc : FnScope ["amounts", "sizes", "pair"] ["amounts"] (defScope sAsc) := ⟨rfl, rfl, rfl, by decide +kernel, rfl, by decide +kernel, by decide +kernel⟩
theorem ok_asc {f : Addr} {fd : FuncData} (F : Fun K "ascending" "ascending" sAsc f fd) (GL : Has P w K mg base "above_common_line" 1 ["amounts"] (spLine K)) (zs : mg "sorted" = none) (zz : mg "zip" = none) : FnOk P w K mg base CX0 4 f fd ["amounts"] (spAsc T K) := by
  refine F.ok scAsc (fun vs H Q E h => ?_) (fun cdv A outer s H vs Q E hr h => ?_)
  · obtain ⟨a, xs, qs, rfl, _⟩ := h
    rfl
  · obtain ⟨a, xs, qs, rfl, hS, hA, C, hT, k⟩ := h
    have hr1 : Room 1 _ := hr.mono (by decide)
    refine ⟨_, pss_cons (ps_set (i := 1) scAsc.nd rfl (Or.inl rfl) (pe_has GL hr1 rfl (pa_cons (pv 0) pa_nil)))
      (pss_one (ps_ret (pe_lc (own := [("pair", 2)]) (g := gName 2) (tt := tYes) (te := tOp (rIxT K) (tVar 2) (tC (.int 1))) rfl scAsc.nd (pi_list (pe_sortZip rfl (show (A.deeper _).units + 16 < cLine from by have := hr.un; omega) rfl zs rfl zz (pa_cons (pv 1) (pa_cons (pv 0) pa_nil)))) (blkOk_by (N := ["amounts", "sizes", "pair"]) (sc := defScope sAsc) (by decide +kernel))
        (fun _ _ _ _ _ => pg_name (i := 2) scAsc.nd rfl (Or.inl rfl)) (fun _ _ _ _ _ => pts_nil)
        (fun _ _ _ _ _ => pe_ix ix_tup (pv 2) pe_int (fun _ _ => rfl))))), ?_⟩
    refine ⟨_, rfl, a, xs, qs, 21, rfl, hS, hA, C.len, C.sz, by decide, fun H1 b s1 hb => ?_⟩
    refine ⟨_, rfl, _, rfl, b, a, qs.map (keyOf (prodD qs)), xs, qs, rfl, up_lst hb, s1.seq hS, hA.ext (LamX.ExtN.of s1), by rw [List.length_map]; exact hA.len.symm, fun H2 p zl s2 hp pm srt tup => ?_⟩
    have hA2 : Amts K H2 xs qs := hA.ext (LamX.ExtN.of (s1.trans s2))
    have hlen : zl.length = qs.length := by
      have := pm.length_eq
      rw [List.length_map, List.length_zip, List.length_zip, List.length_map, hA.len] at this
      omega
    refine ⟨p, rfl, ⟨_, up_lst hp⟩, fun D hD => lc_list (K := K) (a := p) (xs := zl.map fun z => V.ref z.1) (fun i H3 => Same H2 H3 ∧ H3 D = some (.lst ((zl.take i).map fun z => z.2.2.1))) ⟨same_new hD, upd_same⟩ (fun i H3 _ ⟨s3, _⟩ => s3.seq (up_lst hp)) ?_ ?_⟩
    · rintro i x H3 hi ⟨s3, hacc⟩
      rw [List.getElem?_map] at hi
      cases e : zl[i]? with
      | none =>
        rw [e] at hi
        cases hi
      | some z =>
        rw [e] at hi
        cases hi
        have h8 := C.len
        have il := (List.getElem?_eq_some_iff.mp e).1
        refine ⟨rfl, ?_⟩
        unfold tYes
        refine iteT ⟨_, rfl, z.1, _, _, _, rfl, rfl, .inl (.inl (s3 _ _ (tup z (List.mem_of_getElem? e)))), rfl, _, hacc, ?_, ?_, ?_⟩
        · rw [List.length_map, List.length_take]
          exact Nat.lt_of_le_of_lt (show min i zl.length ≤ 8 by omega) (by decide)
        · exact same_write s3 hD
        · rw [upd_same, take_succ e, List.map_append]
          rfl
    · rintro H3 ⟨s3, hacc⟩
      rw [List.length_map, List.take_length] at hacc
      exact k H3 D _ (Up.same (s1.trans (s2.trans s3))) hacc (sorted_z (hA2.ext (LamX.ExtN.of s3)) pm srt)
/-! ### places_largest_first -/
def placeKey (qs : List Rat) (i : Nat) : Int := -((qs.map (keyOf (prodD qs))).getD i 0)
def places (qs : List Rat) : List Nat := (List.range qs.length).mergeSort fun i j => decide (placeKey qs i ≤ placeKey qs j)
def spPlaces (T : List (Addr × Str)) (K : PySem.W.Frag) : Sp := fun vs H Q _ => ∃ (a : Addr) (xs : List V) (qs : List Rat) (n : Nat), vs = [.ref a] ∧ SqL K H a xs ∧ Amts K H xs qs ∧ qs.length ≤ 8 ∧ (∀ q ∈ qs, Sz n q) ∧ n ≤ 990 ∧ LamX.Tabs T H ∧
  ∀ (H' : Hp) (b : Addr), Up T H H' → H' b = some (.lst ((places qs).map fun (i : Nat) => V.int (i : Int))) → Q (.ref b) H'
theorem scPlaces : FnScope ["amounts", "sizes"] ["amounts"] (defScope sPlaces) := ⟨rfl, rfl, rfl, by decide +kernel, rfl, by decide +kernel, by decide +kernel⟩
theorem placesFree : ∀ y ∈ ([(Str.ofString "place", NameKind.local), (Str.ofString "sizes", NameKind.free)] : List (Str × NameKind)), y.2 = .free → (defScope sPlaces).names.lookup y.1 = some .cell ∨ (defScope sPlaces).names.lookup y.1 = some .free := by decide +kernel
def rngKey (K : PySem.W.Frag) : L2.St → Hp → V → Int → Prop := fun σ H x k => ∃ (l : Addr) (ns : List Int) (i : Nat), σ[1]? = some (some (.ref l)) ∧ SqL K H l (ns.map V.int) ∧ x = .int (i : Int) ∧ i < ns.length ∧ i ≤ 64 ∧ k = -(ns.getD i 0)
theorem ok_places {f : Addr} {fd : FuncData} {c Pt : Addr} (F : FunT K "places_largest_first" "places_largest_first" sPlaces f fd c) (TB : LamX.TabB base mg c Pt) (hmT : (Pt, ("places_largest_first" : Str) ++ ".<locals>." ++ "<lambda>") ∈ T) (hu : ∀ p ∈ T, p.1 = Pt → p.2 = ("places_largest_first" : Str) ++ ".<locals>." ++ "<lambda>")
    (GL : Has P w K mg base "above_common_line" 1 ["amounts"] (spLine K)) (zs : mg "sorted" = none) (zr : mg "range" = none) (zl : mg "len" = none) : FnOk P w K mg base CX0 4 f fd ["amounts"] (spPlaces T K) := by
  refine F.ok scPlaces (fun vs H Q E h => ?_) (fun A outer s H vs Q E hr h => ?_)
  · obtain ⟨a, xs, qs, n, rfl, _⟩ := h
    rfl
  · obtain ⟨a, xs, qs, n, rfl, hS, hA, h8, hz, hn, hT, k⟩ := h
    have hr1 : Room 1 _ := hr.mono (by decide)
    refine ⟨_, pss_cons (ps_set (i := 1) scPlaces.nd rfl (Or.inr rfl) (pe_has GL hr1 rfl (pa_cons (pv 0) pa_nil)))
      (pss_one (ps_ret (pe_sortRng (key := rngKey K) (par := "place") (T := T) rfl rfl zs (pa_cons (pe_callTy cr_range1 (by rfl) zr PyProof.Rows.boot_range (pa_cons (pe_callB call_len_seq (by rfl) zl PySem.boot_len (pa_cons (pv 0) pa_nil)) pa_nil)) pa_nil) TB rfl hmT hu hr rfl rfl rfl (by decide +kernel) rfl placesFree rfl (fun _ _ _ _ _ _ => rfl) ?ev ?mono))), ?_⟩
    case mono =>
      rintro σ H H' x k e ⟨l, ns, i, h1, h2, h3⟩
      exact ⟨l, ns, i, h1, ext_lst e h2, h3⟩
    case ev =>
      intro A env h v x k σ H L r ⟨l, ns, i, h1, h2, h3, h4, h5, e5⟩
      subst h3
      subst e5
      obtain ⟨t1, rfl⟩ := r
      obtain ⟨cc, u, c1, c2, r2⟩ := L.free 1 "sizes" _ rfl h1 rfl
      obtain rfl : u = Value.ref l := r2
      obtain ⟨m, hn, hm⟩ := L.loc
      obtain ⟨its, o9, n9, rv, ho9, hc9, hd9⟩ := sqL_at L.hok L.kin h2
      have hk : env.scope.kind = .function := by rw [L.sc]
      have hl : env.scope.names.lookup ("place" : Str) = some .local := by rw [L.sc] <;> rfl
      have hf : env.scope.names.lookup ("sizes" : Str) = some .free := by rw [L.sc] <;> rfl
      obtain ⟨u, hu, ⟨t0, ru⟩⟩ := rv.get (i := i) (x := .int (ns.getD i 0)) (by
        rw [List.getElem?_map, List.getD_eq_getElem?_getD, List.getElem?_eq_getElem h4]
        rfl)
      subst ru
      exact ev_neg (ev_at hk hf c1 c2 ⟨o9, ho9, hc9, n9, hd9⟩ hl hn hm (by omega) (by simpa using hu))
    refine ⟨_, rfl, a, xs, qs, n, rfl, hS, hA, h8, hz, hn, fun H1 b s1 hb => ?_⟩
    refine ⟨_, rfl, a, xs, rfl, .inl (s1.seq hS), _, rfl, fun r hrn => ?_⟩
    have sr := same_new (o := .rng 0 ((xs.length : Nat) : Int)) hrn
    refine ⟨r, xs.length, placeKey qs, rfl, upd_same, by rw [hA.len]; omega, fun i hi => ?_, hT.ext (s1.trans sr), fun H2 p e2 t2 hp => ?_⟩
    · refine ⟨b, qs.map (keyOf (prodD qs)), i, rfl, up_lst (sr _ _ hb), rfl, ?_, ?_, rfl⟩
      · rw [List.length_map, ← hA.len]
        exact hi
      · rw [hA.len] at hi
        omega
    · have sn := same_new (o := .lst (((List.range xs.length).mergeSort fun a b => decide (placeKey qs a ≤ placeKey qs b)).map fun (i : Nat) => V.int (i : Int))) hp
      refine k _ p ⟨(LamX.ExtN.of (s1.trans sr)).trans (e2.trans (LamX.ExtN.of sn)), fun _ => t2.ext sn⟩ ?_
      rw [upd_same, hA.len]
      rfl
/-! ### is_whole -/
def spIsWhole (K : PySem.W.Frag) : Sp := fun vs H Q _ => ∃ (x : V) (q : Rat), vs = [x] ∧ Amt K H x q ∧ Q (.bl (decide (q.den = 1))) H
theorem scIsW : FnScope ["amount"] ["amount"] (defScope sWhole1) := ⟨rfl, rfl, rfl, by decide +kernel, rfl, by decide +kernel, by decide +kernel⟩
theorem ok_isW {f : Addr} {fd : FuncData} (F : Fun K "is_whole" "is_whole" sWhole1 f fd) : FnOk P w K mg base CX0 1 f fd ["amount"] (spIsWhole K) := by
  refine F.ok scIsW (fun vs H Q E h => ?_) (fun cdv A outer s H vs Q E hr h => ?_)
  · obtain ⟨x, q, rfl, _⟩ := h
    rfl
  · obtain ⟨x, q, rfl, ⟨p, rfl, hp⟩, k⟩ := h
    refine ⟨_, pss_one (ps_ret (pe_cmpR op_eq (pe_ix ix_tup (pv 0) pe_int (fun _ _ => rfl)) pe_int (nomark _))), ?_⟩
    refine ⟨_, rfl, p, _, _, _, rfl, rfl, hp, rfl, rfl, ?_⟩
    have e : decide (V.int (q.den : Int) = V.int 1) = decide (q.den = 1) := decide_eq_decide.mpr ⟨fun z => by
      have := V.int.inj z
      omega, fun z => by rw [z]; rfl⟩
    rw [e]
    exact k
end
end Cs

set_option Elab.async false
set_option linter.all false
set_option maxRecDepth 100000
set_option maxHeartbeats 2000000
namespace Cs
open PySem L2
/-! ### all that's there is shared -/
theorem sum_perm {l m : List Rat} (h : l.Perm m) : Co07.sum l = Co07.sum m := by
  induction h with
  | nil => rfl
  | cons x _ ih => rw [sum_cons, sum_cons, ih]
  | swap x y l =>
    rw [sum_cons, sum_cons, sum_cons, sum_cons]
    grind
  | trans _ _ a b => exact a.trans b
theorem cast_succ (n : Nat) : ((n + 1 : Nat) : Rat) = (n : Rat) + 1 := by
  rw [Rat.natCast_add]
  rfl
theorem lev_ge {c : Rat} (hc : 0 ≤ c) : ∀ (l : List Rat) (lv e : Rat), (∀ x ∈ l, c ≤ x) → c ≤ lv → c * ((l.length : Nat) : Rat) ≤ e → c ≤ lev l lv e
  | [], lv, _, _, h, _ => h
  | d :: l, lv, e, hx, _, he => by
    show c ≤ (if e / ((l.length + 1 : Nat) : Rat) < d then e / ((l.length + 1 : Nat) : Rat) else lev l (e / ((l.length + 1 : Nat) : Rat)) (e - d))
    rw [List.length_cons] at he
    have h1 : c ≤ e / ((l.length + 1 : Nat) : Rat) := Rat.not_lt.mp fun z => turn_iff.mp z he
    split
    · exact h1
    · rename_i q
      refine lev_ge hc l _ _ (fun x hx' => hx x (List.mem_cons_of_mem _ hx')) h1 ?_
      have q1 : d * ((l.length + 1 : Nat) : Rat) ≤ e := Decidable.byContradiction fun z => q (turn_iff.mpr z)
      have hd := hx d (List.mem_cons_self ..)
      have hn : (0 : Rat) ≤ (l.length : Rat) := Rat.natCast_nonneg
      have h2 := Rat.mul_le_mul_of_nonneg_right hd hn
      rw [cast_succ] at q1
      have e1 : d * ((l.length : Rat) + 1) = d * (l.length : Rat) + d := by grind
      rw [e1] at q1
      grind
theorem sum_flat {t : Rat} : ∀ l : List Rat, (∀ x ∈ l, t ≤ x) → Co07.sum (l.map fun x => min x t) = t * ((l.length : Nat) : Rat)
  | [], _ => by
    show (0 : Rat) = t * ((0 : Nat) : Rat)
    have : ((0 : Nat) : Rat) = 0 := rfl
    rw [this]
    grind
  | c :: l, h => by
    rw [List.map_cons, sum_cons, sum_flat l fun x hx => h x (List.mem_cons_of_mem _ hx), List.length_cons, cast_succ]
    have := h c (List.mem_cons_self ..)
    have e : min c t = t := by grind
    rw [e]
    grind
theorem lev_sum : ∀ (l : List Rat) (lv e : Rat), Asc l → (∀ x ∈ l, 0 ≤ x) → 0 ≤ e → e ≤ Co07.sum l → Co07.sum (l.map fun x => min x (lev l lv e)) = e
  | [], _, e, _, _, h0, h1 => by
    rw [sum_nil] at h1
    show (0 : Rat) = e
    grind
  | c :: l, lv, e, ha, hx, h0, h1 => by
    show Co07.sum ((c :: l).map fun x => min x (if e / ((l.length + 1 : Nat) : Rat) < c then e / ((l.length + 1 : Nat) : Rat) else lev l (e / ((l.length + 1 : Nat) : Rat)) (e - c))) = e
    have ha' : (∀ x ∈ l, c ≤ x) ∧ Asc l := List.pairwise_cons.mp ha
    have hc := hx c (List.mem_cons_self ..)
    by_cases q : e / ((l.length + 1 : Nat) : Rat) < c
    · rw [if_pos q, sum_flat (t := e / ((l.length + 1 : Nat) : Rat)) (c :: l), List.length_cons]
      · exact Rat.div_mul_cancel (Rat.ne_of_gt (cast_pos _))
      · intro x hx'
        rcases List.mem_cons.mp hx' with z | z
        · rw [z]
          exact Rat.le_of_lt q
        · exact Rat.le_trans (Rat.le_of_lt q) (ha'.1 x z)
    · rw [if_neg q]
      have q1 : c * ((l.length + 1 : Nat) : Rat) ≤ e := Decidable.byContradiction fun z => q (turn_iff.mpr z)
      have h2 : c ≤ e / ((l.length + 1 : Nat) : Rat) := Rat.not_lt.mp q
      have hle := left_nonneg hx q
      rw [cast_succ] at q1
      have e1 : c * ((l.length : Rat) + 1) = c * (l.length : Rat) + c := by grind
      rw [e1] at q1
      have h3 : c ≤ lev l (e / ((l.length + 1 : Nat) : Rat)) (e - c) := lev_ge hc l _ _ ha'.1 h2 (by grind)
      rw [sum_cons] at h1
      rw [List.map_cons, sum_cons, lev_sum l _ (e - c) ha'.2 (fun x hx' => hx x (List.mem_cons_of_mem _ hx')) (by grind) (by grind)]
      grind
theorem gains_sum {l : List Rat} {e : Rat} (hx : ∀ x ∈ l, 0 ≤ x) (h0 : 0 ≤ e) (h1 : e ≤ Co07.sum l) : Co07.sum (gains l e) = e := by
  have p := sorted_perm l
  have h2 := lev_sum (Co07.sorted l) 0 e (sorted_asc l) (fun x hx' => hx x (mem_sorted.mp hx')) h0 (by rw [sum_perm p]; exact h1)
  have h3 := sum_perm (p.map fun x => min x (lev (Co07.sorted l) 0 e))
  unfold gains
  rw [← h3]
  exact h2
theorem sum_less (g : Rat → Rat) : ∀ l : List Rat, Co07.sum (l.map fun c => c - g c) = Co07.sum l - Co07.sum (l.map g)
  | [] => by
    show (0 : Rat) = 0 - 0
    grind
  | c :: l => by
    rw [List.map_cons, List.map_cons, sum_cons, sum_cons, sum_cons, sum_less g l]
    grind
theorem sum_times (k : Rat) : ∀ l : List Rat, Co07.sum (l.map fun c => c * k) = Co07.sum l * k
  | [] => by
    show (0 : Rat) = 0 * k
    grind
  | c :: l => by
    rw [List.map_cons, sum_cons, sum_cons, sum_times k l]
    grind
theorem sum_halves (l : List Rat) : Co07.sum (halves l) = Co07.sum l / 2 := by
  have : halves l = l.map fun c => c * (1 / 2) := List.map_congr_left fun c _ => by grind
  rw [this, sum_times]
  grind
theorem within_sum {r : Nat} {l : List Rat} {e : Rat} (C : Claims l) (h0 : 0 ≤ e) (h1 : e ≤ Co07.sum l) : Co07.sum (within r l e) = e := by
  have d0 : 0 ≤ Co07.sum l - e := by grind
  have d1 : Co07.sum l - e ≤ Co07.sum l := by grind
  obtain ⟨hn, _, _⟩ := C.half
  have hh := sum_halves l
  unfold within
  split
  · unfold parts
    cases hl : l with
    | nil =>
      rw [hl, sum_nil] at h1
      show (0 : Rat) = e
      grind
    | cons c m =>
      rw [← hl]
      have sp := sum_pos l C.pos (by rw [hl]; simp)
      have : (l.map fun c => c * e / Co07.sum l) = l.map fun c => c * (e / Co07.sum l) := List.map_congr_left fun c _ => by rw [Rat.div_def, Rat.div_def, Rat.mul_assoc]
      rw [this, sum_times, Rat.mul_comm]
      exact Rat.div_mul_cancel (Rat.ne_of_gt sp)
  split
  · exact gains_sum C.nn h0 h1
  split
  · unfold losses
    have g := gains_sum C.nn d0 d1
    rw [gains_eq] at g ⊢
    rw [less_map, sum_less, g]
    grind
  · unfold agreed
    split
    · rename_i q
      have g := gains_sum hn d0 (by grind)
      rw [gains_halves] at g ⊢
      rw [less_map, sum_less, g]
      grind
    · rename_i q
      exact gains_sum hn h0 (by grind)
/-! ### whole amounts -/
def Wh (q : Rat) : Prop := ∃ z : Int, q = (z : Rat)
theorem wh_den {q : Rat} : Wh q ↔ q.den = 1 := by
  constructor
  · rintro ⟨z, rfl⟩
    rfl
  · intro h
    refine ⟨q.num, ?_⟩
    have := num_div q
    rw [h] at this
    rw [← this]
    show (q.num : Rat) / ((1 : Nat) : Rat) = ((q.num : Rat) / ((1 : Nat) : Rat)).num
    have e : ((1 : Nat) : Rat) = 1 := rfl
    rw [e]
    have : (q.num : Rat) / 1 = (q.num : Rat) := by grind
    rw [this]
    rfl
theorem Wh.add {p q : Rat} (a : Wh p) (b : Wh q) : Wh (p + q) := by
  obtain ⟨x, rfl⟩ := a
  obtain ⟨y, rfl⟩ := b
  exact ⟨x + y, by rw [Rat.intCast_add]⟩
theorem Wh.sub {p q : Rat} (a : Wh p) (b : Wh q) : Wh (p - q) := by
  obtain ⟨x, rfl⟩ := a
  obtain ⟨y, rfl⟩ := b
  exact ⟨x - y, by rw [Rat.intCast_sub]⟩
theorem Wh.min {p q : Rat} (a : Wh p) (b : Wh q) : Wh (min p q) := by
  have : Min.min p q = p ∨ Min.min p q = q := by grind
  rcases this with h | h <;> rw [h] <;> assumption
theorem wh_sum : ∀ l : List Rat, (∀ x ∈ l, Wh x) → Wh (Co07.sum l)
  | [], _ => ⟨0, rfl⟩
  | c :: l, h => by
    rw [sum_cons]
    exact (h c (List.mem_cons_self ..)).add (wh_sum l fun x hx => h x (List.mem_cons_of_mem _ hx))
theorem shared_wh : ∀ (cs : List Co07.Class) (e : Rat), (∀ c ∈ cs, ClsOk c) → (∀ c ∈ cs, ∀ x ∈ c.claims, Wh x) → 0 ≤ e → Wh e → ∀ l ∈ Co07.shared cs e, Wh (Co07.sum l)
  | [], _, _, _, _, _, l, hl => by cases hl
  | c :: cs, e, hc, hw, h0, we, l, hl => by
    have C := (hc c (List.mem_cons_self ..)).1
    have hs0 := C.sum0
    have wx : Wh (min e (Co07.sum c.claims)) := we.min (wh_sum _ (hw c (List.mem_cons_self ..)))
    have hl' : l ∈ Co07.within c.method c.claims (min e (Co07.sum c.claims)) :: Co07.shared cs (e - min e (Co07.sum c.claims)) := hl
    rcases List.mem_cons.mp hl' with z | z
    · rw [z, ← within_is _ _ _ C.pos, within_sum C (by grind) (by grind)]
      exact wx
    · exact shared_wh cs _ (fun d hd => hc d (List.mem_cons_of_mem _ hd)) (fun d hd => hw d (List.mem_cons_of_mem _ hd)) (by grind) (we.sub wx) l z
/-! ### rounding down -/
theorem floor_le (x : Rat) : (Co07.floor x : Rat) ≤ x := by
  have h1 : x.num / (x.den : Int) * (x.den : Int) ≤ x.num := Int.ediv_mul_le _ (Int.ne_of_gt (dpos x))
  have h2 := Rat.intCast_le_intCast.mpr h1
  rw [Rat.intCast_mul, Rat.intCast_natCast] at h2
  have hp : (0 : Rat) < (x.den : Rat) := Rat.natCast_pos.mpr x.den_pos
  refine Rat.not_lt.mp fun z => ?_
  rw [← num_div x] at z
  have z2 := (Rat.div_lt_iff hp).mp z
  rw [num_div] at z2
  exact absurd h2 (Rat.not_le.mpr z2)
theorem floor_nn {x : Rat} (h : 0 ≤ x) : 0 ≤ Co07.floor x := Int.ediv_nonneg (nnon h) (Int.le_of_lt (dpos x))
theorem sz_floor {x : Rat} {n : Nat} (h : 0 ≤ x) (hz : Sz n x) (hn : 1 ≤ n) : Sz n (Co07.floor x : Rat) := by
  refine ⟨?_, ?_⟩
  · show (Co07.floor x).natAbs < 2 ^ n
    have h1 := nnon h
    have h2 : Co07.floor x ≤ x.num := Int.ediv_le_self _ h1
    have h3 := floor_nn h
    have := hz.1
    omega
  · show 1 < 2 ^ n
    exact Nat.lt_of_lt_of_le (by decide) (pow_mono hn)
theorem part_nn (x : Rat) : 0 ≤ Co07.part x := by
  have := floor_le x
  unfold Co07.part
  grind
theorem sz_part {x : Rat} {n : Nat} (hz : Sz n x) : Sz n (Co07.part x) := by
  have e := frac_sub x (Co07.floor x : Rat)
  unfold Co07.part
  rw [← e]
  show Sz n (frac (x.num * ((1 : Nat) : Int) - Co07.floor x * (x.den : Int)) ((x.den : Int) * ((1 : Nat) : Int)))
  have e1 : x.num * ((1 : Nat) : Int) - Co07.floor x * (x.den : Int) = x.num % (x.den : Int) := by
    unfold Co07.floor
    have := Int.emod_add_mul_ediv x.num (x.den : Int)
    rw [Int.mul_comm] at this
    simp only [Int.natCast_one, Int.mul_one]
    omega
  have e2 : (x.den : Int) * ((1 : Nat) : Int) = (x.den : Int) := by simp
  rw [e1, e2]
  have h1 := Int.emod_lt_of_pos x.num (dpos x)
  have h2 := Int.emod_nonneg x.num (Int.ne_of_gt (dpos x))
  have h3 := hz.2
  refine sz_frac ?_ (dpos x) ?_
  · omega
  · rw [Int.natAbs_natCast]
    exact h3
theorem part_zero : Co07.part 0 = 0 := by decide +kernel
theorem parts_wh {p : List Rat} (h : Wh (Co07.sum p)) : Wh (Co07.sum (p.map Co07.part)) := by
  have : p.map Co07.part = p.map fun c => c - (Co07.floor c : Rat) := rfl
  rw [this, sum_less fun c => (Co07.floor c : Rat)]
  exact h.sub (wh_sum _ fun x hx => by
    obtain ⟨c, _, rfl⟩ := List.mem_map.mp hx
    exact ⟨_, rfl⟩)
/-! ### the order of those that lose most -/
/-- i stands ahead of j -/
def Ahead (ls : List Rat) (i j : Nat) : Prop := ls.getD j 0 < ls.getD i 0 ∨ (ls.getD i 0 = ls.getD j 0 ∧ i < j)
theorem ahead_unique {ls : List Rat} : ∀ {l m : List Nat}, l.Perm m → l.Pairwise (Ahead ls) → m.Pairwise (Ahead ls) → l = m
  | [], m, p, _, _ => (List.nil_perm.mp p).symm
  | x :: l, [], p, _, _ => absurd (List.perm_nil.mp p) (by simp)
  | x :: l, y :: m, p, h1, h2 => by
    rw [List.pairwise_cons] at h1 h2
    have e : x = y := by
      refine Decidable.byContradiction fun n => ?_
      have hx : x ∈ y :: m := p.mem_iff.mp (List.mem_cons_self ..)
      have hy : y ∈ x :: l := p.mem_iff.mpr (List.mem_cons_self ..)
      have hx' : x ∈ m := (List.mem_cons.mp hx).resolve_left n
      have hy' : y ∈ l := (List.mem_cons.mp hy).resolve_left fun z => n z.symm
      have a := h1.1 y hy'
      have b := h2.1 x hx'
      unfold Ahead at a b
      rcases a with a | ⟨a, a2⟩ <;> rcases b with b | ⟨b, b2⟩
      · grind
      · grind
      · grind
      · omega
    subst e
    rw [ahead_unique (List.perm_cons _ |>.mp p) h1.2 h2.2]
theorem placeKey_le {qs : List Rat} {i j : Nat} (hi : i < qs.length) (hj : j < qs.length) : placeKey qs i ≤ placeKey qs j ↔ qs.getD j 0 ≤ qs.getD i 0 := by
  have hD := prodD_pos qs
  have g : ∀ {k : Nat}, k < qs.length → (qs.map (keyOf (prodD qs))).getD k 0 = keyOf (prodD qs) (qs.getD k 0) ∧ qs.getD k 0 ∈ qs := fun {k} hk => by
    rw [List.getD_eq_getElem?_getD, List.getD_eq_getElem?_getD, List.getElem?_map, List.getElem?_eq_getElem hk]
    exact ⟨rfl, List.getElem_mem hk⟩
  unfold placeKey
  rw [(g hi).1, (g hj).1]
  have v1 := val_key (prodD_dvd (g hi).2) hD
  have v2 := val_key (prodD_dvd (g hj).2) hD
  constructor
  · intro h
    have := val_mono (D := prodD qs) hD (show keyOf (prodD qs) (qs.getD j 0) ≤ keyOf (prodD qs) (qs.getD i 0) by omega)
    rw [v1, v2] at this
    exact this
  · intro h
    refine Decidable.byContradiction fun z => ?_
    have z' : keyOf (prodD qs) (qs.getD i 0) < keyOf (prodD qs) (qs.getD j 0) := by omega
    have m := val_mono (D := prodD qs) hD (Int.le_of_lt z')
    rw [v1, v2] at m
    have e : qs.getD i 0 = qs.getD j 0 := Rat.le_antisymm m h
    rw [e] at z'
    omega
theorem no_both {a b : Nat} : ∀ {l : List Nat}, l.Nodup → a ≠ b → [a, b].Sublist l → [b, a].Sublist l → False
  | [], _, _, h, _ => by cases h
  | x :: l, nd, n, h1, h2 => by
    rw [List.nodup_cons] at nd
    rcases List.sublist_cons_iff.mp h1 with p | ⟨r, e, p⟩ <;> rcases List.sublist_cons_iff.mp h2 with q | ⟨t, f, q⟩
    · exact no_both nd.2 n p q
    · injection f with f1 f2
      subst f1
      exact nd.1 (p.subset (by simp))
    · injection e with e1 e2
      subst e1
      exact nd.1 (q.subset (by simp))
    · injection e with e1 e2
      injection f with f1 f2
      exact n (e1.trans f1.symm)
theorem places_perm (qs : List Rat) : (places qs).Perm (List.range qs.length) := List.mergeSort_perm _ _
theorem places_ahead (qs : List Rat) : (places qs).Pairwise (Ahead qs) := by
  have tr : ∀ a b c : Nat, decide (placeKey qs a ≤ placeKey qs b) = true → decide (placeKey qs b ≤ placeKey qs c) = true → decide (placeKey qs a ≤ placeKey qs c) = true := fun a b c h1 h2 => by
    have h1 := of_decide_eq_true h1
    have h2 := of_decide_eq_true h2
    exact decide_eq_true (by omega)
  have tot : ∀ a b : Nat, (decide (placeKey qs a ≤ placeKey qs b) || decide (placeKey qs b ≤ placeKey qs a)) = true := fun a b => by
    by_cases h : placeKey qs a ≤ placeKey qs b
    · simp [h]
    · have : placeKey qs b ≤ placeKey qs a := by omega
      simp [this]
  have hp := List.pairwise_mergeSort (le := fun i j : Nat => decide (placeKey qs i ≤ placeKey qs j)) tr tot (List.range qs.length)
  have nd : (places qs).Nodup := (places_perm qs).nodup_iff.mpr List.nodup_range
  rw [List.pairwise_iff_forall_sublist]
  intro a b hs
  have ha : a < qs.length := List.mem_range.mp ((places_perm qs).mem_iff.mp (hs.subset (by simp)))
  have hb : b < qs.length := List.mem_range.mp ((places_perm qs).mem_iff.mp (hs.subset (by simp)))
  have le := of_decide_eq_true (List.pairwise_iff_forall_sublist.mp hp hs)
  have le' := (placeKey_le ha hb).mp le
  by_cases e : qs.getD a 0 = qs.getD b 0
  · refine .inr ⟨e, ?_⟩
    rcases Nat.lt_trichotomy a b with z | z | z
    · exact z
    · exfalso
      subst z
      have := nd.sublist hs
      simp at this
    · exfalso
      have hr : [b, a].Sublist (List.range qs.length) := by
        have h1 : (List.range (a + 1)).Sublist (List.range qs.length) := List.range_sublist.mpr ha
        refine List.Sublist.trans ?_ h1
        rw [List.range_succ]
        exact List.Sublist.append (l₁ := [b]) (List.singleton_sublist.mpr (List.mem_range.mpr z)) (List.Sublist.refl _)
      have h2 : [b, a].Sublist (places qs) := List.pair_sublist_mergeSort tr tot (decide_eq_true ((placeKey_le hb ha).mpr (by rw [e]; exact Rat.le_refl))) hr
      exact no_both nd (Nat.ne_of_gt z) hs h2
  · exact .inl (by grind)
theorem part_getD (p : List Rat) (i : Nat) : Co07.part (p.getD i 0) = (p.map Co07.part).getD i 0 := by
  rw [List.getD_eq_getElem?_getD, List.getD_eq_getElem?_getD, List.getElem?_map]
  cases p[i]? with
  | none => exact part_zero
  | some x => rfl
theorem putBy_perm (p : List Rat) (x : Nat) : ∀ l, (Co07.putBy p x l).Perm (x :: l)
  | [] => List.Perm.refl _
  | y :: l => by
    show (if Co07.part (p.getD y 0) < Co07.part (p.getD x 0) then x :: y :: l else y :: Co07.putBy p x l).Perm _
    split
    · exact List.Perm.refl _
    · exact ((putBy_perm p x l).cons y).trans (List.Perm.swap ..)
theorem putBy_ahead (p : List Rat) (x : Nat) : ∀ l, l.Pairwise (Ahead (p.map Co07.part)) → (∀ y ∈ l, y < x) → (Co07.putBy p x l).Pairwise (Ahead (p.map Co07.part))
  | [], _, _ => List.pairwise_singleton _ _
  | y :: l, h, hx => by
    show (if Co07.part (p.getD y 0) < Co07.part (p.getD x 0) then x :: y :: l else y :: Co07.putBy p x l).Pairwise _
    have h' := List.pairwise_cons.mp h
    have hy := hx y (List.mem_cons_self ..)
    rw [part_getD, part_getD]
    split
    · rename_i q
      refine List.pairwise_cons.mpr ⟨fun z hz => ?_, h⟩
      rcases List.mem_cons.mp hz with e | e
      · rw [e]
        exact .inl q
      · have a := h'.1 z e
        unfold Ahead at a
        refine .inl ?_
        rcases a with a | ⟨a, _⟩ <;> grind
    · rename_i q
      refine List.pairwise_cons.mpr ⟨fun z hz => ?_, putBy_ahead p x l h'.2 fun z hz => hx z (List.mem_cons_of_mem _ hz)⟩
      rcases List.mem_cons.mp ((putBy_perm p x l).mem_iff.mp hz) with e | e
      · rw [e]
        have q' := Rat.not_lt.mp q
        by_cases z : (p.map Co07.part).getD x 0 = (p.map Co07.part).getD y 0
        · exact .inr ⟨z.symm, hy⟩
        · exact .inl (by grind)
      · exact h'.1 z e
theorem fold_putBy (p : List Rat) : ∀ n : Nat, ((List.range n).foldl (fun (m : List Nat) (x : Nat) => Co07.putBy p x m) []).Perm (List.range n) ∧ ((List.range n).foldl (fun (m : List Nat) (x : Nat) => Co07.putBy p x m) []).Pairwise (Ahead (p.map Co07.part))
  | 0 => ⟨List.Perm.refl _, List.Pairwise.nil⟩
  | n + 1 => by
    obtain ⟨h1, h2⟩ := fold_putBy p n
    rw [List.range_succ, List.foldl_append]
    refine ⟨?_, ?_⟩
    · exact (putBy_perm p n _).trans ((h1.cons n).trans (List.perm_append_singleton n (List.range n)).symm)
    · exact putBy_ahead p n _ h2 fun y hy => List.mem_range.mp (h1.mem_iff.mp hy)
theorem places_is (p : List Rat) : places (p.map Co07.part) = (List.range p.length).foldl (fun (m : List Nat) (x : Nat) => Co07.putBy p x m) [] := by
  obtain ⟨h1, h2⟩ := fold_putBy p p.length
  have e : (p.map Co07.part).length = p.length := List.length_map _
  refine ahead_unique (ls := p.map Co07.part) ((places_perm _).trans ?_) (places_ahead _) h2
  rw [e]
  exact h1.symm
/-- the units when so many have been handed out -/
def unitsAt (p : List Rat) (t : Nat) : List Int := p.zipIdx.map fun (x : Rat × Nat) => Co07.floor x.1 + if (((places (p.map Co07.part)).take t).contains x.2) = true then 1 else 0
theorem unitsAt_get (p : List Rat) (t i : Nat) : (unitsAt p t)[i]? = (p[i]?).map fun x => Co07.floor x + if (((places (p.map Co07.part)).take t).contains i) = true then 1 else 0 := by
  unfold unitsAt
  rw [List.getElem?_map, List.getElem?_zipIdx]
  cases p[i]? with
  | none => rfl
  | some x => simp
theorem unitsAt_zero (p : List Rat) : unitsAt p 0 = p.map Co07.floor := by
  refine List.ext_getElem? fun i => ?_
  rw [unitsAt_get, List.getElem?_map]
  cases p[i]? with
  | none => rfl
  | some x => simp
theorem unitsAt_len (p : List Rat) (t : Nat) : (unitsAt p t).length = p.length := by
  unfold unitsAt
  rw [List.length_map, List.length_zipIdx]
theorem unitsAt_succ {p : List Rat} {t i : Nat} (h : (places (p.map Co07.part))[t]? = some i) : ∃ u : Int, (unitsAt p t)[i]? = some u ∧ unitsAt p (t + 1) = (unitsAt p t).set i (u + 1) := by
  have pm := places_perm (p.map Co07.part)
  rw [List.length_map] at pm
  have nd : (places (p.map Co07.part)).Nodup := pm.nodup_iff.mpr List.nodup_range
  have hi : i < p.length := List.mem_range.mp (pm.mem_iff.mp (List.mem_of_getElem? h))
  have ht : (places (p.map Co07.part)).take (t + 1) = (places (p.map Co07.part)).take t ++ [i] := take_succ h
  have nin : i ∉ (places (p.map Co07.part)).take t := fun hm => by
    obtain ⟨j, hj⟩ := List.mem_iff_getElem?.mp hm
    rw [List.getElem?_take] at hj
    split at hj
    · rename_i hjt
      have := (List.getElem?_inj (List.getElem?_eq_some_iff.mp hj).1 nd).mp (hj.trans h.symm)
      omega
    · cases hj
  refine ⟨Co07.floor p[i], ?_, ?_⟩
  · rw [unitsAt_get, List.getElem?_eq_getElem hi]
    simp [nin]
  · refine List.ext_getElem? fun j => ?_
    rw [List.getElem?_set, unitsAt_get, unitsAt_get, ht]
    by_cases e : i = j
    · subst e
      rw [if_pos rfl, unitsAt_len, if_pos hi, List.getElem?_eq_getElem hi]
      simp
    · rw [if_neg e]
      cases p[j]? with
      | none => rfl
      | some x =>
        have : (((places (p.map Co07.part)).take t ++ [i]).contains j) = (((places (p.map Co07.part)).take t).contains j) := by
          rw [List.contains_eq_mem, List.contains_eq_mem]
          simp only [List.mem_append, List.mem_singleton]
          have : (j = i) = False := by simp; exact fun z => e z.symm
          simp [this]
        simp only [Option.map_some, this]
theorem whole_is {p : List Rat} (h : Wh (Co07.sum p)) : Co07.whole p = unitsAt p (Co07.sum (p.map Co07.part)).num.toNat := by
  have hw := wh_den.mp (parts_wh h)
  show (p.zipIdx.map fun (x : Rat × Nat) => Co07.floor x.1 + if ((((List.range p.length).foldl (fun (m : List Nat) (x : Nat) => Co07.putBy p x m) []).take (Co07.floor (Co07.sum (p.map Co07.part))).toNat).contains x.2) = true then 1 else 0) = _
  rw [← places_is]
  have e : Co07.floor (Co07.sum (p.map Co07.part)) = (Co07.sum (p.map Co07.part)).num := by
    unfold Co07.floor
    rw [hw]
    exact Int.ediv_one _
  rw [e]
  rfl
end Cs

set_option Elab.async false
set_option linter.all false
set_option maxRecDepth 100000
set_option maxHeartbeats 2000000
namespace Cs
open PySem PySem.Spec PyProof.Rows L2
abbrev sUnits : Stmt := top 24
/-! ### xs[i] op= e of a list -/
def rGetL (K : PySem.W.Frag) : V → V → Hp → VK → Prop := fun o i H Q => ∃ (p : Addr) (xs : List V) (k : Nat) (v : V), o = .ref p ∧ i = .int (k : Int) ∧ SqL K H p xs ∧ xs[k]? = some v ∧ Q v H
theorem get_list {X : Cx} : PGet X (rGetL X.K) := by
  intro pins s σ H o i ov iv Q I ro ri h
  obtain ⟨p, xs, k, v, rfl, rfl, hS, hv, q⟩ := h
  cases ro
  obtain ⟨t, rfl⟩ := ri
  obtain ⟨its, r, pl, hz⟩ := I.list hS
  obtain ⟨u, hu, ru⟩ := r.get hv
  have hk : k < xs.length := (List.getElem?_eq_some_iff.mp hv).1
  have hn := line63
  exact wpAny_getItem_list pl.isList (by omega) (by omega) (by simpa using hu) ⟨v, H, I, ru, q⟩
/-! ### a list written: the tables stay -/
theorem tabs_write {T : List (Addr × Str)} {H : Hp} {D : Addr} {o o' : HO} (h : H D = some o) (n1 : ∀ ps, o ≠ .tbl ps) (n2 : ∀ φ, o ≠ .ext φ) (t : LamX.Tabs T H) : LamX.Tabs T (upd H D o') := fun p hp => by
  obtain ⟨ps, h1, h2, h3⟩ := t p hp
  refine ⟨ps, ?_, h2, fun pos cv hc => ?_⟩
  · rw [upd_ne (fun z => by rw [z, h] at h1; exact n1 _ (Option.some.inj h1))]
    exact h1
  · obtain ⟨c, e1, e2⟩ := h3 pos cv hc
    refine ⟨c, e1, ?_⟩
    rw [upd_ne (fun z => by rw [z, h] at e2; exact n2 _ (Option.some.inj e2))]
    exact e2
theorem ext_write {H H' : Hp} {D : Addr} {o : HO} (e : LamX.ExtN H H') (h : H D = none) : LamX.ExtN H (upd H' D o) := fun b u hb n => by
  rw [upd_ne (ne_of_none hb h)]
  exact e b u hb n
theorem up_write {T : List (Addr × Str)} {H H' : Hp} {D : Addr} {xs : List V} {o : HO} (u : Up T H H') (h : H D = none) (h' : H' D = some (.lst xs)) : Up T H (upd H' D o) :=
  ⟨ext_write u.ext h, fun t => tabs_write h' (fun _ z => by cases z) (fun _ z => by cases z) (u.tab t)⟩
/-! ### in_whole_units -/
def spUnits (T : List (Addr × Str)) (K : PySem.W.Frag) : Sp := fun vs H Q _ => ∃ (a : Addr) (xs : List V) (qs : List Rat), vs = [.ref a] ∧ SqL K H a xs ∧ Amts K H xs qs ∧ qs.length ≤ 8 ∧ (∀ q ∈ qs, 0 ≤ q ∧ Sz 900 q) ∧ Wh (Co07.sum qs) ∧ LamX.Tabs T H ∧
  ∀ (H' : Hp) (b : Addr), Up T H H' → H b = none → H' b = some (.lst ((Co07.whole qs).map V.int)) → Q (.ref b) H'
theorem scUnits : FnScope ["shares", "units", "losses", "left_over", "place", "amount", "unit"] ["shares"] (defScope sUnits) := ⟨rfl, rfl, rfl, by decide +kernel, rfl, by decide +kernel, by decide +kernel⟩
theorem cut_take {xs : List V} {k : Int} (h : 0 ≤ k) : cutV xs none (some k) = xs.take k.toNat := by
  unfold cutV
  obtain ⟨n, rfl⟩ : ∃ n : Nat, k = n := ⟨k.toNat, by omega⟩
  rw [HT.sIx_none, HT.sIx_nat, List.drop_zero, Int.toNat_natCast, Nat.sub_zero]
  rcases Nat.le_total n xs.length with h | h
  · rw [Nat.min_eq_left h]
  · rw [Nat.min_eq_right h, List.take_length, List.take_of_length_le h]
section
variable {P : Program} {w : World} {K : PySem.W.Frag} {mg : Str → Option Value} {base : Heap} {T : List (Addr × Str)}
theorem whole_amt {H : Hp} {t : Addr} {u : Int} (h : H t = some (.tup [.int u, .int 1])) : Amt K H (.ref t) (u : Rat) := ⟨t, rfl, .inl (.inl h)⟩
theorem ok_units {f : Addr} {fd : FuncData} (F : Fun K "in_whole_units" "in_whole_units" sUnits f fd) (zz : mg "zip" = none) (GM : Has P w K mg base "minus" 3 ["first", "second"] (spOp K (fun p q => p - q) fun p q => q ≤ p)) (GT : Has P w K mg base "together" 4 ["amounts"] (spTog K)) (GP : Has P w K mg base "places_largest_first" 4 ["amounts"] (spPlaces T K)) :
    FnOk P w K mg base CX0 5 f fd ["shares"] (spUnits T K) := by
  refine F.ok scUnits (fun vs H Q E h => ?_) (fun cdv A outer s H vs Q E hr h => ?_)
  · obtain ⟨a, xs, qs, rfl, _⟩ := h
    rfl
  · obtain ⟨a, xs, qs, rfl, hS, hA, h8, hq, hw, hT, k⟩ := h
    have hr3 : Room 3 _ := hr.mono (by decide)
    refine ⟨_, pss_cons (ps_setLc (i := 1) (own := [("amount", 5)]) (g := gName 5) (tt := tYes) (te := tOp (rI CDivW fun i j => .int (i / j)) (tOp (rIxT K) (tVar 5) (tC (.int 0))) (tOp (rIxT K) (tVar 5) (tC (.int 1)))) rfl scUnits.nd rfl rfl (sw_true rfl rfl rfl (by decide +kernel)) (pi_list (pv 0)) (blkOk_by (N := ["shares", "units", "losses", "left_over", "place", "amount", "unit"]) (sc := defScope sUnits) (by decide +kernel))
        (fun _ _ _ _ _ => pg_name (i := 5) scUnits.nd rfl (Or.inl rfl)) (fun _ _ _ _ _ => pts_nil)
        (fun _ _ _ _ _ => pe_op op_fdivW (pe_ix ix_tup (pv 5) pe_int (fun _ _ => rfl)) (pe_ix ix_tup (pv 5) pe_int (fun _ _ => rfl))))
      (pss_cons (ps_setLc (i := 2) (own := [("amount", 5), ("unit", 6)]) (g := gTup K 2 (gCons (gName 5) (gCons (gName 6) gNil))) (tt := tYes) (te := tCall (spOp K (fun p q => p - q) fun p q => q ≤ p) [] E0 (tCons (tVar 5) (tCons (tTup (tCons (tVar 6) (tCons (tC (.int 1)) tNil))) tNil))) rfl scUnits.nd rfl rfl (sw_true rfl rfl rfl (by decide +kernel)) (pi_zip (by rfl) zz (pa_cons (pv 0) (pa_cons (pv 1) pa_nil)))
        (blkOk_by (N := ["shares", "units", "losses", "left_over", "place", "amount", "unit"]) (sc := defScope sUnits) (by decide +kernel))
        (fun _ _ _ _ _ => pg_tup rfl (pgs_cons (pg_name (i := 5) scUnits.nd rfl (Or.inl rfl)) (pgs_cons (pg_name (i := 6) scUnits.nd rfl (Or.inl rfl)) pgs_nil))) (fun _ _ _ _ _ => pts_nil)
        (fun _ _ _ _ _ => pe_has GM hr3 rfl (pa_cons (pv 5) (pa_cons (pe_tup (pa_cons (pv 6) (pa_cons pe_int pa_nil))) pa_nil))))
      (pss_cons (ps_set (i := 3) scUnits.nd rfl (Or.inl rfl) (pe_ix ix_tup (pe_has GT hr rfl (pa_cons (pv 2) pa_nil)) pe_int (fun _ _ => rfl)))
      (pss_cons (ps_for PassesOwn.never rfl (pi_list (pe_slice sl_list (pe_has GP hr rfl (pa_cons (pv 2) pa_nil)) po_none (po_some (pv 3)))) (pg_name (i := 4) scUnits.nd rfl (Or.inl rfl))
        (pss_one (ps_augS (pv 1) (pv 4) get_list pe_int ip_add set_list)))
      (pss_one (ps_ret (pv 1)))))), ?_⟩
    have hxl := hA.len
    -- units = [..]
    refine ⟨_, rfl, a, rfl, ⟨_, hS⟩, fun D hD => lc_list (K := K) (a := a) (xs := xs) (fun i H1 => Same H H1 ∧ H1 D = some (.lst (((qs.take i).map Co07.floor).map V.int))) ⟨same_new hD, upd_same⟩ (fun i H1 _ ⟨s1, _⟩ => s1.seq hS) ?_ ?_⟩
    · rintro i x H1 hi ⟨s1, hacc⟩
      obtain ⟨q, hqi, p, rfl, hp⟩ := hA.get hi
      have hm := List.mem_of_getElem? hqi
      have hp1 : SqT K H1 p [.int q.num, .int (q.den : Int)] := ext_tup (LamX.ExtN.of s1) hp
      refine ⟨rfl, ?_⟩
      unfold tYes
      refine iteT ⟨_, rfl, p, _, _, _, rfl, rfl, hp1, rfl, _, rfl, p, _, _, _, rfl, rfl, hp1, rfl, _, _, rfl, rfl, wide_div (dpos q) (b := 900) (hq q hm).2.d (by decide) (by decide), _, hacc, ?_, ?_, ?_⟩
      · rw [List.length_map, List.length_map, List.length_take]
        exact Nat.lt_of_le_of_lt (show min i qs.length ≤ 8 by omega) (by decide)
      · exact same_write s1 hD
      · rw [upd_same, take_succ hqi, List.map_append, List.map_append]
        rfl
    rintro H1 ⟨s1, hU⟩
    rw [hxl, List.take_length] at hU
    have hSU : SqL K H1 D ((qs.map Co07.floor).map V.int) := up_lst hU
    have hul : xs.length = ((qs.map Co07.floor).map V.int).length := by rw [List.length_map, List.length_map]; exact hxl
    -- losses = [..]
    refine ⟨_, rfl, _, rfl, a, D, xs, _, rfl, s1.seq hS, hSU, fun D2 hD2 => lc_zipL hul (fun i H2 => Same H1 H2 ∧ ∃ acc, H2 D2 = some (.lst acc) ∧ Amts K H2 acc ((qs.take i).map Co07.part)) ⟨same_new hD2, [], upd_same, Amts.nil⟩
      (fun i H2 ⟨s2, _⟩ => ⟨s2.seq (s1.seq hS), s2.seq hSU⟩) ?_ ?_⟩
    · rintro i x y t H2 hx hy ⟨s2, acc, hacc, hAc⟩ ht
      obtain ⟨q, hqi, hxa⟩ := hA.get hx
      have hm := List.mem_of_getElem? hqi
      have ey : y = .int (Co07.floor q) := by
        rw [List.getElem?_map, List.getElem?_map, hqi] at hy
        exact (Option.some.inj hy).symm
      subst ey
      obtain ⟨q0, qz⟩ := hq q hm
      have st := same_new (o := .tup [x, .int (Co07.floor q)]) ht
      refine ⟨t, [x, .int (Co07.floor q)], rfl, .inl (.inl upd_same), rfl, x, [.int (Co07.floor q)], rfl, .int (Co07.floor q), [], rfl, rfl, rfl, ?_⟩
      unfold tYes
      refine iteT ⟨_, rfl, _, rfl, (by show 2 ≤ sizeLine; decide), fun t2 ht2 => ?_⟩
      have st2 := same_new (o := .tup [.int (Co07.floor q), .int 1]) ht2
      have f0 : (0 : Rat) ≤ (Co07.floor q : Rat) := by
        have := Rat.intCast_le_intCast.mpr (floor_nn q0)
        exact this
      refine ⟨x, .ref t2, q, (Co07.floor q : Rat), 900, 900, rfl, hxa.same (s1.trans (s2.trans (st.trans st2))), whole_amt upd_same, qz, sz_floor q0 qz (by decide), by decide, q0, f0, floor_le q, fun H4 v s4 h4 => ?_⟩
      have s24 := st.trans (st2.trans s4)
      have hD4 := s24 _ _ hacc
      refine ⟨acc, hD4, ?_, same_write (s2.trans s24) hD2, acc ++ [v], upd_same, ?_⟩
      · have h1 := hAc.len
        rw [List.length_map, List.length_take] at h1
        exact Nat.lt_of_le_of_lt (show acc.length ≤ 8 by omega) (by decide)
      · rw [take_succ hqi, List.map_append]
        exact (tk_lst hD4).amts ((hAc.ext (LamX.ExtN.of s24)).snoc h4)
    rintro H2 ⟨s2, ls, hL, hAL⟩
    rw [hxl, List.take_length] at hAL
    have s12 := s1.trans s2
    have lq : ∀ q ∈ qs.map Co07.part, 0 ≤ q ∧ Sz 900 q := fun q hm => by
      obtain ⟨c, hc, rfl⟩ := List.mem_map.mp hm
      exact ⟨part_nn c, sz_part (hq c hc).2⟩
    have ll : (qs.map Co07.part).length ≤ 8 := by rw [List.length_map]; exact h8
    -- left_over = together(losses)[0]
    refine ⟨_, rfl, D2, ls, qs.map Co07.part, 900, rfl, up_lst hL, hAL, ll, lq, by decide, fun H3 v3 s3 ⟨p3, e3, h3⟩ => ?_⟩
    subst e3
    refine ⟨p3, _, _, _, rfl, rfl, h3, rfl, ?_⟩
    -- for place in places_largest_first(losses)[:left_over]
    refine ⟨_, rfl, D2, ls, qs.map Co07.part, 900, rfl, s3.seq (up_lst hL), hAL.ext (LamX.ExtN.of s3), ll, fun q hm => (lq q hm).2, by decide, hT.ext (s12.trans s3), fun H4 b4 u4 h4 => ?_⟩
    have L0 : 0 ≤ (Co07.sum (qs.map Co07.part)).num := nnon (sum_nonneg _ fun q hm => (lq q hm).1)
    have u04 : Up T H H4 := (Up.same (s12.trans s3)).trans u4
    have hU4 : H4 D = some (.lst ((qs.map Co07.floor).map V.int)) := u4.ext _ _ (s3 _ _ (s2 _ _ hU)) fun _ z => by cases z
    refine ⟨_, rfl, _, rfl, b4, _, rfl, up_lst h4, fun c hc => ?_⟩
    rw [cut_take L0, ← List.map_take]
    have sc := same_new (o := .lst (((places (qs.map Co07.part)).take (Co07.sum (qs.map Co07.part)).num.toNat).map fun (i : Nat) => V.int (i : Int))) hc
    have hcD : c ≠ D := fun z => by rw [z, hU4] at hc; cases hc
    generalize hm : (Co07.sum (qs.map Co07.part)).num.toNat = more at sc ⊢
    refine ⟨c, rfl, ⟨_, up_lst upd_same⟩, for_list (K := K) (a := c) (xs := ((places (qs.map Co07.part)).take more).map fun (i : Nat) => V.int (i : Int)) (fun i σ H5 => ∃ u : Option V, σ = [some (.ref a), some (.ref D), some (.ref D2), some (.int (Co07.sum (qs.map Co07.part)).num), u, none, none] ∧ Up T H H5 ∧ H5 D = some (.lst ((unitsAt qs i).map V.int)) ∧ H5 c = some (.lst (((places (qs.map Co07.part)).take more).map fun (i : Nat) => V.int (i : Int))))
      ⟨none, rfl, u04.trans (Up.same sc), by rw [unitsAt_zero]; exact sc _ _ hU4, upd_same⟩ (fun i σ H5 _ ⟨_, _, _, _, h⟩ => up_lst h) ?_ ?_⟩
    · rintro i x σ H5 hi ⟨u, rfl, u5, hU5, hc5⟩
      rw [List.getElem?_map, List.getElem?_take] at hi
      split at hi
      · cases e : (places (qs.map Co07.part))[i]? with
        | none =>
          rw [e] at hi
          cases hi
        | some j =>
          rw [e] at hi
          cases hi
          obtain ⟨v, hv, hn⟩ := unitsAt_succ e
          have hv' : ((unitsAt qs i).map V.int)[j]? = some (.int v) := by rw [List.getElem?_map, hv]; rfl
          have hj : j < ((unitsAt qs i).map V.int).length := (List.getElem?_eq_some_iff.mp hv').1
          refine ⟨_, rfl, _, rfl, D, _, j, _, rfl, rfl, up_lst hU5, hv', _, _, rfl, rfl, D, _, _, j, rfl, rfl, hU5, ?_, some (.int (j : Int)), rfl, up_write u5 hD hU5, ?_, ?_⟩
          · unfold ixN
            rw [if_pos (by omega), if_pos (by omega), Int.toNat_natCast]
          · rw [upd_same, hn, List.map_set]
          · rw [upd_ne hcD]
            exact hc5
      · cases hi
    · rintro σ H5 ⟨u, rfl, u5, hU5, hc5⟩
      refine ⟨_, rfl, k H5 D u5 hD ?_⟩
      rw [hU5, whole_is hw, hm]
      have e : ∀ t t' : Nat, (places (qs.map Co07.part)).take t = (places (qs.map Co07.part)).take t' → unitsAt qs t = unitsAt qs t' := fun t t' z => by unfold unitsAt; rw [z]
      rw [e (((places (qs.map Co07.part)).take more).map fun (i : Nat) => V.int (i : Int)).length more]
      rw [List.length_map, List.length_take]
      rcases Nat.le_total more (places (qs.map Co07.part)).length with z | z
      · rw [Nat.min_eq_left z]
      · rw [Nat.min_eq_right z, List.take_length, List.take_of_length_le z]
end
end Cs

set_option Elab.async false
set_option linter.all false
set_option maxRecDepth 100000
set_option maxHeartbeats 2000000
namespace Cs
open PySem PySem.Spec PyProof.Rows L2
abbrev sTold : Stmt := top 33
abbrev sRise : Stmt := top 34
abbrev sCInit : Stmt := inClass (top 35) 0
abbrev sDInit : Stmt := inClass (top 36) 0
abbrev sNew : Stmt := inClass (top 36) 1
abbrev sClaim : Stmt := inClass (top 36) 2
abbrev sThere : Stmt := inClass (top 36) 3
abbrev sCS : Stmt := inClass (top 36) 4
abbrev sShare : Stmt := inClass (top 36) 5
abbrev sAllW : Stmt := inClass (top 36) 6
abbrev sWhole : Stmt := inClass (top 36) 7
abbrev sAgain : Stmt := inClass (top 36) 8
abbrev sDrop : Stmt := inClass (top 36) 9
/-! ### told -/
def tell (qs : List Rat) : List Int := (qs.length : Int) :: qs.flatMap Co07.fraction
def spTold (K : PySem.W.Frag) : Sp := fun vs H Q _ => ∃ (a : Addr) (xs : List V) (qs : List Rat), vs = [.ref a] ∧ SqL K H a xs ∧ Amts K H xs qs ∧ qs.length ≤ 10 ∧
  ∀ (H' : Hp) (b : Addr), Same H H' → H b = none → H' b = some (.lst ((tell qs).map V.int)) → Q (.ref b) H'
theorem flat_len (qs : List Rat) : (qs.flatMap Co07.fraction).length = 2 * qs.length := by
  induction qs with
  | nil => rfl
  | cons q l ih =>
    rw [List.flatMap_cons, List.length_append, ih, List.length_cons]
    show 2 + 2 * l.length = _
    omega
theorem scTold : FnScope ["amounts", "numbers", "amount"] ["amounts"] (defScope sTold) := ⟨rfl, rfl, rfl, by decide +kernel, rfl, by decide +kernel, by decide +kernel⟩
section
variable {P : Program} {w : World} {K : PySem.W.Frag} {mg : Str → Option Value} {base : Heap} {T : List (Addr × Str)}
theorem ok_told {f : Addr} {fd : FuncData} (F : Fun K "told" "told" sTold f fd) (zl : mg "len" = none) : FnOk P w K mg base CX0 1 f fd ["amounts"] (spTold K) := by
  refine F.ok scTold (fun vs H Q E h => ?_) (fun cdv A outer s H vs Q E hr h => ?_)
  · obtain ⟨a, xs, qs, rfl, _⟩ := h
    rfl
  · obtain ⟨a, xs, qs, rfl, hS, hA, h10, k⟩ := h
    refine ⟨_, pss_cons (ps_set (i := 1) scTold.nd rfl (Or.inl rfl) (pe_lst (pa_cons (pe_callB call_len_seq (by rfl) zl PySem.boot_len (pa_cons (pv 0) pa_nil)) pa_nil)))
      (pss_cons (ps_for PassesOwn.never rfl (pi_list (pv 0)) (pg_name (i := 2) scTold.nd rfl (Or.inl rfl))
        (pss_one (ps_expr (pe_bm PySem.F.plainAttrs_list PySem.F.slot_list_extend PySem.F.type_list_extend mt_extend (pv 1) (pa_cons (pe_lst (pa_cons (pe_ix ix_tup (pv 2) pe_int (fun _ _ => rfl)) (pa_cons (pe_ix ix_tup (pv 2) pe_int (fun _ _ => rfl)) pa_nil))) pa_nil)))))
      (pss_one (ps_ret (pv 1)))), ?_⟩
    have hxl := hA.len
    refine ⟨_, rfl, a, xs, rfl, .inl hS, (by show 1 ≤ sizeLine; decide), fun D hD => ?_⟩
    rw [hxl]
    refine ⟨_, rfl, a, rfl, ⟨_, (same_new hD).seq hS⟩, for_list (K := K) (a := a) (xs := xs) (fun i σ H' => ∃ u : Option V, σ = [some (.ref a), some (.ref D), u] ∧ Same H H' ∧ H' D = some (.lst (((qs.length : Int) :: (qs.take i).flatMap Co07.fraction).map V.int)))
      ⟨none, rfl, same_new hD, upd_same⟩ (fun i σ H' _ ⟨_, _, s1, _⟩ => s1.seq hS) ?_ ?_⟩
    · rintro i x σ H' hi ⟨u, rfl, s1, hL⟩
      obtain ⟨q, hq, p, rfl, hp⟩ := hA.get hi
      have hp1 : SqT K H' p [.int q.num, .int (q.den : Int)] := ext_tup (LamX.ExtN.of s1) hp
      refine ⟨_, rfl, .inl ⟨rfl, _, SqL.of hL⟩, _, rfl, p, _, _, _, rfl, rfl, hp1, rfl, _, rfl, p, _, _, _, rfl, rfl, hp1, rfl, (by show 2 ≤ sizeLine; decide), fun t ht => ?_⟩
      have st := same_new (o := .lst [.int q.num, .int (q.den : Int)]) ht
      refine ⟨D, t, _, _, rfl, rfl, st _ _ hL, upd_same, ?_, some (.ref p), rfl, same_write (s1.trans st) hD, ?_⟩
      · rw [List.length_map, List.length_cons, flat_len, List.length_take]
        exact Nat.le_trans (show 2 * min i qs.length + 1 + 2 ≤ 23 by omega) (by decide)
      · rw [upd_same, take_succ hq, List.flatMap_append, List.flatMap_singleton, ← List.cons_append, List.map_append]
        rfl
    · rintro σ H' ⟨u, rfl, s1, hL⟩
      rw [hxl, List.take_length] at hL
      exact ⟨_, rfl, k H' D s1 hD hL⟩
/-! ### rise_below -/
def riseOk (limit : Nat) : Nat → List Nat → Bool
  | _, [] => true
  | least, n :: r => !(decide (n < least) || decide (limit ≤ n)) && riseOk limit (n + 1) r
theorem riseOk_is (limit : Nat) : ∀ (l : List Nat) (least : Nat), riseOk limit least l = true ↔ (∀ n r, l = n :: r → least ≤ n) ∧ Co07.rises l = true ∧ (l.any fun (i : Nat) => decide (limit ≤ i)) = false
  | [], least => by simp [riseOk, Co07.rises]
  | [n], least => by
    simp [riseOk, Co07.rises]
  | n :: m :: r, least => by
    have ih := riseOk_is limit (m :: r) (n + 1)
    have e : riseOk limit least (n :: m :: r) = (!(decide (n < least) || decide (limit ≤ n)) && riseOk limit (n + 1) (m :: r)) := rfl
    rw [e, Bool.and_eq_true, ih]
    have e2 : Co07.rises (n :: m :: r) = (decide (n < m) && Co07.rises (m :: r)) := rfl
    rw [e2]
    simp only [List.any_cons, Bool.or_eq_false_iff, Bool.and_eq_true, decide_eq_true_eq, decide_eq_false_iff_not, Bool.not_eq_true', List.cons.injEq, and_imp]
    constructor
    · rintro ⟨⟨a, b⟩, c, d, e1, e2⟩
      exact ⟨fun n' r' h1 h2 => by omega, ⟨by have := c m r rfl rfl; omega, d⟩, b, e1, e2⟩
    · rintro ⟨a, ⟨b, c⟩, d, e1, e2⟩
      exact ⟨⟨by have := a n (m :: r) rfl rfl; omega, d⟩, fun n' r' h1 h2 => by omega, c, e1, e2⟩
def spRise (K : PySem.W.Frag) : Sp := fun vs H Q _ => ∃ (a : Addr) (ns : List Nat) (limit : Nat), vs = [.ref a, .int (limit : Int)] ∧ SqL K H a (ns.map fun (n : Nat) => V.int (n : Int)) ∧ Q (.bl (riseOk limit 0 ns)) H
theorem scRise : FnScope ["numbers", "limit", "least", "number"] ["numbers", "limit"] (defScope sRise) := ⟨rfl, rfl, rfl, by decide +kernel, rfl, by decide +kernel, by decide +kernel⟩
theorem ok_rise {f : Addr} {fd : FuncData} (F : Fun K "rise_below" "rise_below" sRise f fd) : FnOk P w K mg base CX0 1 f fd ["numbers", "limit"] (spRise K) := by
  refine F.ok scRise (fun vs H Q E h => ?_) (fun cdv A outer s H vs Q E hr h => ?_)
  · obtain ⟨a, ns, limit, rfl, _⟩ := h
    rfl
  · obtain ⟨a, ns, limit, rfl, hS, k⟩ := h
    refine ⟨_, pss_cons (ps_set (i := 2) scRise.nd rfl (Or.inl rfl) pe_int)
      (pss_cons (ps_for PassesOwn.never rfl (pi_list (pv 0)) (pg_name (i := 3) scRise.nd rfl (Or.inl rfl))
        (pss_cons (ps_if (pw_or (pt_cmpR op_lt (pv 3) (pv 2) (nomark _)) (pw_or1 (pt_cmpR op_ge (pv 3) (pv 1) (nomark _)))).pt (pss_one (ps_ret pe_bl)) pss_nil)
        (pss_one (ps_set (i := 2) scRise.nd rfl (Or.inl rfl) (pe_op op_add (pv 3) pe_int)))))
      (pss_one (ps_ret pe_bl))), ?_⟩
    refine ⟨_, rfl, a, rfl, ⟨_, hS⟩, for_list (K := K) (a := a) (xs := ns.map fun (n : Nat) => V.int (n : Int)) (fun i σ H' => H' = H ∧ ∃ (least : Nat) (u : Option V), σ = [some (.ref a), some (.int (limit : Int)), some (.int (least : Int)), u] ∧ riseOk limit 0 ns = riseOk limit least (ns.drop i))
      ⟨rfl, 0, none, rfl, rfl⟩ (fun i σ H' _ ⟨e, _⟩ => by rw [e]; exact hS) ?_ ?_⟩
    · rintro i x σ H' hi ⟨rfl, least, u, rfl, hrs⟩
      rw [List.getElem?_map] at hi
      cases e : ns[i]? with
      | none =>
        rw [e] at hi
        cases hi
      | some n =>
        rw [e] at hi
        cases hi
        rw [drop_at e] at hrs
        have hrs' : riseOk limit 0 ns = (!(decide (n < least) || decide (limit ≤ n)) && riseOk limit (n + 1) (ns.drop (i + 1))) := hrs
        refine ⟨_, rfl, _, rfl, _, _, rfl, rfl, _, rfl, ?_⟩
        refine ite2 (fun q => ?_) (fun q => ?_)
        · have q' := of_decide_eq_true q
          have : decide (n < least) = true := decide_eq_true (by omega)
          rw [this] at hrs'
          show Q (.bl false) H'
          have z : riseOk limit 0 ns = false := by rw [hrs']; rfl
          rw [← z]
          exact k
        · have q' : ¬ ((n : Int) < (least : Int)) := fun z => q (decide_eq_true z)
          have d1 : decide (n < least) = false := decide_eq_false (by omega)
          refine ⟨_, rfl, _, rfl, _, _, rfl, rfl, _, rfl, ?_⟩
          refine ite2 (fun q => ?_) (fun q => ?_)
          · have q' := of_decide_eq_true q
            have : decide (limit ≤ n) = true := decide_eq_true (by omega)
            rw [this, d1] at hrs'
            show Q (.bl false) H'
            have z : riseOk limit 0 ns = false := by rw [hrs']; rfl
            rw [← z]
            exact k
          · have q' : ¬ ((limit : Int) ≤ (n : Int)) := fun z => q (decide_eq_true z)
            have d2 : decide (limit ≤ n) = false := decide_eq_false (by omega)
            rw [d1, d2] at hrs'
            refine ⟨_, rfl, _, _, rfl, rfl, rfl, n + 1, some (.int (n : Int)), rfl, ?_⟩
            rw [hrs']
            rfl
    · rintro σ H' ⟨rfl, least, u, rfl, hrs⟩
      rw [List.length_map, List.drop_length] at hrs
      show Q (.bl true) H'
      have z : riseOk limit 0 ns = true := hrs
      rw [← z]
      exact k
end
end Cs

set_option Elab.async false
set_option linter.all false
set_option maxRecDepth 100000
set_option maxHeartbeats 2000000
namespace Cs
open PySem PySem.Spec PyProof.Rows L2
/-! ### the fields -/
theorem c_s : ¬ (("classes" : Str) = "stock") := by decide +kernel
theorem r_c : ¬ (("rule" : Str) = "claims") := by decide +kernel
def df (L : Addr) (v : V) : List (Str × V) := putF "stock" v (putF "classes" (.ref L) [])
theorem df_eq (L : Addr) (v : V) : df L v = ([("classes", V.ref L), ("stock", v)] : List (Str × V)) := by
  show (if ("classes" : Str) = "stock" then [(("classes" : Str), v)] else (("classes" : Str), V.ref L) :: putF "stock" v []) = ([("classes", V.ref L), ("stock", v)] : List (Str × V))
  rw [if_neg c_s]
  all_goals rfl
theorem df_classes (L : Addr) (v : V) : (df L v).lookup ("classes" : Str) = some (.ref L) := by
  unfold df
  rw [lookup_putF, if_neg c_s, lookup_putF, if_pos rfl]
theorem df_stock (L : Addr) (v : V) : (df L v).lookup ("stock" : Str) = some v := by
  unfold df
  rw [lookup_putF, if_pos rfl]
theorem df_no (L : Addr) (v : V) {m : Str} (h1 : ¬ m = "stock") (h2 : ¬ m = "classes") : (df L v).lookup m = none := by
  unfold df
  rw [lookup_putF, if_neg h1, lookup_putF, if_neg h2]
  all_goals rfl
theorem df_put (L : Addr) (v u : V) : putF "stock" u (df L v) = df L u := by
  rw [df_eq, df_eq]
  show (if ("classes" : Str) = "stock" then _ else (("classes" : Str), V.ref L) :: (if ("stock" : Str) = "stock" then [(("stock" : Str), u)] else _)) = ([("classes", V.ref L), ("stock", u)] : List (Str × V))
  rw [if_neg c_s, if_pos rfl]
def cf (r : Nat) (l : Addr) : List (Str × V) := putF "claims" (.ref l) (putF "rule" (.int (r : Int)) [])
theorem cf_claims (r : Nat) (l : Addr) : (cf r l).lookup ("claims" : Str) = some (.ref l) := by
  unfold cf
  rw [lookup_putF, if_pos rfl]
theorem cf_rule (r : Nat) (l : Addr) : (cf r l).lookup ("rule" : Str) = some (.int (r : Int)) := by
  unfold cf
  rw [lookup_putF, if_neg r_c, lookup_putF, if_pos rfl]
/-! ### the desk in the heap -/
def ClsAt (K : PySem.W.Frag) (CC : Addr) (H : Hp) (p l : Addr) (c : Co07.Class) : Prop := ∃ (dx : Addr) (xs : List V), H p = some (.ins CC dx (cf c.method l)) ∧ H l = some (.lst xs) ∧ Amts K H xs c.claims
structure StOk (st : Co07.St) : Prop where
  len : st.classes.length ≤ 4
  cls : ∀ c ∈ st.classes, ClsOk c
  nn : 0 ≤ st.there
  sz : Sz 20 st.there
structure DeskIn (T : List (Addr × Str)) (K : PySem.W.Frag) (CD CC : Addr) (H0 H : Hp) (d dx L : Addr) (v : V) (ps ls : List Addr) (st : Co07.St) : Prop where
  same : Same H0 H
  notab : ∀ b o, H0 b ≠ some (.tbl o)
  tab : LamX.Tabs T H
  hd : H d = some (.ins CD dx (df L v))
  hL : H L = some (.lst (ps.map V.ref))
  hv : Amt K H v st.there
  lp : ps.length = st.classes.length
  ll : ls.length = st.classes.length
  cls : ∀ (i : Nat) (p l : Addr) (c : Co07.Class), ps[i]? = some p → ls[i]? = some l → st.classes[i]? = some c → ClsAt K CC H p l c
  nd : ls.Nodup
  nL : L ∉ ls
  ndp : d ∉ ps
  d0 : H0 d = none
  L0 : H0 L = none
  ls0 : ∀ l ∈ ls, H0 l = none
  ok : StOk st
def DeskAt (T : List (Addr × Str)) (K : PySem.W.Frag) (CD CC : Addr) (H0 H : Hp) (d : Addr) (st : Co07.St) : Prop := ∃ (dx L : Addr) (v : V) (ps ls : List Addr), DeskIn T K CD CC H0 H d dx L v ps ls st
section
variable {T : List (Addr × Str)} {K : PySem.W.Frag} {CD CC : Addr} {H0 H H' : Hp} {d dx L : Addr} {v : V} {ps ls : List Addr} {st : Co07.St}
theorem ClsAt.ext {p l : Addr} {c : Co07.Class} (e : LamX.ExtN H H') (h : ClsAt K CC H p l c) : ClsAt K CC H' p l c := by
  obtain ⟨dx, xs, h1, h2, h3⟩ := h
  exact ⟨dx, xs, e _ _ h1 (fun _ z => by cases z), e _ _ h2 (fun _ z => by cases z), h3.ext e⟩
theorem DeskIn.up (D : DeskIn T K CD CC H0 H d dx L v ps ls st) (u : Up T H H') : DeskIn T K CD CC H0 H' d dx L v ps ls st :=
  { D with
    same := fun b o e => u.ext _ _ (D.same b o e) fun ps z => D.notab b ps (by rw [e, z])
    tab := u.tab D.tab
    hd := u.ext _ _ D.hd (fun _ z => by cases z)
    hL := u.ext _ _ D.hL (fun _ z => by cases z)
    hv := D.hv.ext u.ext
    cls := fun i p l c h1 h2 h3 => (D.cls i p l c h1 h2 h3).ext u.ext }
theorem DeskAt.up (D : DeskAt T K CD CC H0 H d st) (u : Up T H H') : DeskAt T K CD CC H0 H' d st := by
  obtain ⟨dx, L, v, ps, ls, D⟩ := D
  exact ⟨dx, L, v, ps, ls, D.up u⟩
theorem DeskIn.cls_at (D : DeskIn T K CD CC H0 H d dx L v ps ls st) {k : Nat} (hk : k < st.classes.length) : ∃ (p l : Addr) (dc : Addr) (xs : List V) (c : Co07.Class), ps[k]? = some p ∧ ls[k]? = some l ∧ st.classes[k]? = some c ∧ H p = some (.ins CC dc (cf c.method l)) ∧ H l = some (.lst xs) ∧ Amts K H xs c.claims ∧ ClsOk c ∧ st.classes.getD k ⟨0, []⟩ = c ∧ Co07.claimsOf st k = c.claims := by
  have k1 : k < ps.length := by rw [D.lp]; exact hk
  have k2 : k < ls.length := by rw [D.ll]; exact hk
  have h1 : ps[k]? = some ps[k] := List.getElem?_eq_getElem k1
  have h2 : ls[k]? = some ls[k] := List.getElem?_eq_getElem k2
  have h3 : st.classes[k]? = some st.classes[k] := List.getElem?_eq_getElem hk
  obtain ⟨dc, xs, a, b, c⟩ := D.cls k _ _ _ h1 h2 h3
  have e : st.classes.getD k ⟨0, []⟩ = st.classes[k] := by
    rw [List.getD_eq_getElem?_getD, h3]
    rfl
  exact ⟨_, _, dc, xs, _, h1, h2, h3, a, b, c, D.ok.cls _ (List.getElem_mem hk), e, by unfold Co07.claimsOf; rw [e]⟩
/-- tuples stay where something else is written -/
theorem tk_other {D : Addr} {o o' : HO} (h : H D = some o) (n1 : ∀ xs, o ≠ .tup xs) (n2 : ∀ a b, o ≠ .frz a b) : TK H (upd H D o') := fun b xs r => by
  have nb : b ≠ D := fun z => by
    rw [z] at r
    rcases r with r | ⟨ob, r⟩
    · rw [h] at r
      exact n1 _ (Option.some.inj r)
    · rw [h] at r
      exact n2 _ _ (Option.some.inj r)
  rcases r with r | ⟨ob, r⟩
  · exact .inl (by rw [upd_ne nb]; exact r)
  · exact .inr ⟨ob, by rw [upd_ne nb]; exact r⟩
/-- a list outside the desk is written -/
theorem DeskIn.out (D : DeskIn T K CD CC H0 H d dx L v ps ls st) {R : Addr} {xs ys : List V} (hR : H0 R = some (.lst xs)) : DeskIn T K CD CC (upd H0 R (.lst ys)) (upd H R (.lst ys)) d dx L v ps ls st := by
  have hH := D.same _ _ hR
  have tk : TK H (upd H R (.lst ys)) := tk_lst hH
  have nR : ∀ {b : Addr}, H0 b = none → b ≠ R := fun {b} h z => by rw [z, hR] at h; cases h
  have nI : ∀ {b C dx fs}, H b = some (.ins C dx fs) → b ≠ R := fun {b C dx fs} h z => by rw [z, hH] at h; cases h
  have up0 : ∀ {b : Addr}, H0 b = none → upd H0 R (.lst ys) b = none := fun {b} h => by rw [upd_ne (nR h)]; exact h
  refine { D with same := fun b o e => ?_, notab := fun b o e => ?_, tab := tabs_write hH (fun _ z => by cases z) (fun _ z => by cases z) D.tab, hd := (by rw [upd_ne (nR D.d0)]; exact D.hd), hL := (by rw [upd_ne (nR D.L0)]; exact D.hL), hv := tk.amt D.hv, cls := fun i p l c h1 h2 h3 => ?_, d0 := up0 D.d0, L0 := up0 D.L0, ls0 := fun l hl => up0 (D.ls0 l hl) }
  · by_cases z : b = R
    · rw [z, upd_same] at e ⊢
      exact e
    · rw [upd_ne z] at e ⊢
      exact D.same b o e
  · by_cases z : b = R
    · rw [z, upd_same] at e
      cases e
    · rw [upd_ne z] at e
      exact D.notab b o e
  · obtain ⟨dc, zs, a, b, e⟩ := D.cls i p l c h1 h2 h3
    exact ⟨dc, zs, by rw [upd_ne (nI a)]; exact a, by rw [upd_ne (nR (D.ls0 l (List.mem_of_getElem? h2)))]; exact b, tk.amts e⟩
/-- the claims of a class are written -/
theorem DeskIn.claims (D : DeskIn T K CD CC H0 H d dx L v ps ls st) {k : Nat} {l : Addr} {xs ys : List V} {c : Co07.Class} {qs : List Rat} (hl : ls[k]? = some l) (hH : H l = some (.lst xs)) (hc : st.classes[k]? = some c) (hA : Amts K H ys qs) (hq : Claims qs) :
    DeskIn T K CD CC H0 (upd H l (.lst ys)) d dx L v ps ls { st with classes := st.classes.set k ⟨c.method, qs⟩ } := by
  have tk : TK H (upd H l (.lst ys)) := tk_lst hH
  have l0 := D.ls0 l (List.mem_of_getElem? hl)
  have nI : ∀ {b C dx fs}, H b = some (.ins C dx fs) → b ≠ l := fun {b C dx fs} h z => by rw [z, hH] at h; cases h
  have kl : k < st.classes.length := (List.getElem?_eq_some_iff.mp hc).1
  refine { D with same := same_write D.same l0, tab := tabs_write hH (fun _ z => by cases z) (fun _ z => by cases z) D.tab, hd := (by rw [upd_ne (nI D.hd)]; exact D.hd), hL := (by rw [upd_ne (fun z => D.nL (by rw [z]; exact List.mem_of_getElem? hl))]; exact D.hL), hv := tk.amt D.hv, lp := (by rw [List.length_set]; exact D.lp), ll := (by rw [List.length_set]; exact D.ll), cls := fun i p m e h1 h2 h3 => ?_, ok := ⟨(by rw [List.length_set]; exact D.ok.len), fun e he => ?_, D.ok.nn, D.ok.sz⟩ }
  · rw [List.getElem?_set] at h3
    by_cases z : k = i
    · subst z
      rw [if_pos rfl, if_pos kl] at h3
      cases h3
      rw [hl] at h2
      cases h2
      obtain ⟨dc, zs, a, b, _⟩ := D.cls k p l c h1 hl hc
      exact ⟨dc, ys, by rw [upd_ne (nI a)]; exact a, upd_same, tk.amts hA⟩
    · rw [if_neg z] at h3
      obtain ⟨dc, zs, a, b, f⟩ := D.cls i p m e h1 h2 h3
      have nm : m ≠ l := fun y => by
        rw [y] at h2
        have := (List.getElem?_inj (List.getElem?_eq_some_iff.mp h2).1 D.nd).mp (h2.trans hl.symm)
        exact z this.symm
      exact ⟨dc, zs, by rw [upd_ne (nI a)]; exact a, by rw [upd_ne nm]; exact b, tk.amts f⟩
  · rcases List.mem_or_eq_of_mem_set he with z | z
    · exact D.ok.cls e z
    · rw [z]
      exact ⟨hq, (D.ok.cls c (List.mem_of_getElem? hc)).2⟩
/-- what is there is written -/
theorem DeskIn.stock (D : DeskIn T K CD CC H0 H d dx L v ps ls st) {u : V} {q : Rat} (hA : Amt K H u q) (h0 : 0 ≤ q) (hz : Sz 20 q) : DeskIn T K CD CC H0 (upd H d (.ins CD dx (df L u))) d dx L u ps ls { st with there := q } := by
  have tk : TK H (upd H d (.ins CD dx (df L u))) := tk_other D.hd (fun _ z => by cases z) (fun _ _ z => by cases z)
  have nl : ∀ {b xs}, H b = some (.lst xs) → b ≠ d := fun {b xs} h z => by rw [z, D.hd] at h; cases h
  refine { D with same := same_write D.same D.d0, tab := tabs_write D.hd (fun _ z => by cases z) (fun _ z => by cases z) D.tab, hd := upd_same, hL := (by rw [upd_ne (nl D.hL)]; exact D.hL), hv := tk.amt hA, cls := fun i p l c h1 h2 h3 => ?_, ok := ⟨D.ok.len, D.ok.cls, h0, hz⟩ }
  obtain ⟨dc, zs, a, b, e⟩ := D.cls i p l c h1 h2 h3
  exact ⟨dc, zs, (by rw [upd_ne (fun z => D.ndp (by rw [← z]; exact List.mem_of_getElem? h1))]; exact a), (by rw [upd_ne (nl b)]; exact b), tk.amts e⟩
/-- a class is put behind the others -/
theorem DeskIn.more (D : DeskIn T K CD CC H0 H d dx L v ps ls st) {p l dc : Addr} {r : Nat} (h4 : st.classes.length < 4) (hr : r ≤ 3) (hp : H p = some (.ins CC dc (cf r l))) (hl : H l = some (.lst [])) (np : p ≠ d) (nl : l ∉ ls) (nL : l ≠ L) (l0 : H0 l = none) :
    DeskIn T K CD CC H0 (upd H L (.lst ((ps ++ [p]).map V.ref))) d dx L v (ps ++ [p]) (ls ++ [l]) { st with classes := st.classes ++ [⟨r, []⟩] } := by
  have tk : TK H (upd H L (.lst ((ps ++ [p]).map V.ref))) := tk_lst D.hL
  have nI : ∀ {b C dx fs}, H b = some (.ins C dx fs) → b ≠ L := fun {b C dx fs} h z => by rw [z, D.hL] at h; cases h
  refine { D with same := same_write D.same D.L0, tab := tabs_write D.hL (fun _ z => by cases z) (fun _ z => by cases z) D.tab, hd := (by rw [upd_ne (nI D.hd)]; exact D.hd), hL := upd_same, hv := tk.amt D.hv, lp := (by rw [List.length_append, List.length_append, D.lp]; rfl), ll := (by rw [List.length_append, List.length_append, D.ll]; rfl), cls := fun i q m e h1 h2 h3 => ?_, nd := ?_, nL := ?_, ndp := ?_, ls0 := ?_, ok := ⟨?_, ?_, D.ok.nn, D.ok.sz⟩ }
  · rcases Nat.lt_or_ge i st.classes.length with z | z
    · rw [List.getElem?_append_left (by rw [D.lp]; exact z)] at h1
      rw [List.getElem?_append_left (by rw [D.ll]; exact z)] at h2
      rw [List.getElem?_append_left z] at h3
      obtain ⟨dc, zs, a, b, f⟩ := D.cls i q m e h1 h2 h3
      exact ⟨dc, zs, by rw [upd_ne (nI a)]; exact a, by rw [upd_ne (fun y => D.nL (by rw [← y]; exact List.mem_of_getElem? h2))]; exact b, tk.amts f⟩
    · have hi : i < st.classes.length + 1 := by
        have := (List.getElem?_eq_some_iff.mp h3).1
        rw [List.length_append] at this
        exact this
      have e0 : i = st.classes.length := by omega
      rw [List.getElem?_append_right (by rw [D.lp]; exact z), D.lp, e0, Nat.sub_self] at h1
      rw [List.getElem?_append_right (by rw [D.ll]; exact z), D.ll, e0, Nat.sub_self] at h2
      rw [List.getElem?_append_right z, e0, Nat.sub_self] at h3
      cases h1
      cases h2
      cases h3
      exact ⟨dc, [], by rw [upd_ne (nI hp)]; exact hp, by rw [upd_ne nL]; exact hl, Amts.nil⟩
  · exact List.nodup_append.mpr ⟨D.nd, by simp, fun a ha b hb => by
      rw [List.mem_singleton.mp hb]
      exact fun z => nl (z ▸ ha)⟩
  · intro h
    rcases List.mem_append.mp h with h | h
    · exact D.nL h
    · exact nL (List.mem_singleton.mp h).symm
  · intro h
    rcases List.mem_append.mp h with h | h
    · exact D.ndp h
    · exact np (List.mem_singleton.mp h).symm
  · intro m hm
    rcases List.mem_append.mp hm with h | h
    · exact D.ls0 m h
    · rw [List.mem_singleton.mp h]
      exact l0
  · show (st.classes ++ [_]).length ≤ 4
    rw [List.length_append]
    exact h4
  · intro e he
    have he' : e ∈ st.classes ++ [⟨r, []⟩] := he
    rcases List.mem_append.mp he' with h | h
    · exact D.ok.cls e h
    · rw [List.mem_singleton.mp h]
      exact ⟨⟨Nat.zero_le 8, fun x hx => (by simp at hx), fun x hx => (by simp at hx)⟩, hr⟩
end
/-! ### promises -/
/-- what is wanted of a call's answer -/
def Ans (T : List (Addr × Str)) (K : PySem.W.Frag) (CD CC : Addr) (H0 : Hp) (d : Addr) (r : Co07.St × List Int) (Q : VK) : Prop := ∀ (H' : Hp) (b : Addr), DeskAt T K CD CC H0 H' d r.1 → H0 b = none → H' b = some (.lst (r.2.map V.int)) → Q (.ref b) H'
def spNew (T : List (Addr × Str)) (K : PySem.W.Frag) (CD CC : Addr) : Sp := fun vs H Q _ => ∃ (H0 : Hp) (d : Addr) (st : Co07.St) (m : Nat), vs = [.ref d, .int (m : Int)] ∧ DeskAt T K CD CC H0 H d st ∧ Ans T K CD CC H0 d (Co07.step st (.class_ m)) Q
def spClaim (T : List (Addr × Str)) (K : PySem.W.Frag) (CD CC : Addr) : Sp := fun vs H Q _ => ∃ (H0 : Hp) (d : Addr) (st : Co07.St) (k a b : Nat), vs = [.ref d, .int (k : Int), .int (a : Int), .int (b : Int)] ∧ a ≤ 1000000 ∧ b ≤ 1000000 ∧ DeskAt T K CD CC H0 H d st ∧ Ans T K CD CC H0 d (Co07.step st (.claim k a b)) Q
def spThere (T : List (Addr × Str)) (K : PySem.W.Frag) (CD CC : Addr) : Sp := fun vs H Q _ => ∃ (H0 : Hp) (d : Addr) (st : Co07.St) (a b : Nat), vs = [.ref d, .int (a : Int), .int (b : Int)] ∧ a ≤ 1000000 ∧ b ≤ 1000000 ∧ DeskAt T K CD CC H0 H d st ∧ Ans T K CD CC H0 d (Co07.step st (.there a b)) Q
def spDrop (T : List (Addr × Str)) (K : PySem.W.Frag) (CD CC : Addr) : Sp := fun vs H Q _ => ∃ (H0 : Hp) (d : Addr) (st : Co07.St) (k i : Nat), vs = [.ref d, .int (k : Int), .int (i : Int)] ∧ DeskAt T K CD CC H0 H d st ∧ Ans T K CD CC H0 d (Co07.step st (.drop k i)) Q
def spDInit (T : List (Addr × Str)) (K : PySem.W.Frag) (CD CC : Addr) : Sp := fun vs H Q _ => ∃ (H0 : Hp) (d dx : Addr), vs = [.ref d] ∧ Same H0 H ∧ (∀ b o, H0 b ≠ some (.tbl o)) ∧ LamX.Tabs T H ∧ H0 d = none ∧ H d = some (.ins CD dx []) ∧ ∀ H' : Hp, DeskAt T K CD CC H0 H' d Co07.init → Q .non H'
def spCInit (CC : Addr) : Sp := fun vs H Q _ => ∃ (p dx : Addr) (r : Nat), vs = [.ref p, .int (r : Int)] ∧ H p = some (.ins CC dx []) ∧ ∀ l : Addr, H l = none → Q .non (upd (upd (upd H p (.ins CC dx (putF "rule" (.int (r : Int)) []))) l (.lst [])) p (.ins CC dx (cf r l)))
structure Txt (K : PySem.W.Frag) (mg : Str → Option Value) (CD CC : Addr) : Prop where
  cD : Cls K CD
  cC : Cls K CC
  nCl : NoAttr K CD "classes"
  nSt : NoAttr K CD "stock"
  nRu : NoAttr K CC "rule"
  nCm : NoAttr K CC "claims"
  mgC : mg "ClaimClass" = some (.ref CC)
  mgD : mg "Desk" = some (.ref CD)
  len : mg "len" = none
  lr : ∃ t, mg "LAST_RULE" = some (.int 3 t)
  mcs : ∃ t, mg "MOST_CLASSES" = some (.int 4 t)
  mcm : ∃ t, mg "MOST_CLAIMS" = some (.int 8 t)
  wn : ∃ t, mg "WRONG_NUMBER" = some (.int (-1) t)
  ns : ∃ t, mg "NONE_SUCH" = some (.int (-2) t)
  nw : ∃ t, mg "NOT_WHOLE" = some (.int (-6) t)
  fl : ∃ t, mg "FULL" = some (.int (-8) t)
theorem pe_num {X : Cx} {x : Str} {i : Int} {pos : Pos} (hg : Gl X x) (hm : ∃ t, X.mg x = some (.int i t)) (hd : (x == ("__debug__" : Str)) = false := by decide) : PE X (.Name x pos) (tC (.int i)) := by
  obtain ⟨t, ht⟩ := hm
  exact pe_glob (v := .int i) hg ht ⟨t, rfl⟩ hd
section
variable {P : Program} {w : World} {K : PySem.W.Frag} {mg : Str → Option Value} {base : Heap} {T : List (Addr × Str)} {CD CC : Addr}
/-- a list of one number is answered, all is as it was -/
theorem ans1 {H0 H : Hp} {d b : Addr} {st : Co07.St} {r : Co07.St × List Int} {Q : VK} {n : Int} (D : DeskAt T K CD CC H0 H d st) (hA : Ans T K CD CC H0 d r Q) (h1 : r.1 = st) (h2 : r.2 = [n]) (hb : H b = none) : Q (.ref b) (upd H b (.lst [.int n])) := by
  have D' := D.up (Up.same (T := T) (same_new (o := .lst [.int n]) hb))
  refine hA _ b (by rw [h1]; exact D') ?_ (by rw [h2]; exact upd_same)
  obtain ⟨_, _, _, _, _, D⟩ := D
  exact D.same.free hb
theorem ok_cinit {f : Addr} {fd : FuncData} (F : Fun K "__init__" "ClaimClass.__init__" sCInit f fd) (X : Txt K mg CD CC) : FnOk P w K mg base CX0 1 f fd ["self", "rule"] (spCInit CC) := by
  have sc : FnScope ["self", "rule"] ["self", "rule"] (defScope sCInit) := ⟨rfl, rfl, rfl, by decide +kernel, rfl, by decide +kernel, by decide +kernel⟩
  refine F.ok sc (fun vs H Q E h => ?_) (fun cdv A outer s H vs Q E hr h => ?_)
  · obtain ⟨p, dx, r, rfl, _⟩ := h
    rfl
  · obtain ⟨p, dx, r, rfl, hp, k⟩ := h
    refine ⟨_, pss_cons (ps_fld (pv 0) (pv 1) rfl) (pss_one (ps_fld (pv 0) (pe_lst pa_nil) rfl)), ?_⟩
    refine ⟨_, rfl, _, rfl, p, CC, dx, [], rfl, hp, X.cC, X.nRu, (by show 0 < 1000; decide), Nat.zero_le _, fun l hl => ?_⟩
    have npl : p ≠ l := fun q => by
      rw [q, upd_same] at hl
      cases hl
    refine ⟨_, rfl, p, CC, dx, _, rfl, Eq.trans (upd_ne npl) upd_same, X.cC, X.nCm, (by show 1 < 1000; decide), ?_⟩
    refine k l ?_
    rw [upd_ne npl.symm] at hl
    exact hl
theorem ok_dinit {f : Addr} {fd : FuncData} (F : Fun K "__init__" "Desk.__init__" sDInit f fd) (X : Txt K mg CD CC) (Z : Zero K mg) : FnOk P w K mg base CX0 1 f fd ["self"] (spDInit T K CD CC) := by
  have sc : FnScope ["self"] ["self"] (defScope sDInit) := ⟨rfl, rfl, rfl, by decide +kernel, rfl, by decide +kernel, by decide +kernel⟩
  refine F.ok sc (fun vs H Q E h => ?_) (fun cdv A outer s H vs Q E hr h => ?_)
  · obtain ⟨H0, d, dx, rfl, _⟩ := h
    rfl
  · obtain ⟨H0, d, dx, rfl, s0, nt, hT, d0, hd, k⟩ := h
    obtain ⟨z, mz, hz⟩ := Z.ex
    refine ⟨_, pss_cons (ps_fld (pv 0) (pe_lst pa_nil) rfl) (pss_one (ps_fld (pv 0) (pe_glob (v := .ref z) rfl mz rfl) rfl)), ?_⟩
    refine ⟨Nat.zero_le _, fun L hL => ?_⟩
    have ndL : d ≠ L := ne_of_none hd hL
    refine ⟨_, rfl, d, CD, dx, [], rfl, (by rw [upd_ne ndL]; exact hd), X.cD, X.nCl, (by show 0 < 1000; decide), _, rfl, d, CD, dx, _, rfl, upd_same, X.cD, X.nSt, (by show 1 < 1000; decide), ?_⟩
    refine k _ ⟨dx, L, .ref z, [], [], ?_⟩
    have sL := same_new (o := .lst []) hL
    have s1 : Same H0 (upd H L (.lst [])) := s0.trans sL
    have t1 := hT.ext sL
    have hd1 : upd H L (.lst []) d = some (.ins CD dx []) := sL _ _ hd
    have t2 := tabs_write (o' := .ins CD dx (putF "classes" (.ref L) [])) hd1 (fun _ z => by cases z) (fun _ z => by cases z) t1
    have t3 := tabs_write (o' := .ins CD dx (df L (.ref z))) (upd_same (H := upd H L (.lst [])) (a := d) (o := .ins CD dx (putF "classes" (.ref L) []))) (fun _ z => by cases z) (fun _ z => by cases z) t2
    exact { same := same_write (same_write s1 d0) d0, notab := nt, tab := t3, hd := upd_same, hL := (by rw [upd_ne ndL.symm, upd_ne ndL.symm, upd_same]; rfl), hv := zero_amt (hz _), lp := rfl, ll := rfl, cls := (fun i p l c h1 => by simp at h1), nd := List.nodup_nil, nL := (by simp), ndp := (by simp), d0 := d0, L0 := s0.free hL, ls0 := (fun l hl => by simp at hl), ok := ⟨(by decide), (fun c hc => by simp [Co07.init] at hc), Rat.le_refl, sz_zero.mono (by decide)⟩ }
theorem ok_new {f fI : Addr} {fd fdI : FuncData} (F : Fun K "new_class" "Desk.new_class" sNew f fd) (X : Txt K mg CD CC) (M : Mk K CC fI) (GI : FnOk P w K mg base CX0 1 fI fdI ["self", "rule"] (spCInit CC)) (bI : Binds K fdI ["self", "rule"] []) :
    FnOk P w K mg base CX0 9 f fd ["self", "rule"] (spNew T K CD CC) := by
  have sc : FnScope ["self", "rule"] ["self", "rule"] (defScope sNew) := ⟨rfl, rfl, rfl, by decide +kernel, rfl, by decide +kernel, by decide +kernel⟩
  refine F.ok sc (fun vs H Q E h => ?_) (fun cdv A outer s H vs Q E hr h => ?_)
  · obtain ⟨H0, d, st, m, rfl, _⟩ := h
    rfl
  · obtain ⟨H0, d, st, m, rfl, DA, hA⟩ := h
    obtain ⟨dx, L, v, ps, ls, D⟩ := id DA
    have hr2 : Room 2 _ := hr.mono (by decide)
    refine ⟨_, pss_cons (ps_if (pt_cmpR op_gt (pv 1) (pe_num (by rfl) X.lr) (nomark _)) (pss_one (ps_ret (pe_lst (pa_cons (pe_num (by rfl) X.wn) pa_nil)))) pss_nil)
      (pss_cons (ps_if (pt_cmpR op_ge (pe_callB call_len_seq (by rfl) X.len PySem.boot_len (pa_cons (pe_fld (pv 0) rfl) pa_nil)) (pe_num (by rfl) X.mcs) (nomark _)) (pss_one (ps_ret (pe_lst (pa_cons (pe_num (by rfl) X.fl) pa_nil)))) pss_nil)
      (pss_cons (ps_expr (pe_bm PySem.F.plainAttrs_list PySem.F.slot_list_append PySem.F.type_list_append mt_append (pe_fld (pv 0) rfl) (pa_cons (pe_make M GI hr2 rfl X.mgC bI .nil pass0 (pa_cons (pv 1) pa_nil)) pa_nil)))
      (pss_one (ps_ret (pe_lst (pa_cons (pe_op op_sub (pe_callB call_len_seq (by rfl) X.len PySem.boot_len (pa_cons (pe_fld (pv 0) rfl) pa_nil)) pe_int) pa_nil)))))), ?_⟩
    have hlp : (ps.map V.ref).length = st.classes.length := by rw [List.length_map]; exact D.lp
    refine ⟨_, rfl, _, _, rfl, rfl, _, rfl, ?_⟩
    refine ite2 (fun q => ?_) (fun q => ?_)
    · have q' := of_decide_eq_true q
      have e : Co07.step st (.class_ m) = (st, [-1]) := by
        show (if 3 < m then _ else _) = _
        rw [if_pos (by omega)]
      refine ⟨(by show 1 ≤ sizeLine; decide), fun b hb => ?_⟩
      exact ans1 DA hA (by rw [e]) (by rw [e]) hb
    have q3 : ¬ 3 < m := fun z => q (decide_eq_true (by omega))
    refine ⟨_, rfl, d, CD, dx, _, _, rfl, D.hd, X.cD, X.nCl, df_classes _ _, L, _, rfl, .inl (SqL.of D.hL), _, _, rfl, rfl, _, rfl, ?_⟩
    rw [hlp]
    refine ite2 (fun q => ?_) (fun q => ?_)
    · have q' := of_decide_eq_true q
      have e : Co07.step st (.class_ m) = (st, [-8]) := by
        show (if 3 < m then _ else if 4 ≤ st.classes.length then _ else _) = _
        rw [if_neg q3, if_pos (by omega)]
      refine ⟨(by show 1 ≤ sizeLine; decide), fun b hb => ?_⟩
      exact ans1 DA hA (by rw [e]) (by rw [e]) hb
    have q4 : ¬ 4 ≤ st.classes.length := fun z => q (decide_eq_true (by omega))
    have e : Co07.step st (.class_ m) = ({ st with classes := st.classes ++ [⟨m, []⟩] }, [(st.classes.length : Int)]) := by
      show (if 3 < m then _ else if 4 ≤ st.classes.length then _ else _) = _
      rw [if_neg q3, if_neg q4]
    -- self.classes.append(ClaimClass(rule))
    refine ⟨_, rfl, d, CD, dx, _, _, rfl, D.hd, X.cD, X.nCl, df_classes _ _, .inl ⟨rfl, _, SqL.of D.hL⟩, _, rfl, ?_⟩
    intro x dc nx ndc nex
    refine ⟨x, dc, m, rfl, upd_same, fun l hl => ⟨rfl, ?_⟩⟩
    have nlx : l ≠ x := fun z => by rw [z, upd_same] at hl; cases hl
    rw [upd_ne nlx] at hl
    have nldc : l ≠ dc := fun z => by rw [z, upd_same] at hl; cases hl
    rw [upd_ne nldc] at hl
    -- the heap with the new class
    have u1 : Up T H (upd (upd H dc (.own x)) x (.ins CC dc [])) := Up.same fun b o e => by
      rw [upd_ne (ne_of_none e nx), upd_ne (ne_of_none e ndc)]
      exact e
    have D1 := D.up u1
    generalize hH1 : upd (upd H dc (.own x)) x (.ins CC dc []) = H1 at D1 u1
    have hx1 : H1 x = some (.ins CC dc []) := by rw [← hH1]; exact upd_same
    have hl1 : H1 l = none := by rw [← hH1, upd_ne nlx, upd_ne nldc]; exact hl
    have ndx : d ≠ x := ne_of_none D.hd nx
    have nLx : L ≠ x := ne_of_none D.hL nx
    -- its fields
    have u2 : Up T H (upd (upd (upd H1 x (.ins CC dc (putF "rule" (.int (m : Int)) []))) l (.lst [])) x (.ins CC dc (cf m l))) := by
      refine ⟨fun b o e n => ?_, fun t => ?_⟩
      · have hb := u1.ext b o e n
        rw [upd_ne (ne_of_none e nx), upd_ne (ne_of_none e hl), upd_ne (ne_of_none e nx)]
        exact hb
      · have t1 := u1.tab t
        have t2 := tabs_write (o' := .ins CC dc (putF "rule" (.int (m : Int)) [])) hx1 (fun _ z => by cases z) (fun _ z => by cases z) t1
        have nl2 : upd H1 x (.ins CC dc (putF "rule" (.int (m : Int)) [])) l = none := by rw [upd_ne nlx]; exact hl1
        have t3 := t2.ext (same_new (o := .lst []) nl2)
        refine tabs_write (o := .ins CC dc (putF "rule" (.int (m : Int)) [])) ?_ (fun _ z => by cases z) (fun _ z => by cases z) t3
        rw [upd_ne nlx.symm, upd_same]
    have D2 := D.up u2
    generalize hH2 : upd (upd (upd H1 x (.ins CC dc (putF "rule" (.int (m : Int)) []))) l (.lst [])) x (.ins CC dc (cf m l)) = H2 at D2 u2
    have hx2 : H2 x = some (.ins CC dc (cf m l)) := by rw [← hH2]; exact upd_same
    have hl2 : H2 l = some (.lst []) := by rw [← hH2, upd_ne nlx, upd_same]
    have nlls : l ∉ ls := fun z => by
      obtain ⟨i, hi⟩ := List.mem_iff_getElem?.mp z
      have il : i < st.classes.length := by
        have := (List.getElem?_eq_some_iff.mp hi).1
        rw [D.ll] at this
        exact this
      obtain ⟨p, l', _, xs, c, _, h2, _, _, h5, _⟩ := D.cls_at il
      rw [hi] at h2
      cases h2
      rw [hl] at h5
      cases h5
    have nlL : l ≠ L := (ne_of_none D.hL hl).symm
    have D3 := D2.more (p := x) (l := l) (dc := dc) (r := m) (by omega) (by omega) hx2 hl2 ndx.symm nlls nlL (D.same.free hl)
    refine ⟨L, _, _, rfl, rfl, D2.hL, Nat.lt_of_le_of_lt (show (ps.map V.ref).length ≤ 4 by omega) (by decide), ?_⟩
    have eL : ps.map V.ref ++ [V.ref x] = (ps ++ [x]).map V.ref := by rw [List.map_append]; rfl
    rw [eL]
    refine ⟨_, rfl, d, CD, dx, _, _, rfl, D3.hd, X.cD, X.nCl, df_classes _ _, L, _, rfl, .inl (SqL.of D3.hL), _, _, rfl, rfl, (by show 1 ≤ sizeLine; decide), fun b hb => ?_⟩
    have en : (((ps ++ [x]).map V.ref).length : Int) - 1 = (st.classes.length : Int) := by
      rw [List.length_map, List.length_append, D.lp]
      show ((st.classes.length + 1 : Nat) : Int) - 1 = _
      omega
    have z := ans1 (n := (st.classes.length : Int)) ⟨_, _, _, _, _, D3⟩ hA (by rw [e]) (by rw [e]) hb
    rw [← en] at z
    exact z
theorem sz_ratio {a b : Nat} (ha : a ≤ 1000000) (hb : b ≤ 1000000) (h0 : 0 < b) : Sz 20 (frac (a : Int) (b : Int)) := sz_frac (by rw [Int.natAbs_natCast]; exact Nat.lt_of_le_of_lt ha (by decide)) (by omega) (by rw [Int.natAbs_natCast]; exact Nat.lt_of_le_of_lt hb (by decide))
theorem frac_ratio {a b : Nat} (h0 : 0 < b) : frac (a : Int) (b : Int) = Co07.ratio a b := by
  rw [frac_of _ _ (by omega)]
  rfl
theorem ratio_nn (a b : Nat) (h0 : 0 < b) : 0 ≤ Co07.ratio a b := div_nonneg Rat.natCast_nonneg (Rat.natCast_pos.mpr h0)
theorem ratio_pos {a b : Nat} (h1 : 0 < a) (h0 : 0 < b) : 0 < Co07.ratio a b := by
  have h := Rat.natCast_pos.mpr h1
  have h' := Rat.natCast_pos.mpr h0
  unfold Co07.ratio
  rw [Rat.div_def]
  exact Rat.mul_pos h (Rat.inv_pos.mpr h')
theorem ok_there {f : Addr} {fd : FuncData} (F : Fun K "there" "Desk.there" sThere f fd) (X : Txt K mg CD CC) (G : Has P w K mg base "lowest" 2 ["above", "below"] spLow) : FnOk P w K mg base CX0 9 f fd ["self", "a", "b"] (spThere T K CD CC) := by
  have sc : FnScope ["self", "a", "b"] ["self", "a", "b"] (defScope sThere) := ⟨rfl, rfl, rfl, by decide +kernel, rfl, by decide +kernel, by decide +kernel⟩
  refine F.ok sc (fun vs H Q E h => ?_) (fun cdv A outer s H vs Q E hr h => ?_)
  · obtain ⟨H0, d, st, a, b, rfl, _⟩ := h
    rfl
  · obtain ⟨H0, d, st, a, b, rfl, ha, hb, DA, hA⟩ := h
    obtain ⟨dx, L, v, ps, ls, D⟩ := id DA
    have hr2 : Room 2 _ := hr.mono (by decide)
    refine ⟨_, pss_cons (ps_if (pt_cmpR op_eq (pv 2) pe_int (nomark _)) (pss_one (ps_ret (pe_lst (pa_cons (pe_num (by rfl) X.wn) pa_nil)))) pss_nil)
      (pss_cons (ps_fld (pv 0) (pe_has G hr2 rfl (pa_cons (pv 1) (pa_cons (pv 2) pa_nil))) rfl) (pss_one (ps_ret (pe_lst (pa_cons pe_int pa_nil))))), ?_⟩
    refine ⟨_, rfl, rfl, _, rfl, ?_⟩
    refine ite2 (fun q => ?_) (fun q => ?_)
    · have q' := V.int.inj (of_decide_eq_true q)
      have e : Co07.step st (.there a b) = (st, [-1]) := by
        show (if b = 0 then _ else _) = _
        rw [if_pos (by omega)]
      refine ⟨(by show 1 ≤ sizeLine; decide), fun c hc => ?_⟩
      exact ans1 DA hA (by rw [e]) (by rw [e]) hc
    have b0 : ¬ b = 0 := fun z => q (decide_eq_true (by rw [z]; rfl))
    have e : Co07.step st (.there a b) = ({ st with there := Co07.ratio a b }, [0]) := by
      show (if b = 0 then _ else _) = _
      rw [if_neg b0]
    refine ⟨_, rfl, _, rfl, (a : Int), (b : Int), rfl, by omega, by omega, ?_, fun t ht => ?_⟩
    · rw [Int.natAbs_natCast]
      exact Nat.lt_of_le_of_lt hb (Nat.lt_of_lt_of_le (show 1000000 < 2 ^ 20 by decide) (pow_mono (by decide)))
    · have D1 := D.up (Up.same (T := T) (same_new (o := .tup [.int (frac (a : Int) (b : Int)).num, .int ((frac (a : Int) (b : Int)).den : Int)]) ht))
      refine ⟨_, rfl, d, CD, dx, _, rfl, D1.hd, X.cD, X.nSt, (by rw [df_eq]; show 2 < 1000; decide), ?_⟩
      rw [df_put]
      have D2 := D1.stock (u := .ref t) (q := frac (a : Int) (b : Int)) amt_new (by rw [frac_ratio (by omega)]; exact ratio_nn a b (by omega)) (sz_ratio ha hb (by omega))
      refine ⟨(by show 1 ≤ sizeLine; decide), fun c hc => ?_⟩
      exact ans1 ⟨_, _, _, _, _, D2⟩ hA (by rw [e, frac_ratio (by omega)]) (by rw [e]) hc
theorem ok_claim {f : Addr} {fd : FuncData} (F : Fun K "claim" "Desk.claim" sClaim f fd) (X : Txt K mg CD CC) (G : Has P w K mg base "lowest" 2 ["above", "below"] spLow) : FnOk P w K mg base CX0 9 f fd ["self", "k", "a", "b"] (spClaim T K CD CC) := by
  have sc : FnScope ["self", "k", "a", "b", "claims"] ["self", "k", "a", "b"] (defScope sClaim) := ⟨rfl, rfl, rfl, by decide +kernel, rfl, by decide +kernel, by decide +kernel⟩
  refine F.ok sc (fun vs H Q E h => ?_) (fun cdv A outer s H vs Q E hr h => ?_)
  · obtain ⟨H0, d, st, k, a, b, rfl, _⟩ := h
    rfl
  · obtain ⟨H0, d, st, k, a, b, rfl, ha, hb, DA, hA⟩ := h
    obtain ⟨dx, L, v, ps, ls, D⟩ := id DA
    have hr2 : Room 2 _ := hr.mono (by decide)
    refine ⟨_, pss_cons (ps_if (pt_cmpR op_ge (pv 1) (pe_callB call_len_seq (by rfl) X.len PySem.boot_len (pa_cons (pe_fld (pv 0) rfl) pa_nil)) (nomark _)) (pss_one (ps_ret (pe_lst (pa_cons (pe_num (by rfl) X.ns) pa_nil)))) pss_nil)
      (pss_cons (ps_if (pw_or (pt_cmpR op_eq (pv 2) pe_int (nomark _)) (pw_or1 (pt_cmpR op_eq (pv 3) pe_int (nomark _)))).pt (pss_one (ps_ret (pe_lst (pa_cons (pe_num (by rfl) X.wn) pa_nil)))) pss_nil)
      (pss_cons (ps_set (i := 4) sc.nd rfl (Or.inl rfl) (pe_fld (pe_ix ix_list (pe_fld (pv 0) rfl) (pv 1) (fun _ _ => rfl)) rfl))
      (pss_cons (ps_if (pt_cmpR op_ge (pe_callB call_len_seq (by rfl) X.len PySem.boot_len (pa_cons (pv 4) pa_nil)) (pe_num (by rfl) X.mcm) (nomark _)) (pss_one (ps_ret (pe_lst (pa_cons (pe_num (by rfl) X.fl) pa_nil)))) pss_nil)
      (pss_cons (ps_expr (pe_bm PySem.F.plainAttrs_list PySem.F.slot_list_append PySem.F.type_list_append mt_append (pv 4) (pa_cons (pe_has G hr2 rfl (pa_cons (pv 2) (pa_cons (pv 3) pa_nil))) pa_nil)))
      (pss_one (ps_ret (pe_lst (pa_cons (pe_op op_sub (pe_callB call_len_seq (by rfl) X.len PySem.boot_len (pa_cons (pv 4) pa_nil)) pe_int) pa_nil)))))))), ?_⟩
    have hlp : (ps.map V.ref).length = st.classes.length := by rw [List.length_map]; exact D.lp
    refine ⟨_, rfl, _, rfl, d, CD, dx, _, _, rfl, D.hd, X.cD, X.nCl, df_classes _ _, L, ps.map V.ref, rfl, .inl (SqL.of D.hL), _, _, rfl, rfl, _, rfl, ?_⟩
    rw [hlp]
    refine ite2 (fun q => ?_) (fun q => ?_)
    · have q' := of_decide_eq_true q
      have e : Co07.step st (.claim k a b) = (st, [-2]) := by
        show (if st.classes.length ≤ k then _ else _) = _
        rw [if_pos (by omega)]
      refine ⟨(by show 1 ≤ sizeLine; decide), fun c hc => ?_⟩
      exact ans1 DA hA (by rw [e]) (by rw [e]) hc
    have kl : k < st.classes.length := by
      have : ¬ ((st.classes.length : Int) ≤ (k : Int)) := fun z => q (decide_eq_true z)
      omega
    have e1 : ∀ {r}, (if b = 0 ∨ a = 0 then (st, [-1]) else if 8 ≤ (Co07.claimsOf st k).length then (st, [-8]) else ({ st with classes := st.classes.set k ⟨(st.classes.getD k ⟨0, []⟩).method, Co07.claimsOf st k ++ [Co07.ratio a b]⟩ }, [((Co07.claimsOf st k).length : Int)])) = r → Co07.step st (.claim k a b) = r := fun {r} h => by
      show (if st.classes.length ≤ k then _ else _) = _
      rw [if_neg (by omega)]
      exact h
    have bad : b = 0 ∨ a = 0 → Co07.step st (.claim k a b) = (st, [-1]) := fun z => e1 (by rw [if_pos z])
    refine ⟨_, rfl, rfl, _, rfl, ?_⟩
    refine ite2 (fun q => ?_) (fun q => ?_)
    · have q' := V.int.inj (of_decide_eq_true q)
      have e := bad (.inr (by omega))
      refine ⟨(by show 1 ≤ sizeLine; decide), fun c hc => ?_⟩
      exact ans1 DA hA (by rw [e]) (by rw [e]) hc
    have a0 : ¬ a = 0 := fun z => q (decide_eq_true (by rw [z]; rfl))
    refine ⟨_, rfl, rfl, _, rfl, ?_⟩
    refine ite2 (fun q => ?_) (fun q => ?_)
    · have q' := V.int.inj (of_decide_eq_true q)
      have e := bad (.inl (by omega))
      refine ⟨(by show 1 ≤ sizeLine; decide), fun c hc => ?_⟩
      exact ans1 DA hA (by rw [e]) (by rw [e]) hc
    have b0 : ¬ b = 0 := fun z => q (decide_eq_true (by rw [z]; rfl))
    obtain ⟨p, l, dc, xs, c, hp, hl, hc, hP, hX, hAm, hok, hgd, hco⟩ := D.cls_at kl
    have hps : (ps.map V.ref)[k]? = some (.ref p) := by rw [List.getElem?_map, hp]; rfl
    refine ⟨_, rfl, d, CD, dx, _, _, rfl, D.hd, X.cD, X.nCl, df_classes _ _, _, rfl, L, ps.map V.ref, (k : Int), .ref p, rfl, rfl, SqL.of D.hL, atI_nat hps, p, CC, dc, _, _, rfl, hP, X.cC, X.nCm, cf_claims _ _, ?_⟩
    have hxl := hAm.len
    refine ⟨_, rfl, l, xs, rfl, .inl (SqL.of hX), _, _, rfl, rfl, _, rfl, ?_⟩
    rw [hxl]
    refine ite2 (fun q => ?_) (fun q => ?_)
    · have q' := of_decide_eq_true q
      have e : Co07.step st (.claim k a b) = (st, [-8]) := e1 (by rw [if_neg (by omega), hco, if_pos (by omega)])
      refine ⟨(by show 1 ≤ sizeLine; decide), fun c hc => ?_⟩
      exact ans1 DA hA (by rw [e]) (by rw [e]) hc
    have q8 : ¬ 8 ≤ c.claims.length := fun z => q (decide_eq_true (by omega))
    have e : Co07.step st (.claim k a b) = ({ st with classes := st.classes.set k ⟨c.method, c.claims ++ [Co07.ratio a b]⟩ }, [(c.claims.length : Int)]) := e1 (by rw [if_neg (by omega), hco, if_neg q8, hgd])
    refine ⟨_, rfl, .inl ⟨rfl, _, SqL.of hX⟩, _, rfl, _, rfl, (a : Int), (b : Int), rfl, by omega, by omega, ?_, fun t ht => ?_⟩
    · rw [Int.natAbs_natCast]
      exact Nat.lt_of_le_of_lt hb (Nat.lt_of_lt_of_le (show 1000000 < 2 ^ 20 by decide) (pow_mono (by decide)))
    · have sn := same_new (o := .tup [.int (frac (a : Int) (b : Int)).num, .int ((frac (a : Int) (b : Int)).den : Int)]) ht
      have D1 := D.up (Up.same (T := T) sn)
      refine ⟨l, xs, .ref t, rfl, rfl, sn _ _ hX, Nat.lt_of_le_of_lt (show xs.length ≤ 8 by omega) (by decide), ?_⟩
      have fr := frac_ratio (a := a) (b := b) (by omega)
      have qok : Claims (c.claims ++ [frac (a : Int) (b : Int)]) := by
        refine ⟨?_, fun x hx => ?_, fun x hx => ?_⟩
        · rw [List.length_append]
          show c.claims.length + 1 ≤ 8
          omega
        · rcases List.mem_append.mp hx with z | z
          · exact hok.1.pos x z
          · rw [List.mem_singleton.mp z, fr]
            exact ratio_pos (by omega) (by omega)
        · rcases List.mem_append.mp hx with z | z
          · exact hok.1.sz x z
          · rw [List.mem_singleton.mp z]
            exact sz_ratio ha hb (by omega)
      have D2 := D1.claims (ys := xs ++ [.ref t]) (qs := c.claims ++ [frac (a : Int) (b : Int)]) hl (sn _ _ hX) hc ((hAm.ext (LamX.ExtN.of sn)).snoc amt_new) qok
      refine ⟨_, rfl, l, xs ++ [.ref t], rfl, .inl (up_lst upd_same), _, _, rfl, rfl, (by show 1 ≤ sizeLine; decide), fun g hg => ?_⟩
      have en : (((xs ++ [V.ref t]).length : Nat) : Int) - 1 = (c.claims.length : Int) := by
        rw [List.length_append, hxl]
        show ((c.claims.length + 1 : Nat) : Int) - 1 = _
        omega
      have z := ans1 (n := (c.claims.length : Int)) ⟨_, _, _, _, _, D2⟩ hA (by rw [e, fr]) (by rw [e]) hg
      rw [← en] at z
      exact z
theorem Amts.erase {H : Hp} {vs : List V} {qs : List Rat} (a : Amts K H vs qs) (i : Nat) : Amts K H (vs.eraseIdx i) (qs.eraseIdx i) := by
  refine ⟨by rw [List.length_eraseIdx, List.length_eraseIdx, a.len], fun j v q h1 h2 => ?_⟩
  rw [List.getElem?_eraseIdx] at h1 h2
  split at h1
  · rename_i z
    rw [if_pos z] at h2
    exact a.at_ j v q h1 h2
  · rename_i z
    rw [if_neg z] at h2
    exact a.at_ (j + 1) v q h1 h2
theorem ok_drop {f : Addr} {fd : FuncData} (F : Fun K "drop" "Desk.drop" sDrop f fd) (X : Txt K mg CD CC) : FnOk P w K mg base CX0 9 f fd ["self", "k", "i"] (spDrop T K CD CC) := by
  have sc : FnScope ["self", "k", "i", "claims"] ["self", "k", "i"] (defScope sDrop) := ⟨rfl, rfl, rfl, by decide +kernel, rfl, by decide +kernel, by decide +kernel⟩
  refine F.ok sc (fun vs H Q E h => ?_) (fun cdv A outer s H vs Q E hr h => ?_)
  · obtain ⟨H0, d, st, k, i, rfl, _⟩ := h
    rfl
  · obtain ⟨H0, d, st, k, i, rfl, DA, hA⟩ := h
    obtain ⟨dx, L, v, ps, ls, D⟩ := id DA
    refine ⟨_, pss_cons (ps_if (pt_cmpR op_ge (pv 1) (pe_callB call_len_seq (by rfl) X.len PySem.boot_len (pa_cons (pe_fld (pv 0) rfl) pa_nil)) (nomark _)) (pss_one (ps_ret (pe_lst (pa_cons (pe_num (by rfl) X.ns) pa_nil)))) pss_nil)
      (pss_cons (ps_set (i := 3) sc.nd rfl (Or.inl rfl) (pe_fld (pe_ix ix_list (pe_fld (pv 0) rfl) (pv 1) (fun _ _ => rfl)) rfl))
      (pss_cons (ps_if (pt_cmpR op_ge (pv 2) (pe_callB call_len_seq (by rfl) X.len PySem.boot_len (pa_cons (pv 3) pa_nil)) (nomark _)) (pss_one (ps_ret (pe_lst (pa_cons (pe_num (by rfl) X.ns) pa_nil)))) pss_nil)
      (pss_cons (ps_expr (pe_bm PySem.F.plainAttrs_list PySem.F.slot_list_pop PySem.F.type_list_pop mt_popAt (pv 3) (pa_cons (pv 2) pa_nil)))
      (pss_one (ps_ret (pe_lst (pa_cons (pe_callB call_len_seq (by rfl) X.len PySem.boot_len (pa_cons (pv 3) pa_nil)) pa_nil))))))), ?_⟩
    have hlp : (ps.map V.ref).length = st.classes.length := by rw [List.length_map]; exact D.lp
    refine ⟨_, rfl, _, rfl, d, CD, dx, _, _, rfl, D.hd, X.cD, X.nCl, df_classes _ _, L, ps.map V.ref, rfl, .inl (SqL.of D.hL), _, _, rfl, rfl, _, rfl, ?_⟩
    rw [hlp]
    refine ite2 (fun q => ?_) (fun q => ?_)
    · have q' := of_decide_eq_true q
      have e : Co07.step st (.drop k i) = (st, [-2]) := by
        show (if st.classes.length ≤ k ∨ _ then _ else _) = _
        rw [if_pos (.inl (by omega))]
      refine ⟨(by show 1 ≤ sizeLine; decide), fun c hc => ?_⟩
      exact ans1 DA hA (by rw [e]) (by rw [e]) hc
    have kl : k < st.classes.length := by
      have : ¬ ((st.classes.length : Int) ≤ (k : Int)) := fun z => q (decide_eq_true z)
      omega
    obtain ⟨p, l, dc, xs, c, hp, hl, hc, hP, hX, hAm, hok, hgd, hco⟩ := D.cls_at kl
    have hps : (ps.map V.ref)[k]? = some (.ref p) := by rw [List.getElem?_map, hp]; rfl
    refine ⟨_, rfl, d, CD, dx, _, _, rfl, D.hd, X.cD, X.nCl, df_classes _ _, _, rfl, L, ps.map V.ref, (k : Int), .ref p, rfl, rfl, SqL.of D.hL, atI_nat hps, p, CC, dc, _, _, rfl, hP, X.cC, X.nCm, cf_claims _ _, ?_⟩
    have hxl := hAm.len
    refine ⟨_, rfl, _, rfl, l, xs, rfl, .inl (SqL.of hX), _, _, rfl, rfl, _, rfl, ?_⟩
    rw [hxl]
    refine ite2 (fun q => ?_) (fun q => ?_)
    · have q' := of_decide_eq_true q
      have e : Co07.step st (.drop k i) = (st, [-2]) := by
        show (if st.classes.length ≤ k ∨ (Co07.claimsOf st k).length ≤ i then _ else _) = _
        rw [hco, if_pos (.inr (by omega))]
      refine ⟨(by show 1 ≤ sizeLine; decide), fun c hc => ?_⟩
      exact ans1 DA hA (by rw [e]) (by rw [e]) hc
    have il : i < c.claims.length := by
      have : ¬ ((c.claims.length : Int) ≤ (i : Int)) := fun z => q (decide_eq_true z)
      omega
    have e : Co07.step st (.drop k i) = ({ st with classes := st.classes.set k ⟨c.method, c.claims.eraseIdx i⟩ }, [((c.claims.length - 1 : Nat) : Int)]) := by
      show (if st.classes.length ≤ k ∨ (Co07.claimsOf st k).length ≤ i then _ else ({ st with classes := st.classes.set k ⟨(st.classes.getD k ⟨0, []⟩).method, (Co07.claimsOf st k).eraseIdx i⟩ }, [(((Co07.claimsOf st k).length - 1 : Nat) : Int)])) = _
      rw [hco, if_neg (by omega), hgd]
    have ixl : i < xs.length := by omega
    have h8 := hok.1.len
    refine ⟨_, rfl, .inl ⟨rfl, _, SqL.of hX⟩, _, rfl, l, xs, (i : Int), i, xs[i], rfl, rfl, hX, by omega, by omega, ?_, List.getElem?_eq_getElem ixl, ?_⟩
    · exact (ixN_seq (n := xs.length) (i := (i : Int)) (j := i) (by unfold ixN; rw [if_pos (by omega), if_pos (by omega), Int.toNat_natCast])).1
    · have qok : Claims (c.claims.eraseIdx i) := by
        have sub := List.eraseIdx_sublist c.claims i
        exact ⟨Nat.le_trans sub.length_le h8, fun x hx => hok.1.pos x (sub.subset hx), fun x hx => hok.1.sz x (sub.subset hx)⟩
      have D2 := D.claims (ys := xs.eraseIdx i) (qs := c.claims.eraseIdx i) hl hX hc (hAm.erase i) qok
      refine ⟨_, rfl, l, xs.eraseIdx i, rfl, .inl (up_lst upd_same), (by show 1 ≤ sizeLine; decide), fun g hg => ?_⟩
      have en : (((xs.eraseIdx i).length : Nat) : Int) = ((c.claims.length - 1 : Nat) : Int) := by
        rw [List.length_eraseIdx, if_pos ixl, hxl]
      have z := ans1 (n := ((c.claims.length - 1 : Nat) : Int)) ⟨_, _, _, _, _, D2⟩ hA (by rw [e]) (by rw [e]) hg
      rw [← en] at z
      exact z
end
end Cs

set_option Elab.async false
set_option linter.all false
set_option maxRecDepth 100000
set_option maxHeartbeats 2000000
namespace Cs
open PySem PySem.Spec PyProof.Rows L2
/-- lists of amounts in the heap -/
structure ShAt (K : PySem.W.Frag) (H : Hp) (bs : List Addr) (ls : List (List Rat)) : Prop where
  len : bs.length = ls.length
  at_ : ∀ (j : Nat) (b : Addr) (l : List Rat), bs[j]? = some b → ls[j]? = some l → ∃ ys : List V, H b = some (.lst ys) ∧ Amts K H ys l
theorem ShAt.ext {K : PySem.W.Frag} {H H' : Hp} {bs : List Addr} {ls : List (List Rat)} (S : ShAt K H bs ls) (e : LamX.ExtN H H') : ShAt K H' bs ls := ⟨S.len, fun j b l h1 h2 => by
  obtain ⟨ys, a, c⟩ := S.at_ j b l h1 h2
  exact ⟨ys, e _ _ a (fun _ z => by cases z), c.ext e⟩⟩
theorem ShAt.snoc {K : PySem.W.Frag} {H : Hp} {bs : List Addr} {ls : List (List Rat)} {b : Addr} {l : List Rat} {ys : List V} (S : ShAt K H bs ls) (hb : H b = some (.lst ys)) (hA : Amts K H ys l) : ShAt K H (bs ++ [b]) (ls ++ [l]) := by
  refine ⟨by rw [List.length_append, List.length_append, S.len]; rfl, fun j c m h1 h2 => ?_⟩
  by_cases hj : j < bs.length
  · rw [List.getElem?_append_left hj] at h1
    rw [List.getElem?_append_left (by rw [← S.len]; exact hj)] at h2
    exact S.at_ j c m h1 h2
  · rw [List.getElem?_append_right (by omega)] at h1
    rw [List.getElem?_append_right (by rw [← S.len]; omega)] at h2
    rw [← S.len] at h2
    cases hk : j - bs.length with
    | zero =>
      rw [hk] at h1 h2
      cases h1
      cases h2
      exact ⟨ys, hb, hA⟩
    | succ k =>
      rw [hk] at h1
      simp at h1
/-- a list is written that is none of these -/
theorem ShAt.write {K : PySem.W.Frag} {H : Hp} {bs : List Addr} {ls : List (List Rat)} {D : Addr} {xs ys : List V} (S : ShAt K H bs ls) (hD : H D = some (.lst xs)) (n : D ∉ bs) : ShAt K (upd H D (.lst ys)) bs ls := ⟨S.len, fun j b l h1 h2 => by
  obtain ⟨zs, a, c⟩ := S.at_ j b l h1 h2
  exact ⟨zs, (by rw [upd_ne (fun z => n (by rw [← z]; exact List.mem_of_getElem? h1))]; exact a), (tk_lst hD).amts c⟩⟩
theorem Fr.ne {H : Hp} {b D : Addr} {xs : List V} (f : Fr H b) (h : H D = some (.lst xs)) : b ≠ D := fun z => by
  obtain ⟨ps, e⟩ := f _ (by rw [z]; exact h)
  cases e
theorem Fr.out {T : List (Addr × Str)} {K : PySem.W.Frag} {CD CC : Addr} {H0 H : Hp} {d : Addr} {st : Co07.St} {b : Addr} (f : Fr H b) (D : DeskAt T K CD CC H0 H d st) : H0 b = Option.none := by
  obtain ⟨dx, L, v, ps, ls, D⟩ := D
  cases e : H0 b with
  | none => rfl
  | some o =>
    obtain ⟨ps, z⟩ := f o (D.same b o e)
    exact absurd (by rw [e, z]) (D.notab b ps)
def spCS (T : List (Addr × Str)) (K : PySem.W.Frag) (CD CC : Addr) : Sp := fun vs H Q _ => ∃ (H0 : Hp) (d : Addr) (st : Co07.St), vs = [.ref d] ∧ DeskAt T K CD CC H0 H d st ∧
  ∀ (H' : Hp) (R : Addr) (bs : List Addr), Up T H H' → Fr H R → (∀ b ∈ bs, Fr H b) → H' R = some (.lst (bs.map V.ref)) → ShAt K H' bs (Co07.shares st) → Q (.ref R) H'
section
variable {P : Program} {w : World} {K : PySem.W.Frag} {mg : Str → Option Value} {base : Heap} {T : List (Addr × Str)} {CD CC : Addr}
theorem min_comm' (p q : Rat) : min p q = min q p := by grind
theorem ok_cs {f : Addr} {fd : FuncData} (F : Fun K "class_shares" "Desk.class_shares" sCS f fd) (X : Txt K mg CD CC) (GT : Has P w K mg base "together" 4 ["amounts"] (spTog K)) (GL : Has P w K mg base "lesser" 2 ["first", "second"] (spLesser K)) (GM : Has P w K mg base "minus" 3 ["first", "second"] (spOp K (fun p q => p - q) fun p q => q ≤ p))
    (GR : Has P w K mg base "shares_by_rule" 8 ["rule", "claims", "has"] (spShare T K)) : FnOk P w K mg base CX0 9 f fd ["self"] (spCS T K CD CC) := by
  have sc : FnScope ["self", "left", "result", "one", "has"] ["self"] (defScope sCS) := ⟨rfl, rfl, rfl, by decide +kernel, rfl, by decide +kernel, by decide +kernel⟩
  refine F.ok sc (fun vs H Q E h => ?_) (fun cdv A outer s H vs Q E hr h => ?_)
  · obtain ⟨H0, d, st, rfl, _⟩ := h
    rfl
  · obtain ⟨H0, d, st, rfl, DA, k⟩ := h
    obtain ⟨dx, L, v, ps, ls, D⟩ := id DA
    have hr2 : Room 2 _ := hr.mono (by decide)
    have hr3 : Room 3 _ := hr.mono (by decide)
    have hr4 : Room 4 _ := hr.mono (by decide)
    refine ⟨_, pss_cons (ps_set (i := 1) sc.nd rfl (Or.inl rfl) (pe_fld (pv 0) rfl)) (pss_cons (ps_set (i := 2) sc.nd rfl (Or.inl rfl) (pe_lst pa_nil))
      (pss_cons (ps_for PassesOwn.never rfl (pi_list (pe_fld (pv 0) rfl)) (pg_name (i := 3) sc.nd rfl (Or.inl rfl))
        (pss_cons (ps_set (i := 4) sc.nd rfl (Or.inl rfl) (pe_has GL hr2 rfl (pa_cons (pe_has GT hr4 rfl (pa_cons (pe_fld (pv 3) rfl) pa_nil)) (pa_cons (pv 1) pa_nil))))
        (pss_cons (ps_set (i := 1) sc.nd rfl (Or.inl rfl) (pe_has GM hr3 rfl (pa_cons (pv 1) (pa_cons (pv 4) pa_nil))))
        (pss_one (ps_expr (pe_bm PySem.F.plainAttrs_list PySem.F.slot_list_append PySem.F.type_list_append mt_append (pv 2) (pa_cons (pe_has GR hr rfl (pa_cons (pe_fld (pv 3) rfl) (pa_cons (pe_fld (pv 3) rfl) (pa_cons (pv 4) pa_nil)))) pa_nil)))))))
      (pss_one (ps_ret (pv 2))))), ?_⟩
    refine ⟨_, rfl, d, CD, dx, _, _, rfl, D.hd, X.cD, X.nSt, df_stock _ _, Nat.zero_le _, fun R hR => ?_⟩
    have D1 := D.up (Up.same (T := T) (same_new (o := .lst []) hR))
    have h4 := D.ok.len
    have hlp : (ps.map V.ref).length = st.classes.length := by rw [List.length_map]; exact D.lp
    refine ⟨_, rfl, d, CD, dx, _, _, rfl, D1.hd, X.cD, X.nCl, df_classes _ _, L, rfl, ⟨_, up_lst D1.hL⟩, for_list (K := K) (a := L) (xs := ps.map V.ref) (fun i σ H' => ∃ (lv : V) (e : Rat) (bs : List Addr) (done : List (List Rat)) (u1 u2 : Option V), σ = [some (.ref d), some lv, some (.ref R), u1, u2] ∧ Up T H H' ∧ H' R = some (.lst (bs.map V.ref)) ∧ (∀ b ∈ bs, Fr H b) ∧
        Amt K H' lv e ∧ 0 ≤ e ∧ Sz (20 + 169 * i) e ∧ done.length = i ∧ ShAt K H' bs done ∧ R ∉ bs ∧ done ++ Co07.shared (st.classes.drop i) e = Co07.shares st)
      ⟨v, st.there, [], [], none, none, rfl, Up.same (same_new hR), upd_same, fun b hb => by simp at hb, D1.hv, D.ok.nn, D.ok.sz, rfl, ⟨rfl, fun j b l h1 => by simp at h1⟩, by simp, rfl⟩ (fun i σ H' _ ⟨_, _, _, _, _, _, _, u, _⟩ => up_lst (D.up u).hL) ?_ ?_⟩
    · rintro i x σ H' hi ⟨lv, e, bs, done, u1, u2, rfl, u, hRl, hfr, hlv, he, hz, hdl, hSh, nR, hsh⟩
      rw [List.getElem?_map] at hi
      have il : i < st.classes.length := by
        rw [← hlp]
        cases q : ps[i]? with
        | none =>
          rw [q] at hi
          cases hi
        | some p =>
          rw [List.length_map]
          exact (List.getElem?_eq_some_iff.mp q).1
      have D2 := D.up u
      obtain ⟨p, l, dc, xs, c, hp, hl, hc, hP, hX, hAm, hok, hgd, hco⟩ := D2.cls_at il
      rw [hp] at hi
      cases hi
      have C := hok.1
      -- has = lesser(together(one.claims), left)
      refine ⟨_, rfl, p, CC, dc, _, _, rfl, hP, X.cC, X.nCm, cf_claims _ _, l, xs, c.claims, 20, rfl, up_lst hX, hAm, C.len, fun q hq => ⟨C.nn q hq, C.sz q hq⟩, by decide, fun H1 v1 s1 h1 => ?_⟩
      refine ⟨_, rfl, v1, lv, Co07.sum c.claims, e, 169, 20 + 169 * i, rfl, h1, hlv.same s1, C.szsum, hz, by omega, fun vh hvh => ?_⟩
      rw [min_comm'] at hvh
      have hs0 := C.sum0
      have x0 : 0 ≤ min e (Co07.sum c.claims) := by grind
      have xe : min e (Co07.sum c.claims) ≤ e := by grind
      have xs' : min e (Co07.sum c.claims) ≤ Co07.sum c.claims := by grind
      have xz : Sz 696 (min e (Co07.sum c.claims)) := sz_min (hz.mono (by omega)) (C.szsum.mono (by decide))
      -- left = minus(left, has)
      refine ⟨_, rfl, _, rfl, lv, vh, e, min e (Co07.sum c.claims), 20 + 169 * i, 696, rfl, hlv.same s1, hvh, hz, xz, by omega, he, x0, xe, fun H2 v2 s2 h2 => ?_⟩
      have s12 := s1.trans s2
      -- result.append(shares_by_rule(..))
      refine ⟨_, rfl, .inl ⟨rfl, _, SqL.of (s12 _ _ hRl)⟩, _, rfl, p, CC, dc, _, _, rfl, s12 _ _ hP, X.cC, X.nRu, cf_rule _ _, _, rfl, p, CC, dc, _, _, rfl, s12 _ _ hP, X.cC, X.nCm, cf_claims _ _, _, rfl, ?_⟩
      refine ⟨c.method, l, xs, c.claims, vh, min e (Co07.sum c.claims), 696, rfl, up_lst (s12 _ _ hX), hAm.ext (LamX.ExtN.of s12), C, (u.tab D.tab).ext s12, hvh.same s2, x0, xs', xz, by decide, fun H3 b ys u3 f3 hb hB => ?_⟩
      have u03 : Up T H' H3 := (Up.same s12).trans u3
      have uH3 : Up T H H3 := u.trans u03
      have hR3 : H3 R = some (.lst (bs.map V.ref)) := u03.ext _ _ hRl (fun _ z => by cases z)
      have hfb : Fr H' b := f3.back (LamX.ExtN.of s12)
      have nbR : b ≠ R := hfb.ne hRl
      have h8 : bs.length = i := by rw [hSh.len]; exact hdl
      refine ⟨R, _, _, rfl, rfl, hR3, Nat.lt_of_le_of_lt (show (bs.map V.ref).length ≤ 4 by rw [List.length_map]; omega) (by decide), ?_⟩
      have eR : bs.map V.ref ++ [V.ref b] = (bs ++ [b]).map V.ref := by rw [List.map_append]; rfl
      rw [eR]
      have tk : TK H3 (upd H3 R (.lst ((bs ++ [b]).map V.ref))) := tk_lst hR3
      have nR' : R ∉ bs ++ [b] := fun z => by
        rcases List.mem_append.mp z with y | y
        · exact nR y
        · exact nbR (List.mem_singleton.mp y).symm
      refine ⟨v2, e - min e (Co07.sum c.claims), bs ++ [b], done ++ [within c.method c.claims (min e (Co07.sum c.claims))], some (.ref p), some vh, rfl, up_write uH3 hR hR3, upd_same, fun y hy => ?_, tk.amt (h2.ext u3.ext), by grind, ?_, ?_, ?_, nR', ?_⟩
      · rcases List.mem_append.mp hy with z | z
        · exact hfr y z
        · rw [List.mem_singleton.mp z]
          exact hfb.back u.ext
      · by_cases q : e ≤ Co07.sum c.claims
        · have : e - min e (Co07.sum c.claims) = 0 := by grind
          rw [this]
          exact sz_zero.mono (by omega)
        · have : e - min e (Co07.sum c.claims) = e - Co07.sum c.claims := by grind
          rw [this]
          exact (sz_sub hz C.szsum hs0 (by grind)).mono (by omega)
      · rw [List.length_append, hdl]
        rfl
      · exact ((hSh.ext u03.ext).snoc hb hB).write hR3 nR'
      · rw [List.append_assoc, ← hsh, drop_at hc, within_is _ _ _ C.pos]
        rfl
    · rintro σ H' ⟨lv, e, bs, done, u1, u2, rfl, u, hRl, hfr, hlv, he, hz, hdl, hSh, nR, hsh⟩
      refine ⟨_, rfl, k H' R bs u (Fr.none hR) hfr hRl ?_⟩
      rw [hlp, List.drop_length] at hsh
      have hsh' : done ++ [] = Co07.shares st := hsh
      rw [List.append_nil] at hsh'
      rw [← hsh']
      exact hSh
/-- what is known of the shares -/
theorem shares_ok {st : Co07.St} (S : StOk st) : (Co07.shares st).length = st.classes.length ∧ ∀ (k : Nat) (c : Co07.Class), st.classes[k]? = some c → ∃ x, (Co07.shares st)[k]? = some (within c.method c.claims x) ∧ 0 ≤ x ∧ x ≤ Co07.sum c.claims ∧ Sz 527 x :=
  shared_ok (M := 527) st.classes st.there 20 S.cls S.nn S.sz (by decide) (by have := S.len; omega)
theorem shares_each {st : Co07.St} (S : StOk st) {k : Nat} {l : List Rat} (h : (Co07.shares st)[k]? = some l) : l.length ≤ 8 ∧ ∀ q ∈ l, 0 ≤ q ∧ Sz 888 q := by
  obtain ⟨h1, h2⟩ := shares_ok S
  have hk : k < st.classes.length := by
    rw [← h1]
    exact (List.getElem?_eq_some_iff.mp h).1
  obtain ⟨x, e, x0, x1, xz⟩ := h2 k _ (List.getElem?_eq_getElem hk)
  rw [h] at e
  cases e
  have C := (S.cls _ (List.getElem_mem hk)).1
  refine ⟨by rw [within_len]; exact C.len, fun q hq => ?_⟩
  rw [within_map] at hq
  obtain ⟨c, hc, rfl⟩ := List.mem_map.mp hq
  obtain ⟨a, b, z⟩ := each_ok (r := st.classes[k].method) C x0 x1 xz hc
  exact ⟨a, z⟩
theorem flat_le {α : Type} {g : α → List Int} {n : Nat} : ∀ l : List α, (∀ x ∈ l, (g x).length ≤ n) → (l.flatMap g).length ≤ n * l.length
  | [], _ => Nat.zero_le _
  | x :: l, h => by
    rw [List.flatMap_cons, List.length_append, List.length_cons, Nat.mul_add]
    have h1 := h x (List.mem_cons_self ..)
    have h2 := flat_le l fun y hy => h y (List.mem_cons_of_mem _ hy)
    omega
def spShareM (T : List (Addr × Str)) (K : PySem.W.Frag) (CD CC : Addr) : Sp := fun vs H Q _ => ∃ (H0 : Hp) (d : Addr) (st : Co07.St), vs = [.ref d] ∧ DeskAt T K CD CC H0 H d st ∧ Ans T K CD CC H0 d (Co07.step st .share) Q
theorem ok_share {f fC : Addr} {fd fdC : FuncData} (F : Fun K "share" "Desk.share" sShare f fd) (X : Txt K mg CD CC) (GC : FnOk P w K mg base CX0 9 fC fdC ["self"] (spCS T K CD CC)) (bC : Binds K fdC ["self"] []) (mC : Meth K CD "class_shares" fC) (GT : Has P w K mg base "told" 1 ["amounts"] (spTold K)) :
    FnOk P w K mg base CX0 10 f fd ["self"] (spShareM T K CD CC) := by
  have sc : FnScope ["self", "numbers", "shares"] ["self"] (defScope sShare) := ⟨rfl, rfl, rfl, by decide +kernel, rfl, by decide +kernel, by decide +kernel⟩
  refine F.ok sc (fun vs H Q E h => ?_) (fun cdv A outer s H vs Q E hr h => ?_)
  · obtain ⟨H0, d, st, rfl, _⟩ := h
    rfl
  · obtain ⟨H0, d, st, rfl, DA, hA⟩ := h
    obtain ⟨dx, L, v, ps, ls, D⟩ := id DA
    have hr1 : Room 1 _ := hr.mono (by decide)
    refine ⟨_, pss_cons (ps_set (i := 1) sc.nd rfl (Or.inl rfl) (pe_lst (pa_cons (pe_callB call_len_seq (by rfl) X.len PySem.boot_len (pa_cons (pe_fld (pv 0) rfl) pa_nil)) pa_nil)))
      (pss_cons (ps_for PassesOwn.never rfl (pi_list (pe_meth0 (pv 0) X.cD mC GC hr bC .nil pass0)) (pg_name (i := 2) sc.nd rfl (Or.inl rfl))
        (pss_one (ps_expr (pe_bm PySem.F.plainAttrs_list PySem.F.slot_list_extend PySem.F.type_list_extend mt_extend (pv 1) (pa_cons (pe_has GT hr1 rfl (pa_cons (pv 2) pa_nil)) pa_nil)))))
      (pss_one (ps_ret (pv 1)))), ?_⟩
    have hlp : (ps.map V.ref).length = st.classes.length := by rw [List.length_map]; exact D.lp
    refine ⟨_, rfl, d, CD, dx, _, _, rfl, D.hd, X.cD, X.nCl, df_classes _ _, L, ps.map V.ref, rfl, .inl (SqL.of D.hL), (by show 1 ≤ sizeLine; decide), fun N hN => ?_⟩
    rw [hlp]
    have sN := same_new (o := .lst [V.int ((st.classes.length : Nat) : Int)]) hN
    have D1A := DA.up (Up.same (T := T) sN)
    have D1 := D.up (Up.same (T := T) sN)
    have N0 : H0 N = none := D.same.free hN
    obtain ⟨sl, _⟩ := shares_ok D.ok
    have h4 := D.ok.len
    refine ⟨_, rfl, d, dx, _, rfl, D1.hd, df_no _ _ (by decide +kernel) (by decide +kernel), H0, d, st, rfl, D1A, fun H1 R bs u1 fR fbs hR hSh => ?_⟩
    have hN1 : H1 N = some (.lst [V.int ((st.classes.length : Nat) : Int)]) := u1.ext _ _ upd_same (fun _ z => by cases z)
    have nRN : R ≠ N := fR.ne upd_same
    have nN : N ∉ bs := fun z => (fbs N z).ne upd_same rfl
    have uH1 : Up T H H1 := (Up.same sN).trans u1
    refine ⟨R, rfl, ⟨_, up_lst hR⟩, for_list (K := K) (a := R) (xs := bs.map V.ref) (fun i σ H' => ∃ u : Option V, σ = [some (.ref d), some (.ref N), u] ∧ Up T H H' ∧ H' R = some (.lst (bs.map V.ref)) ∧ ShAt K H' bs (Co07.shares st) ∧ H' N = some (.lst (((st.classes.length : Int) :: ((Co07.shares st).take i).flatMap tell).map V.int)))
      ⟨none, rfl, uH1, hR, hSh, hN1⟩ (fun i σ H' _ ⟨_, _, _, h, _⟩ => up_lst h) ?_ ?_⟩
    · rintro i x σ H' hi ⟨u, rfl, uH, hR', hS', hN'⟩
      rw [List.getElem?_map] at hi
      cases e : bs[i]? with
      | none =>
        rw [e] at hi
        cases hi
      | some b =>
        rw [e] at hi
        cases hi
        have ib := (List.getElem?_eq_some_iff.mp e).1
        have is : i < (Co07.shares st).length := by rw [← hS'.len]; exact ib
        have es : (Co07.shares st)[i]? = some (Co07.shares st)[i] := List.getElem?_eq_getElem is
        obtain ⟨ys, hb, hB⟩ := hS'.at_ i b _ e es
        obtain ⟨l8, _⟩ := shares_each D.ok es
        refine ⟨_, rfl, .inl ⟨rfl, _, SqL.of hN'⟩, _, rfl, b, ys, _, rfl, up_lst hb, hB, by omega, fun H2 t s2 ht hT2 => ?_⟩
        refine ⟨N, t, _, _, rfl, rfl, s2 _ _ hN', hT2, ?_, some (.ref b), rfl, up_write (uH.trans (Up.same s2)) hN (s2 _ _ hN'), ?_, ?_, ?_⟩
        · rw [List.length_map, List.length_map, List.length_cons]
          have h1 : (((Co07.shares st).take i).flatMap tell).length ≤ 17 * ((Co07.shares st).take i).length := flat_le _ fun x hx => by
            obtain ⟨j, hj⟩ := List.mem_iff_getElem?.mp (List.mem_of_mem_take hx)
            obtain ⟨x8, _⟩ := shares_each D.ok hj
            show ((x.length : Int) :: x.flatMap Co07.fraction).length ≤ 17
            rw [List.length_cons, flat_len]
            omega
          have h2 : (tell (Co07.shares st)[i]).length ≤ 17 := by
            show (((Co07.shares st)[i].length : Int) :: (Co07.shares st)[i].flatMap Co07.fraction).length ≤ 17
            rw [List.length_cons, flat_len]
            omega
          rw [List.length_take] at h1
          have h3 : min i (Co07.shares st).length ≤ 4 := by omega
          have h5 := Nat.mul_le_mul_left 17 h3
          exact Nat.le_trans (show _ ≤ 100 by omega) (by decide)
        · rw [upd_ne nRN]
          exact s2 _ _ hR'
        · exact (hS'.ext (LamX.ExtN.of s2)).write (s2 _ _ hN') nN
        · rw [upd_same, take_succ es, List.flatMap_append, List.flatMap_singleton, ← List.cons_append, List.map_append]
    · rintro σ H' ⟨u, rfl, uH, hR', hS', hN'⟩
      have eb : (bs.map V.ref).length = (Co07.shares st).length := by rw [List.length_map]; exact hSh.len
      rw [eb, List.take_length] at hN'
      exact ⟨_, rfl, hA H' N (DA.up uH) N0 hN'⟩
end
end Cs

set_option Elab.async false
set_option linter.all false
set_option maxRecDepth 100000
set_option maxHeartbeats 2000000
namespace Cs
open PySem PySem.Spec PyProof.Rows L2
/-! ### all_is_whole -/
def allWh (st : Co07.St) : Bool := decide (st.there.den = 1) && st.classes.all fun c => c.claims.all fun x => decide (x.den = 1)
def spAllW (T : List (Addr × Str)) (K : PySem.W.Frag) (CD CC : Addr) : Sp := fun vs H Q _ => ∃ (H0 : Hp) (d : Addr) (st : Co07.St), vs = [.ref d] ∧ DeskAt T K CD CC H0 H d st ∧ Q (.bl (allWh st)) H
theorem allWh_no {st : Co07.St} (h : ¬ (st.there.den = 1 ∧ ∀ c ∈ st.classes, ∀ x ∈ c.claims, x.den = 1)) : allWh st = false := by
  cases e : allWh st with
  | false => rfl
  | true =>
    exfalso
    unfold allWh at e
    rw [Bool.and_eq_true] at e
    refine h ⟨of_decide_eq_true e.1, fun c hc x hx => ?_⟩
    exact of_decide_eq_true (List.all_eq_true.mp (List.all_eq_true.mp e.2 c hc) x hx)
theorem allWh_yes {st : Co07.St} (h1 : st.there.den = 1) (h2 : ∀ c ∈ st.classes, ∀ x ∈ c.claims, x.den = 1) : allWh st = true := by
  unfold allWh
  rw [Bool.and_eq_true]
  exact ⟨decide_eq_true h1, List.all_eq_true.mpr fun c hc => List.all_eq_true.mpr fun x hx => decide_eq_true (h2 c hc x hx)⟩
theorem allWh_is {st : Co07.St} (h : allWh st = true) : st.there.den = 1 ∧ ∀ c ∈ st.classes, ∀ x ∈ c.claims, x.den = 1 := Classical.byContradiction fun n => by
  rw [allWh_no n] at h
  cases h
section
variable {P : Program} {w : World} {K : PySem.W.Frag} {mg : Str → Option Value} {base : Heap} {T : List (Addr × Str)} {CD CC : Addr}
theorem ok_allW {f : Addr} {fd : FuncData} (F : Fun K "all_is_whole" "Desk.all_is_whole" sAllW f fd) (X : Txt K mg CD CC) (GW : Has P w K mg base "is_whole" 1 ["amount"] (spIsWhole K)) : FnOk P w K mg base CX0 9 f fd ["self"] (spAllW T K CD CC) := by
  have sc : FnScope ["self", "one", "amount"] ["self"] (defScope sAllW) := ⟨rfl, rfl, rfl, by decide +kernel, rfl, by decide +kernel, by decide +kernel⟩
  refine F.ok sc (fun vs H Q E h => ?_) (fun cdv A outer s H vs Q E hr h => ?_)
  · obtain ⟨H0, d, st, rfl, _⟩ := h
    rfl
  · obtain ⟨H0, d, st, rfl, DA, k⟩ := h
    obtain ⟨dx, L, v, ps, ls, D⟩ := id DA
    have hr1 : Room 1 _ := hr.mono (by decide)
    refine ⟨_, pss_cons (ps_if (pt_not (pt_val (pe_has GW hr1 rfl (pa_cons (pe_fld (pv 0) rfl) pa_nil)))) (pss_one (ps_ret pe_bl)) pss_nil)
      (pss_cons (ps_for PassesOwn.never rfl (pi_list (pe_fld (pv 0) rfl)) (pg_name (i := 1) sc.nd rfl (Or.inl rfl))
        (pss_one (ps_for PassesOwn.never rfl (pi_list (pe_fld (pv 1) rfl)) (pg_name (i := 2) sc.nd rfl (Or.inl rfl))
          (pss_one (ps_if (pt_not (pt_val (pe_has GW hr1 rfl (pa_cons (pv 2) pa_nil)))) (pss_one (ps_ret pe_bl)) pss_nil)))))
      (pss_one (ps_ret pe_bl))), ?_⟩
    have hlp : (ps.map V.ref).length = st.classes.length := by rw [List.length_map]; exact D.lp
    refine ⟨_, rfl, d, CD, dx, _, _, rfl, D.hd, X.cD, X.nSt, df_stock _ _, v, st.there, rfl, D.hv, _, rfl, ?_⟩
    by_cases c0 : st.there.den = 1
    · rw [decide_eq_true c0]
      refine iteF ?_
      refine ⟨_, rfl, d, CD, dx, _, _, rfl, D.hd, X.cD, X.nCl, df_classes _ _, L, rfl, ⟨_, up_lst D.hL⟩, for_list (K := K) (a := L) (xs := ps.map V.ref) (fun i σ H' => H' = H ∧ ∃ u1 u2 : Option V, σ = [some (.ref d), u1, u2] ∧ ∀ c ∈ st.classes.take i, ∀ x ∈ c.claims, x.den = 1)
        ⟨rfl, none, none, rfl, fun c hc => by simp at hc⟩ (fun i σ H' _ ⟨e, _⟩ => by rw [e]; exact up_lst D.hL) ?_ ?_⟩
      · rintro i x σ H' hi ⟨rfl, u1, u2, rfl, hw⟩
        rw [List.getElem?_map] at hi
        have il : i < st.classes.length := by
          rw [← hlp, List.length_map]
          cases q : ps[i]? with
          | none =>
            rw [q] at hi
            cases hi
          | some p => exact (List.getElem?_eq_some_iff.mp q).1
        obtain ⟨p, l, dc, xs, c, hp, hl, hc, hP, hX, hAm, hok, hgd, hco⟩ := D.cls_at il
        rw [hp] at hi
        cases hi
        refine ⟨_, rfl, p, CC, dc, _, _, rfl, hP, X.cC, X.nCm, cf_claims _ _, l, rfl, ⟨_, up_lst hX⟩, for_list (K := K) (a := l) (xs := xs) (fun j σ H2 => H2 = H' ∧ ∃ u2 : Option V, σ = [some (.ref d), some (.ref p), u2] ∧ ∀ x ∈ c.claims.take j, x.den = 1)
          ⟨rfl, u2, rfl, fun x hx => by simp at hx⟩ (fun j σ H2 _ ⟨e, _⟩ => by rw [e]; exact up_lst hX) ?_ ?_⟩
        · rintro j y σ H2 hj ⟨rfl, u3, rfl, hw2⟩
          obtain ⟨q, hq, hy⟩ := hAm.get hj
          refine ⟨_, rfl, y, q, rfl, hy, _, rfl, ?_⟩
          by_cases c1 : q.den = 1
          · rw [decide_eq_true c1]
            refine iteF ⟨rfl, some y, rfl, fun x hx => ?_⟩
            rw [take_succ hq] at hx
            rcases List.mem_append.mp hx with z | z
            · exact hw2 x z
            · rw [List.mem_singleton.mp z]
              exact c1
          · rw [decide_eq_false c1]
            refine iteT ?_
            show Q (.bl false) H2
            rw [← allWh_no (st := st) fun z => c1 (z.2 c (List.mem_of_getElem? hc) q (List.mem_of_getElem? hq))]
            exact k
        · rintro σ H2 ⟨rfl, u3, rfl, hw2⟩
          rw [hAm.len, List.take_length] at hw2
          refine ⟨rfl, some (.ref p), u3, rfl, fun e he => ?_⟩
          rw [take_succ hc] at he
          rcases List.mem_append.mp he with z | z
          · exact hw e z
          · rw [List.mem_singleton.mp z]
            exact hw2
      · rintro σ H' ⟨rfl, u1, u2, rfl, hw⟩
        rw [hlp, List.take_length] at hw
        show Q (.bl true) H'
        rw [← allWh_yes c0 hw]
        exact k
    · rw [decide_eq_false c0]
      refine iteT ?_
      show Q (.bl false) H
      rw [← allWh_no (st := st) fun z => c0 z.1]
      exact k
/-! ### whole -/
def spWholeM (T : List (Addr × Str)) (K : PySem.W.Frag) (CD CC : Addr) : Sp := fun vs H Q _ => ∃ (H0 : Hp) (d : Addr) (st : Co07.St), vs = [.ref d] ∧ DeskAt T K CD CC H0 H d st ∧ Ans T K CD CC H0 d (Co07.step st .whole) Q
def wtell (l : List Rat) : List Int := (l.length : Int) :: Co07.whole l
theorem whole_len (p : List Rat) : (Co07.whole p).length = p.length := by
  unfold Co07.whole
  rw [List.length_map, List.length_zipIdx]
theorem step_whole_no {st : Co07.St} (h : allWh st = false) : Co07.step st .whole = (st, [-6]) := by
  show (st, if st.there.den ≠ 1 ∨ (st.classes.any fun (c : Co07.Class) => c.claims.any fun (x : Rat) => x.den != 1) = true then [-6] else _) = _
  rw [if_pos]
  refine Classical.byContradiction fun n => ?_
  have n1 : st.there.den = 1 := Classical.byContradiction fun z => n (.inl z)
  have n2 : ∀ c ∈ st.classes, ∀ x ∈ c.claims, x.den = 1 := fun c hc x hx => Classical.byContradiction fun z => n (.inr (List.any_eq_true.mpr ⟨c, hc, List.any_eq_true.mpr ⟨x, hx, by simp [z]⟩⟩))
  rw [allWh_yes n1 n2] at h
  cases h
theorem step_whole_yes {st : Co07.St} (h : allWh st = true) : Co07.step st .whole = (st, (st.classes.length : Int) :: (Co07.shares st).flatMap wtell) := by
  obtain ⟨h1, h2⟩ := allWh_is h
  show (st, if st.there.den ≠ 1 ∨ (st.classes.any fun (c : Co07.Class) => c.claims.any fun (x : Rat) => x.den != 1) = true then [-6] else (st.classes.length : Int) :: (Co07.shares st).flatMap wtell) = _
  rw [if_neg]
  rintro (z | z)
  · exact z h1
  · obtain ⟨c, hc, z⟩ := List.any_eq_true.mp z
    obtain ⟨x, hx, z⟩ := List.any_eq_true.mp z
    have := h2 c hc x hx
    simp [this] at z
theorem ok_whole {f fC fW : Addr} {fd fdC fdW : FuncData} (F : Fun K "whole" "Desk.whole" sWhole f fd) (X : Txt K mg CD CC) (GC : FnOk P w K mg base CX0 9 fC fdC ["self"] (spCS T K CD CC)) (bC : Binds K fdC ["self"] []) (mC : Meth K CD "class_shares" fC) (GA : FnOk P w K mg base CX0 9 fW fdW ["self"] (spAllW T K CD CC)) (bA : Binds K fdW ["self"] []) (mA : Meth K CD "all_is_whole" fW)
    (GU : Has P w K mg base "in_whole_units" 5 ["shares"] (spUnits T K)) : FnOk P w K mg base CX0 10 f fd ["self"] (spWholeM T K CD CC) := by
  have sc : FnScope ["self", "numbers", "shares"] ["self"] (defScope sWhole) := ⟨rfl, rfl, rfl, by decide +kernel, rfl, by decide +kernel, by decide +kernel⟩
  refine F.ok sc (fun vs H Q E h => ?_) (fun cdv A outer s H vs Q E hr h => ?_)
  · obtain ⟨H0, d, st, rfl, _⟩ := h
    rfl
  · obtain ⟨H0, d, st, rfl, DA, hA⟩ := h
    obtain ⟨dx, L, v, ps, ls, D⟩ := id DA
    have hr5 : Room 5 _ := hr.mono (by decide)
    refine ⟨_, pss_cons (ps_if (pt_not (pt_val (pe_meth0 (pv 0) X.cD mA GA hr bA .nil pass0))) (pss_one (ps_ret (pe_lst (pa_cons (pe_num (by rfl) X.nw) pa_nil)))) pss_nil)
      (pss_cons (ps_set (i := 1) sc.nd rfl (Or.inl rfl) (pe_lst (pa_cons (pe_callB call_len_seq (by rfl) X.len PySem.boot_len (pa_cons (pe_fld (pv 0) rfl) pa_nil)) pa_nil)))
      (pss_cons (ps_for PassesOwn.never rfl (pi_list (pe_meth0 (pv 0) X.cD mC GC hr bC .nil pass0)) (pg_name (i := 2) sc.nd rfl (Or.inl rfl))
        (pss_cons (ps_expr (pe_bm PySem.F.plainAttrs_list PySem.F.slot_list_append PySem.F.type_list_append mt_append (pv 1) (pa_cons (pe_callB call_len_seq (by rfl) X.len PySem.boot_len (pa_cons (pv 2) pa_nil)) pa_nil)))
        (pss_one (ps_expr (pe_bm PySem.F.plainAttrs_list PySem.F.slot_list_extend PySem.F.type_list_extend mt_extend (pv 1) (pa_cons (pe_has GU hr5 rfl (pa_cons (pv 2) pa_nil)) pa_nil))))))
      (pss_one (ps_ret (pv 1))))), ?_⟩
    have hlp : (ps.map V.ref).length = st.classes.length := by rw [List.length_map]; exact D.lp
    refine ⟨_, rfl, d, dx, _, rfl, D.hd, df_no _ _ (by decide +kernel) (by decide +kernel), H0, d, st, rfl, DA, _, rfl, ?_⟩
    cases hW : allWh st with
    | false =>
      refine iteT ?_
      have e := step_whole_no hW
      refine ⟨(by show 1 ≤ sizeLine; decide), fun c hc => ?_⟩
      exact ans1 DA hA (by rw [e]) (by rw [e]) hc
    | true =>
      refine iteF ?_
      have e := step_whole_yes hW
      obtain ⟨w1, w2⟩ := allWh_is hW
      have wh := shared_wh st.classes st.there D.ok.cls (fun c hc x hx => wh_den.mpr (w2 c hc x hx)) D.ok.nn (wh_den.mpr w1)
      refine ⟨_, rfl, d, CD, dx, _, _, rfl, D.hd, X.cD, X.nCl, df_classes _ _, L, ps.map V.ref, rfl, .inl (SqL.of D.hL), (by show 1 ≤ sizeLine; decide), fun N hN => ?_⟩
      rw [hlp]
      have sN := same_new (o := .lst [V.int ((st.classes.length : Nat) : Int)]) hN
      have D1A := DA.up (Up.same (T := T) sN)
      have D1 := D.up (Up.same (T := T) sN)
      have N0 : H0 N = none := D.same.free hN
      obtain ⟨sl, _⟩ := shares_ok D.ok
      have h4 := D.ok.len
      refine ⟨_, rfl, d, dx, _, rfl, D1.hd, df_no _ _ (by decide +kernel) (by decide +kernel), H0, d, st, rfl, D1A, fun H1 R bs u1 fR fbs hR hSh => ?_⟩
      have hN1 : H1 N = some (.lst [V.int ((st.classes.length : Nat) : Int)]) := u1.ext _ _ upd_same (fun _ z => by cases z)
      have nRN : R ≠ N := fR.ne upd_same
      have nN : N ∉ bs := fun z => (fbs N z).ne upd_same rfl
      have uH1 : Up T H H1 := (Up.same sN).trans u1
      refine ⟨R, rfl, ⟨_, up_lst hR⟩, for_list (K := K) (a := R) (xs := bs.map V.ref) (fun i σ H' => ∃ u : Option V, σ = [some (.ref d), some (.ref N), u] ∧ Up T H H' ∧ H' R = some (.lst (bs.map V.ref)) ∧ ShAt K H' bs (Co07.shares st) ∧ H' N = some (.lst (((st.classes.length : Int) :: ((Co07.shares st).take i).flatMap wtell).map V.int)))
        ⟨none, rfl, uH1, hR, hSh, hN1⟩ (fun i σ H' _ ⟨_, _, _, h, _⟩ => up_lst h) ?_ ?_⟩
      · rintro i x σ H' hi ⟨u, rfl, uH, hR', hS', hN'⟩
        rw [List.getElem?_map] at hi
        cases eb : bs[i]? with
        | none =>
          rw [eb] at hi
          cases hi
        | some b =>
          rw [eb] at hi
          cases hi
          have ib := (List.getElem?_eq_some_iff.mp eb).1
          have is : i < (Co07.shares st).length := by rw [← hS'.len]; exact ib
          have es : (Co07.shares st)[i]? = some (Co07.shares st)[i] := List.getElem?_eq_getElem is
          have wl : Wh (Co07.sum (Co07.shares st)[i]) := wh _ (List.getElem_mem is)
          generalize hlst : (Co07.shares st)[i] = l at es wl
          obtain ⟨ys, hb, hB⟩ := hS'.at_ i b _ eb es
          obtain ⟨l8, lq⟩ := shares_each D.ok es
          have hyl := hB.len
          have hbig : (((st.classes.length : Int) :: ((Co07.shares st).take i).flatMap wtell).map V.int).length ≤ 100 := by
            rw [List.length_map, List.length_cons]
            have h1 : (((Co07.shares st).take i).flatMap wtell).length ≤ 9 * ((Co07.shares st).take i).length := flat_le _ fun x hx => by
              obtain ⟨j, hj⟩ := List.mem_iff_getElem?.mp (List.mem_of_mem_take hx)
              obtain ⟨x8, _⟩ := shares_each D.ok hj
              show ((x.length : Int) :: Co07.whole x).length ≤ 9
              rw [List.length_cons, whole_len]
              omega
            rw [List.length_take] at h1
            have h3 : min i (Co07.shares st).length ≤ 4 := by omega
            have h5 := Nat.mul_le_mul_left 9 h3
            omega
          -- numbers.append(len(shares))
          refine ⟨_, rfl, .inl ⟨rfl, _, SqL.of hN'⟩, _, rfl, b, ys, rfl, .inl (up_lst hb), N, _, _, rfl, rfl, hN', Nat.lt_of_le_of_lt hbig (by decide), ?_⟩
          have nbN : b ≠ N := fun z => nN (by rw [← z]; exact List.mem_of_getElem? eb)
          have uH2 := up_write (o := .lst ((((st.classes.length : Int) :: ((Co07.shares st).take i).flatMap wtell).map V.int) ++ [V.int ((ys.length : Nat) : Int)])) uH hN hN'
          have hS2 := hS'.write (ys := (((st.classes.length : Int) :: ((Co07.shares st).take i).flatMap wtell).map V.int) ++ [V.int ((ys.length : Nat) : Int)]) hN' nN
          have tk : TK H' (upd H' N (.lst ((((st.classes.length : Int) :: ((Co07.shares st).take i).flatMap wtell).map V.int) ++ [V.int ((ys.length : Nat) : Int)]))) := tk_lst hN'
          have hb2 : upd H' N (.lst ((((st.classes.length : Int) :: ((Co07.shares st).take i).flatMap wtell).map V.int) ++ [V.int ((ys.length : Nat) : Int)])) b = some (.lst ys) := by
            rw [upd_ne nbN]
            exact hb
          -- numbers.extend(in_whole_units(shares))
          refine ⟨_, rfl, .inl ⟨rfl, _, SqL.of upd_same⟩, _, rfl, b, ys, l, rfl, up_lst hb2, tk.amts hB, l8, fun q hq => ⟨(lq q hq).1, (lq q hq).2.mono (by decide)⟩, wl, uH2.tab D.tab, fun H3 t u3 ht hT3 => ?_⟩
          have hN3 : H3 N = some (.lst ((((st.classes.length : Int) :: ((Co07.shares st).take i).flatMap wtell).map V.int) ++ [V.int ((ys.length : Nat) : Int)])) := u3.ext _ _ upd_same (fun _ z => by cases z)
          refine ⟨N, t, _, _, rfl, rfl, hN3, hT3, ?_, some (.ref b), rfl, up_write (uH2.trans u3) hN hN3, ?_, ?_, ?_⟩
          · rw [List.length_append, List.length_map (as := Co07.whole l), whole_len]
            exact Nat.le_trans (show _ ≤ 200 by
              show _ + 1 + l.length ≤ 200
              omega) (by decide)
          · rw [upd_ne nRN]
            refine u3.ext _ _ ?_ (fun _ z => by cases z)
            rw [upd_ne nRN]
            exact hR'
          · exact (hS2.ext u3.ext).write hN3 nN
          · rw [upd_same, take_succ es, List.flatMap_append, List.flatMap_singleton, ← List.cons_append, List.map_append, List.append_assoc]
            rw [hyl]
            rfl
      · rintro σ H' ⟨u, rfl, uH, hR', hS', hN'⟩
        have eb : (bs.map V.ref).length = (Co07.shares st).length := by rw [List.length_map]; exact hSh.len
        rw [eb, List.take_length] at hN'
        refine ⟨_, rfl, hA H' N (by rw [e]; exact DA.up uH) N0 ?_⟩
        rw [e]
        exact hN'
/-! ### again -/
theorem rise_len {limit : Nat} : ∀ (l : List Nat) (least : Nat), riseOk limit least l = true → l.length + least ≤ max limit least
  | [], least, _ => by
    show 0 + least ≤ _
    omega
  | n :: r, least, h => by
    have e : (!(decide (n < least) || decide (limit ≤ n)) && riseOk limit (n + 1) r) = true := h
    rw [Bool.and_eq_true] at e
    have h1 := rise_len r (n + 1) e.2
    have h2 : ¬ n < least ∧ ¬ limit ≤ n := by
      have := e.1
      simp only [Bool.not_eq_true', Bool.or_eq_false_iff, decide_eq_false_iff_not] at this
      exact this
    rw [List.length_cons]
    omega
theorem rise_lt {limit : Nat} : ∀ (l : List Nat) (least : Nat), riseOk limit least l = true → ∀ n ∈ l, n < limit
  | [], _, _, n, h => by simp at h
  | m :: r, least, h, n, hn => by
    have e : (!(decide (m < least) || decide (limit ≤ m)) && riseOk limit (m + 1) r) = true := h
    rw [Bool.and_eq_true] at e
    rcases List.mem_cons.mp hn with z | z
    · have := e.1
      simp only [Bool.not_eq_true', Bool.or_eq_false_iff, decide_eq_false_iff_not] at this
      omega
    · exact rise_lt r (m + 1) e.2 n z
theorem getD_some {α : Type} {l : List α} {i : Nat} {x d : α} (h : l[i]? = some x) : l.getD i d = x := by
  rw [List.getD_eq_getElem?_getD, h]
  rfl
theorem sum_pick {l m : List Rat} (hl : l.length = m.length) (h : ∀ (i : Nat) (x y : Rat), l[i]? = some x → m[i]? = some y → 0 ≤ x ∧ x ≤ y) : ∀ ns : List Nat, (∀ n ∈ ns, n < l.length) → 0 ≤ Co07.sum (ns.map fun (i : Nat) => l.getD i 0) ∧ Co07.sum (ns.map fun (i : Nat) => l.getD i 0) ≤ Co07.sum (ns.map fun (i : Nat) => m.getD i 0)
  | [], _ => ⟨Rat.le_refl, Rat.le_refl⟩
  | n :: r, hn => by
    obtain ⟨a, b⟩ := sum_pick hl h r fun x hx => hn x (List.mem_cons_of_mem _ hx)
    have n1 := hn n (List.mem_cons_self ..)
    have e1 := List.getElem?_eq_getElem n1
    have n2 : n < m.length := by omega
    have e2 := List.getElem?_eq_getElem n2
    obtain ⟨c, d⟩ := h n _ _ e1 e2
    rw [List.map_cons, List.map_cons, sum_cons, sum_cons, getD_some e1, getD_some e2]
    exact ⟨by grind, by grind⟩
def spAgain (T : List (Addr × Str)) (K : PySem.W.Frag) (CD CC : Addr) : Sp := fun vs H Q _ => ∃ (H0 : Hp) (d : Addr) (st : Co07.St) (k : Nat) (pl : Addr) (ns : List Nat), vs = [.ref d, .int (k : Int), .ref pl] ∧ SqL K H pl (ns.map fun (n : Nat) => V.int (n : Int)) ∧ DeskAt T K CD CC H0 H d st ∧ Ans T K CD CC H0 d (Co07.step st (.again k ns)) Q
/-- [xs[place] for place in places] -/
theorem lc_pick {K : PySem.W.Frag} {pl D : Addr} {xs : List V} {qs : List Rat} {ns : List Nat} {te : TE} {j : Nat} {σ : L2.St} {H1 : Hp} {Qd : Hp → Prop} (hS : SqL K H1 pl (ns.map fun (n : Nat) => V.int (n : Int))) (hA : Amts K H1 xs qs) (hlen : ns.length ≤ 8) (hn : ∀ n ∈ ns, n < qs.length) (hD : H1 D = Option.none)
    (step : ∀ (n : Nat) (v : V) (H' : Hp), xs[n]? = some v → Same H1 H' → ∀ R : VK, R v H' → te ((wipe σ [j]).set j (some (.int (n : Int)))) H' R)
    (fin : ∀ (H' : Hp) (ys : List V), Same H1 H' → H' D = some (.lst ys) → Amts K H' ys (ns.map fun (i : Nat) => qs.getD i 0) → Qd H') :
    ∃ W : Nat → Nat → Hp → Prop, (∃ m, W 0 m (upd H1 D (.lst []))) ∧ ∀ i m H, W i m H →
      ((Itl K pl).stop i H ∧ Qd H) ∨ ((Itl K pl).go i H ∧ ∃ Nx : Hp → Prop, (∀ H', Nx H' → ∃ m', m' < m ∧ W (i + 1) m' H') ∧ ∀ x H', (Itl K pl).yld i H x H' → gName j x (wipe σ [j]) H' fun σ2 H2 => wipe σ2 [j] = wipe σ [j] ∧ tYes σ2 H2 fun b H3 =>
        if b = true then te σ2 H3 fun y H4 => ∃ acc, H4 D = some (.lst acc) ∧ acc.length < sizeLine ∧ Nx (upd H4 D (.lst (acc ++ [y]))) else Nx H3) := by
  refine lc_list (K := K) (a := pl) (xs := ns.map fun (n : Nat) => V.int (n : Int)) (fun i H' => Same H1 H' ∧ ∃ acc, H' D = some (.lst acc) ∧ Amts K H' acc ((ns.take i).map fun (i : Nat) => qs.getD i 0)) ⟨same_new hD, [], upd_same, Amts.nil⟩ (fun i H' _ ⟨s1, _⟩ => s1.seq hS) ?_ ?_
  · rintro i x H' hi ⟨s1, acc, hacc, hAc⟩
    rw [List.getElem?_map] at hi
    cases e : ns[i]? with
    | none =>
      rw [e] at hi
      cases hi
    | some n =>
      rw [e] at hi
      cases hi
      have nl := hn n (List.mem_of_getElem? e)
      have nx : n < xs.length := by rw [hA.len]; exact nl
      refine ⟨?_, ?_⟩
      · show ((σ.set j none).set j (some (.int (n : Int)))).set j none = σ.set j none
        rw [List.set_set, List.set_set]
      · unfold tYes
        refine iteT (step n xs[n] H' (List.getElem?_eq_getElem nx) s1 _ ?_)
        have am : Amt K H1 xs[n] qs[n] := hA.at_ n _ _ (List.getElem?_eq_getElem nx) (List.getElem?_eq_getElem nl)
        refine ⟨acc, hacc, ?_, same_write s1 hD, acc ++ [xs[n]], upd_same, ?_⟩
        · have h1 := hAc.len
          rw [List.length_map, List.length_take] at h1
          exact Nat.lt_of_le_of_lt (show acc.length ≤ 8 by omega) (by decide)
        · rw [take_succ e, List.map_append]
          have eg : qs.getD n 0 = qs[n] := getD_some (List.getElem?_eq_getElem nl)
          show Amts K _ _ (_ ++ [qs.getD n 0])
          rw [eg]
          exact (tk_lst hacc).amts (hAc.snoc (am.same s1))
  · rintro H' ⟨s1, acc, hacc, hAc⟩
    rw [List.length_map, List.take_length] at hAc
    exact fin H' acc s1 hacc hAc
theorem ok_again {f fC : Addr} {fd fdC : FuncData} (F : Fun K "again" "Desk.again" sAgain f fd) (X : Txt K mg CD CC) (GC : FnOk P w K mg base CX0 9 fC fdC ["self"] (spCS T K CD CC)) (bC : Binds K fdC ["self"] []) (mC : Meth K CD "class_shares" fC) (GB : Has P w K mg base "rise_below" 1 ["numbers", "limit"] (spRise K))
    (GT : Has P w K mg base "together" 4 ["amounts"] (spTog K)) (GR : Has P w K mg base "shares_by_rule" 8 ["rule", "claims", "has"] (spShare T K)) (GD : Has P w K mg base "told" 1 ["amounts"] (spTold K)) : FnOk P w K mg base CX0 10 f fd ["self", "k", "places"] (spAgain T K CD CC) := by
  have sc : FnScope ["self", "k", "places", "one", "shares", "has", "claims", "place"] ["self", "k", "places"] (defScope sAgain) := ⟨rfl, rfl, rfl, by decide +kernel, rfl, by decide +kernel, by decide +kernel⟩
  refine F.ok sc (fun vs H Q E h => ?_) (fun cdv A outer s H vs Q E hr h => ?_)
  · obtain ⟨H0, d, st, k, pl, ns, rfl, _⟩ := h
    rfl
  · obtain ⟨H0, d, st, k, pl, ns, rfl, hpl, DA, hA⟩ := h
    obtain ⟨dx, L, v, ps, ls, D⟩ := id DA
    have hr1 : Room 1 _ := hr.mono (by decide)
    have hr4 : Room 4 _ := hr.mono (by decide)
    have hr8 : Room 8 _ := hr.mono (by decide)
    refine ⟨_, pss_cons (ps_if (pt_cmpR op_ge (pv 1) (pe_callB call_len_seq (by rfl) X.len PySem.boot_len (pa_cons (pe_fld (pv 0) rfl) pa_nil)) (nomark _)) (pss_one (ps_ret (pe_lst (pa_cons (pe_num (by rfl) X.ns) pa_nil)))) pss_nil)
      (pss_cons (ps_set (i := 3) sc.nd rfl (Or.inr rfl) (pe_ix ix_list (pe_fld (pv 0) rfl) (pv 1) (fun _ _ => rfl)))
      (pss_cons (ps_if (pt_not (pt_val (pe_has GB hr1 rfl (pa_cons (pv 2) (pa_cons (pe_callB call_len_seq (by rfl) X.len PySem.boot_len (pa_cons (pe_fld (pv 3) rfl) pa_nil)) pa_nil))))) (pss_one (ps_ret (pe_lst (pa_cons (pe_num (by rfl) X.wn) pa_nil)))) pss_nil)
      (pss_cons (ps_set (i := 4) sc.nd rfl (Or.inr rfl) (pe_ix ix_list (pe_meth0 (pv 0) X.cD mC GC hr bC .nil pass0) (pv 1) (fun _ _ => rfl)))
      (pss_cons (ps_set (i := 5) sc.nd rfl (Or.inl rfl) (pe_has GT hr4 rfl (pa_cons (pe_lc (own := [("place", 7)]) (g := gName 7) (tt := tYes) (te := tOp (rIxL K) (tVar 4) (tVar 7)) rfl sc.nd (pi_list (pv 2)) (blkOk_by (N := ["self", "k", "places", "one", "shares", "has", "claims", "place"]) (sc := defScope sAgain) (by decide +kernel))
        (fun _ _ _ _ _ => pg_name (i := 7) sc.nd rfl (Or.inl rfl)) (fun _ _ _ _ _ => pts_nil) (fun _ _ _ _ _ => pe_ix ix_list (pv 4) (pv 7) (fun _ _ => rfl))) pa_nil)))
      (pss_cons (ps_setLc (i := 6) (own := [("place", 7)]) (g := gName 7) (tt := tYes) (te := tOp (rIxL K) (tFld K (tVar 3) "claims") (tVar 7)) rfl sc.nd rfl rfl (sw_true rfl rfl rfl (by decide +kernel)) (pi_list (pv 2)) (blkOk_by (N := ["self", "k", "places", "one", "shares", "has", "claims", "place"]) (sc := defScope sAgain) (by decide +kernel))
        (fun _ _ _ _ _ => pg_name (i := 7) sc.nd rfl (Or.inl rfl)) (fun _ _ _ _ _ => pts_nil) (fun _ _ _ _ _ => pe_ix ix_list (pe_fld (pv 3) rfl) (pv 7) (fun _ _ => rfl)))
      (pss_one (ps_ret (pe_has GD hr1 rfl (pa_cons (pe_has GR hr8 rfl (pa_cons (pe_fld (pv 3) rfl) (pa_cons (pv 6) (pa_cons (pv 5) pa_nil)))) pa_nil))))))))), ?_⟩
    have hlp : (ps.map V.ref).length = st.classes.length := by rw [List.length_map]; exact D.lp
    refine ⟨_, rfl, _, rfl, d, CD, dx, _, _, rfl, D.hd, X.cD, X.nCl, df_classes _ _, L, ps.map V.ref, rfl, .inl (SqL.of D.hL), _, _, rfl, rfl, _, rfl, ?_⟩
    rw [hlp]
    refine ite2 (fun q => ?_) (fun q => ?_)
    · have q' := of_decide_eq_true q
      have e : Co07.step st (.again k ns) = (st, [-2]) := by
        show (st, if st.classes.length ≤ k then [-2] else _) = _
        rw [if_pos (by omega)]
      refine ⟨(by show 1 ≤ sizeLine; decide), fun c hc => ?_⟩
      exact ans1 DA hA (by rw [e]) (by rw [e]) hc
    have kl : k < st.classes.length := by
      have : ¬ ((st.classes.length : Int) ≤ (k : Int)) := fun z => q (decide_eq_true z)
      omega
    obtain ⟨p, l, dc, xs, c, hp, hl, hc, hP, hX, hAm, hok, hgd, hco⟩ := D.cls_at kl
    have C := hok.1
    have hxl := hAm.len
    have hps : (ps.map V.ref)[k]? = some (.ref p) := by rw [List.getElem?_map, hp]; rfl
    refine ⟨_, rfl, d, CD, dx, _, _, rfl, D.hd, X.cD, X.nCl, df_classes _ _, _, rfl, L, ps.map V.ref, (k : Int), .ref p, rfl, rfl, SqL.of D.hL, atI_nat hps, ?_⟩
    refine ⟨_, rfl, _, rfl, p, CC, dc, _, _, rfl, hP, X.cC, X.nCm, cf_claims _ _, l, xs, rfl, .inl (SqL.of hX), pl, ns, c.claims.length, (by rw [hxl]; rfl), hpl, _, rfl, ?_⟩
    cases hR : riseOk c.claims.length 0 ns with
    | false =>
      refine iteT ?_
      have e : Co07.step st (.again k ns) = (st, [-1]) := by
        show (st, if st.classes.length ≤ k then [-2] else if Co07.rises ns = false ∨ (ns.any fun (i : Nat) => decide ((Co07.claimsOf st k).length ≤ i)) = true then [-1] else _) = _
        rw [if_neg (by omega), hco, if_pos]
        refine Classical.byContradiction fun n => ?_
        have n1 : Co07.rises ns = true := by
          cases z : Co07.rises ns with
          | true => rfl
          | false => exact absurd (.inl z) n
        have n2 : (ns.any fun (i : Nat) => decide (c.claims.length ≤ i)) = false := by
          cases z : (ns.any fun (i : Nat) => decide (c.claims.length ≤ i)) with
          | true => exact absurd (.inr z) n
          | false => rfl
        rw [(riseOk_is c.claims.length ns 0).mpr ⟨fun _ _ _ => Nat.zero_le _, n1, n2⟩] at hR
        cases hR
      refine ⟨(by show 1 ≤ sizeLine; decide), fun c hc => ?_⟩
      exact ans1 DA hA (by rw [e]) (by rw [e]) hc
    | true =>
      refine iteF ?_
      obtain ⟨_, n1, n2⟩ := (riseOk_is c.claims.length ns 0).mp hR
      have nlen : ns.length ≤ 8 := by
        have h1 := rise_len ns 0 hR
        have h2 := C.len
        omega
      have nlt := rise_lt ns 0 hR
      obtain ⟨sl, sk⟩ := shares_ok D.ok
      obtain ⟨x, ex, x0, x1, xz⟩ := sk k c hc
      have e : Co07.step st (.again k ns) = (st, tell (within c.method (ns.map fun (i : Nat) => c.claims.getD i 0) (Co07.sum (ns.map fun (i : Nat) => (within c.method c.claims x).getD i 0)))) := by
        show (st, if st.classes.length ≤ k then [-2] else if Co07.rises ns = false ∨ (ns.any fun (i : Nat) => decide ((Co07.claimsOf st k).length ≤ i)) = true then [-1] else (ns.length : Int) :: (Co07.within (st.classes.getD k ⟨0, []⟩).method (ns.map fun (i : Nat) => (Co07.claimsOf st k).getD i 0) (Co07.sum (ns.map fun (i : Nat) => ((Co07.shares st).getD k []).getD i 0))).flatMap Co07.fraction) = _
        rw [if_neg (by omega), hco, if_neg (by
          rintro (z | z)
          · rw [n1] at z
            cases z
          · rw [n2] at z
            cases z), hgd, getD_some ex, ← within_is]
        · unfold tell
          rw [within_len, List.length_map]
        · intro q hq
          obtain ⟨i, hi, rfl⟩ := List.mem_map.mp hq
          rw [getD_some (List.getElem?_eq_getElem (nlt i hi))]
          exact C.pos _ (List.getElem_mem _)
      -- shares = self.class_shares()[k]
      refine ⟨_, rfl, d, dx, _, rfl, D.hd, df_no _ _ (by decide +kernel) (by decide +kernel), H0, d, st, rfl, DA, fun H1 R bs u1 fR fbs hRl hSh => ?_⟩
      have kb : k < bs.length := by rw [hSh.len, sl]; exact kl
      have eb : bs[k]? = some bs[k] := List.getElem?_eq_getElem kb
      generalize hbk : bs[k] = b at eb
      obtain ⟨ys, hb, hB⟩ := hSh.at_ k b _ eb ex
      have hbs : (bs.map V.ref)[k]? = some (.ref b) := by rw [List.getElem?_map, eb]; rfl
      refine ⟨_, rfl, R, bs.map V.ref, (k : Int), .ref b, rfl, rfl, up_lst hRl, atI_nat hbs, ?_⟩
      have hP1 : H1 p = some (.ins CC dc (cf c.method l)) := u1.ext _ _ hP (fun _ z => by cases z)
      have hX1 : H1 l = some (.lst xs) := u1.ext _ _ hX (fun _ z => by cases z)
      have wl : (within c.method c.claims x).length = c.claims.length := within_len _ _ _
      have hyl : ys.length = c.claims.length := by rw [hB.len, wl]
      -- has = together([shares[place] for place in places])
      refine ⟨_, rfl, pl, rfl, ⟨_, ext_lst u1.ext hpl⟩, fun D2 hD2 => lc_pick (ext_lst u1.ext hpl) hB nlen (fun n hn => by rw [wl]; exact nlt n hn) hD2 (fun n v H' hv s2 R2 hR2 => ⟨_, rfl, _, rfl, b, ys, (n : Int), v, rfl, rfl, s2.seq (up_lst hb), atI_nat hv, hR2⟩) fun H2 zs s2 hz hZ => ?_⟩
      obtain ⟨p0, p1⟩ := sum_pick (l := within c.method c.claims x) (m := c.claims) wl (fun i q r h1 h2 => by
        rw [within_map, List.getElem?_map, h2] at h1
        cases h1
        obtain ⟨a, b', _⟩ := each_ok (r := c.method) C x0 x1 xz (List.mem_of_getElem? h2)
        exact ⟨a, b'⟩) ns (fun n hn => by rw [wl]; exact nlt n hn)
      have gz : ∀ q ∈ ns.map (fun (i : Nat) => (within c.method c.claims x).getD i 0), 0 ≤ q ∧ Sz 888 q := fun q hq => by
        obtain ⟨i, hi, rfl⟩ := List.mem_map.mp hq
        have il : i < (within c.method c.claims x).length := by rw [wl]; exact nlt i hi
        rw [getD_some (List.getElem?_eq_getElem il)]
        exact (shares_each D.ok ex).2 _ (List.getElem_mem il)
      have gl : (ns.map (fun (i : Nat) => (within c.method c.claims x).getD i 0)).length ≤ 8 := by rw [List.length_map]; exact nlen
      have gsz : Sz 7113 (Co07.sum (ns.map fun (i : Nat) => (within c.method c.claims x).getD i 0)) := sz_sum8 (n := 888) gl fun q hq => (gz q hq).2
      refine ⟨D2, zs, _, 888, rfl, up_lst hz, hZ, gl, gz, by decide, fun H3 vh s3 hvh => ?_⟩
      have s23 := s2.trans s3
      have hpl3 : SqL K H3 pl (ns.map fun (n : Nat) => V.int (n : Int)) := s23.seq (ext_lst u1.ext hpl)
      -- claims = [one.claims[place] for place in places]
      refine ⟨_, rfl, pl, rfl, ⟨_, hpl3⟩, fun D4 hD4 => lc_pick hpl3 ((hAm.ext u1.ext).ext (LamX.ExtN.of s23)) nlen nlt hD4 (fun n v H' hv s4 R2 hR2 => ⟨_, rfl, p, CC, dc, _, _, rfl, s4 _ _ (s23 _ _ hP1), X.cC, X.nCm, cf_claims _ _, _, rfl, l, xs, (n : Int), v, rfl, rfl, up_lst (s4 _ _ (s23 _ _ hX1)), atI_nat hv, hR2⟩) fun H4 cs s4 hcs hCs => ?_⟩
      have CQ : Claims (ns.map fun (i : Nat) => c.claims.getD i 0) := by
        have mem : ∀ q ∈ ns.map (fun (i : Nat) => c.claims.getD i 0), q ∈ c.claims := fun q hq => by
          obtain ⟨i, hi, rfl⟩ := List.mem_map.mp hq
          rw [getD_some (List.getElem?_eq_getElem (nlt i hi))]
          exact List.getElem_mem _
        exact ⟨by rw [List.length_map]; exact nlen, fun q hq => C.pos q (mem q hq), fun q hq => C.sz q (mem q hq)⟩
      have s24 := s23.trans s4
      -- told(shares_by_rule(one.rule, claims, has))
      refine ⟨_, rfl, p, CC, dc, _, _, rfl, s24 _ _ hP1, X.cC, X.nRu, cf_rule _ _, _, rfl, _, rfl, c.method, D4, cs, _, vh, _, 7113, rfl, up_lst hcs, hCs, CQ, (u1.tab D.tab).ext s24, hvh.same s4, p0, p1, gsz, by decide, fun H5 t zs5 u5 f5 ht hT5 => ?_⟩
      refine ⟨t, zs5, _, rfl, up_lst ht, hT5, by rw [within_len, List.length_map]; omega, fun H6 g s6 hg hG => ?_⟩
      have u06 : Up T H H6 := u1.trans ((Up.same s24).trans (u5.trans (Up.same s6)))
      refine hA H6 g (by rw [e]; exact DA.up u06) ?_ (by rw [e]; exact hG)
      exact (Fr.of ((u1.trans ((Up.same s24).trans u5)).ext) hg).out DA
end
end Cs

set_option Elab.async false
set_option linter.all false
set_option maxRecDepth 100000
set_option maxHeartbeats 2000000
namespace Cs
open PySem L2
/-! ### calls as numbers -/
inductive PC : List Int → Co07.Call → Prop
  | new (m : Nat) : PC [0, (m : Int)] (.class_ m)
  | claim (k a b : Nat) : a ≤ 1000000 → b ≤ 1000000 → PC [1, (k : Int), (a : Int), (b : Int)] (.claim k a b)
  | there (a b : Nat) : a ≤ 1000000 → b ≤ 1000000 → PC [2, (a : Int), (b : Int)] (.there a b)
  | share : PC [3] .share
  | whole : PC [4] .whole
  | again (k m : Nat) (ns : List Nat) : PC (5 :: (k : Int) :: (m : Int) :: ns.map fun (n : Nat) => (n : Int)) (.again k ns)
  | drop (k i : Nat) : PC [6, (k : Int), (i : Int)] (.drop k i)
/-- how many numbers the call at the head of a list has, as the program reckons it -/
def sizes : List Int := [2, 4, 3, 1, 1, 3, 3]
structure SzAt (l : List Int) (size : Nat) : Prop where
  ex : ∃ (j : Nat) (b : Nat), l[0]? = some (j : Int) ∧ sizes[j]? = some (b : Int) ∧ ((j ≠ 5 ∧ size = b) ∨ (j = 5 ∧ ∃ m : Nat, l[2]? = some (m : Int) ∧ size = b + m))
theorem nat_of {x : Int} (h : 0 ≤ x ∧ x ≤ 1000000) : ∃ n : Nat, x = (n : Int) ∧ n ≤ 1000000 := ⟨x.toNat, by omega, by omega⟩
theorem nats_of : ∀ {l : List Int}, (∀ x ∈ l, 0 ≤ x ∧ x ≤ 1000000) → l = (l.map Int.toNat).map fun (n : Nat) => (n : Int)
  | [], _ => rfl
  | x :: l, h => by
    have h1 := h x (List.mem_cons_self ..)
    have e : x = ((x.toNat : Nat) : Int) := by omega
    rw [List.map_cons, List.map_cons, ← e, ← nats_of fun y hy => h y (List.mem_cons_of_mem _ hy)]
/-- one call -/
structure OneCall (l : List Int) (c : List (List Int)) (t : List Int) (x : Co07.Call) (size : Nat) : Prop where
  step : ∀ s : Co07.St, Co07Neutral.step s ((PyCo07.whole c).headD []) = Co07.step s x
  pc : PC (l.take size) x
  rest : t = l.drop size
  pos : 1 ≤ size
  le : size ≤ l.length
  sz : SzAt l size
theorem callOf_some {l : List Int} (h : Co07Neutral.asked1 l = true) : ∃ x, Co07Neutral.callIn l = some x ∧ ∀ s : Co07.St, Co07Neutral.step s l = Co07.step s x := by
  unfold Co07Neutral.asked1 at h
  cases e : Co07Neutral.callOf l with
  | none =>
    rw [e] at h
    cases h
  | some x =>
    refine ⟨x, ?_, fun s => ?_⟩
    · unfold Co07Neutral.callOf at e
      split at e
      · exact e
      · cases e
    · unfold Co07Neutral.step
      rw [e]
theorem one_call {p : Int} {r : List Int} {c : List (List Int)} {t : List Int} (hc : PyFlat.call PyCo07.shape (p :: r) = some (c, t)) (hb : ∀ x ∈ p :: r, 0 ≤ x ∧ x ≤ 1000000) (ha : Co07Neutral.asked1 ((PyCo07.whole c).headD []) = true) : ∃ x size, OneCall (p :: r) c t x size := by
  have hb' : ∀ x ∈ r, 0 ≤ x ∧ x ≤ 1000000 := fun x hx => hb x (List.mem_cons_of_mem _ hx)
  have hc' : (match PyCo07.shape p with
    | none => none
    | some (n, k) => if r.length < n then none else match PyFlat.rows k (r.drop n) with
      | none => none
      | some (xs, t) => some ((p :: r.take n) :: xs, t)) = some (c, t) := hc
  unfold PyCo07.shape at hc'
  by_cases p0 : p = 0
  · subst p0
    match r, hb', hc' with
    | [], _, hc' => simp at hc'
    | x0 :: r, hb', hc' =>
      have e : (c, t) = ([[0, x0]], r) := by simpa [PyFlat.rows] using hc'.symm
      cases e
      obtain ⟨m, rfl, _⟩ := nat_of (hb' x0 (List.mem_cons_self ..))
      obtain ⟨x, hx, hs⟩ := callOf_some ha
      cases hx
      exact ⟨_, 2, hs, PC.new m, rfl, by decide, by simp, ⟨0, 2, rfl, rfl, .inl ⟨by decide, rfl⟩⟩⟩
  by_cases p1 : p = 1
  · subst p1
    match r, hb', hc' with
    | [], _, hc' => simp at hc'
    | [_], _, hc' => simp at hc'
    | [_, _], _, hc' => simp at hc'
    | x0 :: x1 :: x2 :: r, hb', hc' =>
      have e : (c, t) = ([[1, x0, x1, x2]], r) := by simpa [PyFlat.rows] using hc'.symm
      cases e
      obtain ⟨k, rfl, _⟩ := nat_of (hb' x0 (by simp))
      obtain ⟨a, rfl, a6⟩ := nat_of (hb' x1 (by simp))
      obtain ⟨b, rfl, b6⟩ := nat_of (hb' x2 (by simp))
      obtain ⟨x, hx, hs⟩ := callOf_some ha
      cases hx
      exact ⟨_, 4, hs, PC.claim k a b a6 b6, rfl, by decide, by simp, ⟨1, 4, rfl, rfl, .inl ⟨by decide, rfl⟩⟩⟩
  by_cases p2 : p = 2
  · subst p2
    match r, hb', hc' with
    | [], _, hc' => simp at hc'
    | [_], _, hc' => simp at hc'
    | x0 :: x1 :: r, hb', hc' =>
      have e : (c, t) = ([[2, x0, x1]], r) := by simpa [PyFlat.rows] using hc'.symm
      cases e
      obtain ⟨a, rfl, a6⟩ := nat_of (hb' x0 (by simp))
      obtain ⟨b, rfl, b6⟩ := nat_of (hb' x1 (by simp))
      obtain ⟨x, hx, hs⟩ := callOf_some ha
      cases hx
      exact ⟨_, 3, hs, PC.there a b a6 b6, rfl, by decide, by simp, ⟨2, 3, rfl, rfl, .inl ⟨by decide, rfl⟩⟩⟩
  by_cases p3 : p = 3
  · subst p3
    have e : (c, t) = ([[3]], r) := by simpa [PyFlat.rows] using hc'.symm
    cases e
    obtain ⟨x, hx, hs⟩ := callOf_some ha
    cases hx
    exact ⟨_, 1, hs, PC.share, rfl, by decide, by simp, ⟨3, 1, rfl, rfl, .inl ⟨by decide, rfl⟩⟩⟩
  by_cases p4 : p = 4
  · subst p4
    have e : (c, t) = ([[4]], r) := by simpa [PyFlat.rows] using hc'.symm
    cases e
    obtain ⟨x, hx, hs⟩ := callOf_some ha
    cases hx
    exact ⟨_, 1, hs, PC.whole, rfl, by decide, by simp, ⟨4, 1, rfl, rfl, .inl ⟨by decide, rfl⟩⟩⟩
  by_cases p5 : p = 5
  · subst p5
    match r, hb', hc' with
    | [], _, hc' => simp at hc'
    | [_], _, hc' => simp [PyFlat.rows, PyFlat.row] at hc'
    | x0 :: m0 :: r, hb', hc' =>
      obtain ⟨k, rfl, _⟩ := nat_of (hb' x0 (by simp))
      obtain ⟨m, rfl, _⟩ := nat_of (hb' m0 (by simp))
      by_cases hm : m ≤ r.length
      · have e : (c, t) = ([[5, (k : Int)], r.take m], r.drop m) := by simpa [PyFlat.rows, PyFlat.row, hm] using hc'.symm
        cases e
        have hr : ∀ x ∈ r.take m, 0 ≤ x ∧ x ≤ 1000000 := fun x hx => hb' x (by simp [List.mem_of_mem_take hx])
        have ha' : Co07Neutral.asked1 (5 :: (k : Int) :: r.take m) = true := ha
        obtain ⟨x, hx, hs⟩ := callOf_some ha'
        have hx' : (if (r.take m).length ≤ 10 then some (Co07.Call.again (k : Int).toNat ((r.take m).map Int.toNat)) else none) = some x := hx
        split at hx'
        · cases hx'
          refine ⟨_, 3 + m, hs, ?_, ?_, by omega, ?_, ⟨5, 3, rfl, rfl, .inr ⟨rfl, m, rfl, rfl⟩⟩⟩
          · have e1 : (5 :: (k : Int) :: (m : Int) :: r).take (3 + m) = 5 :: (k : Int) :: (m : Int) :: r.take m := by
              rw [Nat.add_comm]
              rfl
            rw [e1]
            have e2 := nats_of hr
            have pc := PC.again k m ((r.take m).map Int.toNat)
            rw [← e2] at pc
            exact pc
          · rw [Nat.add_comm]
            rfl
          · simp
            omega
        · cases hx'
      · simp [PyFlat.rows, PyFlat.row, hm] at hc'
  by_cases p6 : p = 6
  · subst p6
    match r, hb', hc' with
    | [], _, hc' => simp at hc'
    | [_], _, hc' => simp at hc'
    | x0 :: x1 :: r, hb', hc' =>
      have e : (c, t) = ([[6, x0, x1]], r) := by simpa [PyFlat.rows] using hc'.symm
      cases e
      obtain ⟨k, rfl, _⟩ := nat_of (hb' x0 (by simp))
      obtain ⟨i, rfl, _⟩ := nat_of (hb' x1 (by simp))
      obtain ⟨x, hx, hs⟩ := callOf_some ha
      cases hx
      exact ⟨_, 3, hs, PC.drop k i, rfl, by decide, by simp, ⟨6, 3, rfl, rfl, .inl ⟨by decide, rfl⟩⟩⟩
  · simp [p0, p1, p2, p3, p4, p5, p6] at hc'
/-! ### what is still to be answered -/
def stepF : Co07.St → List (List Int) → Co07.St × List Int := fun s c => Co07Neutral.step s (c.headD [])
structure Left (l : List Int) (st : Co07.St) (out : List Int) : Prop where
  ex : ∃ (f : Nat) (raw : List (List (List Int))), PyFlat.calls PyCo07.shape f l = some raw ∧ (∀ c ∈ raw, Co07Neutral.asked1 ((PyCo07.whole c).headD []) = true) ∧ PyFlat.told (PyFlat.played stepF st (raw.map PyCo07.whole)) = out
theorem left_nil {st : Co07.St} {out : List Int} (L : Left [] st out) : out = [] := by
  obtain ⟨f, raw, h1, _, h3⟩ := L.ex
  have e : PyFlat.calls PyCo07.shape f [] = some [] := by cases f <;> rfl
  rw [e] at h1
  cases h1
  rw [← h3]
  rfl
theorem left_cons {p : Int} {r : List Int} {st : Co07.St} {out : List Int} (L : Left (p :: r) st out) (hb : ∀ x ∈ p :: r, 0 ≤ x ∧ x ≤ 1000000) :
    ∃ c t x size out', OneCall (p :: r) c t x size ∧ Left t (Co07.step st x).1 out' ∧ out = ((Co07.step st x).2.length : Int) :: (Co07.step st x).2 ++ out' := by
  obtain ⟨f, raw, h1, h2, h3⟩ := L.ex
  match f, h1 with
  | 0, h1 => cases h1
  | f + 1, h1 =>
    have h1' : (match PyFlat.call PyCo07.shape (p :: r) with
      | none => none
      | some (c, t) => match PyFlat.calls PyCo07.shape f t with
        | none => none
        | some cs => some (c :: cs)) = some raw := h1
    cases hc : PyFlat.call PyCo07.shape (p :: r) with
    | none =>
      rw [hc] at h1'
      cases h1'
    | some ct =>
      obtain ⟨c, t⟩ := ct
      rw [hc] at h1'
      have h1'' : (match PyFlat.calls PyCo07.shape f t with
        | none => none
        | some cs => some (c :: cs)) = some raw := h1'
      cases hcs : PyFlat.calls PyCo07.shape f t with
      | none =>
        rw [hcs] at h1''
        cases h1''
      | some cs =>
        rw [hcs] at h1''
        cases h1''
        obtain ⟨x, size, o⟩ := one_call hc hb (h2 c (List.mem_cons_self ..))
        refine ⟨c, t, x, size, PyFlat.told (PyFlat.played stepF (Co07.step st x).1 (cs.map PyCo07.whole)), o, ⟨f, cs, hcs, fun d hd => h2 d (List.mem_cons_of_mem _ hd), rfl⟩, ?_⟩
        rw [← h3]
        have es : stepF st (PyCo07.whole c) = Co07.step st x := o.step st
        show PyFlat.told ((stepF st (PyCo07.whole c)).2 :: PyFlat.played stepF (stepF st (PyCo07.whole c)).1 (cs.map PyCo07.whole)) = _
        rw [es]
        rfl
/-- at the beginning -/
theorem left_all {l : List Int} (h : PyCo07.answers_asked l = true) : Left l Co07.init (PyCo07.answers l) ∧ (PyCo07.answers l).length ≤ 10000000 := by
  unfold PyCo07.answers_asked at h
  cases e : PyFlat.calls PyCo07.shape l.length l with
  | none =>
    rw [e] at h
    cases h
  | some raw =>
    rw [e] at h
    have h' : (!raw.isEmpty && PyFlat.atMost 40 raw && PyInside.calls PyCo07.bound raw && Co07Neutral.asked ((raw.map PyCo07.whole).map fun c => c.headD []) && PyFlat.short 10000000 (PyCo07.answers l)) = true := h
    rw [Bool.and_eq_true, Bool.and_eq_true] at h'
    obtain ⟨⟨_, h1⟩, h2⟩ := h'
    refine ⟨⟨l.length, raw, e, fun c hc => ?_, ?_⟩, of_decide_eq_true h2⟩
    · unfold Co07Neutral.asked at h1
      rw [Bool.and_eq_true, Bool.and_eq_true, Bool.and_eq_true] at h1
      exact List.all_eq_true.mp h1.2.2.1 _ (List.mem_map.mpr ⟨_, List.mem_map.mpr ⟨c, hc, rfl⟩, rfl⟩)
    · unfold PyCo07.answers PyCo07.calls
      rw [e]
      rfl
end Cs

set_option Elab.async false
set_option linter.all false
set_option maxRecDepth 100000
set_option maxHeartbeats 2000000
namespace Cs
open PySem PySem.Spec PyProof.Rows L2
abbrev sSize : Stmt := top 45
abbrev sAnswer : Stmt := top 46
abbrev sAnswers : Stmt := top 47
structure Txt2 (K : PySem.W.Frag) (mg : Str → Option Value) : Prop where
  c0 : ∃ t, mg "NEW_CLASS" = some (.int 0 t)
  c1 : ∃ t, mg "CLAIM" = some (.int 1 t)
  c2 : ∃ t, mg "THERE" = some (.int 2 t)
  c3 : ∃ t, mg "SHARE" = some (.int 3 t)
  c4 : ∃ t, mg "WHOLE" = some (.int 4 t)
  c5 : ∃ t, mg "AGAIN" = some (.int 5 t)
  cs : ∃ z : Addr, mg "CALL_SIZES" = some (.ref z) ∧ ∀ H : Hp, SqT K H z (sizes.map V.int)
/-! ### slices -/
theorem cut_drop {xs : List V} {k : Nat} (h : k ≤ xs.length) : cutV xs (some (k : Int)) none = xs.drop k := by
  unfold cutV
  rw [HT.sIx_none, HT.sIx_nat, Nat.min_eq_left h]
  exact List.take_of_length_le (by rw [List.length_drop]; omega)
theorem cut_mid {xs : List V} {k m : Nat} (h : k + m ≤ xs.length) : cutV xs (some (k : Int)) (some ((k : Int) + (m : Int))) = (xs.drop k).take m := by
  unfold cutV
  have e : (k : Int) + (m : Int) = ((k + m : Nat) : Int) := by omega
  rw [e, HT.sIx_nat, HT.sIx_nat, Nat.min_eq_left h, Nat.min_eq_left (by omega)]
  congr 1
  omega
/-! ### call_size -/
def spSize (K : PySem.W.Frag) : Sp := fun vs H Q _ => ∃ (a : Addr) (ns : List Int) (place size : Nat), vs = [.ref a, .int (place : Int)] ∧ SqL K H a (ns.map V.int) ∧ SzAt (ns.drop place) size ∧ Q (.int (size : Int)) H
section
variable {P : Program} {w : World} {K : PySem.W.Frag} {mg : Str → Option Value} {base : Heap} {T : List (Addr × Str)} {CD CC : Addr}
theorem ok_size {f : Addr} {fd : FuncData} (F : Fun K "call_size" "call_size" sSize f fd) (Y : Txt2 K mg) : FnOk P w K mg base CX0 1 f fd ["calls", "place"] (spSize K) := by
  have sc : FnScope ["calls", "place", "size"] ["calls", "place"] (defScope sSize) := ⟨rfl, rfl, rfl, by decide +kernel, rfl, by decide +kernel, by decide +kernel⟩
  refine F.ok sc (fun vs H Q E h => ?_) (fun cdv A outer s H vs Q E hr h => ?_)
  · obtain ⟨a, ns, place, size, rfl, _⟩ := h
    rfl
  · obtain ⟨a, ns, place, size, rfl, hS, ⟨⟨j, b, h0, hb, hsz⟩⟩, k⟩ := h
    obtain ⟨z, mz, hz⟩ := Y.cs
    refine ⟨_, pss_cons (ps_set (i := 2) sc.nd rfl (Or.inl rfl) (pe_ix ix_tup (pe_glob (v := .ref z) rfl mz rfl) (pe_ix ix_list (pv 0) (pv 1) (fun _ _ => rfl)) (fun _ _ => rfl)))
      (pss_cons (ps_if (pt_cmpR op_eq (pe_ix ix_list (pv 0) (pv 1) (fun _ _ => rfl)) (pe_num (by rfl) Y.c5) (nomark _)) (pss_one (ps_aug (i := 2) sc.nd rfl (Or.inl rfl) (pe_ix ix_list (pv 0) (pe_op op_add (pv 1) pe_int) (fun _ _ => rfl)) ip_add)) pss_nil)
      (pss_one (ps_ret (pv 2)))), ?_⟩
    have n0 : (ns.map V.int)[place]? = some (.int (j : Int)) := by
      rw [List.getElem?_drop, Nat.add_zero] at h0
      rw [List.getElem?_map, h0]
      rfl
    have b0 : (sizes.map V.int)[j]? = some (.int (b : Int)) := by
      rw [List.getElem?_map, hb]
      rfl
    refine ⟨_, rfl, _, rfl, a, ns.map V.int, (place : Int), .int (j : Int), rfl, rfl, hS, atI_nat n0, z, sizes.map V.int, (j : Int), .int (b : Int), rfl, rfl, hz H, atI_nat b0, ?_⟩
    refine ⟨_, rfl, _, rfl, a, ns.map V.int, (place : Int), .int (j : Int), rfl, rfl, hS, atI_nat n0, rfl, _, rfl, ?_⟩
    rcases hsz with ⟨j5, rfl⟩ | ⟨j5, m, hm, rfl⟩
    · refine ite2 (fun q => ?_) (fun q => ?_)
      · have q' := V.int.inj (of_decide_eq_true q)
        exact absurd (by omega) j5
      · exact ⟨_, rfl, k⟩
    · refine ite2 (fun q => ?_) (fun q => ?_)
      · have m0 : (ns.map V.int)[place + 2]? = some (.int (m : Int)) := by
          rw [List.getElem?_drop] at hm
          rw [List.getElem?_map, hm]
          rfl
        refine ⟨_, rfl, _, rfl, _, rfl, _, _, rfl, rfl, a, ns.map V.int, ((place + 2 : Nat) : Int), .int (m : Int), rfl, rfl, hS, atI_nat m0, _, _, rfl, rfl, _, rfl, ?_⟩
        have e : (b : Int) + (m : Int) = ((b + m : Nat) : Int) := by omega
        show Q (.int ((b : Int) + (m : Int))) H
        rw [e]
        exact k
      · exact absurd (decide_eq_true (by rw [j5]; rfl)) q
/-! ### answer -/
def spAnswer (T : List (Addr × Str)) (K : PySem.W.Frag) (CD CC : Addr) : Sp := fun vs H Q _ => ∃ (H0 : Hp) (d : Addr) (st : Co07.St) (ca : Addr) (cl : List Int) (x : Co07.Call), vs = [.ref d, .ref ca] ∧ SqL K H ca (cl.map V.int) ∧ PC cl x ∧ DeskAt T K CD CC H0 H d st ∧ Ans T K CD CC H0 d (Co07.step st x) Q
/-- the methods of the desk -/
structure Ms (P : Program) (w : World) (K : PySem.W.Frag) (mg : Str → Option Value) (base : Heap) (C : Addr) (m : Str) (k : Nat) (ps : List Str) (sp : Sp) : Prop where
  ex : ∃ (f : Addr) (fd : FuncData), Meth K C m f ∧ Binds K fd ps [] ∧ FnOk P w K mg base CX0 k f fd ps sp
theorem ok_answer {f : Addr} {fd : FuncData} (F : Fun K "answer" "answer" sAnswer f fd) (X : Txt K mg CD CC) (Y : Txt2 K mg) (M0 : Ms P w K mg base CD "new_class" 9 ["self", "rule"] (spNew T K CD CC)) (M1 : Ms P w K mg base CD "claim" 9 ["self", "k", "a", "b"] (spClaim T K CD CC)) (M2 : Ms P w K mg base CD "there" 9 ["self", "a", "b"] (spThere T K CD CC))
    (M3 : Ms P w K mg base CD "share" 10 ["self"] (spShareM T K CD CC)) (M4 : Ms P w K mg base CD "whole" 10 ["self"] (spWholeM T K CD CC)) (M5 : Ms P w K mg base CD "again" 10 ["self", "k", "places"] (spAgain T K CD CC)) (M6 : Ms P w K mg base CD "drop" 9 ["self", "k", "i"] (spDrop T K CD CC)) :
    FnOk P w K mg base CX0 11 f fd ["desk", "call"] (spAnswer T K CD CC) := by
  have sc : FnScope ["desk", "call"] ["desk", "call"] (defScope sAnswer) := ⟨rfl, rfl, rfl, by decide +kernel, rfl, by decide +kernel, by decide +kernel⟩
  obtain ⟨f0, g0, m0, b0, G0⟩ := M0.ex
  obtain ⟨f1, g1, m1, b1, G1⟩ := M1.ex
  obtain ⟨f2, g2, m2, b2, G2⟩ := M2.ex
  obtain ⟨f3, g3, m3, b3, G3⟩ := M3.ex
  obtain ⟨f4, g4, m4, b4, G4⟩ := M4.ex
  obtain ⟨f5, g5, m5, b5, G5⟩ := M5.ex
  obtain ⟨f6, g6, m6, b6, G6⟩ := M6.ex
  refine F.ok sc (fun vs H Q E h => ?_) (fun cdv A outer s H vs Q E hr h => ?_)
  · obtain ⟨H0, d, st, ca, cl, x, rfl, _⟩ := h
    rfl
  obtain ⟨H0, d, st, ca, cl, x, rfl, hS, pc, DA, hA⟩ := h
  obtain ⟨dx, L, v, ps, ls, D⟩ := id DA
  have hr9 : Room 9 _ := hr.mono (by decide)
  refine ⟨_, pss_cons (ps_if (pt_cmpR op_eq (pe_ix ix_list (pv 1) pe_int (fun _ _ => rfl)) (pe_num (by rfl) Y.c0) (nomark _)) (pss_one (ps_ret (pe_meth (pv 0) X.cD m0 G0 hr9 b0 .nil pass0 (pa_cons (pe_ix ix_list (pv 1) pe_int (fun _ _ => rfl)) pa_nil)))) pss_nil)
      (pss_cons (ps_if (pt_cmpR op_eq (pe_ix ix_list (pv 1) pe_int (fun _ _ => rfl)) (pe_num (by rfl) Y.c1) (nomark _)) (pss_one (ps_ret (pe_meth (pv 0) X.cD m1 G1 hr9 b1 .nil pass0 (pa_cons (pe_ix ix_list (pv 1) pe_int (fun _ _ => rfl)) (pa_cons (pe_ix ix_list (pv 1) pe_int (fun _ _ => rfl)) (pa_cons (pe_ix ix_list (pv 1) pe_int (fun _ _ => rfl)) pa_nil)))))) pss_nil)
      (pss_cons (ps_if (pt_cmpR op_eq (pe_ix ix_list (pv 1) pe_int (fun _ _ => rfl)) (pe_num (by rfl) Y.c2) (nomark _)) (pss_one (ps_ret (pe_meth (pv 0) X.cD m2 G2 hr9 b2 .nil pass0 (pa_cons (pe_ix ix_list (pv 1) pe_int (fun _ _ => rfl)) (pa_cons (pe_ix ix_list (pv 1) pe_int (fun _ _ => rfl)) pa_nil))))) pss_nil)
      (pss_cons (ps_if (pt_cmpR op_eq (pe_ix ix_list (pv 1) pe_int (fun _ _ => rfl)) (pe_num (by rfl) Y.c3) (nomark _)) (pss_one (ps_ret (pe_meth0 (pv 0) X.cD m3 G3 hr b3 .nil pass0))) pss_nil)
      (pss_cons (ps_if (pt_cmpR op_eq (pe_ix ix_list (pv 1) pe_int (fun _ _ => rfl)) (pe_num (by rfl) Y.c4) (nomark _)) (pss_one (ps_ret (pe_meth0 (pv 0) X.cD m4 G4 hr b4 .nil pass0))) pss_nil)
      (pss_cons (ps_if (pt_cmpR op_eq (pe_ix ix_list (pv 1) pe_int (fun _ _ => rfl)) (pe_num (by rfl) Y.c5) (nomark _)) (pss_one (ps_ret (pe_meth (pv 0) X.cD m5 G5 hr b5 .nil pass0 (pa_cons (pe_ix ix_list (pv 1) pe_int (fun _ _ => rfl)) (pa_cons (pe_slice sl_list (pv 1) (po_some pe_int) po_none) pa_nil))))) pss_nil)
      (pss_one (ps_ret (pe_meth (pv 0) X.cD m6 G6 hr9 b6 .nil pass0 (pa_cons (pe_ix ix_list (pv 1) pe_int (fun _ _ => rfl)) (pa_cons (pe_ix ix_list (pv 1) pe_int (fun _ _ => rfl)) pa_nil)))))))))), ?_⟩
  cases pc
  case new m =>
    refine ⟨_, rfl, ca, _, 0, _, rfl, rfl, hS, atI_nat (j := 0) rfl, rfl, _, rfl, ite2 (fun _ => ?_) (fun q => absurd (decide_eq_true rfl) q)⟩
    exact ⟨_, rfl, d, dx, _, rfl, D.hd, df_no _ _ (by decide +kernel) (by decide +kernel), _, rfl, ca, _, 1, _, rfl, rfl, hS, atI_nat (j := 1) rfl, H0, d, st, m, rfl, DA, hA⟩
  case claim k a b ha hb =>
    refine ⟨_, rfl, ca, _, 0, _, rfl, rfl, hS, atI_nat (j := 0) rfl, rfl, _, rfl, ite2 (fun q => absurd (V.int.inj (of_decide_eq_true q)) (by decide)) (fun _ => ?_)⟩
    refine ⟨_, rfl, ca, _, 0, _, rfl, rfl, hS, atI_nat (j := 0) rfl, rfl, _, rfl, ite2 (fun _ => ?_) (fun q => absurd (decide_eq_true rfl) q)⟩
    exact ⟨_, rfl, d, dx, _, rfl, D.hd, df_no _ _ (by decide +kernel) (by decide +kernel), _, rfl, ca, _, 1, _, rfl, rfl, hS, atI_nat (j := 1) rfl, _, rfl, ca, _, 2, _, rfl, rfl, hS, atI_nat (j := 2) rfl, _, rfl, ca, _, 3, _, rfl, rfl, hS, atI_nat (j := 3) rfl, H0, d, st, k, a, b, rfl, ha, hb, DA, hA⟩
  case there a b ha hb =>
    refine ⟨_, rfl, ca, _, 0, _, rfl, rfl, hS, atI_nat (j := 0) rfl, rfl, _, rfl, ite2 (fun q => absurd (V.int.inj (of_decide_eq_true q)) (by decide)) (fun _ => ?_)⟩
    refine ⟨_, rfl, ca, _, 0, _, rfl, rfl, hS, atI_nat (j := 0) rfl, rfl, _, rfl, ite2 (fun q => absurd (V.int.inj (of_decide_eq_true q)) (by decide)) (fun _ => ?_)⟩
    refine ⟨_, rfl, ca, _, 0, _, rfl, rfl, hS, atI_nat (j := 0) rfl, rfl, _, rfl, ite2 (fun _ => ?_) (fun q => absurd (decide_eq_true rfl) q)⟩
    exact ⟨_, rfl, d, dx, _, rfl, D.hd, df_no _ _ (by decide +kernel) (by decide +kernel), _, rfl, ca, _, 1, _, rfl, rfl, hS, atI_nat (j := 1) rfl, _, rfl, ca, _, 2, _, rfl, rfl, hS, atI_nat (j := 2) rfl, H0, d, st, a, b, rfl, ha, hb, DA, hA⟩
  case share =>
    refine ⟨_, rfl, ca, _, 0, _, rfl, rfl, hS, atI_nat (j := 0) rfl, rfl, _, rfl, ite2 (fun q => absurd (V.int.inj (of_decide_eq_true q)) (by decide)) (fun _ => ?_)⟩
    refine ⟨_, rfl, ca, _, 0, _, rfl, rfl, hS, atI_nat (j := 0) rfl, rfl, _, rfl, ite2 (fun q => absurd (V.int.inj (of_decide_eq_true q)) (by decide)) (fun _ => ?_)⟩
    refine ⟨_, rfl, ca, _, 0, _, rfl, rfl, hS, atI_nat (j := 0) rfl, rfl, _, rfl, ite2 (fun q => absurd (V.int.inj (of_decide_eq_true q)) (by decide)) (fun _ => ?_)⟩
    refine ⟨_, rfl, ca, _, 0, _, rfl, rfl, hS, atI_nat (j := 0) rfl, rfl, _, rfl, ite2 (fun _ => ?_) (fun q => absurd (decide_eq_true rfl) q)⟩
    exact ⟨_, rfl, d, dx, _, rfl, D.hd, df_no _ _ (by decide +kernel) (by decide +kernel), H0, d, st, rfl, DA, hA⟩
  case whole =>
    refine ⟨_, rfl, ca, _, 0, _, rfl, rfl, hS, atI_nat (j := 0) rfl, rfl, _, rfl, ite2 (fun q => absurd (V.int.inj (of_decide_eq_true q)) (by decide)) (fun _ => ?_)⟩
    refine ⟨_, rfl, ca, _, 0, _, rfl, rfl, hS, atI_nat (j := 0) rfl, rfl, _, rfl, ite2 (fun q => absurd (V.int.inj (of_decide_eq_true q)) (by decide)) (fun _ => ?_)⟩
    refine ⟨_, rfl, ca, _, 0, _, rfl, rfl, hS, atI_nat (j := 0) rfl, rfl, _, rfl, ite2 (fun q => absurd (V.int.inj (of_decide_eq_true q)) (by decide)) (fun _ => ?_)⟩
    refine ⟨_, rfl, ca, _, 0, _, rfl, rfl, hS, atI_nat (j := 0) rfl, rfl, _, rfl, ite2 (fun q => absurd (V.int.inj (of_decide_eq_true q)) (by decide)) (fun _ => ?_)⟩
    refine ⟨_, rfl, ca, _, 0, _, rfl, rfl, hS, atI_nat (j := 0) rfl, rfl, _, rfl, ite2 (fun _ => ?_) (fun q => absurd (decide_eq_true rfl) q)⟩
    exact ⟨_, rfl, d, dx, _, rfl, D.hd, df_no _ _ (by decide +kernel) (by decide +kernel), H0, d, st, rfl, DA, hA⟩
  case again k m ns =>
    refine ⟨_, rfl, ca, _, 0, _, rfl, rfl, hS, atI_nat (j := 0) rfl, rfl, _, rfl, ite2 (fun q => absurd (V.int.inj (of_decide_eq_true q)) (by decide)) (fun _ => ?_)⟩
    refine ⟨_, rfl, ca, _, 0, _, rfl, rfl, hS, atI_nat (j := 0) rfl, rfl, _, rfl, ite2 (fun q => absurd (V.int.inj (of_decide_eq_true q)) (by decide)) (fun _ => ?_)⟩
    refine ⟨_, rfl, ca, _, 0, _, rfl, rfl, hS, atI_nat (j := 0) rfl, rfl, _, rfl, ite2 (fun q => absurd (V.int.inj (of_decide_eq_true q)) (by decide)) (fun _ => ?_)⟩
    refine ⟨_, rfl, ca, _, 0, _, rfl, rfl, hS, atI_nat (j := 0) rfl, rfl, _, rfl, ite2 (fun q => absurd (V.int.inj (of_decide_eq_true q)) (by decide)) (fun _ => ?_)⟩
    refine ⟨_, rfl, ca, _, 0, _, rfl, rfl, hS, atI_nat (j := 0) rfl, rfl, _, rfl, ite2 (fun q => absurd (V.int.inj (of_decide_eq_true q)) (by decide)) (fun _ => ?_)⟩
    refine ⟨_, rfl, ca, _, 0, _, rfl, rfl, hS, atI_nat (j := 0) rfl, rfl, _, rfl, ite2 (fun _ => ?_) (fun q => absurd (decide_eq_true rfl) q)⟩
    refine ⟨_, rfl, d, dx, _, rfl, D.hd, df_no _ _ (by decide +kernel) (by decide +kernel), _, rfl, ca, _, 1, _, rfl, rfl, hS, atI_nat (j := 1) rfl, _, rfl, _, rfl, ca, _, rfl, hS, fun c hc => ?_⟩
    have sn := same_new (o := .lst (ns.map fun (n : Nat) => V.int (n : Int))) hc
    have ec : cutV ((5 :: (k : Int) :: (m : Int) :: ns.map fun (n : Nat) => (n : Int)).map V.int) (some 3) none = ns.map fun (n : Nat) => V.int (n : Int) := by
      have e := cut_drop (xs := (5 :: (k : Int) :: (m : Int) :: ns.map fun (n : Nat) => (n : Int)).map V.int) (k := 3) (by simp)
      have e' : cutV ((5 :: (k : Int) :: (m : Int) :: ns.map fun (n : Nat) => (n : Int)).map V.int) (some 3) none = ((5 :: (k : Int) :: (m : Int) :: ns.map fun (n : Nat) => (n : Int)).map V.int).drop 3 := e
      rw [e']
      show (ns.map fun (n : Nat) => (n : Int)).map V.int = _
      rw [List.map_map]
      rfl
    rw [ec]
    exact ⟨H0, d, st, k, c, ns, rfl, up_lst upd_same, DA.up (Up.same (T := T) sn), hA⟩
  case drop k i =>
    refine ⟨_, rfl, ca, _, 0, _, rfl, rfl, hS, atI_nat (j := 0) rfl, rfl, _, rfl, ite2 (fun q => absurd (V.int.inj (of_decide_eq_true q)) (by decide)) (fun _ => ?_)⟩
    refine ⟨_, rfl, ca, _, 0, _, rfl, rfl, hS, atI_nat (j := 0) rfl, rfl, _, rfl, ite2 (fun q => absurd (V.int.inj (of_decide_eq_true q)) (by decide)) (fun _ => ?_)⟩
    refine ⟨_, rfl, ca, _, 0, _, rfl, rfl, hS, atI_nat (j := 0) rfl, rfl, _, rfl, ite2 (fun q => absurd (V.int.inj (of_decide_eq_true q)) (by decide)) (fun _ => ?_)⟩
    refine ⟨_, rfl, ca, _, 0, _, rfl, rfl, hS, atI_nat (j := 0) rfl, rfl, _, rfl, ite2 (fun q => absurd (V.int.inj (of_decide_eq_true q)) (by decide)) (fun _ => ?_)⟩
    refine ⟨_, rfl, ca, _, 0, _, rfl, rfl, hS, atI_nat (j := 0) rfl, rfl, _, rfl, ite2 (fun q => absurd (V.int.inj (of_decide_eq_true q)) (by decide)) (fun _ => ?_)⟩
    refine ⟨_, rfl, ca, _, 0, _, rfl, rfl, hS, atI_nat (j := 0) rfl, rfl, _, rfl, ite2 (fun q => absurd (V.int.inj (of_decide_eq_true q)) (by decide)) (fun _ => ?_)⟩
    exact ⟨_, rfl, d, dx, _, rfl, D.hd, df_no _ _ (by decide +kernel) (by decide +kernel), _, rfl, ca, _, 1, _, rfl, rfl, hS, atI_nat (j := 1) rfl, _, rfl, ca, _, 2, _, rfl, rfl, hS, atI_nat (j := 2) rfl, H0, d, st, k, i, rfl, DA, hA⟩
end
end Cs

set_option Elab.async false
set_option linter.all false
set_option maxRecDepth 100000
set_option maxHeartbeats 2000000
namespace Cs
open PySem PySem.Spec PyProof.Rows L2
/-! ### answers -/
def spAnswers (T : List (Addr × Str)) (K : PySem.W.Frag) : Sp := fun vs H Q _ => ∃ (a : Addr) (ns : List Int), vs = [.ref a] ∧ SqL K H a (ns.map V.int) ∧ (∀ x ∈ ns, 0 ≤ x ∧ x ≤ 1000000) ∧ PyCo07.answers_asked ns = true ∧ LamX.Tabs T H ∧
  ∀ (H' : Hp) (R : Addr), H' R = some (.lst ((PyCo07.answers ns).map V.int)) → Q (.ref R) H'
section
variable {P : Program} {w : World} {K : PySem.W.Frag} {mg : Str → Option Value} {base : Heap} {T : List (Addr × Str)} {CD CC : Addr}
/-- of a heap that part where the list stands -/
theorem part_at {H : Hp} {a : Addr} {xs : List V} (h : SqL K H a xs) : ∃ Ha : Hp, Same Ha H ∧ (∀ b o, Ha b ≠ some (.tbl o)) ∧ SqL K Ha a xs := by
  rcases h with h | h
  · refine ⟨fun b => if b = a then H a else none, fun b o e => ?_, fun b o e => ?_, .inl ?_⟩
    · by_cases z : b = a
      · have e' : (if b = a then H a else none) = some o := e
        rw [if_pos z] at e'
        rw [z]
        exact e'
      · have e' : (if b = a then H a else none) = some o := e
        rw [if_neg z] at e'
        cases e'
    · have e' : (if b = a then H a else none) = some (.tbl o) := e
      split at e'
      · rcases h with h | ⟨ob, h⟩ <;> rw [h] at e' <;> cases e'
      · cases e'
    · rcases h with h | ⟨ob, h⟩
      · refine .inl ?_
        show (if a = a then H a else none) = _
        rw [if_pos rfl]
        exact h
      · refine .inr ⟨ob, ?_⟩
        show (if a = a then H a else none) = _
        rw [if_pos rfl]
        exact h
  · exact ⟨fun _ => none, (fun b o e => by cases e), (fun b o e => by cases e), .inr h⟩
theorem DeskIn.add {H0 H : Hp} {d dx L : Addr} {v : V} {ps ls : List Addr} {st : Co07.St} (D : DeskIn T K CD CC H0 H d dx L v ps ls st) {R : Addr} {ys : List V} (hR : H R = none) : DeskIn T K CD CC (upd H0 R (.lst ys)) (upd H R (.lst ys)) d dx L v ps ls st := by
  have D1 := D.up (Up.same (T := T) (same_new (o := .lst ys) hR))
  have nR : ∀ {b : Addr} {o : HO}, H b = some o → b ≠ R := fun {b o} h => ne_of_none h hR
  have lsn : ∀ l ∈ ls, l ≠ R := fun l hl => by
    obtain ⟨i, hi⟩ := List.mem_iff_getElem?.mp hl
    have il : i < st.classes.length := by
      have := (List.getElem?_eq_some_iff.mp hi).1
      rw [D.ll] at this
      exact this
    obtain ⟨p, l', _, xs, c, _, h2, _, _, h5, _⟩ := D.cls_at il
    rw [hi] at h2
    cases h2
    exact nR h5
  refine { D1 with same := fun b o e => ?_, notab := fun b o e => ?_, d0 := (by rw [upd_ne (nR D.hd)]; exact D.d0), L0 := (by rw [upd_ne (nR D.hL)]; exact D.L0), ls0 := (fun l hl => by rw [upd_ne (lsn l hl)]; exact D.ls0 l hl) }
  · by_cases z : b = R
    · rw [z, upd_same] at e ⊢
      exact e
    · rw [upd_ne z] at e ⊢
      exact D.same b o e
  · by_cases z : b = R
    · rw [z, upd_same] at e
      cases e
    · rw [upd_ne z] at e
      exact D.notab b o e
theorem ok_answers {f fI : Addr} {fd fdI : FuncData} (F : Fun K "answers" "answers" sAnswers f fd) (X : Txt K mg CD CC) (M : Mk K CD fI) (GI : FnOk P w K mg base CX0 1 fI fdI ["self"] (spDInit T K CD CC)) (bI : Binds K fdI ["self"] []) (GS : Has P w K mg base "call_size" 1 ["calls", "place"] (spSize K)) (GA : Has P w K mg base "answer" 11 ["desk", "call"] (spAnswer T K CD CC)) :
    FnOk P w K mg base CX0 20 f fd ["calls"] (spAnswers T K) := by
  have sc : FnScope ["calls", "desk", "result", "place", "size", "numbers"] ["calls"] (defScope sAnswers) := ⟨rfl, rfl, rfl, by decide +kernel, rfl, by decide +kernel, by decide +kernel⟩
  refine F.ok sc (fun vs H Q E h => ?_) (fun cdv A outer s H vs Q E hr h => ?_)
  · obtain ⟨a, ns, rfl, _⟩ := h
    rfl
  · obtain ⟨a, ns, rfl, hS, hb, hask, hT, k⟩ := h
    obtain ⟨L0, Llen⟩ := left_all hask
    have hr1 : Room 1 _ := hr.mono (by decide)
    have hr2 : Room 2 _ := hr.mono (by decide)
    have hr11 : Room 11 _ := hr.mono (by decide)
    refine ⟨_, pss_cons (ps_set (i := 1) sc.nd rfl (Or.inl rfl) (pe_make0 M GI hr2 rfl X.mgD bI .nil pass0)) (pss_cons (ps_set (i := 2) sc.nd rfl (Or.inl rfl) (pe_lst pa_nil)) (pss_cons (ps_set (i := 3) sc.nd rfl (Or.inl rfl) pe_int)
      (pss_cons (ps_while PassesOwn.never (pt_cmpR op_lt (pv 3) (pe_callB call_len_seq (by rfl) X.len PySem.boot_len (pa_cons (pv 0) pa_nil)) (nomark _))
        (pss_cons (ps_set (i := 4) sc.nd rfl (Or.inl rfl) (pe_has GS hr1 rfl (pa_cons (pv 0) (pa_cons (pv 3) pa_nil))))
        (pss_cons (ps_set (i := 5) sc.nd rfl (Or.inl rfl) (pe_has GA hr11 rfl (pa_cons (pv 1) (pa_cons (pe_slice sl_list (pv 0) (po_some (pv 3)) (po_some (pe_op op_add (pv 3) (pv 4)))) pa_nil))))
        (pss_cons (ps_expr (pe_bm PySem.F.plainAttrs_list PySem.F.slot_list_append PySem.F.type_list_append mt_append (pv 2) (pa_cons (pe_callB call_len_seq (by rfl) X.len PySem.boot_len (pa_cons (pv 5) pa_nil)) pa_nil)))
        (pss_cons (ps_expr (pe_bm PySem.F.plainAttrs_list PySem.F.slot_list_extend PySem.F.type_list_extend mt_extend (pv 2) (pa_cons (pv 5) pa_nil)))
        (pss_one (ps_aug (i := 3) sc.nd rfl (Or.inl rfl) (pv 4) ip_add)))))))
      (pss_one (ps_ret (pv 2)))))), ?_⟩
    obtain ⟨Ha, sH, nt, hSa⟩ := part_at hS
    -- desk = Desk()
    intro d dx nd ndx nex
    have s0 : Same H (upd (upd H dx (.own d)) d (.ins CD dx [])) := fun b o e => by
      rw [upd_ne (ne_of_none e nd), upd_ne (ne_of_none e ndx)]
      exact e
    refine ⟨Ha, d, dx, rfl, sH.trans s0, nt, hT.ext s0, sH.free nd, upd_same, fun H1 DA1 => ⟨rfl, ?_⟩⟩
    -- result = []
    refine ⟨Nat.zero_le _, fun R hR => ?_⟩
    have HaR : Ha R = none := by
      obtain ⟨_, _, _, _, _, D1⟩ := DA1
      exact D1.same.free hR
    have DA2 : DeskAt T K CD CC (upd Ha R (.lst (([] : List Int).map V.int))) (upd H1 R (.lst [])) d Co07.init := by
      obtain ⟨dx1, L1, v1, ps1, ls1, D1⟩ := DA1
      exact ⟨dx1, L1, v1, ps1, ls1, D1.add (ys := []) hR⟩
    have hSR : ∀ acc : List Int, SqL K (upd Ha R (.lst (acc.map V.int))) a (ns.map V.int) := fun acc => ext_lst (LamX.ExtN.of (same_new HaR)) hSa
    refine while_by (fun σ H' => ∃ (place : Nat) (st : Co07.St) (acc out : List Int) (u4 u5 : Option V), σ = [some (.ref a), some (.ref d), some (.ref R), some (.int (place : Int)), u4, u5] ∧ place ≤ ns.length ∧ DeskAt T K CD CC (upd Ha R (.lst (acc.map V.int))) H' d st ∧ Left (ns.drop place) st out ∧ acc ++ out = PyCo07.answers ns)
      (fun σ _ => match σ with | [_, _, _, some (.int p), _, _] => ns.length - p.toNat | _ => 0) ⟨0, Co07.init, [], PyCo07.answers ns, none, none, rfl, Nat.zero_le _, DA2, L0, rfl⟩ ?_ ?_
    · rintro σ H' ⟨place, st, acc, out, u4, u5, rfl, hpl, DA, hL, hout⟩
      have same' : Same (upd Ha R (.lst (acc.map V.int))) H' := by
        obtain ⟨_, _, _, _, _, D⟩ := DA
        exact D.same
      have hq : SqL K H' a (ns.map V.int) := same'.seq (hSR acc)
      refine ⟨_, rfl, _, rfl, a, ns.map V.int, rfl, .inl hq, _, _, rfl, rfl, _, rfl, ?_⟩
      rw [List.length_map]
      refine ite2 (fun q => ?_) (fun q => ?_)
      · have pl : place < ns.length := by
          have := of_decide_eq_true q
          omega
        have ed : ns.drop place = ns[place] :: ns.drop (place + 1) := List.drop_eq_getElem_cons pl
        rw [ed] at hL
        obtain ⟨c, t, x, size, out', o, hL', eo⟩ := left_cons hL fun y hy => hb y (List.mem_of_mem_drop (i := place) (by rw [ed]; exact hy))
        have osz := o.sz
        have opc := o.pc
        have ole := o.le
        have ore := o.rest
        have opo := o.pos
        rw [← ed] at osz opc ole ore
        rw [List.length_drop] at ole
        -- size = call_size(calls, place)
        refine ⟨_, rfl, _, rfl, a, ns, place, size, rfl, hq, osz, ?_⟩
        -- numbers = answer(desk, calls[place:place + size])
        refine ⟨_, rfl, _, rfl, _, rfl, _, rfl, _, rfl, _, rfl, _, _, rfl, rfl, _, rfl, a, ns.map V.int, rfl, hq, fun g hg => ?_⟩
        rw [cut_mid (by rw [List.length_map]; omega), ← List.map_drop, ← List.map_take]
        have sg := same_new (o := .lst (((ns.drop place).take size).map V.int)) hg
        refine ⟨_, d, st, g, (ns.drop place).take size, x, rfl, up_lst upd_same, opc, DA.up (Up.same (T := T) sg), fun H3 b D3 b0 hb3 => ?_⟩
        have hR3 : H3 R = some (.lst (acc.map V.int)) := by
          obtain ⟨_, _, _, _, _, D⟩ := D3
          exact D.same _ _ upd_same
        have nbR : b ≠ R := fun z => by
          rw [z, upd_same] at b0
          cases b0
        have elen : acc.length + ((Co07.step st x).2.length + 1 + out'.length) ≤ 10000000 := by
          have h1 := congrArg List.length hout
          rw [eo, List.length_append, List.length_append, List.length_cons] at h1
          omega
        -- result.append(len(numbers))
        refine ⟨_, rfl, .inl ⟨rfl, _, SqL.of hR3⟩, _, rfl, b, _, rfl, .inl (up_lst hb3), R, _, _, rfl, rfl, hR3, ?_, ?_⟩
        · rw [List.length_map]
          exact Nat.lt_of_le_of_lt (show acc.length ≤ 10000000 by omega) (by decide)
        have D4 : DeskAt T K CD CC (upd Ha R (.lst (acc.map V.int ++ [V.int (((((Co07.step st x).2.map V.int).length : Nat)) : Int)]))) (upd H3 R (.lst (acc.map V.int ++ [V.int (((((Co07.step st x).2.map V.int).length : Nat)) : Int)]))) d (Co07.step st x).1 := by
          obtain ⟨dx3, L3, v3, ps3, ls3, D⟩ := D3
          have D' := D.out (ys := acc.map V.int ++ [V.int (((((Co07.step st x).2.map V.int).length : Nat)) : Int)]) upd_same
          rw [upd_upd] at D'
          exact ⟨dx3, L3, v3, ps3, ls3, D'⟩
        -- result.extend(numbers)
        refine ⟨_, rfl, .inl ⟨rfl, _, SqL.of upd_same⟩, _, rfl, R, b, _, _, rfl, rfl, upd_same, (by rw [upd_ne nbR]; exact hb3), ?_, ?_⟩
        · rw [List.length_append, List.length_map, List.length_map]
          exact Nat.le_trans (show _ ≤ 10000000 by
            show acc.length + 1 + _ ≤ _
            omega) (by decide)
        -- place += size
        have eacc : acc.map V.int ++ [V.int (((((Co07.step st x).2.map V.int).length : Nat)) : Int)] ++ (Co07.step st x).2.map V.int = (acc ++ (((Co07.step st x).2.length : Int) :: (Co07.step st x).2)).map V.int := by
          rw [List.map_append, List.append_assoc, List.length_map]
          rfl
        rw [eacc]
        have D5 : DeskAt T K CD CC (upd Ha R (.lst ((acc ++ (((Co07.step st x).2.length : Int) :: (Co07.step st x).2)).map V.int))) (upd (upd H3 R (.lst (acc.map V.int ++ [V.int (((((Co07.step st x).2.map V.int).length : Nat)) : Int)]))) R (.lst ((acc ++ (((Co07.step st x).2.length : Int) :: (Co07.step st x).2)).map V.int))) d (Co07.step st x).1 := by
          obtain ⟨dx3, L3, v3, ps3, ls3, D⟩ := D4
          have D' := D.out (ys := (acc ++ (((Co07.step st x).2.length : Int) :: (Co07.step st x).2)).map V.int) upd_same
          rw [upd_upd] at D'
          exact ⟨dx3, L3, v3, ps3, ls3, D'⟩
        refine ⟨_, rfl, _, rfl, _, _, rfl, rfl, ⟨place + size, (Co07.step st x).1, _, out', _, _, rfl, by omega, D5, ?_, ?_⟩, ?_⟩
        · rw [ore, List.drop_drop] at hL'
          exact hL'
        · rw [List.append_assoc, ← hout, eo]
        · show ns.length - ((place : Int) + (size : Int)).toNat < ns.length - (place : Int).toNat
          omega
      · have pe : place = ns.length := by
          have : ¬ ((place : Int) < (ns.length : Int)) := fun z => q (decide_eq_true z)
          omega
        rw [pe, List.drop_length] at hL
        have eo := left_nil hL
        rw [eo, List.append_nil] at hout
        refine ⟨_, rfl, k H' R ?_⟩
        rw [← hout]
        exact same' _ _ upd_same
    · intro σ H' Q1 Q2 hq h
      obtain ⟨v1, e1, v2, e2, p, ys, e3, e4, i, j, e5, e6, kk, e7, q⟩ := h
      exact ⟨v1, e1, v2, e2, p, ys, e3, e4, i, j, e5, e6, kk, e7, hq _ _ q⟩
end
end Cs

set_option Elab.async false
set_option linter.all false
set_option maxRecDepth 100000
set_option maxHeartbeats 2000000
namespace Cs
open PySem PySem.Spec PyProof.Rows L2
open PySem.W (WData Codec OpenSpec WellAll ReadsW)
/-! ### the end of a row whose defs make lambdas: their code objects' tables are tracked -/
mutual
theorem dwUp {K : PySem.W.Frag} {H H' : Hp} (e : Same H H') : ∀ {v : V} {d : WData}, Dw K H v d → Dw K H' v d
  | _, _, .non => .non
  | _, _, .bl b => .bl b
  | _, _, .int i => .int i
  | _, _, .str x => .str x
  | _, _, .byt b => .byt b
  | _, _, .lst q a => .lst (e.seq q) (dwsUp e a)
  | _, _, .tup q a => .tup (ext_tup (LamX.ExtN.of e) q) (dwsUp e a)
theorem dwsUp {K : PySem.W.Frag} {H H' : Hp} (e : Same H H') : ∀ {vs : List V} {ds : List WData}, DwAll K H vs ds → DwAll K H' vs ds
  | _, _, .nil => .nil
  | _, _, .cons a b => .cons (dwUp e a) (dwsUp e b)
end
def withTabs (ts : List Addr) (H : Hp) : Hp := fun b => if b ∈ ts then some (.tbl #[]) else H b
theorem withTabs_in {ts : List Addr} {H : Hp} {b : Addr} (h : b ∈ ts) : withTabs ts H b = some (.tbl #[]) := if_pos h
theorem withTabs_out {ts : List Addr} {H : Hp} {b : Addr} (h : b ∉ ts) : withTabs ts H b = H b := if_neg h
theorem spec_callT {P : Program} {w : World} {K : PySem.W.Frag} {mg mb : Str → Option Value} {k : Nat} {fa : Addr} {fd : FuncData} {ps : List Str} {sp : Sp} {s1 : Shared} {vals : List Value} {ds : List WData} {R : PySem.W.WRecords} {cl : Str → Option Addr} {d0 : WData} {cs : List (Addr × Addr)}
    (KX : K.In s1.heap) (hns : s1.heap.Ns mainGlobals mg) (hb : s1.heap.Ns builtinsNs mb) (hbb : ∀ x : Str, x ≠ "__name__" → mb x = bootBuiltins x) (hlim : s1.heap.NoLimit) (hg : s1.gens = #[])
    (hT : ∀ p ∈ cs, s1.heap.get? p.2 = some (PySem.W.tabObj #[])) (nT : ∀ p ∈ cs, K.lookup p.2 = none) (C : ∀ p ∈ cs, PySem.W.CodeHd s1.heap p.1 p.2)
    (hbm : ∃ (bm : Addr) (ob : Obj), mg "__builtins__" = some (.ref bm) ∧ bm ≠ builtinsNs ∧ s1.heap.get? bm = some ob ∧ ob.cls = .type "module" ∧ ob.dict = some builtinsNs ∧ ob.data = .plain)
    (hwl : WellAll w.params s1.heap vals ds) (hpl : plWs ds = true) (hwt : ∀ d ∈ ds, d.weight ≤ 1048576) (hr : Room k callerA)
    (F : ∀ base : Heap, K.In base → base.Ns mainGlobals mg → (∀ p ∈ cs, LamX.TabB base mg p.1 p.2) → FnOk P w K mg base CX0 k fa fd ps sp)
    (hbind : ∀ (s : Shared) (us : List Value), us.length = ps.length → BindsTo s fd ⟨us, []⟩ (ps.zip us)) (hlen : ds.length = ps.length)
    (hsp : ∀ (H : Hp) (xs : List V), (∀ p ∈ cs, H p.2 = some (.tbl #[])) → DwAll K H xs ds → sp xs H (fun v H' => Dw K H' v d0) E0) :
    codeAny (model P w) callerA (.call (.ref fa) ⟨vals, []⟩) (fun r s' => ∃ u as, r = .ok (.ret u) ∧ ReadsW R cl s'.heap u d0 as ∧ OldK s1.heap s'.heap ∧ s'.os = s1.os ∧ AllBare s'.gens) s1 := by
  obtain ⟨A, ho, ar⟩ := area_all ds vals hwl hpl hwt
  have hD0 := dw_all KX ar ds vals hwl hpl ho
  have hV := vals_toV ho
  -- tables are none of the arguments' objects
  have tabAt : ∀ b, b ∈ cs.map (·.2) → s1.heap.get? b = some (PySem.W.tabObj #[]) := fun b z => by
    obtain ⟨p, hp, e⟩ := List.mem_map.mp z
    rw [← e]
    exact hT p hp
  have tabK : ∀ b, b ∈ cs.map (·.2) → K.lookup b = none := fun b z => by
    obtain ⟨p, hp, e⟩ := List.mem_map.mp z
    rw [← e]
    exact nT p hp
  have noArg : ∀ b, b ∈ cs.map (·.2) → argH K s1.heap A b = none := fun b z => by
    cases q : argH K s1.heap A b with
    | none => rfl
    | some u =>
      obtain ⟨_, vs, _, _, ⟨e2, _⟩ | ⟨e2, _⟩⟩ := argH_is ar q
      · have z2 := (tabAt b z).symm.trans e2
        cases z2
      · have z2 := (tabAt b z).symm.trans e2
        cases z2
  have up : Same (argH K s1.heap A) (withTabs (cs.map (·.2)) (argH K s1.heap A)) := fun b o e => by
    have nb : b ∉ cs.map (·.2) := fun z => by
      rw [noArg b z] at e
      cases e
    rw [withTabs_out nb]
    exact e
  have hD := dwsUp up hD0
  -- what is tracked
  have what : ∀ b u, withTabs (cs.map (·.2)) (argH K s1.heap A) b = some u → (b ∈ cs.map (·.2) ∧ u = .tbl #[]) ∨ (b ∉ cs.map (·.2) ∧ argH K s1.heap A b = some u) := fun b u e => by
    by_cases z : b ∈ cs.map (·.2)
    · rw [withTabs_in z] at e
      exact .inl ⟨z, (Option.some.inj e).symm⟩
    · rw [withTabs_out z] at e
      exact .inr ⟨z, e⟩
  have hok : HOk P w (withTabs (cs.map (·.2)) (argH K s1.heap A)) s1.heap := fun b u e => by
    rcases what b u e with ⟨z, rfl⟩ | ⟨_, q⟩
    · exact tabAt b z
    · obtain ⟨_, vs, h1, h2, ⟨e1, rfl⟩ | ⟨e1, rfl⟩⟩ := argH_is ar q
      · exact ⟨e1, by rw [List.length_map]; exact h1, vs, _, vals_toV h2, e1⟩
      · exact ⟨e1, by rw [List.length_map]; exact h1, vs, vals_toV h2, _, e1, rfl, _, rfl⟩
  have tracked : ∀ b o, s1.heap.get? b = some o → withTabs (cs.map (·.2)) (argH K s1.heap A) b ≠ none → (o = PySem.W.tabObj #[] ∨ ∃ c vs, o = { cls := c, data := .seq vs }) ∧ K.lookup b = none := fun b o e n => by
    cases q : withTabs (cs.map (·.2)) (argH K s1.heap A) b with
    | none => exact absurd q n
    | some u =>
      rcases what b u q with ⟨z, rfl⟩ | ⟨_, q2⟩
      · exact ⟨.inl (Option.some.inj (e.symm.trans (tabAt b z))), tabK b z⟩
      · obtain ⟨kn, vs, _, _, ⟨e1, _⟩ | ⟨e1, _⟩⟩ := argH_is ar q2
        · exact ⟨.inr ⟨_, _, Option.some.inj (e.symm.trans e1)⟩, kn⟩
        · exact ⟨.inr ⟨_, _, Option.some.inj (e.symm.trans e1)⟩, kn⟩
  have tabs0 : ∀ p ∈ cs, withTabs (cs.map (·.2)) (argH K s1.heap A) p.2 = some (.tbl #[]) := fun p hp => withTabs_in (List.mem_map.mpr ⟨p, hp, rfl⟩)
  have kinds : ∀ b, withTabs (cs.map (·.2)) (argH K s1.heap A) b = none ∨ b ∈ cs.map (·.2) ∨ ∃ o u, withTabs (cs.map (·.2)) (argH K s1.heap A) b = some (.frz o u) := fun b => by
    by_cases z : b ∈ cs.map (·.2)
    · exact .inr (.inl z)
    · rw [withTabs_out z]
      rcases argH_only (K := K) ar b with q | q
      · exact .inl q
      · exact .inr (.inr q)
  generalize withTabs (cs.map (·.2)) (argH K s1.heap A) = H at hD hok tracked tabs0 kinds
  have free : ∀ {b : Addr} {o : Obj}, s1.heap.get? b = some o → o ≠ PySem.W.tabObj #[] → (∀ c vs, o ≠ { cls := c, data := .seq vs }) → H b = none := fun {b o} e n1 n2 => by
    cases q : H b with
    | none => rfl
    | some u =>
      rcases (tracked b o e (by rw [q]; simp)).1 with z | ⟨c, vs, z⟩
      · exact absurd z n1
      · exact absurd z (n2 c vs)
  have keep : ∀ {b : Addr} {o : Obj}, s1.heap.get? b = some o → H b = none → (hidT s1.heap H).get? b = some o := fun e n => hidT_get e n
  have nsK : ∀ {b : Addr} {m : Str → Option Value}, s1.heap.Ns b m → (hidT s1.heap H).Ns b m := fun {b m} ⟨o, es, ep, e, d, r⟩ =>
    ⟨o, es, ep, keep e (free e (fun z => by rw [z] at d; cases d) fun c vs z => by rw [z] at d; cases d), d, r⟩
  have inK : K.In (hidT s1.heap H) := fun b o e => keep (KX b o e) (by
    cases q : H b with
    | none => rfl
    | some u =>
      rw [(tracked b o (KX b o e) (by rw [q]; simp)).2] at e
      cases e)
  have hM : L2.Mod K mg (hidT s1.heap H) := ⟨inK, nsK hns, ⟨mb, nsK hb, hbb⟩, let ⟨mc, h1, h2⟩ := hlim; ⟨mc, nsK h1, h2⟩⟩
  have TB : ∀ p ∈ cs, LamX.TabB (hidT s1.heap H) mg p.1 p.2 := fun p hp => by
    refine ⟨?_, ?_, fun z => ?_⟩
    · obtain ⟨o, us, file, tf, flags, tg, inF, text, tt, e1, r1, r2, r3, rest⟩ := C p hp
      exact ⟨o, us, file, tf, flags, tg, inF, text, tt, keep e1 (free e1 (fun z => by rw [z] at r1; cases r1) fun c vs z => by rw [z] at r2; cases r2), r1, r2, r3, rest⟩
    · obtain ⟨bm, ob, b1, b2, b3, b4, b5, b6⟩ := hbm
      refine ⟨bm, ob, b1, b2, fun z => ?_, fun z => ?_, keep b3 (free b3 (fun z => by rw [z] at b4; cases b4) fun c vs z => by rw [z] at b6; cases b6), b4, b5, b6⟩
      · obtain ⟨o, es, ep, e, hd, _⟩ := hns
        rw [z, e] at b3
        cases b3
        rw [hd] at b6
        cases b6
      · rw [z, hT p hp] at b3
        cases b3
        cases b6
    · obtain ⟨o, es, ep, e, hd, _⟩ := hns
      rw [z, hT p hp] at e
      cases e
      cases hd
  have e0 : Env0 P w K mg (hidT s1.heap H) callerA [] s1 H := ⟨rfl, hM, fun b o e => of_hidT e, Nat.le_of_eq (hidT_size _ _), trivial, fun b hb => absurd (show b ∈ ([] : List Addr) from hb) (by simp), hok, .of_eq hg⟩
  have hl : vals.length = ps.length := (wellAll_len hwl).trans hlen
  refine codeAny_mono ((F _ inK (nsK hns) TB).run callerA [] s1 H ⟨vals, []⟩ vals (vals.map toV) _ _ hr e0 (hbind s1 vals hl) hV (hsp H _ tabs0 hD)) fun r s' x => ?_
  cases r with
  | error e => exact False.elim x
  | ok fl =>
    cases fl with
    | next => exact False.elim x
    | brk => exact False.elim x
    | cont => exact False.elim x
    | ret u =>
      obtain ⟨v, H', os, bare, un, hok', r', q⟩ := x
      have kept : ∀ b o, b ∉ cs.map (·.2) → s1.heap.get? b = some o → s'.heap.get? b = some o := fun b o nb e => by
        rcases kinds b with z | z | ⟨ob, u2, z⟩
        · exact un.keep b o e z (by intro z; exact absurd (show b ∈ ([] : List Addr) from z) (by simp)) (by simp)
        · exact absurd z nb
        · obtain ⟨e1, _⟩ := hok b _ z
          obtain ⟨e2, _⟩ := hok' b _ (un.frzs b ob _ z)
          rw [e] at e1
          cases e1
          exact e2
      have grown : ∀ p ∈ cs, ∃ more : Array Value, s'.heap.get? p.2 = some { cls := .none, data := .fields more } := fun p hp => by
        obtain ⟨more, z⟩ := un.tbls p.2 #[] (tabs0 p hp)
        exact ⟨_, hok' p.2 _ z⟩
      have KX' : K.In s'.heap := fun b o e => kept b o (fun z => by
        rw [tabK b z] at e
        cases e) (KX b o e)
      obtain ⟨as, hrd⟩ := Dw.reads (R := R) (cl := cl) hok' KX' d0 v u q r'
      refine ⟨u, as, rfl, hrd, ⟨fun b o e => ?_, fun b o e => ?_⟩, os, bare⟩
      · by_cases z : b ∈ cs.map (·.2)
        · obtain ⟨p, hp, ep⟩ := List.mem_map.mp z
          obtain ⟨more, hm⟩ := grown p hp
          rw [← ep] at e ⊢
          rw [hT p hp] at e
          cases e
          exact .inr (.inl ⟨((C p hp).tab (hT p hp)).isCodeTable, rfl, #[], more, rfl, by rw [Array.empty_append]; exact hm⟩)
        · exact .inl (kept b o z e)
      · by_cases z : b ∈ cs.map (·.2)
        · obtain ⟨p, hp, ep⟩ := List.mem_map.mp z
          obtain ⟨more, hm⟩ := grown p hp
          rw [← ep]
          exact ⟨_, hm⟩
        · exact ⟨o, kept b o z e⟩
/-- the row's goal, from the promise of its def -/
theorem walk_specT {r : OpenSpec} {k : Nat} {q : Program} {loose : List Str} {XP : (Str → Option Value) → Heap → Prop} {YP : World → Heap → Prop} {d : DefRec} {K : Params → PySem.W.Frag} {ps : List Str} {sp : List (Addr × Addr) → PySem.W.Frag → Sp}
    (hwell : r.wellSaid = true) (hdf : d.params.defaults = []) (hlen : r.args.length = ps.length) (hr : Room k callerA) (hY : ∀ (w : World) (h : Heap), YP w h → (K w.params).In h)
    (F : ∀ (w : World) (mg mb : Str → Option Value) (mean : ExcName → Option Value) (fa : Addr) (h : Heap), PyProof.Rows.Top q (PySem.W.looseW q loose) mean mg mb h → (K w.params).In h → h.Ns mainGlobals mg → mg d.name = some (.ref fa) →
      ∃ (fd : FuncData) (cs : List (Addr × Addr)), (∀ p ∈ cs, h.get? p.2 = some (PySem.W.tabObj #[])) ∧ (∀ p ∈ cs, (K w.params).lookup p.2 = none) ∧ (∀ p ∈ cs, PySem.W.CodeHd h p.1 p.2) ∧
        (∀ (s : Shared) (us : List Value), us.length = ps.length → BindsTo s fd ⟨us, []⟩ (ps.zip us)) ∧
        ∀ base : Heap, (K w.params).In base → base.Ns mainGlobals mg → (∀ p ∈ cs, LamX.TabB base mg p.1 p.2) → FnOk r.prog w (K w.params) mg base CX0 k fa fd ps (sp cs (K w.params)))
    (hsp : ∀ (cs : List (Addr × Addr)) (K : PySem.W.Frag) (H : Hp) (xs : List V) (a : Codec.denoteAll r.args), (∀ p ∈ cs, H p.2 = some (.tbl #[])) → Codec.withinAll r.args a = true → Codec.app r.args r.asked a = true → DwAll K H xs (Codec.encAll r.args a) →
      sp cs K xs H (fun v H' => Dw K H' v (r.ret.enc (Codec.app r.args r.f a))) E0) :
    PySem.W.WalkOS q loose XP YP r d [] (fun f vs => PySem.call f vs) := by
  intro w s0 s1 mg mb G Y fa o pm cd doc dV kV ho hd hcd hD hmg hg args vals as hpre hlay hrd hwl hlo
  obtain ⟨a, e1, e2⟩ := PySem.W.os_pre_some hpre
  obtain ⟨e3, hwi⟩ := Codec.encAll_of_decAll r.args args a e1
  subst e3
  have KX := hY w _ Y
  obtain ⟨fd, cs, hT, nT, C, hb, hF⟩ := F w mg mb _ fa _ G.T KX G.T.g hmg
  refine PySem.W.enter_call (codeAny_mono (spec_callT (R := []) (cl := classAt s0.heap) (d0 := r.ret.enc (Codec.app r.args r.f a)) KX G.T.g G.T.b G.T.builtins G.T.nolimit hg hT nT C G.T.bmain hwl (pl_encAll _ _) (layable_weight hlay) hr hF hb (by rw [encAll_len]; exact hlen)
    fun H xs h0 hS => hsp cs _ H xs a h0 hwi e2 hS) fun r' s' hq => ?_)
  obtain ⟨u, as', rfl, h1, h2, h3, h4⟩ := hq
  exact ⟨.inl ⟨u, _, as', rfl, fun _ => rfl, h1, (OpenSpec.post_iff hwell hwi _ _).mpr rfl, fun z => Bool.noConfusion (show false = true from z)⟩, h2, h3, h4⟩
end Cs

set_option Elab.async false
set_option linter.all false
set_option maxRecDepth 100000
set_option maxHeartbeats 2000000
namespace Cs
open PySem PySem.Spec PyProof.Rows L2
/-! ### what the top has left -/
def FunAt (K : PySem.W.Frag) (x : Str) (st : Stmt) : Prop := ∃ (f : Addr) (fd : FuncData), PySem.W.nsIn K mainGlobals x = some (some (.ref f)) ∧ Fun K x x st f fd
def FunTAt (K : PySem.W.Frag) (x : Str) (st : Stmt) (c : Addr) : Prop := ∃ (f : Addr) (fd : FuncData), PySem.W.nsIn K mainGlobals x = some (some (.ref f)) ∧ FunT K x x st f fd c
def MethAt (K : PySem.W.Frag) (C : Addr) (m qual : Str) (st : Stmt) : Prop := ∃ (f : Addr) (fd : FuncData), Meth K C m f ∧ Fun K m qual st f fd
def InitAt (K : PySem.W.Frag) (C : Addr) (qual : Str) (st : Stmt) : Prop := ∃ (f : Addr) (fd : FuncData), Mk K C f ∧ Fun K "__init__" qual st f fd
section
variable {K : PySem.W.Frag}
theorem fun_at {x : Str} {st : Stmt} {f : Addr} {oc : Value} {od an : Option Addr} {osl : Array (Option Value)} {kV doc pm cdv ct : Value} (a : PySem.W.nsIn K mainGlobals x = some (some (.ref f))) (l : K.lookup f = some ⟨oc, od, .func (PySem.W.fnOf x x (defArgs st) (defBody st) (defScope st) .none kV doc pm an cdv ct), osl⟩)
    (c : PySem.W.codeIn K cdv x = true) (k : PySem.W.keepIn K (.ref f) = true) : FunAt K x st := ⟨f, _, a, fun_mk l c k⟩
theorem funT_at {x : Str} {st : Stmt} {f c : Addr} {oc : Value} {od an : Option Addr} {osl : Array (Option Value)} {kV doc pm ct : Value} (a : PySem.W.nsIn K mainGlobals x = some (some (.ref f))) (l : K.lookup f = some ⟨oc, od, .func (PySem.W.fnOf x x (defArgs st) (defBody st) (defScope st) .none kV doc pm an (.ref c) ct), osl⟩)
    (hc : PySem.W.codeIn K (.ref c) x = true) (k : PySem.W.keepIn K (.ref f) = true) : FunTAt K x st c := ⟨f, _, a, ⟨oc, od, kV, doc, pm, an, ct, osl, rfl, l, hc⟩, k⟩
theorem meth_at {C : Addr} {m qual : Str} {st : Stmt} {f : Addr} {oc : Value} {od an : Option Addr} {osl : Array (Option Value)} {kV doc pm cdv ct : Value} (a : PySem.W.findIn K (.ref C) m = some (some (.ref f))) (i : PySem.W.isFn K (.ref f) = true) (l : K.lookup f = some ⟨oc, od, .func (PySem.W.fnOf m qual (defArgs st) (defBody st) (defScope st) .none kV doc pm an cdv ct), osl⟩)
    (c : PySem.W.codeIn K cdv qual = true) (k : PySem.W.keepIn K (.ref f) = true) : MethAt K C m qual st := ⟨f, _, ⟨a, i, k⟩, fun_mk l c k⟩
theorem init_at {C : Addr} {qual : Str} {st : Stmt} {f : Addr} {oc : Value} {od an : Option Addr} {osl : Array (Option Value)} {kV doc pm cdv ct : Value} (mk : PySem.W.makesIn K C = true) (kc : PySem.W.keepIn K (.ref C) = true) (a : PySem.W.findIn K (.ref C) "__init__" = some (some (.ref f))) (i : PySem.W.isFn K (.ref f) = true)
    (l : K.lookup f = some ⟨oc, od, .func (PySem.W.fnOf "__init__" qual (defArgs st) (defBody st) (defScope st) .none kV doc pm an cdv ct), osl⟩) (c : PySem.W.codeIn K cdv qual = true) (k : PySem.W.keepIn K (.ref f) = true) : InitAt K C qual st := ⟨f, _, ⟨mk, a, i, kc⟩, fun_mk l c k⟩
theorem has_of {P : Program} {w : World} {mg : Str → Option Value} {base h : Heap} {x : Str} {st : Stmt} {ps : List Str} {k : Nat} {sp : Sp} (X : K.In h) (G : h.Ns mainGlobals mg) (A : FunAt K x st)
    (hb : ∀ (kV doc pm : Value) (an : Option Addr) (cdv ct : Value) (us : List Value), us.length = ps.length → bindArgs (PySem.W.fnOf x x (defArgs st) (defBody st) (defScope st) .none kV doc pm an cdv ct) ⟨us, []⟩ = pure (ps.zip us))
    (ok : ∀ {f : Addr} {fd : FuncData}, Fun K x x st f fd → FnOk P w K mg base CX0 k f fd ps sp) : Has P w K mg base x k ps sp := by
  obtain ⟨f, fd, a, F⟩ := A
  exact ⟨f, fd, PySem.W.mg_of X G a, F.kp, F.binds hb, ok F⟩
theorem ms_of {P : Program} {w : World} {mg : Str → Option Value} {base : Heap} {C : Addr} {m qual : Str} {st : Stmt} {ps : List Str} {k : Nat} {sp : Sp} (A : MethAt K C m qual st)
    (hb : ∀ (kV doc pm : Value) (an : Option Addr) (cdv ct : Value) (us : List Value), us.length = ps.length → bindArgs (PySem.W.fnOf m qual (defArgs st) (defBody st) (defScope st) .none kV doc pm an cdv ct) ⟨us, []⟩ = pure (ps.zip us))
    (ok : ∀ {f : Addr} {fd : FuncData}, Fun K m qual st f fd → FnOk P w K mg base CX0 k f fd ps sp) : Ms P w K mg base C m k ps sp := by
  obtain ⟨f, fd, M, F⟩ := A
  exact ⟨f, fd, M, F.binds hb, ok F⟩
/-- a tuple of whole numbers among the constants -/
def TupAt (K : PySem.W.Frag) (x : Str) (is : List Int) : Prop := ∃ z : Addr, PySem.W.nsIn K mainGlobals x = some (some (.ref z)) ∧ ∀ H : Hp, SqT K H z (is.map V.int)
def IntAt (K : PySem.W.Frag) (x : Str) (i : Int) : Prop := ∃ t : Tok, PySem.W.nsIn K mainGlobals x = some (some (.int i t))
theorem int_at {x : Str} {i : Int} {t : Tok} (h : PySem.W.nsIn K mainGlobals x = some (some (.int i t))) : IntAt K x i := ⟨t, h⟩
theorem tup_at {x : Str} {is : List Int} {z : Addr} {o : Obj} {its : Array Value} {n : Nat} (a : PySem.W.nsIn K mainGlobals x = some (some (.ref z))) (l : K.lookup z = some o) (hc : o.cls = .type "tuple") (hd : o.data = .seq its n) (hz : its.size ≤ sizeLine) (hv : Vals (is.map V.int) its.toList) : TupAt K x is :=
  ⟨z, a, fun _ => .inr ⟨o, its, n, l, hc, hd, hz, hv⟩⟩
structure ClsIn (K : PySem.W.Frag) (x : Str) (C : Addr) : Prop where
  a : PySem.W.nsIn K mainGlobals x = some (some (.ref C))
  cl : Cls K C
end
theorem all_mk {P : Program} {w : World} {K : PySem.W.Frag} {h : Heap} {mg : Str → Option Value} {fa CD CC c Pt : Addr} (KX : K.In h) (G : h.Ns mainGlobals mg) (hfa : mg "answers" = some (.ref fa)) (CH : PySem.W.CodeHd h c Pt ∧ h.get? Pt = some (PySem.W.tabObj #[])) (nP : K.lookup Pt = none)
    (F_common_divisor : FunAt K "common_divisor" sGcd)
    (F_lowest : FunAt K "lowest" sLow)
    (F_plus : FunAt K "plus" sPlus)
    (F_minus : FunAt K "minus" sMinus)
    (F_times : FunAt K "times" sTimes)
    (F_divided : FunAt K "divided" sDiv)
    (F_is_less : FunAt K "is_less" sLess)
    (F_lesser : FunAt K "lesser" sLesser)
    (F_together : FunAt K "together" sTog)
    (F_above_common_line : FunAt K "above_common_line" sLine)
    (F_ascending : FunAt K "ascending" sAsc)
    (F_is_whole : FunAt K "is_whole" sWhole1)
    (F_by_parts : FunAt K "by_parts" sParts)
    (F_gains_level : FunAt K "gains_level" sLevel)
    (F_equal_gains : FunAt K "equal_gains" sGains)
    (F_less_losses : FunAt K "less_losses" sLessL)
    (F_equal_losses : FunAt K "equal_losses" sLosses)
    (F_as_two_agree : FunAt K "as_two_agree" sAgree)
    (F_shares_by_rule : FunAt K "shares_by_rule" sRule)
    (F_in_whole_units : FunAt K "in_whole_units" sUnits)
    (F_told : FunAt K "told" sTold)
    (F_rise_below : FunAt K "rise_below" sRise)
    (F_call_size : FunAt K "call_size" sSize)
    (F_answer : FunAt K "answer" sAnswer)
    (F_answers : FunAt K "answers" sAnswers)
    (F_places : FunTAt K "places_largest_first" sPlaces c)
    (M_new_class : MethAt K CD "new_class" "Desk.new_class" sNew)
    (M_claim : MethAt K CD "claim" "Desk.claim" sClaim)
    (M_there : MethAt K CD "there" "Desk.there" sThere)
    (M_class_shares : MethAt K CD "class_shares" "Desk.class_shares" sCS)
    (M_share : MethAt K CD "share" "Desk.share" sShare)
    (M_all_is_whole : MethAt K CD "all_is_whole" "Desk.all_is_whole" sAllW)
    (M_whole : MethAt K CD "whole" "Desk.whole" sWhole)
    (M_again : MethAt K CD "again" "Desk.again" sAgain)
    (M_drop : MethAt K CD "drop" "Desk.drop" sDrop)
    (IC : InitAt K CC "ClaimClass.__init__" sCInit) (ID : InitAt K CD "Desk.__init__" sDInit)
    (cD : ClsIn K "Desk" CD) (cC : ClsIn K "ClaimClass" CC) (nCl : NoAttr K CD "classes") (nSt : NoAttr K CD "stock") (nRu : NoAttr K CC "rule") (nCm : NoAttr K CC "claims")
    (zl0 : PySem.W.nsIn K mainGlobals "len" = some none) (zs0 : PySem.W.nsIn K mainGlobals "sorted" = some none) (zz0 : PySem.W.nsIn K mainGlobals "zip" = some none) (zr0 : PySem.W.nsIn K mainGlobals "range" = some none)
    (i_LAST_RULE : IntAt K "LAST_RULE" (3))
    (i_MOST_CLASSES : IntAt K "MOST_CLASSES" (4))
    (i_MOST_CLAIMS : IntAt K "MOST_CLAIMS" (8))
    (i_WRONG_NUMBER : IntAt K "WRONG_NUMBER" (-1))
    (i_NONE_SUCH : IntAt K "NONE_SUCH" (-2))
    (i_NOT_WHOLE : IntAt K "NOT_WHOLE" (-6))
    (i_FULL : IntAt K "FULL" (-8))
    (i_NEW_CLASS : IntAt K "NEW_CLASS" (0))
    (i_CLAIM : IntAt K "CLAIM" (1))
    (i_THERE : IntAt K "THERE" (2))
    (i_SHARE : IntAt K "SHARE" (3))
    (i_WHOLE : IntAt K "WHOLE" (4))
    (i_AGAIN : IntAt K "AGAIN" (5))
    (tZ : TupAt K "ZERO" [0, 1]) (tS : TupAt K "CALL_SIZES" sizes) :
    ∃ (fd : FuncData) (cs : List (Addr × Addr)), (∀ p ∈ cs, h.get? p.2 = some (PySem.W.tabObj #[])) ∧ (∀ p ∈ cs, K.lookup p.2 = none) ∧ (∀ p ∈ cs, PySem.W.CodeHd h p.1 p.2) ∧ (∀ (s : Shared) (us : List Value), us.length = (["calls"] : List Str).length → BindsTo s fd ⟨us, []⟩ ((["calls"] : List Str).zip us)) ∧
      ∀ base : Heap, K.In base → base.Ns mainGlobals mg → (∀ p ∈ cs, LamX.TabB base mg p.1 p.2) → FnOk P w K mg base CX0 20 fa fd ["calls"] (spAnswers (cs.map fun p => (p.2, ("places_largest_first" : Str) ++ ".<locals>." ++ "<lambda>")) K) := by
  obtain ⟨fA, fdA, aA, FA⟩ := F_answers
  have e := hfa.symm.trans (PySem.W.mg_of KX G aA)
  cases e
  refine ⟨fdA, [(c, Pt)], fun p hp => ?_, fun p hp => ?_, fun p hp => ?_, fun s us hu => ?_, fun base KB GB TB => ?_⟩
  · rw [List.mem_singleton.mp hp]
    exact CH.2
  · rw [List.mem_singleton.mp hp]
    exact nP
  · rw [List.mem_singleton.mp hp]
    exact CH.1
  · obtain ⟨oc, od, kV, doc, pm, an, cdv, ct, osl, rfl, _, _⟩ := FA.ex
    match us, hu with
    | [_], _ => exact .of_eq rfl
  have TBp := TB (c, Pt) (List.mem_singleton.mpr rfl)
  show FnOk P w K mg base CX0 20 fa fdA ["calls"] (spAnswers [(Pt, ("places_largest_first" : Str) ++ ".<locals>." ++ "<lambda>")] K)
  generalize hT : ([(Pt, ("places_largest_first" : Str) ++ ".<locals>." ++ "<lambda>")] : List (Addr × Str)) = T
  have hmT : (Pt, ("places_largest_first" : Str) ++ ".<locals>." ++ "<lambda>") ∈ T := by rw [← hT]; exact List.mem_singleton.mpr rfl
  have hu : ∀ p ∈ T, p.1 = Pt → p.2 = ("places_largest_first" : Str) ++ ".<locals>." ++ "<lambda>" := fun p hp _ => by
    rw [← hT] at hp
    rw [List.mem_singleton.mp hp]
  have zl := PySem.W.mg_none_of KX G zl0
  have zs := PySem.W.mg_none_of KX G zs0
  have zz := PySem.W.mg_none_of KX G zz0
  have zr := PySem.W.mg_none_of KX G zr0
  have int : ∀ {x : Str} {i : Int}, IntAt K x i → ∃ t, mg x = some (.int i t) := fun {x i} ⟨t, h⟩ => ⟨t, PySem.W.mg_of KX G h⟩
  have Z : Zero K mg := by
    obtain ⟨z, a, hz⟩ := tZ
    exact ⟨z, PySem.W.mg_of KX G a, hz⟩
  have X : Txt K mg CD CC := ⟨cD.cl, cC.cl, nCl, nSt, nRu, nCm, PySem.W.mg_of KX G cC.a, PySem.W.mg_of KX G cD.a, zl, int i_LAST_RULE, int i_MOST_CLASSES, int i_MOST_CLAIMS, int i_WRONG_NUMBER, int i_NONE_SUCH, int i_NOT_WHOLE, int i_FULL⟩
  have Y : Txt2 K mg := by
    obtain ⟨z, a, hz⟩ := tS
    exact ⟨int i_NEW_CLASS, int i_CLAIM, int i_THERE, int i_SHARE, int i_WHOLE, int i_AGAIN, z, PySem.W.mg_of KX G a, hz⟩
  have h_common_divisor : Has P w K mg base "common_divisor" 1 ["first", "second"] spGcd := has_of KX G F_common_divisor (fun _ _ _ _ _ _ us hl => match us, hl with | [_, _], _ => rfl) fun F => ok_gcd F
  have h_lowest : Has P w K mg base "lowest" 2 ["above", "below"] spLow := has_of KX G F_lowest (fun _ _ _ _ _ _ us hl => match us, hl with | [_, _], _ => rfl) fun F => ok_low F h_common_divisor
  have h_plus : Has P w K mg base "plus" 3 ["first", "second"] (spOp K (fun p q => p + q) fun _ _ => True) := has_of KX G F_plus (fun _ _ _ _ _ _ us hl => match us, hl with | [_, _], _ => rfl) fun F => ok_plus F h_lowest
  have h_minus : Has P w K mg base "minus" 3 ["first", "second"] (spOp K (fun p q => p - q) fun p q => q ≤ p) := has_of KX G F_minus (fun _ _ _ _ _ _ us hl => match us, hl with | [_, _], _ => rfl) fun F => ok_minus F h_lowest
  have h_times : Has P w K mg base "times" 3 ["first", "second"] (spOp K (fun p q => p * q) fun _ _ => True) := has_of KX G F_times (fun _ _ _ _ _ _ us hl => match us, hl with | [_, _], _ => rfl) fun F => ok_times F h_lowest
  have h_divided : Has P w K mg base "divided" 3 ["first", "second"] (spOp K (fun p q => p / q) fun _ q => 0 < q) := has_of KX G F_divided (fun _ _ _ _ _ _ us hl => match us, hl with | [_, _], _ => rfl) fun F => ok_div F h_lowest
  have h_is_less : Has P w K mg base "is_less" 1 ["first", "second"] (spLess K) := has_of KX G F_is_less (fun _ _ _ _ _ _ us hl => match us, hl with | [_, _], _ => rfl) fun F => ok_less F
  have h_lesser : Has P w K mg base "lesser" 2 ["first", "second"] (spLesser K) := has_of KX G F_lesser (fun _ _ _ _ _ _ us hl => match us, hl with | [_, _], _ => rfl) fun F => ok_lesser F h_is_less
  have h_together : Has P w K mg base "together" 4 ["amounts"] (spTog K) := has_of KX G F_together (fun _ _ _ _ _ _ us hl => match us, hl with | [_], _ => rfl) fun F => ok_tog F Z h_plus
  have h_above_common_line : Has P w K mg base "above_common_line" 1 ["amounts"] (spLine K) := has_of KX G F_above_common_line (fun _ _ _ _ _ _ us hl => match us, hl with | [_], _ => rfl) fun F => ok_line F
  have h_ascending : Has P w K mg base "ascending" 4 ["amounts"] (spAsc T K) := has_of KX G F_ascending (fun _ _ _ _ _ _ us hl => match us, hl with | [_], _ => rfl) fun F => ok_asc F h_above_common_line zs zz
  have h_is_whole : Has P w K mg base "is_whole" 1 ["amount"] (spIsWhole K) := has_of KX G F_is_whole (fun _ _ _ _ _ _ us hl => match us, hl with | [_], _ => rfl) fun F => ok_isW F
  have h_by_parts : Has P w K mg base "by_parts" 5 ["claims", "has"] (spRule T K 20 7800 parts fun _ _ => True) := has_of KX G F_by_parts (fun _ _ _ _ _ _ us hl => match us, hl with | [_, _], _ => rfl) fun F => ok_parts F h_together h_times h_divided
  have h_gains_level : Has P w K mg base "gains_level" 5 ["claims", "has"] (spLevel T K) := has_of KX G F_gains_level (fun _ _ _ _ _ _ us hl => match us, hl with | [_, _], _ => rfl) fun F => ok_level F Z zl h_ascending h_divided h_is_less h_minus
  have h_equal_gains : Has P w K mg base "equal_gains" 6 ["claims", "has"] (spRule T K 21 8000 gains fun _ _ => True) := has_of KX G F_equal_gains (fun _ _ _ _ _ _ us hl => match us, hl with | [_, _], _ => rfl) fun F => ok_gains F h_gains_level h_lesser
  have h_less_losses : Has P w K mg base "less_losses" 4 ["claims", "losses"] (spLessL K) := has_of KX G F_less_losses (fun _ _ _ _ _ _ us hl => match us, hl with | [_, _], _ => rfl) fun F => ok_lessL F zz h_minus
  have h_equal_losses : Has P w K mg base "equal_losses" 7 ["claims", "has"] (spRule T K 20 7800 losses fun qs e => e ≤ Co07.sum qs ∧ Claims qs) := has_of KX G F_equal_losses (fun _ _ _ _ _ _ us hl => match us, hl with | [_, _], _ => rfl) fun F => ok_losses F h_together h_minus h_equal_gains h_less_losses
  have h_as_two_agree : Has P w K mg base "as_two_agree" 7 ["claims", "has"] (spRule T K 20 7800 agreed fun qs e => e ≤ Co07.sum qs ∧ Claims qs) := has_of KX G F_as_two_agree (fun _ _ _ _ _ _ us hl => match us, hl with | [_, _], _ => rfl) fun F => ok_agree F h_lowest h_is_less h_together h_minus h_equal_gains h_less_losses
  have h_shares_by_rule : Has P w K mg base "shares_by_rule" 8 ["rule", "claims", "has"] (spShare T K) := has_of KX G F_shares_by_rule (fun _ _ _ _ _ _ us hl => match us, hl with | [_, _, _], _ => rfl) fun F => ok_rule F h_by_parts h_equal_gains h_equal_losses h_as_two_agree
  have h_places_largest_first : Has P w K mg base "places_largest_first" 4 ["amounts"] (spPlaces T K) := by
    obtain ⟨f, fd, a, F⟩ := F_places
    exact ⟨f, fd, PySem.W.mg_of KX G a, F.to.kp, F.to.binds (fun _ _ _ _ _ _ us hl => match us, hl with | [_], _ => rfl), ok_places F TBp hmT hu h_above_common_line zs zr zl⟩
  have h_in_whole_units : Has P w K mg base "in_whole_units" 5 ["shares"] (spUnits T K) := has_of KX G F_in_whole_units (fun _ _ _ _ _ _ us hl => match us, hl with | [_], _ => rfl) fun F => ok_units F zz h_minus h_together h_places_largest_first
  have h_told : Has P w K mg base "told" 1 ["amounts"] (spTold K) := has_of KX G F_told (fun _ _ _ _ _ _ us hl => match us, hl with | [_], _ => rfl) fun F => ok_told F zl
  have h_rise_below : Has P w K mg base "rise_below" 1 ["numbers", "limit"] (spRise K) := has_of KX G F_rise_below (fun _ _ _ _ _ _ us hl => match us, hl with | [_, _], _ => rfl) fun F => ok_rise F
  obtain ⟨fC, fdC, MC, FC⟩ := IC
  have GC : FnOk P w K mg base CX0 1 fC fdC ["self", "rule"] (spCInit CC) := ok_cinit FC X
  have bC : Binds K fdC ["self", "rule"] [] := FC.binds (fun _ _ _ _ _ _ us hl => match us, hl with | [_, _], _ => rfl)
  obtain ⟨fD, fdD, MD, FD⟩ := ID
  have GD : FnOk P w K mg base CX0 1 fD fdD ["self"] (spDInit T K CD CC) := ok_dinit FD X Z
  have bD : Binds K fdD ["self"] [] := FD.binds (fun _ _ _ _ _ _ us hl => match us, hl with | [_], _ => rfl)
  have m_new_class : Ms P w K mg base CD "new_class" 9 ["self", "rule"] (spNew T K CD CC) := ms_of M_new_class (fun _ _ _ _ _ _ us hl => match us, hl with | [_, _], _ => rfl) fun F => ok_new F X MC GC bC
  have m_claim : Ms P w K mg base CD "claim" 9 ["self", "k", "a", "b"] (spClaim T K CD CC) := ms_of M_claim (fun _ _ _ _ _ _ us hl => match us, hl with | [_, _, _, _], _ => rfl) fun F => ok_claim F X h_lowest
  have m_there : Ms P w K mg base CD "there" 9 ["self", "a", "b"] (spThere T K CD CC) := ms_of M_there (fun _ _ _ _ _ _ us hl => match us, hl with | [_, _, _], _ => rfl) fun F => ok_there F X h_lowest
  have m_class_shares : Ms P w K mg base CD "class_shares" 9 ["self"] (spCS T K CD CC) := ms_of M_class_shares (fun _ _ _ _ _ _ us hl => match us, hl with | [_], _ => rfl) fun F => ok_cs F X h_together h_lesser h_minus h_shares_by_rule
  obtain ⟨_, _, mCS, bCS, gCS⟩ := m_class_shares.ex
  have m_share : Ms P w K mg base CD "share" 10 ["self"] (spShareM T K CD CC) := ms_of M_share (fun _ _ _ _ _ _ us hl => match us, hl with | [_], _ => rfl) fun F => ok_share F X gCS bCS mCS h_told
  have m_all_is_whole : Ms P w K mg base CD "all_is_whole" 9 ["self"] (spAllW T K CD CC) := ms_of M_all_is_whole (fun _ _ _ _ _ _ us hl => match us, hl with | [_], _ => rfl) fun F => ok_allW F X h_is_whole
  obtain ⟨_, _, mAW, bAW, gAW⟩ := m_all_is_whole.ex
  have m_whole : Ms P w K mg base CD "whole" 10 ["self"] (spWholeM T K CD CC) := ms_of M_whole (fun _ _ _ _ _ _ us hl => match us, hl with | [_], _ => rfl) fun F => ok_whole F X gCS bCS mCS gAW bAW mAW h_in_whole_units
  have m_again : Ms P w K mg base CD "again" 10 ["self", "k", "places"] (spAgain T K CD CC) := ms_of M_again (fun _ _ _ _ _ _ us hl => match us, hl with | [_, _, _], _ => rfl) fun F => ok_again F X gCS bCS mCS h_rise_below h_together h_shares_by_rule h_told
  have m_drop : Ms P w K mg base CD "drop" 9 ["self", "k", "i"] (spDrop T K CD CC) := ms_of M_drop (fun _ _ _ _ _ _ us hl => match us, hl with | [_, _, _], _ => rfl) fun F => ok_drop F X
  have h_call_size : Has P w K mg base "call_size" 1 ["calls", "place"] (spSize K) := has_of KX G F_call_size (fun _ _ _ _ _ _ us hl => match us, hl with | [_, _], _ => rfl) fun F => ok_size F Y
  have h_answer : Has P w K mg base "answer" 11 ["desk", "call"] (spAnswer T K CD CC) := has_of KX G F_answer (fun _ _ _ _ _ _ us hl => match us, hl with | [_, _], _ => rfl) fun F => ok_answer F X Y m_new_class m_claim m_there m_share m_whole m_again m_drop
  exact ok_answers FA X MD GD bD h_call_size h_answer
end Cs

set_option Elab.async false
set_option linter.all false
open PySem PySem.W PyProof.Rows
set_option maxRecDepth 100000 in
set_option maxHeartbeats 0 in
theorem PySem.Challenge.cw_claimshares_s01_answers_holds : PySem.Challenge.rw_claimshares_s01_answers.Holds := by
  w_on; k_headS; (case hw => exact ⟨[.list [.int 3]], by decide +kernel, by decide +kernel⟩)
  k_fillS
  refine Cs.walk_specT (r := PySem.Challenge.rw_claimshares_s01_answers) (k := 20) (ps := ["calls"]) (sp := fun cs K => Cs.spAnswers (cs.map fun p => (p.2, ("places_largest_first" : Str) ++ ".<locals>." ++ "<lambda>")) K) (by decide +kernel) rfl rfl ⟨rfl, by decide, by decide⟩ (fun w h Y => PySem.W.kIn_of Y) ?F ?S
  case F =>
    intro w mg mb mean fa h T KX G hmg
    have tt := PySem.W.tab_of (x := "places_largest_first") T KX (by rfl) (by rfl)
    refine' Cs.all_mk KX G hmg tt ?nP (Cs.fun_at ?a_common_divisor ?l_common_divisor ?c_common_divisor ?k_common_divisor) (Cs.fun_at ?a_lowest ?l_lowest ?c_lowest ?k_lowest) (Cs.fun_at ?a_plus ?l_plus ?c_plus ?k_plus) (Cs.fun_at ?a_minus ?l_minus ?c_minus ?k_minus) (Cs.fun_at ?a_times ?l_times ?c_times ?k_times) (Cs.fun_at ?a_divided ?l_divided ?c_divided ?k_divided) (Cs.fun_at ?a_is_less ?l_is_less ?c_is_less ?k_is_less) (Cs.fun_at ?a_lesser ?l_lesser ?c_lesser ?k_lesser) (Cs.fun_at ?a_together ?l_together ?c_together ?k_together) (Cs.fun_at ?a_above_common_line ?l_above_common_line ?c_above_common_line ?k_above_common_line) (Cs.fun_at ?a_ascending ?l_ascending ?c_ascending ?k_ascending) (Cs.fun_at ?a_is_whole ?l_is_whole ?c_is_whole ?k_is_whole) (Cs.fun_at ?a_by_parts ?l_by_parts ?c_by_parts ?k_by_parts) (Cs.fun_at ?a_gains_level ?l_gains_level ?c_gains_level ?k_gains_level) (Cs.fun_at ?a_equal_gains ?l_equal_gains ?c_equal_gains ?k_equal_gains) (Cs.fun_at ?a_less_losses ?l_less_losses ?c_less_losses ?k_less_losses) (Cs.fun_at ?a_equal_losses ?l_equal_losses ?c_equal_losses ?k_equal_losses) (Cs.fun_at ?a_as_two_agree ?l_as_two_agree ?c_as_two_agree ?k_as_two_agree) (Cs.fun_at ?a_shares_by_rule ?l_shares_by_rule ?c_shares_by_rule ?k_shares_by_rule) (Cs.fun_at ?a_in_whole_units ?l_in_whole_units ?c_in_whole_units ?k_in_whole_units) (Cs.fun_at ?a_told ?l_told ?c_told ?k_told) (Cs.fun_at ?a_rise_below ?l_rise_below ?c_rise_below ?k_rise_below) (Cs.fun_at ?a_call_size ?l_call_size ?c_call_size ?k_call_size) (Cs.fun_at ?a_answer ?l_answer ?c_answer ?k_answer) (Cs.fun_at ?a_answers ?l_answers ?c_answers ?k_answers) (Cs.funT_at ?a_pl ?l_pl ?c_pl ?k_pl) (Cs.meth_at ?ma_new_class ?mi_new_class ?ml_new_class ?mc_new_class ?mk_new_class) (Cs.meth_at ?ma_claim ?mi_claim ?ml_claim ?mc_claim ?mk_claim) (Cs.meth_at ?ma_there ?mi_there ?ml_there ?mc_there ?mk_there) (Cs.meth_at ?ma_class_shares ?mi_class_shares ?ml_class_shares ?mc_class_shares ?mk_class_shares) (Cs.meth_at ?ma_share ?mi_share ?ml_share ?mc_share ?mk_share) (Cs.meth_at ?ma_all_is_whole ?mi_all_is_whole ?ml_all_is_whole ?mc_all_is_whole ?mk_all_is_whole) (Cs.meth_at ?ma_whole ?mi_whole ?ml_whole ?mc_whole ?mk_whole) (Cs.meth_at ?ma_again ?mi_again ?ml_again ?mc_again ?mk_again) (Cs.meth_at ?ma_drop ?mi_drop ?ml_drop ?mc_drop ?mk_drop) (Cs.init_at ?mkC ?kcC ?aC ?iC ?lC ?cC ?kC) (Cs.init_at ?mkD ?kcD ?aD ?iD ?lD ?cD ?kD) ⟨?nsD, ⟨?pgD, ?hdD, ?poD, ?saD⟩⟩ ⟨?nsC, ⟨?pgC, ?hdC, ?poC, ?saC⟩⟩ ?nCl ?nSt ?nRu ?nCm ?zl0 ?zs0 ?zz0 ?zr0 (Cs.int_at ?i_LAST_RULE) (Cs.int_at ?i_MOST_CLASSES) (Cs.int_at ?i_MOST_CLAIMS) (Cs.int_at ?i_WRONG_NUMBER) (Cs.int_at ?i_NONE_SUCH) (Cs.int_at ?i_NOT_WHOLE) (Cs.int_at ?i_FULL) (Cs.int_at ?i_NEW_CLASS) (Cs.int_at ?i_CLAIM) (Cs.int_at ?i_THERE) (Cs.int_at ?i_SHARE) (Cs.int_at ?i_WHOLE) (Cs.int_at ?i_AGAIN) (Cs.tup_at ?zA ?zL ?zC ?zD ?zS ?zV) (Cs.tup_at ?sA ?sL ?sC ?sD ?sS ?sV)
    (case nP => first | rfl | k_is)
    (case nsD => k_is)
    (case nsC => k_is)
    (case a_common_divisor => k_is)
    (case l_common_divisor => k_is)
    (case c_common_divisor => k_is)
    (case k_common_divisor => k_is)
    (case a_lowest => k_is)
    (case l_lowest => k_is)
    (case c_lowest => k_is)
    (case k_lowest => k_is)
    (case a_plus => k_is)
    (case l_plus => k_is)
    (case c_plus => k_is)
    (case k_plus => k_is)
    (case a_minus => k_is)
    (case l_minus => k_is)
    (case c_minus => k_is)
    (case k_minus => k_is)
    (case a_times => k_is)
    (case l_times => k_is)
    (case c_times => k_is)
    (case k_times => k_is)
    (case a_divided => k_is)
    (case l_divided => k_is)
    (case c_divided => k_is)
    (case k_divided => k_is)
    (case a_is_less => k_is)
    (case l_is_less => k_is)
    (case c_is_less => k_is)
    (case k_is_less => k_is)
    (case a_lesser => k_is)
    (case l_lesser => k_is)
    (case c_lesser => k_is)
    (case k_lesser => k_is)
    (case a_together => k_is)
    (case l_together => k_is)
    (case c_together => k_is)
    (case k_together => k_is)
    (case a_above_common_line => k_is)
    (case l_above_common_line => k_is)
    (case c_above_common_line => k_is)
    (case k_above_common_line => k_is)
    (case a_ascending => k_is)
    (case l_ascending => k_is)
    (case c_ascending => k_is)
    (case k_ascending => k_is)
    (case a_is_whole => k_is)
    (case l_is_whole => k_is)
    (case c_is_whole => k_is)
    (case k_is_whole => k_is)
    (case a_by_parts => k_is)
    (case l_by_parts => k_is)
    (case c_by_parts => k_is)
    (case k_by_parts => k_is)
    (case a_gains_level => k_is)
    (case l_gains_level => k_is)
    (case c_gains_level => k_is)
    (case k_gains_level => k_is)
    (case a_equal_gains => k_is)
    (case l_equal_gains => k_is)
    (case c_equal_gains => k_is)
    (case k_equal_gains => k_is)
    (case a_less_losses => k_is)
    (case l_less_losses => k_is)
    (case c_less_losses => k_is)
    (case k_less_losses => k_is)
    (case a_equal_losses => k_is)
    (case l_equal_losses => k_is)
    (case c_equal_losses => k_is)
    (case k_equal_losses => k_is)
    (case a_as_two_agree => k_is)
    (case l_as_two_agree => k_is)
    (case c_as_two_agree => k_is)
    (case k_as_two_agree => k_is)
    (case a_shares_by_rule => k_is)
    (case l_shares_by_rule => k_is)
    (case c_shares_by_rule => k_is)
    (case k_shares_by_rule => k_is)
    (case a_in_whole_units => k_is)
    (case l_in_whole_units => k_is)
    (case c_in_whole_units => k_is)
    (case k_in_whole_units => k_is)
    (case a_told => k_is)
    (case l_told => k_is)
    (case c_told => k_is)
    (case k_told => k_is)
    (case a_rise_below => k_is)
    (case l_rise_below => k_is)
    (case c_rise_below => k_is)
    (case k_rise_below => k_is)
    (case a_call_size => k_is)
    (case l_call_size => k_is)
    (case c_call_size => k_is)
    (case k_call_size => k_is)
    (case a_answer => k_is)
    (case l_answer => k_is)
    (case c_answer => k_is)
    (case k_answer => k_is)
    (case a_answers => k_is)
    (case l_answers => k_is)
    (case c_answers => k_is)
    (case k_answers => k_is)
    (case a_pl => k_is)
    (case l_pl => k_is)
    (case c_pl => k_is)
    (case k_pl => k_is)
    (case ma_new_class => k_is)
    (case mi_new_class => k_is)
    (case ml_new_class => k_is)
    (case mc_new_class => k_is)
    (case mk_new_class => k_is)
    (case ma_claim => k_is)
    (case mi_claim => k_is)
    (case ml_claim => k_is)
    (case mc_claim => k_is)
    (case mk_claim => k_is)
    (case ma_there => k_is)
    (case mi_there => k_is)
    (case ml_there => k_is)
    (case mc_there => k_is)
    (case mk_there => k_is)
    (case ma_class_shares => k_is)
    (case mi_class_shares => k_is)
    (case ml_class_shares => k_is)
    (case mc_class_shares => k_is)
    (case mk_class_shares => k_is)
    (case ma_share => k_is)
    (case mi_share => k_is)
    (case ml_share => k_is)
    (case mc_share => k_is)
    (case mk_share => k_is)
    (case ma_all_is_whole => k_is)
    (case mi_all_is_whole => k_is)
    (case ml_all_is_whole => k_is)
    (case mc_all_is_whole => k_is)
    (case mk_all_is_whole => k_is)
    (case ma_whole => k_is)
    (case mi_whole => k_is)
    (case ml_whole => k_is)
    (case mc_whole => k_is)
    (case mk_whole => k_is)
    (case ma_again => k_is)
    (case mi_again => k_is)
    (case ml_again => k_is)
    (case mc_again => k_is)
    (case mk_again => k_is)
    (case ma_drop => k_is)
    (case mi_drop => k_is)
    (case ml_drop => k_is)
    (case mc_drop => k_is)
    (case mk_drop => k_is)
    (case mkC => k_is)
    (case kcC => k_is)
    (case aC => k_is)
    (case iC => k_is)
    (case lC => k_is)
    (case cC => k_is)
    (case kC => k_is)
    (case mkD => k_is)
    (case kcD => k_is)
    (case aD => k_is)
    (case iD => k_is)
    (case lD => k_is)
    (case cD => k_is)
    (case kD => k_is)
    (case pgD => k_is)
    (case hdD => k_is)
    (case poD => k_is)
    (case saD => k_is)
    (case pgC => k_is)
    (case hdC => k_is)
    (case poC => k_is)
    (case saC => k_is)
    (case nCl => unfold L2.NoAttr; k_is)
    (case nSt => unfold L2.NoAttr; k_is)
    (case nRu => unfold L2.NoAttr; k_is)
    (case nCm => unfold L2.NoAttr; k_is)
    (case zl0 => k_is)
    (case zs0 => k_is)
    (case zz0 => k_is)
    (case zr0 => k_is)
    (case i_LAST_RULE => k_is)
    (case i_MOST_CLASSES => k_is)
    (case i_MOST_CLAIMS => k_is)
    (case i_WRONG_NUMBER => k_is)
    (case i_NONE_SUCH => k_is)
    (case i_NOT_WHOLE => k_is)
    (case i_FULL => k_is)
    (case i_NEW_CLASS => k_is)
    (case i_CLAIM => k_is)
    (case i_THERE => k_is)
    (case i_SHARE => k_is)
    (case i_WHOLE => k_is)
    (case i_AGAIN => k_is)
    (case zA => k_is)
    (case zL => k_is)
    (case zC => rfl)
    (case zD => rfl)
    (case zS => decide)
    (case zV => exact .cons ⟨_, rfl⟩ (.cons ⟨_, rfl⟩ .nil))
    (case sA => k_is)
    (case sL => k_is)
    (case sC => rfl)
    (case sD => rfl)
    (case sS => decide)
    (case sV => exact .cons ⟨_, rfl⟩ (.cons ⟨_, rfl⟩ (.cons ⟨_, rfl⟩ (.cons ⟨_, rfl⟩ (.cons ⟨_, rfl⟩ (.cons ⟨_, rfl⟩ (.cons ⟨_, rfl⟩ .nil)))))))
  case S =>
    intro cs K H xs a h0 hwi hask hx
    cases hx with
    | cons h1 h2 =>
      cases h2
      cases h1 with
      | lst hs ha =>
        have e := L2.ints_dw a.1 _ ha
        subst e
        have q : ((Codec.inLen 0 520 a.1 && a.1.all (Codec.inInt 0 1000000)) && true) = true := hwi
        rw [Bool.and_eq_true, Bool.and_eq_true] at q
        refine ⟨_, a.1, rfl, hs, fun x hx => ?_, hask, fun p hp => ?_, fun H' R hR => .lst (L2.SqL.of hR) (L2.dw_ints _)⟩
        · have := List.all_eq_true.mp q.1.2 x hx
          unfold Codec.inInt at this
          rw [Bool.and_eq_true] at this
          exact ⟨of_decide_eq_true this.1, of_decide_eq_true this.2⟩
        · obtain ⟨y, hy, rfl⟩ := List.mem_map.mp hp
          exact LamX.TabS.nil (h0 y hy)
#print axioms PySem.Challenge.cw_claimshares_s01_answers_holds

