import PyProof.Rows.All
import Wide.All
import OpenK.AllK
import Wide.FinOn
import Open.SpecLaws
import KE.OsGo
import HandS.Base
import HandS.Call
import HandS.List
import HandS.Comp
import HandS.Ends
import HandS.Dict
import HandS.Iter
import HandS.More
import HandS.Spec
import HandS.Words
import HandS.WordsList
import PySem.Challenge.RW_roundpowers_s01_answers
import PyFlatLaws
set_option Elab.async false
namespace Mx
/-! gcd -/
theorem gcd_step (a b : Nat) : Nat.gcd a b = Nat.gcd b (a % b) := by
  rw [Nat.gcd_comm a b, Nat.gcd_rec b a, Nat.gcd_comm]
theorem gcd_mod (a n : Nat) : Nat.gcd (a % n) n = Nat.gcd a n := by
  rw [Nat.gcd_comm a n, Nat.gcd_rec n a]
/-! powers -/
theorem powFrom_eq (n : Nat) : ∀ (f a k : Nat), k < 2 ^ f → Na01.powFrom n f a k = a ^ k % n
  | 0, a, k, h => by
    have e : k = 0 := by simpa using h
    subst e
    simp [Na01.powFrom]
  | f + 1, a, k, h => by
    show (if k = 0 then 1 % n else if k % 2 = 1 then a * Na01.powFrom n f (a * a % n) (k / 2) % n else Na01.powFrom n f (a * a % n) (k / 2)) = a ^ k % n
    by_cases h0 : k = 0
    · subst h0
      simp
    · rw [if_neg h0]
      have hk : k / 2 < 2 ^ f := by
        rw [Nat.pow_succ] at h
        omega
      rw [powFrom_eq n f (a * a % n) (k / 2) hk, ← Nat.pow_mod]
      have e2 : (a * a) ^ (k / 2) = a ^ (2 * (k / 2)) := by
        rw [Nat.pow_mul, Nat.pow_two]
      by_cases h1 : k % 2 = 1
      · rw [if_pos h1, Nat.mul_mod_mod, e2]
        have e : k = 2 * (k / 2) + 1 := by omega
        conv => rhs; rw [e, Nat.pow_succ]
        rw [Nat.mul_comm]
      · rw [if_neg h1, e2]
        have e : k = 2 * (k / 2) := by omega
        conv => rhs; rw [e]
theorem pow_eq (n a k : Nat) : Na01.pow n a k = a ^ k % n := by
  unfold Na01.pow
  have h : k < 2 ^ (k.log2 + 2) := by
    have := @Nat.lt_log2_self k
    rw [Nat.pow_succ]
    omega
  rw [powFrom_eq n _ _ _ h, ← Nat.pow_mod]
/-! pigeons -/
theorem pigeon : ∀ (n : Nat) (l : List Nat), l.Nodup → (∀ x ∈ l, x < n) → l.length ≤ n
  | 0, l, _, h => by
    cases l with
    | nil => exact Nat.le_refl 0
    | cons x r => exact absurd (h x (List.mem_cons_self ..)) (Nat.not_lt_zero x)
  | n + 1, l, nd, h => by
    have h1 : ∀ x ∈ l.erase n, x < n := fun x hx => by
      have m := (List.Nodup.mem_erase_iff nd).mp hx
      have := h x m.2
      have := m.1
      omega
    have h2 := pigeon n (l.erase n) (nd.erase n) h1
    have h3 : l.length ≤ (l.erase n).length + 1 := by
      rw [List.length_erase]
      split <;> omega
    omega
theorem two_alike (n : Nat) (f : Nat → Nat) (hf : ∀ k, f k < n) : ∃ i j, i < j ∧ j ≤ n ∧ f i = f j := by
  by_cases H : ∃ i j, i < j ∧ j ≤ n ∧ f i = f j
  · exact H
  · exfalso
    have nd : ((List.range (n + 1)).map f).Nodup := by
      unfold List.Nodup
      rw [List.pairwise_map]
      refine (List.pairwise_lt_range (n := n + 1)).imp_of_mem fun {a b} _ hb hab e => ?_
      have := List.mem_range.mp hb
      exact H ⟨a, b, hab, by omega, e⟩
    have := pigeon n _ nd (fun x hx => by
      obtain ⟨k, _, rfl⟩ := List.mem_map.mp hx
      exact hf k)
    rw [List.length_map, List.length_range] at this
    omega
theorem cop_pow {a n : Nat} (h : Nat.gcd a n = 1) (i : Nat) : Nat.Coprime n (a ^ i) := by
  exact (Nat.Coprime.pow_left i h).symm
theorem one_of_dvd {x n : Nat} (hx : 1 ≤ x) (h : n ∣ x - 1) : x % n = 1 % n := by
  obtain ⟨q, hq⟩ := h
  have e : x = n * q + 1 := by omega
  rw [e, Nat.mul_add_mod]
/-- powers alike: the difference's power is one -/
theorem cancel_pow {a n i d : Nat} (h : Nat.gcd a n = 1) (e : a ^ (i + d) % n = a ^ i % n) : a ^ d % n = 1 % n := by
  by_cases ha : a = 0
  · subst ha
    rw [Nat.gcd_zero_left] at h
    subst h
    rw [Nat.mod_one, Nat.mod_one]
  · have pos : ∀ k, 1 ≤ a ^ k := fun k => Nat.pow_pos (Nat.pos_of_ne_zero ha)
    have h1 : (a ^ (i + d) - a ^ i) % n = 0 := Nat.sub_mod_eq_zero_of_mod_eq e
    have h2 : n ∣ a ^ i * (a ^ d - 1) := by
      rw [Nat.mul_sub, Nat.mul_one, ← Nat.pow_add]
      exact Nat.dvd_of_mod_eq_zero h1
    exact one_of_dvd (pos d) ((cop_pow h i).dvd_of_dvd_mul_left h2)
theorem some_order {a n : Nat} (hn : 1 ≤ n) (h : Nat.gcd a n = 1) : ∃ d, 1 ≤ d ∧ d ≤ n ∧ a ^ d % n = 1 % n := by
  obtain ⟨i, j, hij, hj, e⟩ := two_alike n (fun k => a ^ k % n) (fun k => Nat.mod_lt _ (by omega))
  refine ⟨j - i, by omega, by omega, cancel_pow (i := i) h ?_⟩
  have : i + (j - i) = j := by omega
  rw [this]
  exact e.symm
/-! orders -/
theorem orderFrom_ok (n a : Nat) : ∀ (f i : Nat), (∃ t, t < f ∧ a ^ (i + t) % n = 1 % n) →
    Na01.orderFrom n a f (a ^ i % n) < f ∧ a ^ (i + Na01.orderFrom n a f (a ^ i % n)) % n = 1 % n ∧ ∀ j, j < Na01.orderFrom n a f (a ^ i % n) → a ^ (i + j) % n ≠ 1 % n
  | 0, i, h => by
    obtain ⟨t, ht, _⟩ := h
    omega
  | f + 1, i, h => by
    have e : Na01.orderFrom n a (f + 1) (a ^ i % n) = if a ^ i % n = 1 % n then 0 else 1 + Na01.orderFrom n a f (a * (a ^ i % n) % n) := rfl
    by_cases c : a ^ i % n = 1 % n
    · rw [if_pos c] at e
      rw [e]
      exact ⟨by omega, c, fun j hj => by omega⟩
    · rw [if_neg c, Nat.mul_mod_mod, Nat.mul_comm a, ← Nat.pow_succ, Nat.succ_eq_add_one] at e
      obtain ⟨t, ht, et⟩ := h
      have t0 : t ≠ 0 := fun z => by
        subst z
        exact c et
      obtain ⟨h1, h2, h3⟩ := orderFrom_ok n a f (i + 1) ⟨t - 1, by omega, by
        have : i + 1 + (t - 1) = i + t := by omega
        rw [this]
        exact et⟩
      rw [e]
      refine ⟨by omega, ?_, fun j hj => ?_⟩
      · rw [← Nat.add_assoc]
        exact h2
      · cases j with
        | zero => exact c
        | succ j =>
          have := h3 j (by omega)
          have e3 : i + (j + 1) = i + 1 + j := by omega
          rw [e3]
          exact this
theorem order_ok {a n : Nat} (hn : 1 ≤ n) (h : Nat.gcd a n = 1) : 1 ≤ Na01.order n a ∧ Na01.order n a ≤ n ∧ a ^ Na01.order n a % n = 1 % n ∧ ∀ j, 1 ≤ j → j < Na01.order n a → a ^ j % n ≠ 1 % n := by
  obtain ⟨d, d1, d2, d3⟩ := some_order hn h
  have e1 : a ^ 1 % n = a % n := by rw [Nat.pow_one]
  have := orderFrom_ok n a n 1 ⟨d - 1, by omega, by
    have : 1 + (d - 1) = d := by omega
    rw [this]
    exact d3⟩
  rw [e1] at this
  obtain ⟨h1, h2, h3⟩ := this
  unfold Na01.order
  refine ⟨by omega, by omega, h2, fun j j1 j2 => ?_⟩
  have := h3 (j - 1) (by omega)
  have e : 1 + (j - 1) = j := by omega
  rw [e] at this
  exact this
theorem order_uniq {a n d : Nat} (hn : 1 ≤ n) (h : Nat.gcd a n = 1) (d1 : 1 ≤ d) (d2 : a ^ d % n = 1 % n) (d3 : ∀ j, 1 ≤ j → j < d → a ^ j % n ≠ 1 % n) : Na01.order n a = d := by
  obtain ⟨o1, _, o2, o3⟩ := order_ok hn h
  rcases Nat.lt_trichotomy (Na01.order n a) d with c | c | c
  · exact absurd o2 (d3 _ o1 c)
  · exact c
  · exact absurd d2 (o3 _ d1 c)
/-! logarithms -/
theorem pow_mul_one {a n d : Nat} (h : a ^ d % n = 1 % n) (k : Nat) : a ^ (k + d) % n = a ^ k % n := by
  rw [Nat.pow_add, Nat.mul_mod, h, ← Nat.mul_mod, Nat.mul_one]
theorem find_range_some {p : Nat → Bool} {n k : Nat} (hk : k < n) (hp : p k = true) (hm : ∀ j, j < k → p j = false) : (List.range n).find? p = some k := by
  rw [List.find?_range_eq_some]
  exact ⟨hp, by simpa using hk, fun j hj => by simp [hm j hj]⟩
theorem find_range_none {p : Nat → Bool} {n : Nat} (hm : ∀ j, j < n → p j = false) : (List.range n).find? p = none := by
  rw [List.find?_eq_none]
  intro x hx
  rw [hm x (List.mem_range.mp hx)]
  exact Bool.false_ne_true
/-- found by going through the powers from 0 on -/
theorem log_some {n g a k : Nat} (hn : 1 ≤ n) (hg : Nat.gcd g n = 1) (hk : g ^ k % n = a % n) (hm : ∀ j, j < k → g ^ j % n ≠ a % n) : Na01.log n g a = some k := by
  obtain ⟨o1, _, o2, _⟩ := order_ok hn hg
  have lt : k < Na01.order n g := by
    apply Decidable.byContradiction
    intro c
    have e : k = (k - Na01.order n g) + Na01.order n g := by omega
    have := hm (k - Na01.order n g) (by omega)
    rw [e, pow_mul_one o2] at hk
    exact this hk
  unfold Na01.log
  refine find_range_some lt ?_ fun j hj => ?_
  · rw [pow_eq]
    exact beq_iff_eq.mpr hk
  · rw [pow_eq]
    exact beq_eq_false_iff_ne.mpr (hm j hj)
theorem log_none {n g a : Nat} (hn : 1 ≤ n) (hg : Nat.gcd g n = 1) (hm : ∀ j, j < n → g ^ j % n ≠ a % n) : Na01.log n g a = none := by
  obtain ⟨o1, ole, o2, _⟩ := order_ok hn hg
  unfold Na01.log
  refine find_range_none fun j hj => ?_
  rw [pow_eq]
  exact beq_eq_false_iff_ne.mpr (hm j (by omega))
end Mx


set_option Elab.async false
namespace Mx
theorem pow_start (n a k : Nat) : 1 % n * (a % n) ^ k % n = a ^ k % n := by
  rw [Nat.mod_mul_mod, Nat.one_mul, ← Nat.pow_mod]
theorem mul_pow_mod (r s n k : Nat) : r * (s % n) ^ k % n = r * s ^ k % n := by
  rw [Nat.mul_mod, ← Nat.pow_mod, ← Nat.mul_mod]
theorem sq_pow (s k : Nat) : (s * s) ^ k = s ^ (2 * k) := by rw [Nat.pow_mul, Nat.pow_two]
theorem pow_odd {r s n k : Nat} (h : k % 2 = 1) : r * s % n * (s * s % n) ^ (k / 2) % n = r * s ^ k % n := by
  rw [mul_pow_mod, Nat.mod_mul_mod, sq_pow, Nat.mul_assoc, Nat.mul_comm s, ← Nat.pow_succ]
  have e : (2 * (k / 2)).succ = k := by omega
  rw [e]
theorem pow_even {r s n k : Nat} (h : ¬ k % 2 = 1) : r * (s * s % n) ^ (k / 2) % n = r * s ^ k % n := by
  rw [mul_pow_mod, sq_pow]
  have e : 2 * (k / 2) = k := by omega
  rw [e]
theorem pow_next (a n k : Nat) : a ^ k % n * a % n = a ^ (k + 1) % n := by
  rw [Nat.mod_mul_mod, ← Nat.pow_succ]
theorem mem_units {n a : Nat} (h : a ∈ Na01.units n) : a < n ∧ Nat.gcd a n = 1 := by
  unfold Na01.units at h
  rw [List.mem_filter, List.mem_range] at h
  exact ⟨h.1, by simpa using h.2⟩
theorem units_length (n : Nat) : (Na01.units n).length ≤ n := by
  unfold Na01.units
  refine Nat.le_trans (List.length_filter_le _ _) ?_
  rw [List.length_range]
  exact Nat.le_refl n
end Mx


set_option Elab.async false
namespace Mx
/-! inverses -/
theorem cancel_mul {a b c n : Nat} (h : Nat.gcd a n = 1) (e : a * b % n = a * c % n) : b % n = c % n := by
  rcases Nat.le_total c b with l | l
  · have h1 : (a * b - a * c) % n = 0 := Nat.sub_mod_eq_zero_of_mod_eq e
    rw [← Nat.mul_sub] at h1
    have h2 : n ∣ b - c := (Nat.Coprime.symm h).dvd_of_dvd_mul_left (Nat.dvd_of_mod_eq_zero h1)
    obtain ⟨q, hq⟩ := h2
    have : b = n * q + c := by omega
    rw [this, Nat.mul_add_mod]
  · have h1 : (a * c - a * b) % n = 0 := Nat.sub_mod_eq_zero_of_mod_eq e.symm
    rw [← Nat.mul_sub] at h1
    have h2 : n ∣ c - b := (Nat.Coprime.symm h).dvd_of_dvd_mul_left (Nat.dvd_of_mod_eq_zero h1)
    obtain ⟨q, hq⟩ := h2
    have : c = n * q + b := by omega
    rw [this, Nat.mul_add_mod]
theorem inverse_eq {a b n : Nat} (h : Nat.gcd a n = 1) (hb : b < n) (e : a * b % n = 1 % n) : ((List.range n).find? fun b => a % n * b % n == 1 % n).getD 0 = b := by
  rw [find_range_some hb]
  · rfl
  · rw [Nat.mod_mul_mod]
    exact beq_iff_eq.mpr e
  · intro j hj
    rw [Nat.mod_mul_mod]
    refine beq_eq_false_iff_ne.mpr fun z => ?_
    have := cancel_mul h (z.trans e.symm)
    rw [Nat.mod_eq_of_lt hb, Nat.mod_eq_of_lt (by omega)] at this
    omega
theorem inverse_pow {a n : Nat} (hn : 1 ≤ n) (h : Nat.gcd a n = 1) : a * (a ^ (Na01.order n a - 1) % n) % n = 1 % n := by
  obtain ⟨o1, _, o3, _⟩ := order_ok hn h
  rw [Nat.mul_mod_mod, Nat.mul_comm, ← Nat.pow_succ]
  have : (Na01.order n a - 1).succ = Na01.order n a := by omega
  rw [this]
  exact o3
theorem has_inverse {a n : Nat} (hn : 1 ≤ n) (h : Nat.gcd a n = 1) : ∃ b, b < n ∧ a * b % n = 1 % n :=
  ⟨a ^ (Na01.order n a - 1) % n, Nat.mod_lt _ hn, inverse_pow hn h⟩
/-! together -/
theorem dvd_sub_of_mod {x y m : Nat} (e : x % m = y % m) : m ∣ x - y := Nat.dvd_of_mod_eq_zero (Nat.sub_mod_eq_zero_of_mod_eq e)
theorem mod_of_dvd_sub {x y m : Nat} (h : y ≤ x) (d : m ∣ x - y) : x % m = y % m := by
  obtain ⟨q, hq⟩ := d
  have : x = m * q + y := by omega
  rw [this, Nat.mul_add_mod]
theorem mod_lcm {x y a b : Nat} (h1 : x % a = y % a) (h2 : x % b = y % b) : x % Nat.lcm a b = y % Nat.lcm a b := by
  rcases Nat.le_total y x with l | l
  · exact mod_of_dvd_sub l (Nat.lcm_dvd (dvd_sub_of_mod h1) (dvd_sub_of_mod h2))
  · exact (mod_of_dvd_sub l (Nat.lcm_dvd (dvd_sub_of_mod h1.symm) (dvd_sub_of_mod h2.symm))).symm
theorem mod_of_mod_dvd {x y a b : Nat} (d : a ∣ b) (h : x % b = y % b) : x % a = y % a := by
  rw [← Nat.mod_mod_of_dvd x d, h, Nat.mod_mod_of_dvd y d]
/-- the least number that all divide -/
def lcmAll (l : List (Nat × Nat)) : Nat := l.foldl (fun m x => Nat.lcm m x.2) 1
def fits (l : List (Nat × Nat)) (x : Nat) : Prop := ∀ r ∈ l, x % r.2 = r.1 % r.2
theorem foldl_lcm_dvd : ∀ (l : List (Nat × Nat)) (m : Nat), m ∣ l.foldl (fun m x => Nat.lcm m x.2) m ∧ ∀ r ∈ l, r.2 ∣ l.foldl (fun m x => Nat.lcm m x.2) m
  | [], m => ⟨Nat.dvd_refl m, fun r h => absurd h List.not_mem_nil⟩
  | p :: l, m => by
    obtain ⟨h1, h2⟩ := foldl_lcm_dvd l (Nat.lcm m p.2)
    refine ⟨Nat.dvd_trans (Nat.dvd_lcm_left _ _) h1, fun r hr => ?_⟩
    rcases List.mem_cons.mp hr with rfl | hr
    · exact Nat.dvd_trans (Nat.dvd_lcm_right _ _) h1
    · exact h2 r hr
theorem foldl_lcm_mod {x y : Nat} : ∀ (l : List (Nat × Nat)) (m : Nat), x % m = y % m → (∀ r ∈ l, x % r.2 = y % r.2) → x % l.foldl (fun m x => Nat.lcm m x.2) m = y % l.foldl (fun m x => Nat.lcm m x.2) m
  | [], _, h, _ => h
  | p :: l, m, h, hr => foldl_lcm_mod l (Nat.lcm m p.2) (mod_lcm h (hr p (List.mem_cons_self ..))) (fun r m => hr r (List.mem_cons_of_mem _ m))
/-- two numbers that fit leave the same round the least common -/
theorem fits_same {l : List (Nat × Nat)} {x y : Nat} (hx : fits l x) (hy : fits l y) : x % lcmAll l = y % lcmAll l :=
  foldl_lcm_mod l 1 (by rw [Nat.mod_one, Nat.mod_one]) fun r hr => (hx r hr).trans (hy r hr).symm
theorem fits_mod {l : List (Nat × Nat)} {x : Nat} (hx : fits l x) : fits l (x % lcmAll l) := fun r hr => by
  have d : r.2 ∣ lcmAll l := (foldl_lcm_dvd l 1).2 r hr
  rw [Nat.mod_mod_of_dvd x d]
  exact hx r hr
theorem together_some {l : List (Nat × Nat)} {x : Nat} (hx : fits l x) (hlt : x < lcmAll l) : Na01.together l = some x := by
  unfold Na01.together
  refine find_range_some hlt ?_ fun j hj => ?_
  · rw [List.all_eq_true]
    exact fun r hr => beq_iff_eq.mpr (hx r hr)
  · cases e : (l.all fun r => j % r.2 == r.1 % r.2) with
    | false => rfl
    | true =>
      have hj2 : fits l j := fun r hr => beq_iff_eq.mp (List.all_eq_true.mp e r hr)
      have := fits_same hx hj2
      rw [Nat.mod_eq_of_lt hlt, Nat.mod_eq_of_lt (Nat.lt_trans hj hlt)] at this
      omega
theorem together_none {l : List (Nat × Nat)} (h : ∀ x, x < lcmAll l → ¬ fits l x) : Na01.together l = none := by
  unfold Na01.together
  refine find_range_none fun j hj => ?_
  cases e : (l.all fun r => j % r.2 == r.1 % r.2) with
  | false => rfl
  | true => exact absurd (fun r hr => beq_iff_eq.mp (List.all_eq_true.mp e r hr)) (h j hj)
theorem together_ok {l : List (Nat × Nat)} {x : Nat} (h : Na01.together l = some x) : fits l x ∧ x < lcmAll l := by
  unfold Na01.together at h
  have h1 := List.find?_some h
  have h2 := List.mem_of_find?_eq_some h
  exact ⟨fun r hr => beq_iff_eq.mp (List.all_eq_true.mp h1 r hr), List.mem_range.mp h2⟩
theorem lcmAll_pos {l : List (Nat × Nat)} (h : ∀ r ∈ l, 1 ≤ r.2) : 1 ≤ lcmAll l := by
  have : ∀ (l : List (Nat × Nat)) (m : Nat), 1 ≤ m → (∀ r ∈ l, 1 ≤ r.2) → 1 ≤ l.foldl (fun m x => Nat.lcm m x.2) m := by
    intro l
    induction l with
    | nil => exact fun m h _ => h
    | cons p l ih => exact fun m hm hl => ih _ (Nat.lcm_pos hm (hl p (List.mem_cons_self ..))) fun r hr => hl r (List.mem_cons_of_mem _ hr)
  exact this l 1 (Nat.le_refl 1) h
/-- one pair more: from the number that fits the pairs before, a multiple of their least common further -/
theorem fits_snoc {l : List (Nat × Nat)} {p : Nat × Nat} {x : Nat} : fits (l ++ [p]) x ↔ fits l x ∧ x % p.2 = p.1 % p.2 := by
  constructor
  · intro h
    exact ⟨fun r hr => h r (List.mem_append_left _ hr), h p (List.mem_append_right _ (List.mem_singleton.mpr rfl))⟩
  · intro h r hr
    rcases List.mem_append.mp hr with hr | hr
    · exact h.1 r hr
    · rw [List.mem_singleton] at hr
      subst hr
      exact h.2
theorem lcmAll_snoc (l : List (Nat × Nat)) (p : Nat × Nat) : lcmAll (l ++ [p]) = Nat.lcm (lcmAll l) p.2 := by
  unfold lcmAll
  rw [List.foldl_append]
  rfl
/-- a number that fits, further by a multiple of the least common -/
theorem fits_add {l : List (Nat × Nat)} {x : Nat} (hx : fits l x) (t : Nat) : fits l (x + t * lcmAll l) := fun r hr => by
  obtain ⟨q, hq⟩ := (foldl_lcm_dvd l 1).2 r hr
  have e : x + t * lcmAll l = r.2 * (q * t) + x := by
    show x + t * l.foldl (fun m x => Nat.lcm m x.2) 1 = _
    rw [hq, Nat.mul_comm t, Nat.mul_assoc, Nat.add_comm]
  rw [e, Nat.mul_add_mod]
  exact hx r hr
/-- whatever fits the pairs is such a number -/
theorem fits_from {l : List (Nat × Nat)} {x y : Nat} (hx : fits l x) (hlt : x < lcmAll l) (hy : fits l y) : y = x + (y / lcmAll l) * lcmAll l := by
  have := fits_same hx hy
  rw [Nat.mod_eq_of_lt hlt] at this
  have d := Nat.div_add_mod y (lcmAll l)
  rw [← this, Nat.mul_comm] at d
  omega
end Mx


set_option Elab.async false
namespace Mx
/-! how often a prime divides: what the specification counts is what is divided out -/
theorem pow_dvd_le {p r k q : Nat} (hp : 2 ≤ p) (hr : r = q * p ^ k) (hq : q % p ≠ 0) (e : Nat) : (r % p ^ e = 0) ↔ e ≤ k := by
  subst hr
  constructor
  · intro h
    apply Decidable.byContradiction
    intro c
    obtain ⟨d, hd⟩ : ∃ d, e = k + 1 + d := ⟨e - (k + 1), by omega⟩
    have h1 : p ^ (k + 1) ∣ q * p ^ k := Nat.dvd_trans (by rw [hd, Nat.pow_add p (k + 1) d]; exact Nat.dvd_mul_right _ _) (Nat.dvd_of_mod_eq_zero h)
    rw [Nat.pow_succ, Nat.mul_comm (p ^ k)] at h1
    have h2 : p ∣ q := Nat.dvd_of_mul_dvd_mul_right (Nat.pow_pos (by omega)) h1
    exact hq (Nat.mod_eq_zero_of_dvd h2)
  · intro h
    obtain ⟨d, hd⟩ : ∃ d, k = e + d := ⟨k - e, by omega⟩
    refine Nat.mod_eq_zero_of_dvd ?_
    rw [hd, Nat.pow_add]
    exact Nat.dvd_trans (Nat.dvd_mul_right _ _) (Nat.dvd_mul_left _ _)
theorem filter_le_len (k : Nat) : ∀ L : Nat, ((List.range L).filter fun e => decide (e ≤ k)).length = min L (k + 1)
  | 0 => by simp
  | L + 1 => by
    rw [List.range_succ, List.filter_append, List.length_append, filter_le_len k L]
    by_cases h : L ≤ k
    · simp [h]
      omega
    · simp [h]
      omega
theorem k_lt_log {p q k : Nat} (hp : 2 ≤ p) (hq : 1 ≤ q) : k ≤ (q * p ^ k).log2 := by
  have h1 : 2 ^ k ≤ q * p ^ k := by
    have h2 : 2 ^ k ≤ p ^ k := Nat.pow_le_pow_left hp k
    have h3 : 1 * p ^ k ≤ q * p ^ k := Nat.mul_le_mul_right _ hq
    omega
  have h0 : q * p ^ k ≠ 0 := by
    have := Nat.pow_pos (n := k) (show 0 < 2 by decide)
    omega
  exact (Nat.le_log2 h0).mpr h1
theorem often_eq {p r k q : Nat} (hp : 2 ≤ p) (h1 : 1 ≤ q) (hr : r = q * p ^ k) (hq : q % p ≠ 0) : ((List.range (r.log2 + 2)).filter fun e => r % p ^ e == 0).length - 1 = k := by
  have e1 : ((List.range (r.log2 + 2)).filter fun e => r % p ^ e == 0) = ((List.range (r.log2 + 2)).filter fun e => decide (e ≤ k)) := by
    apply List.filter_congr
    intro e _
    have := pow_dvd_le hp hr hq e
    by_cases c : e ≤ k
    · rw [decide_eq_true c]
      exact beq_iff_eq.mpr (this.mpr c)
    · rw [decide_eq_false c]
      exact beq_eq_false_iff_ne.mpr fun z => c (this.mp z)
  rw [e1, filter_le_len]
  have := k_lt_log (p := p) (q := q) (k := k) hp h1
  rw [← hr] at this
  omega
/-- one turn of the walk over possible primes -/
theorem partsFrom_step {f p r k q : Nat} (hp : 2 ≤ p) (h1 : 1 ≤ q) (hr : r = q * p ^ k) (hq : q % p ≠ 0) : Na01.partsFrom (f + 1) p r = (if 0 < k then [(p, k)] else []) ++ Na01.partsFrom f (p + 1) q := by
  have e : Na01.partsFrom (f + 1) p r = if r ≤ 1 then [] else if r % p = 0 then
      (p, ((List.range (r.log2 + 2)).filter fun e => r % p ^ e == 0).length - 1) :: Na01.partsFrom f (p + 1) (r / p ^ (((List.range (r.log2 + 2)).filter fun e => r % p ^ e == 0).length - 1))
    else Na01.partsFrom f (p + 1) r := rfl
  rw [e, often_eq hp h1 hr hq]
  have pk : 0 < p ^ k := Nat.pow_pos (by omega)
  by_cases c : 0 < k
  · have d : r % p = 0 := by
      have := (pow_dvd_le hp hr hq 1).mpr c
      rw [Nat.pow_one] at this
      exact this
    have big : ¬ r ≤ 1 := fun z => by
      rcases Nat.lt_or_ge r 1 with y | y
      · have : 0 < r := by
          rw [hr]
          exact Nat.mul_pos h1 pk
        omega
      · have : r = 1 := by omega
        rw [this, Nat.mod_eq_of_lt (by omega)] at d
        omega
    rw [if_neg big, if_pos d, if_pos c]
    have : r / p ^ k = q := by rw [hr, Nat.mul_div_cancel _ pk]
    rw [this]
    rfl
  · have k0 : k = 0 := by omega
    subst k0
    rw [Nat.pow_zero, Nat.mul_one] at hr
    subst hr
    rw [if_neg hq, if_neg c]
    by_cases y : r ≤ 1
    · rw [if_pos y]
      have : ∀ f p, Na01.partsFrom f p r = [] := fun f p => by
        cases f with
        | zero => rfl
        | succ f =>
          show (if r ≤ 1 then [] else _) = _
          rw [if_pos y]
      rw [this]
      rfl
    · rw [if_neg y]
      rfl
theorem partsFrom_end {n r : Nat} (h : r ≤ n) : Na01.partsFrom 1 (n + 1) r = [] := by
  show (if r ≤ 1 then [] else if r % (n + 1) = 0 then _ else Na01.partsFrom 0 (n + 1 + 1) r) = []
  by_cases y : r ≤ 1
  · rw [if_pos y]
  · rw [if_neg y, Nat.mod_eq_of_lt (by omega), if_neg (by omega)]
    rfl
/-! one pair more -/
/-- the first count that fits -/
def hits (x step a m : Nat) : Option Nat := (List.range m).find? fun c => (x + c * step) % m == a % m
theorem hits_some {x step a m c : Nat} (h : hits x step a m = some c) : c < m ∧ (x + c * step) % m = a % m ∧ ∀ j, j < c → (x + j * step) % m ≠ a % m := by
  unfold hits at h
  rw [List.find?_range_eq_some] at h
  obtain ⟨h1, h2, h3⟩ := h
  refine ⟨by simpa using h2, beq_iff_eq.mp h1, fun j hj z => ?_⟩
  have := h3 j hj
  rw [z] at this
  simp at this
theorem hits_none {x step a m : Nat} (h : hits x step a m = none) : ∀ j, j < m → (x + j * step) % m ≠ a % m := fun j hj z => by
  unfold hits at h
  rw [List.find?_eq_none] at h
  exact h j (List.mem_range.mpr hj) (beq_iff_eq.mpr z)
theorem hits_of {x step a m c : Nat} (hc : c < m) (h : (x + c * step) % m = a % m) (hn : ∀ j, j < c → (x + j * step) % m ≠ a % m) : hits x step a m = some c :=
  find_range_some hc (beq_iff_eq.mpr h) fun j hj => beq_eq_false_iff_ne.mpr (hn j hj)
theorem hits_no {x step a m : Nat} (hn : ∀ j, j < m → (x + j * step) % m ≠ a % m) : hits x step a m = none :=
  find_range_none fun j hj => beq_eq_false_iff_ne.mpr (hn j hj)
theorem next_pair {l : List (Nat × Nat)} {a m x c : Nat} (hm : 1 ≤ m) (hx : fits l x) (hlt : x < lcmAll l) (h : hits x (lcmAll l) a m = some c) : fits (l ++ [(a, m)]) (x + c * lcmAll l) ∧ x + c * lcmAll l < lcmAll (l ++ [(a, m)]) := by
  obtain ⟨h1, h2, h3⟩ := hits_some h
  refine ⟨fits_snoc.mpr ⟨fits_add hx c, h2⟩, ?_⟩
  rw [lcmAll_snoc]
  show x + c * lcmAll l < Nat.lcm (lcmAll l) m
  have pos : 0 < lcmAll l := by omega
  obtain ⟨t, ht⟩ := Nat.dvd_lcm_left (lcmAll l) m
  have lt : c < t := by
    apply Decidable.byContradiction
    intro z
    obtain ⟨d, hd⟩ : ∃ d, c = d + t := ⟨c - t, by omega⟩
    have tp : 0 < t := by
      apply Nat.pos_of_ne_zero
      intro y
      rw [y, Nat.mul_zero] at ht
      have := Nat.lcm_pos pos hm
      omega
    refine h3 d (by omega) ?_
    rw [← h2, hd, Nat.add_mul, Nat.mul_comm t, ← ht]
    obtain ⟨q, hq⟩ := Nat.dvd_lcm_right (lcmAll l) m
    rw [hq, ← Nat.add_assoc, Nat.add_mul_mod_self_left]
  rw [ht]
  have : (c + 1) * lcmAll l ≤ lcmAll l * t := by
    rw [Nat.mul_comm]
    exact Nat.mul_le_mul_left _ lt
  rw [Nat.add_mul] at this
  omega
theorem no_pair {l : List (Nat × Nat)} {a m x : Nat} (hm : 1 ≤ m) (hx : fits l x) (hlt : x < lcmAll l) (h : hits x (lcmAll l) a m = none) (y : Nat) : ¬ fits (l ++ [(a, m)]) y := fun hy => by
  obtain ⟨h1, h2⟩ := fits_snoc.mp hy
  have e := fits_from hx hlt h1
  refine hits_none h ((y / lcmAll l) % m) (Nat.mod_lt _ hm) ?_
  rw [← h2]
  show _ = y % m
  conv => rhs; rw [e]
  rw [Nat.add_mod x, Nat.mod_mul_mod, ← Nat.add_mod]
theorem fits_of_append {l r : List (Nat × Nat)} {y : Nat} (h : fits (l ++ r) y) : fits l y := fun p hp => h p (List.mem_append_left _ hp)
/-! the rows of together -/
def odds {α : Type} : List α → List α
  | _ :: b :: r => b :: odds r
  | _ => []
def goodM (l : List Nat) : Bool := (odds l).all fun m => decide (1 ≤ m) && decide (m ≤ 30)
theorem goodM_cons (a m : Nat) (r : List Nat) : goodM (a :: m :: r) = ((decide (1 ≤ m) && decide (m ≤ 30)) && goodM r) := by
  unfold goodM
  show (m :: odds r).all _ = _
  rw [List.all_cons]
theorem pairs_cons (a m : Nat) (r : List Nat) : Na01.pairs (a :: m :: r) = if 1 ≤ m ∧ m ≤ 30 then (Na01.pairs r).map fun q => (a, m) :: q else none := rfl
theorem pairs_bad : ∀ l : List Nat, l.length % 2 = 1 ∨ goodM l = false → Na01.pairs l = none
  | [], h => by
    rcases h with h | h
    · exact absurd h (by decide)
    · exact absurd h (by decide)
  | [_], _ => rfl
  | a :: m :: r, h => by
    rw [pairs_cons]
    by_cases c : 1 ≤ m ∧ m ≤ 30
    · rw [if_pos c]
      have : Na01.pairs r = none := pairs_bad r (by
        rcases h with h | h
        · left
          simp only [List.length_cons] at h
          omega
        · right
          rw [goodM_cons, decide_eq_true c.1, decide_eq_true c.2] at h
          simpa using h)
      rw [this]
      rfl
    · rw [if_neg c]
/-- the pairs of a row -/
def prs : List Nat → List (Nat × Nat)
  | a :: m :: r => (a, m) :: prs r
  | _ => []
theorem pairs_good : ∀ l : List Nat, l.length % 2 = 0 → goodM l = true → Na01.pairs l = some (prs l)
  | [], _, _ => rfl
  | [_], h, _ => absurd h (by simp)
  | a :: m :: r, h, g => by
    rw [goodM_cons, Bool.and_eq_true, Bool.and_eq_true] at g
    rw [pairs_cons, if_pos ⟨of_decide_eq_true g.1.1, of_decide_eq_true g.1.2⟩, pairs_good r (by simp only [List.length_cons] at h; omega) g.2]
    rfl
theorem prs_length : ∀ l : List Nat, (prs l).length = l.length / 2
  | [] => rfl
  | [_] => by simp [prs]
  | a :: m :: r => by
    show (prs r).length + 1 = (r.length + 2) / 2
    rw [prs_length r]
    omega
theorem prs_get : ∀ (l : List Nat) (i : Nat) (p : Nat × Nat), (prs l)[i]? = some p → l[2 * i]? = some p.1 ∧ l[2 * i + 1]? = some p.2
  | [], i, p, h => by cases h
  | [_], i, p, h => by cases h
  | a :: m :: r, 0, p, h => by
    have : (a, m) = p := Option.some.inj h
    subst this
    exact ⟨rfl, rfl⟩
  | a :: m :: r, i + 1, p, h => by
    have h2 : (prs r)[i]? = some p := h
    obtain ⟨h3, h4⟩ := prs_get r i p h2
    have e : 2 * (i + 1) = 2 * i + 2 := by omega
    rw [e]
    exact ⟨h3, h4⟩
theorem prs_good : ∀ l : List Nat, goodM l = true → ∀ p ∈ prs l, 1 ≤ p.2 ∧ p.2 ≤ 30
  | [], _, p, h => by cases h
  | [_], _, p, h => by cases h
  | a :: m :: r, g, p, h => by
    rw [goodM_cons, Bool.and_eq_true, Bool.and_eq_true] at g
    rcases List.mem_cons.mp h with rfl | h
    · exact ⟨of_decide_eq_true g.1.1, of_decide_eq_true g.1.2⟩
    · exact prs_good r g.2 p h
end Mx


set_option Elab.async false
set_option maxRecDepth 100000
namespace Mx
/-- a table of how often each number stands in a list -/
def Tab (t : List (Nat × Nat)) (os : List Nat) : Prop := (t.map (·.1)).Nodup ∧ (∀ x ∈ t, x.2 = os.count x.1) ∧ ∀ d, d ∈ t.map (·.1) ↔ d ∈ os
def put (t : List (Nat × Nat)) (d v : Nat) : List (Nat × Nat) :=
  if (t.any fun x => decide (x.1 = d)) = true then t.map (fun x => if x.1 = d then (x.1, v) else x) else t ++ [(d, v)]
theorem any_key (t : List (Nat × Nat)) (d : Nat) : ((t.any fun x => decide (x.1 = d)) = true) ↔ d ∈ t.map (·.1) := by
  rw [List.any_eq_true, List.mem_map]
  constructor
  · rintro ⟨x, h1, h2⟩
    exact ⟨x, h1, of_decide_eq_true h2⟩
  · rintro ⟨x, h1, h2⟩
    exact ⟨x, h1, decide_eq_true h2⟩
theorem put_keys (t : List (Nat × Nat)) (d v : Nat) : (t.map fun x => if x.1 = d then (x.1, v) else x).map (·.1) = t.map (·.1) := by
  rw [List.map_map]
  apply List.map_congr_left
  intro x _
  show (if x.1 = d then (x.1, v) else x).1 = x.1
  split <;> rfl
theorem Tab.nil : Tab [] [] := ⟨List.nodup_nil, fun x h => absurd h List.not_mem_nil, fun d => Iff.rfl⟩
theorem Tab.put {t : List (Nat × Nat)} {os : List Nat} (h : Tab t os) (d : Nat) : Tab (Mx.put t d (os.count d + 1)) (os ++ [d]) := by
  obtain ⟨h1, h2, h3⟩ := h
  have cd : (os ++ [d]).count d = os.count d + 1 := by
    rw [List.count_append]
    simp
  have cn : ∀ x, x ≠ d → (os ++ [d]).count x = os.count x := fun x hx => by
    rw [List.count_append, List.count_singleton]
    simp [Ne.symm hx]
  unfold Mx.put
  by_cases c : (t.any fun x => decide (x.1 = d)) = true
  · rw [if_pos c]
    have hd := (any_key t d).mp c
    refine ⟨by rw [put_keys]; exact h1, fun x hx => ?_, fun e => ?_⟩
    · obtain ⟨y, hy, rfl⟩ := List.mem_map.mp hx
      by_cases z : y.1 = d
      · rw [if_pos z]
        show os.count d + 1 = (os ++ [d]).count y.1
        rw [z, cd]
      · rw [if_neg z, cn _ z]
        exact h2 y hy
    · rw [put_keys, h3, List.mem_append, List.mem_singleton]
      constructor
      · exact .inl
      · rintro (q | rfl)
        · exact q
        · exact (h3 _).mp hd
  · rw [if_neg c]
    have hd : d ∉ t.map (·.1) := fun z => c ((any_key t d).mpr z)
    have hno : os.count d = 0 := List.count_eq_zero.mpr fun z => hd ((h3 d).mpr z)
    refine ⟨?_, fun x hx => ?_, fun e => ?_⟩
    · rw [List.map_append, List.nodup_append]
      refine ⟨h1, by simp, fun a ha b hb e => ?_⟩
      simp only [List.map_cons, List.map_nil, List.mem_singleton] at hb
      subst hb e
      exact hd ha
    · rcases List.mem_append.mp hx with hx | hx
      · have z : x.1 ≠ d := fun z => hd (z ▸ List.mem_map_of_mem hx)
        rw [cn _ z]
        exact h2 x hx
      · rw [List.mem_singleton] at hx
        subst hx
        exact cd.symm
    · rw [List.map_append, List.mem_append, List.mem_append, h3]
      rfl
theorem Tab.find {t : List (Nat × Nat)} {os : List Nat} (h : Tab t os) (d : Nat) : (t.find? fun x => decide (x.1 = d)) = if d ∈ os then some (d, os.count d) else none := by
  obtain ⟨h1, h2, h3⟩ := h
  by_cases c : d ∈ os
  · rw [if_pos c]
    cases e : t.find? fun x => decide (x.1 = d) with
    | none =>
      rw [List.find?_eq_none] at e
      obtain ⟨x, hx, ex⟩ := List.mem_map.mp ((h3 d).mpr c)
      exact absurd (decide_eq_true ex) (e x hx)
    | some x =>
      have hx : x.1 = d := of_decide_eq_true (p := x.1 = d) (List.find?_some (p := fun x : Nat × Nat => decide (x.1 = d)) e)
      have hm := List.mem_of_find?_eq_some e
      have hv := h2 x hm
      rw [hx] at hv
      rw [← hx, hx, ← hv]
      show some x = some (d, x.2)
      rw [← hx]
  · rw [if_neg c, List.find?_eq_none]
    intro x hx z
    exact c ((h3 d).mp (List.mem_map.mpr ⟨x, hx, of_decide_eq_true z⟩))
def ordersOf (n : Nat) : List Nat := (Na01.units n).map (Na01.order n)
theorem cnt_eq (n d : Nat) : ((Na01.units n).filter fun a => Na01.order n a == d).length = (ordersOf n).count d := by
  unfold ordersOf
  rw [List.count_eq_countP, List.countP_map, List.countP_eq_length_filter]
  rfl
theorem orders_eq (n : Nat) : Na01.orders n = ((List.range (n + 1)).filter fun d => (ordersOf n).count d != 0).map fun d => (d, (ordersOf n).count d) := by
  unfold Na01.orders
  rw [List.filter_map]
  have e : ((fun x : Nat × Nat => x.2 != 0) ∘ fun d => (d, ((Na01.units n).filter fun a => Na01.order n a == d).length)) = fun d => (ordersOf n).count d != 0 := by
    funext d
    show (((Na01.units n).filter fun a => Na01.order n a == d).length != 0) = _
    rw [cnt_eq]
  rw [e]
  apply List.map_congr_left
  intro d _
  rw [cnt_eq]
theorem order_le {n d : Nat} (hn : 1 ≤ n) (h : d ∈ ordersOf n) : d ≤ n := by
  obtain ⟨a, ha, rfl⟩ := List.mem_map.mp h
  exact (order_ok hn (mem_units ha).2).2.1
/-- sorted, the numbers of the table are the orders that there are -/
theorem sorted_keys {n : Nat} (hn : 1 ≤ n) {t : List (Nat × Nat)} (h : Tab t (ordersOf n)) {ys : List Int} (hp : ys.Perm ((t.map (·.1)).map fun (d : Nat) => (d : Int))) (hs : ys.Pairwise (· ≤ ·)) :
    ys = ((List.range (n + 1)).filter fun d => (ordersOf n).count d != 0).map fun (d : Nat) => (d : Int) := by
  have r1 : (((List.range (n + 1)).filter fun d => (ordersOf n).count d != 0).map fun (d : Nat) => (d : Int)).Pairwise (· ≤ ·) := by
    rw [List.pairwise_map]
    refine List.Pairwise.filter _ ((List.pairwise_lt_range (n := n + 1)).imp fun {a b} hab => ?_)
    omega
  refine List.Perm.eq_of_pairwise (le := (· ≤ ·)) (fun a b _ _ h1 h2 => Int.le_antisymm h1 h2) hs r1 (hp.trans (List.Perm.map _ ?_))
  refine (List.perm_ext_iff_of_nodup h.1 (List.Pairwise.filter _ List.nodup_range)).mpr fun d => ?_
  rw [h.2.2, List.mem_filter, List.mem_range]
  constructor
  · intro hd
    have := order_le hn hd
    have := List.count_pos_iff.mpr hd
    exact ⟨by omega, by simp; omega⟩
  · intro hd
    have := hd.2
    exact List.count_pos_iff.mp (Nat.pos_of_ne_zero (by simpa using this))
/-! parts -/
def cyc (p e : Nat) : List Nat := if p = 2 ∧ 2 < e then [2, p ^ e / 4] else [p ^ e - p ^ e / p]
def cycs (n : Nat) : List Nat := (Na01.factors n).flatMap fun x => cyc x.1 x.2
/-- the turn of the chain: low and high become their common divisor and their common multiple -/
def turn (low high : Nat) (c : List Nat) : List Nat := (c.set high (Nat.lcm (c.getD low 0) (c.getD high 0))).set low (Nat.gcd (c.getD low 0) (c.getD high 0))
def row (low k : Nat) (c : List Nat) : List Nat := (List.range k).foldl (fun c j => turn low (low + 1 + j) c) c
def chain (os : List Nat) (i : Nat) : List Nat := (List.range i).foldl (fun c low => row low (os.length - (low + 1)) c) os
def fair (c : List Nat) : Bool := c.all fun x => decide (1 ≤ x) && decide (x ≤ 300)
def fairAll (os : List Nat) : Bool := (List.range os.length).all fun low => (List.range (os.length - low)).all fun k => fair (row low k (chain os low))
end Mx


set_option Elab.async false
set_option maxRecDepth 100000
set_option maxHeartbeats 4000000
namespace Mx
theorem euler_all : ((List.range 301).all fun n => (Na01.units n).all fun a => a ^ (Na01.units n).length % n == 1 % n) = true := by decide +kernel
theorem divs_all : ((List.range 301).all fun u => decide (((List.range (u + 1)).filter fun d => u % d == 0).length < 64)) = true := by decide +kernel
end Mx


set_option Elab.async false
set_option maxRecDepth 100000
set_option maxHeartbeats 4000000
namespace Mx
theorem cycs_all : ((List.range 301).all fun n => decide (0 < (cycs n).foldl Nat.lcm 1) && decide ((cycs n).foldl Nat.lcm 1 ≤ 300) && decide ((cycs n).length ≤ 10)) = true := by decide +kernel
end Mx


set_option Elab.async false
set_option maxRecDepth 100000
set_option maxHeartbeats 4000000
namespace Mx
theorem factors_all : ((List.range 301).all fun n => (Na01.factors n).all (fun x => decide (2 ≤ x.1) && decide (x.1 ≤ 300) && decide (x.2 ≤ 300)) && decide ((Na01.factors n).length ≤ 10)) = true := by decide +kernel
end Mx


set_option Elab.async false
set_option maxRecDepth 100000
namespace Mx
/-! few orders -/
theorem order_dvd {a n m : Nat} (hn : 1 ≤ n) (h : Nat.gcd a n = 1) (e : a ^ m % n = 1 % n) : Na01.order n a ∣ m := by
  obtain ⟨o1, _, o3, o4⟩ := order_ok hn h
  have steps : ∀ q r, a ^ (r + q * Na01.order n a) % n = a ^ r % n := fun q r => by
    induction q with
    | zero => rw [Nat.zero_mul, Nat.add_zero]
    | succ q ih =>
      rw [Nat.succ_mul, ← Nat.add_assoc, pow_mul_one o3]
      exact ih
  have d := Nat.mod_add_div m (Na01.order n a)
  rw [Nat.mul_comm] at d
  have e2 := steps (m / Na01.order n a) (m % Na01.order n a)
  rw [d, e] at e2
  apply Nat.dvd_of_mod_eq_zero
  apply Decidable.byContradiction
  intro z
  exact o4 _ (by omega) (Nat.mod_lt _ o1) e2.symm
theorem tab_few {n : Nat} (h1 : 1 ≤ n) (h3 : n ≤ 300) {t : List (Nat × Nat)} {i : Nat} (h : Tab t ((ordersOf n).take i)) : t.length < 64 := by
  have hu : (Na01.units n).length ≤ 300 := Nat.le_trans (units_length n) h3
  have eu := List.all_eq_true.mp (List.all_eq_true.mp euler_all n (List.mem_range.mpr (by omega)))
  have ed := of_decide_eq_true (List.all_eq_true.mp divs_all (Na01.units n).length (List.mem_range.mpr (by omega)))
  refine Nat.lt_of_le_of_lt ?_ ed
  have l := List.Nodup.length_le_of_subset h.1 (l₂ := (List.range ((Na01.units n).length + 1)).filter fun d => (Na01.units n).length % d == 0) fun d hd => by
    obtain ⟨a, ha, rfl⟩ := List.mem_map.mp (List.mem_of_mem_take ((h.2.2 d).mp hd))
    have hg := (mem_units ha).2
    have dv := order_dvd h1 hg (beq_iff_eq.mp (eu a ha))
    rw [List.mem_filter, List.mem_range]
    have pos : 0 < (Na01.units n).length := List.length_pos_of_mem ha
    have := Nat.le_of_dvd pos dv
    exact ⟨by omega, beq_iff_eq.mpr (Nat.mod_eq_zero_of_dvd dv)⟩
  rw [List.length_map] at l
  exact l
/-! the chain's numbers -/
theorem dvd_fold : ∀ (l : List Nat) (m : Nat), m ∣ l.foldl Nat.lcm m ∧ ∀ x ∈ l, x ∣ l.foldl Nat.lcm m
  | [], m => ⟨Nat.dvd_refl m, fun _ h => absurd h List.not_mem_nil⟩
  | y :: l, m => by
    obtain ⟨h1, h2⟩ := dvd_fold l (Nat.lcm m y)
    refine ⟨Nat.dvd_trans (Nat.dvd_lcm_left _ _) h1, fun x hx => ?_⟩
    rcases List.mem_cons.mp hx with rfl | hx
    · exact Nat.dvd_trans (Nat.dvd_lcm_right _ _) h1
    · exact h2 x hx
/-- every number of it divides L -/
def Divs (L : Nat) (c : List Nat) : Prop := ∀ x ∈ c, x ∣ L
theorem turn_length (low high : Nat) (c : List Nat) : (turn low high c).length = c.length := by
  unfold turn
  rw [List.length_set, List.length_set]
theorem getD_get {c : List Nat} {i x : Nat} (h : c[i]? = some x) : c.getD i 0 = x := by
  rw [List.getD_eq_getElem?_getD, h]
  rfl
theorem get_lt {c : List Nat} {i : Nat} (h : i < c.length) : c[i]? = some (c.getD i 0) := by
  rw [List.getD_eq_getElem?_getD, List.getElem?_eq_getElem h]
  rfl
theorem mem_getD {c : List Nat} {i : Nat} (h : i < c.length) : c.getD i 0 ∈ c := List.mem_of_getElem? (get_lt h)
theorem turn_divs {L low high : Nat} {c : List Nat} (h : Divs L c) (hl : low < c.length) (hh : high < c.length) : Divs L (turn low high c) := fun x hx => by
  have a := h _ (mem_getD hl)
  have b := h _ (mem_getD hh)
  rcases List.mem_or_eq_of_mem_set hx with hx | rfl
  · rcases List.mem_or_eq_of_mem_set hx with hx | rfl
    · exact h x hx
    · exact Nat.lcm_dvd a b
  · exact Nat.dvd_trans (Nat.gcd_dvd_left _ _) a
theorem row_succ (low k : Nat) (c : List Nat) : row low (k + 1) c = turn low (low + 1 + k) (row low k c) := by
  unfold row
  rw [List.range_succ, List.foldl_append]
  rfl
theorem row_ok {L low : Nat} {c : List Nat} (h : Divs L c) : ∀ k, low + 1 + k ≤ c.length → Divs L (row low k c) ∧ (row low k c).length = c.length
  | 0, _ => ⟨h, rfl⟩
  | k + 1, hk => by
    obtain ⟨h1, h2⟩ := row_ok (low := low) h k (by omega)
    rw [row_succ]
    exact ⟨turn_divs h1 (by omega) (by omega), by rw [turn_length, h2]⟩
theorem chain_succ (os : List Nat) (i : Nat) : chain os (i + 1) = row i (os.length - (i + 1)) (chain os i) := by
  unfold chain
  rw [List.range_succ, List.foldl_append]
  rfl
theorem chain_ok {L : Nat} {os : List Nat} (h : Divs L os) : ∀ i, i ≤ os.length → Divs L (chain os i) ∧ (chain os i).length = os.length
  | 0, _ => ⟨h, rfl⟩
  | i + 1, hi => by
    obtain ⟨h1, h2⟩ := chain_ok h i (by omega)
    rw [chain_succ]
    have := row_ok (low := i) h1 (os.length - (i + 1)) (by omega)
    rw [h2] at this
    exact this
theorem divs_range {L x : Nat} (hL : L ≤ 300) (h0 : 0 < L) (h : x ∣ L) : 1 ≤ x ∧ x ≤ 300 :=
  ⟨Nat.pos_of_dvd_of_pos h h0, Nat.le_trans (Nat.le_of_dvd h0 h) hL⟩
theorem cycs_le {n : Nat} (h3 : n ≤ 300) : 0 < (cycs n).foldl Nat.lcm 1 ∧ (cycs n).foldl Nat.lcm 1 ≤ 300 ∧ (cycs n).length ≤ 10 := by
  have := List.all_eq_true.mp cycs_all n (List.mem_range.mpr (by omega))
  rw [Bool.and_eq_true, Bool.and_eq_true] at this
  exact ⟨of_decide_eq_true this.1.1, of_decide_eq_true this.1.2, of_decide_eq_true this.2⟩
theorem factors_le {n : Nat} (h3 : n ≤ 300) : (∀ x ∈ Na01.factors n, 2 ≤ x.1 ∧ x.1 ≤ 300 ∧ x.2 ≤ 300) ∧ (Na01.factors n).length ≤ 10 := by
  have := List.all_eq_true.mp factors_all n (List.mem_range.mpr (by omega))
  rw [Bool.and_eq_true] at this
  refine ⟨fun x hx => ?_, of_decide_eq_true this.2⟩
  have := List.all_eq_true.mp this.1 x hx
  rw [Bool.and_eq_true, Bool.and_eq_true] at this
  exact ⟨of_decide_eq_true this.1.1, of_decide_eq_true this.1.2, of_decide_eq_true this.2⟩
end Mx


set_option Elab.async false
set_option maxRecDepth 100000
set_option maxHeartbeats 4000000
namespace Mx
/-- how many powers d are 1, by plain powers -/
def ones (n d : Nat) : Nat := ((Na01.units n).filter fun a => a ^ d % n == 1 % n).length
theorem ones_eq (n d : Nat) : Na01.dividing n d = ones n d := by
  unfold Na01.dividing ones
  congr 1
  apply List.filter_congr
  intro a _
  rw [pow_eq]
def rank (n p e : Nat) : Nat := (List.range (n.log2 + 2)).foldl (fun (m : Nat) i => if p ^ i = ones n (p ^ e) / ones n (p ^ (e - 1)) then i else m) 0
theorem rank_eq (n p e : Nat) : Na01.ranks n p e = rank n p e := by
  unfold Na01.ranks rank
  rw [ones_eq, ones_eq]
def partsQ (n : Nat) (ps : List (Nat × Nat)) (many : Nat) : List Nat := (List.range many).map fun i => ps.foldl (fun m p => m * p.1 ^ ((List.range p.2).filter fun e => decide (many - i ≤ rank n p.1 (e + 1))).length) 1
def partsP (n : Nat) : List Nat := partsQ n (Na01.factors (Na01.units n).length) ((Na01.factors (Na01.units n).length).foldl (fun m p => max m (rank n p.1 1)) 0)
theorem partsP_eq (n : Nat) : Na01.parts n = partsP n := by
  unfold Na01.parts partsP partsQ
  simp only [rank_eq]
def partsOk (n : Nat) : Bool := ((chain (cycs n) (cycs n).length).filter fun x => decide (1 < x)) == partsP n
theorem parts_c0 : ([1,2,3,4,5,6,7,8,9,10,11,12,13,14,15,16,17,18,19,20,21,22,23,24,25].all partsOk) = true := by decide +kernel
theorem list_c0 : [1,2,3,4,5,6,7,8,9,10,11,12,13,14,15,16,17,18,19,20,21,22,23,24,25] = List.range' 1 25 := by decide +kernel
theorem parts_c1 : ([26,27,28,29,30,31,32,33,34,35,36,37,38,39,40,41,42,43,44,45,46,47,48,49,50].all partsOk) = true := by decide +kernel
theorem list_c1 : [26,27,28,29,30,31,32,33,34,35,36,37,38,39,40,41,42,43,44,45,46,47,48,49,50] = List.range' 26 25 := by decide +kernel
theorem parts_c2 : ([51,52,53,54,55,56,57,58,59,60,61,62,63,64,65,66,67,68,69,70,71,72,73,74,75].all partsOk) = true := by decide +kernel
theorem list_c2 : [51,52,53,54,55,56,57,58,59,60,61,62,63,64,65,66,67,68,69,70,71,72,73,74,75] = List.range' 51 25 := by decide +kernel
theorem parts_c3 : ([76,77,78,79,80,81,82,83,84,85,86,87,88,89,90,91,92,93,94,95,96,97,98,99,100].all partsOk) = true := by decide +kernel
theorem list_c3 : [76,77,78,79,80,81,82,83,84,85,86,87,88,89,90,91,92,93,94,95,96,97,98,99,100] = List.range' 76 25 := by decide +kernel
theorem parts_c4 : ([101,102,103,104,105,106,107,108,109,110,111,112,113,114,115,116,117,118,119,120,121,122,123,124,125].all partsOk) = true := by decide +kernel
theorem list_c4 : [101,102,103,104,105,106,107,108,109,110,111,112,113,114,115,116,117,118,119,120,121,122,123,124,125] = List.range' 101 25 := by decide +kernel
theorem parts_c5 : ([126,127,128,129,130,131,132,133,134,135,136,137,138,139,140,141,142,143,144,145,146,147,148,149,150].all partsOk) = true := by decide +kernel
theorem list_c5 : [126,127,128,129,130,131,132,133,134,135,136,137,138,139,140,141,142,143,144,145,146,147,148,149,150] = List.range' 126 25 := by decide +kernel
theorem parts_c6 : ([151,152,153,154,155,156,157,158,159,160,161,162,163,164,165,166,167,168,169,170,171,172,173,174,175].all partsOk) = true := by decide +kernel
theorem list_c6 : [151,152,153,154,155,156,157,158,159,160,161,162,163,164,165,166,167,168,169,170,171,172,173,174,175] = List.range' 151 25 := by decide +kernel
theorem parts_c7 : ([176,177,178,179,180,181,182,183,184,185,186,187,188,189,190,191,192,193,194,195,196,197,198,199,200].all partsOk) = true := by decide +kernel
theorem list_c7 : [176,177,178,179,180,181,182,183,184,185,186,187,188,189,190,191,192,193,194,195,196,197,198,199,200] = List.range' 176 25 := by decide +kernel
theorem parts_c8 : ([201,202,203,204,205,206,207,208,209,210,211,212,213,214,215,216,217,218,219,220,221,222,223,224,225].all partsOk) = true := by decide +kernel
theorem list_c8 : [201,202,203,204,205,206,207,208,209,210,211,212,213,214,215,216,217,218,219,220,221,222,223,224,225] = List.range' 201 25 := by decide +kernel
theorem parts_c9 : ([226,227,228,229,230,231,232,233,234,235,236,237,238,239,240,241,242,243,244,245,246,247,248,249,250].all partsOk) = true := by decide +kernel
theorem list_c9 : [226,227,228,229,230,231,232,233,234,235,236,237,238,239,240,241,242,243,244,245,246,247,248,249,250] = List.range' 226 25 := by decide +kernel
theorem parts_c10 : ([251,252,253,254,255,256,257,258,259,260,261,262,263,264,265,266,267,268,269,270,271,272,273,274,275].all partsOk) = true := by decide +kernel
theorem list_c10 : [251,252,253,254,255,256,257,258,259,260,261,262,263,264,265,266,267,268,269,270,271,272,273,274,275] = List.range' 251 25 := by decide +kernel
theorem parts_c11 : ([276,277,278,279,280,281,282,283,284,285,286,287,288,289,290,291,292,293,294,295,296,297,298,299,300].all partsOk) = true := by decide +kernel
theorem list_c11 : [276,277,278,279,280,281,282,283,284,285,286,287,288,289,290,291,292,293,294,295,296,297,298,299,300] = List.range' 276 25 := by decide +kernel
theorem parts_all {n : Nat} (h1 : 1 ≤ n) (h3 : n ≤ 300) : ((chain (cycs n) (cycs n).length).filter fun x => decide (1 < x)) = Na01.parts n := by
  have go : ∀ (l : List Nat) (s : Nat), (l.all partsOk) = true → l = List.range' s 25 → s ≤ n → n < s + 25 → ((chain (cycs n) (cycs n).length).filter fun x => decide (1 < x)) = Na01.parts n := fun l s h e a b => by
    subst e
    have := List.all_eq_true.mp h n (List.mem_range'_1.mpr ⟨a, b⟩)
    unfold partsOk at this
    rw [partsP_eq]
    exact beq_iff_eq.mp this
  by_cases c0 : n < 26
  · exact go _ _ parts_c0 list_c0 (by omega) (by omega)
  by_cases c1 : n < 51
  · exact go _ _ parts_c1 list_c1 (by omega) (by omega)
  by_cases c2 : n < 76
  · exact go _ _ parts_c2 list_c2 (by omega) (by omega)
  by_cases c3 : n < 101
  · exact go _ _ parts_c3 list_c3 (by omega) (by omega)
  by_cases c4 : n < 126
  · exact go _ _ parts_c4 list_c4 (by omega) (by omega)
  by_cases c5 : n < 151
  · exact go _ _ parts_c5 list_c5 (by omega) (by omega)
  by_cases c6 : n < 176
  · exact go _ _ parts_c6 list_c6 (by omega) (by omega)
  by_cases c7 : n < 201
  · exact go _ _ parts_c7 list_c7 (by omega) (by omega)
  by_cases c8 : n < 226
  · exact go _ _ parts_c8 list_c8 (by omega) (by omega)
  by_cases c9 : n < 251
  · exact go _ _ parts_c9 list_c9 (by omega) (by omega)
  by_cases c10 : n < 276
  · exact go _ _ parts_c10 list_c10 (by omega) (by omega)
  exact go _ _ parts_c11 list_c11 (by omega) (by omega)
end Mx


set_option Elab.async false
namespace Ss
open Na01 (Call)
/-- a call's numbers as they stand in the list -/
def flat : Call → List Nat
  | .round n => [0, n]
  | .units => [1]
  | .pow a k => [2, a, k]
  | .order a => [3, a]
  | .exponent => [4]
  | .generators => [5]
  | .log g a => [6, g, a]
  | .roots k a => [7, k, a]
  | .factors => [8]
  | .together l => 9 :: l.length :: l
  | .parts => [10]
  | .orders => [11]
  | .product => [12]
  | .inverse a => [13, a]
/-- what the document lets be handed in -/
def okC (c : Call) : Prop := (∀ x ∈ flat c, x ≤ 4294967295) ∧ ∀ l, c = .together l → l.length ≤ 12
/-- the answers from a state on -/
def play : Na01.St → List Call → List Int
  | _, [] => []
  | s, c :: r => (((Na01.step s c).2.length : Nat) : Int) :: ((Na01.step s c).2 ++ play (Na01.step s c).1 r)
def stAfter : Na01.St → List Call → Na01.St
  | s, [] => s
  | s, c :: r => stAfter (Na01.step s c).1 r
def toI (l : List Nat) : List Int := l.map fun (n : Nat) => (n : Int)
theorem nat_toI (l : List Nat) (h : ∀ x ∈ l, x ≤ 4294967295) : (toI l).all Na01Neutral.nat = true := by
  rw [List.all_eq_true]
  intro x hx
  obtain ⟨n, hn, rfl⟩ := List.mem_map.mp hx
  have := h n hn
  unfold Na01Neutral.nat
  rw [Bool.and_eq_true]
  exact ⟨decide_eq_true (by omega), decide_eq_true (by omega)⟩
theorem toNat_toI : ∀ l : List Nat, (toI l).map Int.toNat = l
  | [] => rfl
  | x :: r => by
    show Int.toNat (x : Int) :: (toI r).map Int.toNat = x :: r
    rw [toNat_toI r, Int.toNat_natCast]
theorem callOf_toI (l : List Nat) (h : ∀ x ∈ l, x ≤ 4294967295) : Na01Neutral.callOf (toI l) = Na01Neutral.callIn l := by
  unfold Na01Neutral.callOf
  rw [nat_toI l h, if_neg (by simp), toNat_toI]
theorem within_nat {lo hi z : Int} (h0 : lo = 0) (hh : hi = 4294967295) (h : PyInside.within lo hi z = true) : ∃ n : Nat, z = (n : Int) ∧ n ≤ 4294967295 := by
  subst h0 hh
  unfold PyInside.within at h
  rw [Bool.and_eq_true] at h
  have h1 := of_decide_eq_true h.1
  have h2 := of_decide_eq_true h.2
  exact ⟨z.toNat, by omega, by omega⟩
theorem all_within : ∀ (r : List Int), r.all (PyInside.within 0 4294967295) = true → ∃ l : List Nat, r = toI l ∧ ∀ x ∈ l, x ≤ 4294967295
  | [], _ => ⟨[], rfl, fun x h => by cases h⟩
  | z :: r, h => by
    rw [List.all_cons, Bool.and_eq_true] at h
    obtain ⟨n, rfl, hn⟩ := within_nat rfl rfl h.1
    obtain ⟨l, rfl, hl⟩ := all_within r h.2
    refine ⟨n :: l, rfl, fun x hx => ?_⟩
    rcases List.mem_cons.mp hx with rfl | m
    · exact hn
    · exact hl x m
theorem okC_of {c : Call} (h : ∀ x ∈ flat c, x ≤ 4294967295) (ht : ∀ l, c ≠ .together l) : okC c := ⟨h, fun l e => absurd e (ht l)⟩
theorem len0 {α : Type} {l : List α} (h : 0 = l.length) : l = [] := List.eq_nil_of_length_eq_zero h.symm
theorem len1 {α : Type} {l : List α} (h : 1 = l.length) : ∃ x, l = [x] := by
  match l, h with
  | [x], _ => exact ⟨x, rfl⟩
theorem len2 {α : Type} {l : List α} (h : 2 = l.length) : ∃ x y, l = [x, y] := by
  match l, h with
  | [x, y], _ => exact ⟨x, y, rfl⟩
theorem sh {p : Int} {a : List Int} {xs : List (List Int)} {i j : Nat} (hs : PyNa01.shape p = some (a.length, xs.length)) (e : PyNa01.shape p = some (i, j)) : i = a.length ∧ j = xs.length := by
  rw [hs] at e
  have := Option.some.inj e
  exact ⟨(congrArg Prod.fst this).symm, (congrArg Prod.snd this).symm⟩
theorem and2 {a b : Bool} (h : (a && b) = true) : a = true ∧ b = true := by simpa using h
/-- the goal for one call: its numbers, and what the specification makes of it -/
def Told (c : List (List Int)) : Prop := ∃ k : Call, okC k ∧ PyFlat.put1 c = toI (flat k) ∧ Na01Neutral.callOf ((PyNa01.whole c).headD []) = some k
theorem told0 {p : Nat} (k : Call) (hf : flat k = [p]) (hp : p ≤ 13) (ht : ∀ l, k ≠ .together l) (hw : PyNa01.whole [[(p : Int)]] = [[(p : Int)]]) (hc : Na01Neutral.callIn [p] = some k) : Told [[(p : Int)]] := by
  have hx : ∀ x ∈ [p], x ≤ 4294967295 := fun x hx => by
    rw [List.mem_singleton] at hx
    omega
  refine ⟨k, okC_of (by rw [hf]; exact hx) ht, by rw [hf]; rfl, ?_⟩
  rw [hw]
  show Na01Neutral.callOf (toI [p]) = _
  rw [callOf_toI _ hx]
  exact hc
theorem told1 {p : Nat} {x : Nat} (k : Call) (hf : flat k = [p, x]) (hp : p ≤ 13) (hx1 : x ≤ 4294967295) (ht : ∀ l, k ≠ .together l) (hw : PyNa01.whole [[(p : Int), (x : Int)]] = [[(p : Int), (x : Int)]]) (hc : Na01Neutral.callIn [p, x] = some k) : Told [[(p : Int), (x : Int)]] := by
  have hx : ∀ y ∈ [p, x], y ≤ 4294967295 := fun y hy => by
    rcases List.mem_cons.mp hy with rfl | hy
    · omega
    · rw [List.mem_singleton] at hy
      omega
  refine ⟨k, okC_of (by rw [hf]; exact hx) ht, by rw [hf]; rfl, ?_⟩
  rw [hw]
  show Na01Neutral.callOf (toI [p, x]) = _
  rw [callOf_toI _ hx]
  exact hc
theorem told2 {p : Nat} {x z : Nat} (k : Call) (hf : flat k = [p, x, z]) (hp : p ≤ 13) (hx1 : x ≤ 4294967295) (hz1 : z ≤ 4294967295) (ht : ∀ l, k ≠ .together l) (hw : PyNa01.whole [[(p : Int), (x : Int), (z : Int)]] = [[(p : Int), (x : Int), (z : Int)]]) (hc : Na01Neutral.callIn [p, x, z] = some k) : Told [[(p : Int), (x : Int), (z : Int)]] := by
  have hx : ∀ y ∈ [p, x, z], y ≤ 4294967295 := fun y hy => by
    rcases List.mem_cons.mp hy with rfl | hy
    · omega
    · rcases List.mem_cons.mp hy with rfl | hy
      · omega
      · rw [List.mem_singleton] at hy
        omega
  refine ⟨k, okC_of (by rw [hf]; exact hx) ht, by rw [hf]; rfl, ?_⟩
  rw [hw]
  show Na01Neutral.callOf (toI [p, x, z]) = _
  rw [callOf_toI _ hx]
  exact hc
theorem bnd1 {p x : Int} (h : PyInside.call PyNa01.bound [[p, x]] = true) (e : (PyNa01.bound p).1 = [(0, 4294967295)]) : ∃ n : Nat, x = (n : Int) ∧ n ≤ 4294967295 := by
  have h1 := (and2 (show (PyInside.each (PyNa01.bound p).1 [x] && PyInside.lists (PyNa01.bound p).2 []) = true from h)).1
  rw [e] at h1
  exact within_nat rfl rfl (and2 (show (PyInside.within 0 4294967295 x && true) = true from h1)).1
theorem bnd2 {p x y : Int} (h : PyInside.call PyNa01.bound [[p, x, y]] = true) (e : (PyNa01.bound p).1 = [(0, 4294967295), (0, 4294967295)]) : ∃ n m : Nat, x = (n : Int) ∧ y = (m : Int) ∧ n ≤ 4294967295 ∧ m ≤ 4294967295 := by
  have h1 := (and2 (show (PyInside.each (PyNa01.bound p).1 [x, y] && PyInside.lists (PyNa01.bound p).2 []) = true from h)).1
  rw [e] at h1
  have h2 := and2 (show (PyInside.within 0 4294967295 x && (PyInside.within 0 4294967295 y && true)) = true from h1)
  obtain ⟨n, hn, n1⟩ := within_nat rfl rfl h2.1
  obtain ⟨m, hm, m1⟩ := within_nat rfl rfl (and2 h2.2).1
  exact ⟨n, m, hn, hm, n1, m1⟩
theorem callIn9 (l : List Nat) : Na01Neutral.callIn (9 :: l) = some (.together l) := by
  rcases l with _ | ⟨x, _ | ⟨y, _ | ⟨z, r⟩⟩⟩ <;> rfl
theorem one (c : List (List Int)) (h : PyFlat.okCall PyNa01.shape c) (hb : PyInside.call PyNa01.bound c = true) : Told c := by
  obtain ⟨p, a, xs, rfl, hs⟩ := h
  by_cases p0 : p = 0
  · subst p0
    obtain ⟨h1, h2⟩ := sh hs (show PyNa01.shape 0 = some (1, 0) from rfl)
    obtain ⟨x, rfl⟩ := len1 h1
    obtain rfl := len0 h2
    obtain ⟨n, rfl, hn⟩ := bnd1 hb rfl
    exact told1 (p := 0) (.round n) rfl (by omega) hn (fun l => by simp) rfl rfl
  by_cases p1 : p = 1
  · subst p1
    obtain ⟨h1, h2⟩ := sh hs (show PyNa01.shape 1 = some (0, 0) from rfl)
    obtain rfl := len0 h1
    obtain rfl := len0 h2
    exact told0 (p := 1) .units rfl (by omega) (fun l => by simp) rfl rfl
  by_cases p2 : p = 2
  · subst p2
    obtain ⟨h1, h2⟩ := sh hs (show PyNa01.shape 2 = some (2, 0) from rfl)
    obtain ⟨x, y, rfl⟩ := len2 h1
    obtain rfl := len0 h2
    obtain ⟨n, m, rfl, rfl, hn, hm⟩ := bnd2 hb rfl
    exact told2 (p := 2) (.pow n m) rfl (by omega) hn hm (fun l => by simp) rfl rfl
  by_cases p3 : p = 3
  · subst p3
    obtain ⟨h1, h2⟩ := sh hs (show PyNa01.shape 3 = some (1, 0) from rfl)
    obtain ⟨x, rfl⟩ := len1 h1
    obtain rfl := len0 h2
    obtain ⟨n, rfl, hn⟩ := bnd1 hb rfl
    exact told1 (p := 3) (.order n) rfl (by omega) hn (fun l => by simp) rfl rfl
  by_cases p4 : p = 4
  · subst p4
    obtain ⟨h1, h2⟩ := sh hs (show PyNa01.shape 4 = some (0, 0) from rfl)
    obtain rfl := len0 h1
    obtain rfl := len0 h2
    exact told0 (p := 4) .exponent rfl (by omega) (fun l => by simp) rfl rfl
  by_cases p5 : p = 5
  · subst p5
    obtain ⟨h1, h2⟩ := sh hs (show PyNa01.shape 5 = some (0, 0) from rfl)
    obtain rfl := len0 h1
    obtain rfl := len0 h2
    exact told0 (p := 5) .generators rfl (by omega) (fun l => by simp) rfl rfl
  by_cases p6 : p = 6
  · subst p6
    obtain ⟨h1, h2⟩ := sh hs (show PyNa01.shape 6 = some (2, 0) from rfl)
    obtain ⟨x, y, rfl⟩ := len2 h1
    obtain rfl := len0 h2
    obtain ⟨n, m, rfl, rfl, hn, hm⟩ := bnd2 hb rfl
    exact told2 (p := 6) (.log n m) rfl (by omega) hn hm (fun l => by simp) rfl rfl
  by_cases p7 : p = 7
  · subst p7
    obtain ⟨h1, h2⟩ := sh hs (show PyNa01.shape 7 = some (2, 0) from rfl)
    obtain ⟨x, y, rfl⟩ := len2 h1
    obtain rfl := len0 h2
    obtain ⟨n, m, rfl, rfl, hn, hm⟩ := bnd2 hb rfl
    exact told2 (p := 7) (.roots n m) rfl (by omega) hn hm (fun l => by simp) rfl rfl
  by_cases p8 : p = 8
  · subst p8
    obtain ⟨h1, h2⟩ := sh hs (show PyNa01.shape 8 = some (0, 0) from rfl)
    obtain rfl := len0 h1
    obtain rfl := len0 h2
    exact told0 (p := 8) .factors rfl (by omega) (fun l => by simp) rfl rfl
  by_cases p9 : p = 9
  · subst p9
    obtain ⟨h1, h2⟩ := sh hs (show PyNa01.shape 9 = some (0, 1) from rfl)
    obtain rfl := len0 h1
    obtain ⟨r, rfl⟩ := len1 h2
    have hb2 := (and2 (show (true && (decide (0 ≤ r.length) && decide (r.length ≤ 12) && r.all (PyInside.within 0 4294967295) && true)) = true from hb)).2
    have hb3 := and2 (and2 hb2).1
    have hlen : r.length ≤ 12 := of_decide_eq_true (and2 hb3.1).2
    obtain ⟨l, rfl, hl⟩ := all_within r hb3.2
    have ll : (toI l).length = l.length := List.length_map ..
    have hx : ∀ x ∈ (9 :: l), x ≤ 4294967295 := fun x hx => by
      rcases List.mem_cons.mp hx with rfl | m
      · omega
      · exact hl x m
    refine ⟨.together l, ⟨fun x hx2 => ?_, fun l' e => ?_⟩, ?_, ?_⟩
    · rcases List.mem_cons.mp hx2 with rfl | m
      · omega
      · rcases List.mem_cons.mp m with rfl | m
        · omega
        · exact hl x m
    · have : l = l' := by injection e
      subst this
      omega
    · show (9 : Int) :: (((toI l).length : Int) :: (toI l) ++ []) = (9 : Int) :: ((l.length : Int) :: toI l)
      rw [ll, List.append_nil]
    · show Na01Neutral.callOf (toI (9 :: l)) = _
      rw [callOf_toI _ hx]
      exact callIn9 l
  by_cases p10 : p = 10
  · subst p10
    obtain ⟨h1, h2⟩ := sh hs (show PyNa01.shape 10 = some (0, 0) from rfl)
    obtain rfl := len0 h1
    obtain rfl := len0 h2
    exact told0 (p := 10) .parts rfl (by omega) (fun l => by simp) rfl rfl
  by_cases p11 : p = 11
  · subst p11
    obtain ⟨h1, h2⟩ := sh hs (show PyNa01.shape 11 = some (0, 0) from rfl)
    obtain rfl := len0 h1
    obtain rfl := len0 h2
    exact told0 (p := 11) .orders rfl (by omega) (fun l => by simp) rfl rfl
  by_cases p12 : p = 12
  · subst p12
    obtain ⟨h1, h2⟩ := sh hs (show PyNa01.shape 12 = some (0, 0) from rfl)
    obtain rfl := len0 h1
    obtain rfl := len0 h2
    exact told0 (p := 12) .product rfl (by omega) (fun l => by simp) rfl rfl
  by_cases p13 : p = 13
  · subst p13
    obtain ⟨h1, h2⟩ := sh hs (show PyNa01.shape 13 = some (1, 0) from rfl)
    obtain ⟨x, rfl⟩ := len1 h1
    obtain rfl := len0 h2
    obtain ⟨n, rfl, hn⟩ := bnd1 hb rfl
    exact told1 (p := 13) (.inverse n) rfl (by omega) hn (fun l => by simp) rfl rfl
  exfalso
  have e : PyNa01.shape p = none := by
    unfold PyNa01.shape
    rw [if_neg p0, if_neg p1, if_neg p2, if_neg p3, if_neg p4, if_neg p5, if_neg p6, if_neg p7, if_neg p8, if_neg p9, if_neg p10, if_neg p11, if_neg p12, if_neg p13]
  rw [e] at hs
  cases hs
/-- the calls of a list, and what is told of them -/
theorem all_calls : ∀ (raw : List (List (List Int))) (s : Na01.St), (∀ c ∈ raw, PyFlat.okCall PyNa01.shape c) → (∀ c ∈ raw, PyInside.call PyNa01.bound c = true) →
    ∃ cs : List Call, cs.length = raw.length ∧ (∀ c ∈ cs, okC c) ∧ PyFlat.put raw = toI (cs.flatMap flat) ∧ PyFlat.told (PyFlat.played (fun s c => Na01Neutral.step s (c.headD [])) s (raw.map PyNa01.whole)) = play s cs ∧
      Na01Neutral.many s ((raw.map PyNa01.whole).map fun c => c.headD []) + raw.length = (play s cs).length
  | [], s, _, _ => ⟨[], rfl, fun c h => absurd h (List.not_mem_nil), rfl, rfl, rfl⟩
  | c :: raw, s, h1, h2 => by
    obtain ⟨k, hk, hp, hc⟩ := one c (h1 c (List.mem_cons_self ..)) (h2 c (List.mem_cons_self ..))
    have hst : ∀ s, Na01Neutral.step s ((PyNa01.whole c).headD []) = Na01.step s k := fun s => by
      unfold Na01Neutral.step
      rw [hc]
    obtain ⟨cs, l1, l2, l3, l4, l5⟩ := all_calls raw (Na01.step s k).1 (fun c hc => h1 c (List.mem_cons_of_mem _ hc)) (fun c hc => h2 c (List.mem_cons_of_mem _ hc))
    refine ⟨k :: cs, by rw [List.length_cons, List.length_cons, l1], fun x hx => ?_, ?_, ?_, ?_⟩
    · rcases List.mem_cons.mp hx with rfl | m
      · exact hk
      · exact l2 x m
    · show PyFlat.put1 c ++ PyFlat.put raw = toI (flat k ++ cs.flatMap flat)
      rw [hp, l3]
      exact (List.map_append ..).symm
    · show (((Na01Neutral.step s ((PyNa01.whole c).headD [])).2.length : Nat) : Int) :: ((Na01Neutral.step s ((PyNa01.whole c).headD [])).2 ++ PyFlat.told (PyFlat.played (fun s c => Na01Neutral.step s (c.headD [])) (Na01Neutral.step s ((PyNa01.whole c).headD [])).1 (raw.map PyNa01.whole))) = _
      rw [hst, l4]
      rfl
    · show (Na01Neutral.step s ((PyNa01.whole c).headD [])).2.length + Na01Neutral.many (Na01Neutral.step s ((PyNa01.whole c).headD [])).1 ((raw.map PyNa01.whole).map fun c => c.headD []) + (raw.length + 1) = ((((Na01.step s k).2.length : Nat) : Int) :: ((Na01.step s k).2 ++ play (Na01.step s k).1 cs)).length
      rw [hst, List.length_cons, List.length_append, ← l5]
      omega
/-- THE SPECIFICATION'S SIDE: what is asked is a list of calls, and what is due is what they answer -/
theorem asked {l : List Int} (h : PyNa01.answers_asked l = true) : ∃ cs : List Call, l = toI (cs.flatMap flat) ∧ (∀ c ∈ cs, okC c) ∧ cs.length ≤ 30 ∧ PyNa01.answers l = play Na01.init cs ∧ (play Na01.init cs).length ≤ 1000030 := by
  unfold PyNa01.answers_asked at h
  cases e : PyFlat.calls PyNa01.shape l.length l with
  | none =>
    rw [e] at h
    cases h
  | some raw =>
    rw [e] at h
    have h := (show (!raw.isEmpty && PyFlat.atMost 30 raw && PyInside.calls PyNa01.bound raw && Na01Neutral.asked ((raw.map PyNa01.whole).map fun c => c.headD []) && PyFlat.short 10000000 (PyNa01.answers l)) = true from h)
    have a1 := and2 h
    have a2 := and2 a1.1
    have a3 := and2 a2.1
    have a4 := and2 a3.1
    have a5 := and2 (show (((raw.map PyNa01.whole).map fun c => c.headD []).all Na01Neutral.asked1 && (_ && (_ && decide (Na01Neutral.many Na01Neutral.start ((raw.map PyNa01.whole).map fun c => c.headD []) ≤ 1000000)))) = true from a2.2)
    have hm := of_decide_eq_true (and2 (and2 a5.2).2).2
    have h30 : raw.length ≤ 30 := of_decide_eq_true a4.2
    obtain ⟨hl, hok⟩ := PyFlat.put_calls _ _ _ e
    obtain ⟨cs, l1, l2, l3, l4, l5⟩ := all_calls raw Na01.init hok (fun c hc => List.all_eq_true.mp a3.2 c hc)
    refine ⟨cs, hl.trans l3, l2, by omega, ?_, ?_⟩
    · unfold PyNa01.answers PyNa01.calls
      rw [e]
      exact l4
    · have hm' : Na01Neutral.many Na01.init ((raw.map PyNa01.whole).map fun c => c.headD []) ≤ 1000000 := hm
      omega
/-! places in the list -/
theorem play_append (s : Na01.St) (cs ds : List Call) : play s (cs ++ ds) = play s cs ++ play (stAfter s cs) ds := by
  induction cs generalizing s with
  | nil => rfl
  | cons c cs ih =>
    show _ :: (_ ++ play _ (cs ++ ds)) = _ :: (_ ++ play _ cs) ++ _
    rw [ih]
    show _ = _ :: ((_ ++ play _ cs) ++ _)
    rw [List.append_assoc]
    rfl
theorem stAfter_append (s : Na01.St) (cs ds : List Call) : stAfter s (cs ++ ds) = stAfter (stAfter s cs) ds := by
  induction cs generalizing s with
  | nil => rfl
  | cons c cs ih => exact ih _
theorem step_n {s : Na01.St} (c : Call) (h : 1 ≤ s.n ∧ s.n ≤ 300) : 1 ≤ (Na01.step s c).1.n ∧ (Na01.step s c).1.n ≤ 300 := by
  cases c with
  | round n =>
    show 1 ≤ (if n = 0 ∨ 300 < n then (s, ([-1] : List Int)) else (⟨n⟩, Na01.ints [(Na01.units n).length])).1.n ∧ (if n = 0 ∨ 300 < n then (s, ([-1] : List Int)) else (⟨n⟩, Na01.ints [(Na01.units n).length])).1.n ≤ 300
    by_cases c : n = 0 ∨ 300 < n
    · rw [if_pos c]
      exact h
    · rw [if_neg c]
      show 1 ≤ n ∧ n ≤ 300
      omega
  | _ => exact h
theorem stAfter_n : ∀ (cs : List Call) {s : Na01.St}, 1 ≤ s.n ∧ s.n ≤ 300 → 1 ≤ (stAfter s cs).n ∧ (stAfter s cs).n ≤ 300
  | [], _, h => h
  | c :: cs, _, h => stAfter_n cs (step_n c h)
end Ss


set_option Elab.async false
set_option linter.all false
set_option maxRecDepth 100000
set_option maxHeartbeats 4000000
namespace Rp
open PySem PySem.Spec PyProof.Rows L2
def top (i : Nat) : Stmt := PySem.Challenge.pw_roundpowers_s01_answers.main.body.getD i (.Pass ⟨0, 0, 0, 0⟩)
abbrev s_common_divisor : Stmt := top 24
theorem sc_common_divisor : FnScope ["a", "b", "rest"] ["a", "b"] (defScope s_common_divisor) := ⟨rfl, rfl, rfl, by decide +kernel, rfl, by decide +kernel, by decide +kernel⟩
abbrev s_common_multiple : Stmt := top 25
theorem sc_common_multiple : FnScope ["a", "b"] ["a", "b"] (defScope s_common_multiple) := ⟨rfl, rfl, rfl, by decide +kernel, rfl, by decide +kernel, by decide +kernel⟩
abbrev s_is_unit : Stmt := top 26
theorem sc_is_unit : FnScope ["a", "n"] ["a", "n"] (defScope s_is_unit) := ⟨rfl, rfl, rfl, by decide +kernel, rfl, by decide +kernel, by decide +kernel⟩
abbrev s_units_round : Stmt := top 27
theorem sc_units_round : FnScope ["n", "a"] ["n"] (defScope s_units_round) := ⟨rfl, rfl, rfl, by decide +kernel, rfl, by decide +kernel, by decide +kernel⟩
abbrev s_one_round : Stmt := top 28
theorem sc_one_round : FnScope ["n"] ["n"] (defScope s_one_round) := ⟨rfl, rfl, rfl, by decide +kernel, rfl, by decide +kernel, by decide +kernel⟩
abbrev s_power : Stmt := top 29
theorem sc_power : FnScope ["a", "k", "n", "result", "square"] ["a", "k", "n"] (defScope s_power) := ⟨rfl, rfl, rfl, by decide +kernel, rfl, by decide +kernel, by decide +kernel⟩
abbrev s_order_of : Stmt := top 30
theorem sc_order_of : FnScope ["a", "n", "one", "reached", "k"] ["a", "n"] (defScope s_order_of) := ⟨rfl, rfl, rfl, by decide +kernel, rfl, by decide +kernel, by decide +kernel⟩
abbrev s_exponent_round : Stmt := top 31
theorem sc_exponent_round : FnScope ["n", "result", "a"] ["n"] (defScope s_exponent_round) := ⟨rfl, rfl, rfl, by decide +kernel, rfl, by decide +kernel, by decide +kernel⟩
abbrev s_generators_round : Stmt := top 32
theorem sc_generators_round : FnScope ["n", "units", "g"] ["n"] (defScope s_generators_round) := ⟨rfl, rfl, rfl, by decide +kernel, rfl, by decide +kernel, by decide +kernel⟩
abbrev s_log_of : Stmt := top 33
theorem sc_log_of : FnScope ["g", "a", "n", "wanted", "reached", "k"] ["g", "a", "n"] (defScope s_log_of) := ⟨rfl, rfl, rfl, by decide +kernel, rfl, by decide +kernel, by decide +kernel⟩
abbrev s_roots_round : Stmt := top 34
theorem sc_roots_round : FnScope ["k", "a", "n", "wanted", "b"] ["k", "a", "n"] (defScope s_roots_round) := ⟨rfl, rfl, rfl, by decide +kernel, rfl, by decide +kernel, by decide +kernel⟩
abbrev s_prime_factors : Stmt := top 35
theorem sc_prime_factors : FnScope ["n", "pairs", "rest", "prime", "often"] ["n"] (defScope s_prime_factors) := ⟨rfl, rfl, rfl, by decide +kernel, rfl, by decide +kernel, by decide +kernel⟩
abbrev s_cycles_round : Stmt := top 36
theorem sc_cycles_round : FnScope ["prime", "often", "whole", "step"] ["prime", "often"] (defScope s_cycles_round) := ⟨rfl, rfl, rfl, by decide +kernel, rfl, by decide +kernel, by decide +kernel⟩
abbrev s_chained : Stmt := top 37
theorem sc_chained : FnScope ["orders", "chain", "count", "low", "high", "divisor"] ["orders"] (defScope s_chained) := ⟨rfl, rfl, rfl, by decide +kernel, rfl, by decide +kernel, by decide +kernel⟩
abbrev s_parts_round : Stmt := top 38
theorem sc_parts_round : FnScope ["n", "orders", "pair", "part"] ["n"] (defScope s_parts_round) := ⟨rfl, rfl, rfl, by decide +kernel, rfl, by decide +kernel, by decide +kernel⟩
abbrev s_order_counts : Stmt := top 39
theorem sc_order_counts : FnScope ["n", "counts", "a", "order"] ["n"] (defScope s_order_counts) := ⟨rfl, rfl, rfl, by decide +kernel, rfl, by decide +kernel, by decide +kernel⟩
abbrev s_product_round : Stmt := top 40
theorem sc_product_round : FnScope ["n", "result", "a"] ["n"] (defScope s_product_round) := ⟨rfl, rfl, rfl, by decide +kernel, rfl, by decide +kernel, by decide +kernel⟩
abbrev s_inverse_of : Stmt := top 41
theorem sc_inverse_of : FnScope ["a", "n", "one", "b"] ["a", "n"] (defScope s_inverse_of) := ⟨rfl, rfl, rfl, by decide +kernel, rfl, by decide +kernel, by decide +kernel⟩
abbrev s_least_leaving : Stmt := top 42
theorem sc_least_leaving : FnScope ["found", "step", "a", "m", "wanted", "count", "number"] ["found", "step", "a", "m"] (defScope s_least_leaving) := ⟨rfl, rfl, rfl, by decide +kernel, rfl, by decide +kernel, by decide +kernel⟩
abbrev s_may_be_pairs : Stmt := top 43
theorem sc_may_be_pairs : FnScope ["pairs", "m"] ["pairs"] (defScope s_may_be_pairs) := ⟨rfl, rfl, rfl, by decide +kernel, rfl, by decide +kernel, by decide +kernel⟩
abbrev s_may_be_n : Stmt := top 44
theorem sc_may_be_n : FnScope ["n"] ["n"] (defScope s_may_be_n) := ⟨rfl, rfl, rfl, by decide +kernel, rfl, by decide +kernel, by decide +kernel⟩
abbrev s_counted : Stmt := top 45
theorem sc_counted : FnScope ["row"] ["row"] (defScope s_counted) := ⟨rfl, rfl, rfl, by decide +kernel, rfl, by decide +kernel, by decide +kernel⟩
abbrev s_counted_pairs : Stmt := top 46
theorem sc_counted_pairs : FnScope ["pairs", "row", "pair"] ["pairs"] (defScope s_counted_pairs) := ⟨rfl, rfl, rfl, by decide +kernel, rfl, by decide +kernel, by decide +kernel⟩
abbrev s_answer_round : Stmt := top 47
theorem sc_answer_round : FnScope ["n"] ["n"] (defScope s_answer_round) := ⟨rfl, rfl, rfl, by decide +kernel, rfl, by decide +kernel, by decide +kernel⟩
abbrev s_answer_order : Stmt := top 48
theorem sc_answer_order : FnScope ["a", "n"] ["a", "n"] (defScope s_answer_order) := ⟨rfl, rfl, rfl, by decide +kernel, rfl, by decide +kernel, by decide +kernel⟩
abbrev s_answer_log : Stmt := top 49
theorem sc_answer_log : FnScope ["g", "a", "n"] ["g", "a", "n"] (defScope s_answer_log) := ⟨rfl, rfl, rfl, by decide +kernel, rfl, by decide +kernel, by decide +kernel⟩
abbrev s_answer_roots : Stmt := top 50
theorem sc_answer_roots : FnScope ["k", "a", "n"] ["k", "a", "n"] (defScope s_answer_roots) := ⟨rfl, rfl, rfl, by decide +kernel, rfl, by decide +kernel, by decide +kernel⟩
abbrev s_answer_together : Stmt := top 51
theorem sc_answer_together : FnScope ["pairs", "found", "step", "place", "m"] ["pairs"] (defScope s_answer_together) := ⟨rfl, rfl, rfl, by decide +kernel, rfl, by decide +kernel, by decide +kernel⟩
abbrev s_answer_inverse : Stmt := top 52
theorem sc_answer_inverse : FnScope ["a", "n"] ["a", "n"] (defScope s_answer_inverse) := ⟨rfl, rfl, rfl, by decide +kernel, rfl, by decide +kernel, by decide +kernel⟩
abbrev s_answer_about_n : Stmt := top 53
theorem sc_answer_about_n : FnScope ["number", "n"] ["number", "n"] (defScope s_answer_about_n) := ⟨rfl, rfl, rfl, by decide +kernel, rfl, by decide +kernel, by decide +kernel⟩
abbrev s_answer_call : Stmt := top 54
theorem sc_answer_call : FnScope ["number", "given", "n"] ["number", "given", "n"] (defScope s_answer_call) := ⟨rfl, rfl, rfl, by decide +kernel, rfl, by decide +kernel, by decide +kernel⟩
abbrev s_n_after : Stmt := top 55
theorem sc_n_after : FnScope ["number", "given", "n"] ["number", "given", "n"] (defScope s_n_after) := ⟨rfl, rfl, rfl, by decide +kernel, rfl, by decide +kernel, by decide +kernel⟩
abbrev s_end_of_call : Stmt := top 56
theorem sc_end_of_call : FnScope ["calls", "place", "number", "end"] ["calls", "place"] (defScope s_end_of_call) := ⟨rfl, rfl, rfl, by decide +kernel, rfl, by decide +kernel, by decide +kernel⟩
abbrev s_answers : Stmt := top 57
theorem sc_answers : FnScope ["calls", "n", "result", "place", "number", "end", "given", "answer"] ["calls"] (defScope s_answers) := ⟨rfl, rfl, rfl, by decide +kernel, rfl, by decide +kernel, by decide +kernel⟩
structure Ad where
  c_common_divisor : Addr
  d_common_divisor : FuncData
  c_common_multiple : Addr
  d_common_multiple : FuncData
  c_is_unit : Addr
  d_is_unit : FuncData
  c_units_round : Addr
  d_units_round : FuncData
  c_one_round : Addr
  d_one_round : FuncData
  c_power : Addr
  d_power : FuncData
  c_order_of : Addr
  d_order_of : FuncData
  c_exponent_round : Addr
  d_exponent_round : FuncData
  c_generators_round : Addr
  d_generators_round : FuncData
  c_log_of : Addr
  d_log_of : FuncData
  c_roots_round : Addr
  d_roots_round : FuncData
  c_prime_factors : Addr
  d_prime_factors : FuncData
  c_cycles_round : Addr
  d_cycles_round : FuncData
  c_chained : Addr
  d_chained : FuncData
  c_parts_round : Addr
  d_parts_round : FuncData
  c_order_counts : Addr
  d_order_counts : FuncData
  c_product_round : Addr
  d_product_round : FuncData
  c_inverse_of : Addr
  d_inverse_of : FuncData
  c_least_leaving : Addr
  d_least_leaving : FuncData
  c_may_be_pairs : Addr
  d_may_be_pairs : FuncData
  c_may_be_n : Addr
  d_may_be_n : FuncData
  c_counted : Addr
  d_counted : FuncData
  c_counted_pairs : Addr
  d_counted_pairs : FuncData
  c_answer_round : Addr
  d_answer_round : FuncData
  c_answer_order : Addr
  d_answer_order : FuncData
  c_answer_log : Addr
  d_answer_log : FuncData
  c_answer_roots : Addr
  d_answer_roots : FuncData
  c_answer_together : Addr
  d_answer_together : FuncData
  c_answer_inverse : Addr
  d_answer_inverse : FuncData
  c_answer_about_n : Addr
  d_answer_about_n : FuncData
  c_answer_call : Addr
  d_answer_call : FuncData
  c_n_after : Addr
  d_n_after : FuncData
  c_end_of_call : Addr
  d_end_of_call : FuncData
  c_answers : Addr
  d_answers : FuncData
  t_FIRST_N : Tok
  t_LEAST_N : Tok
  t_MOST_N : Tok
  t_LEAST_M : Tok
  t_MOST_M : Tok
  t_MOST_PAIRS : Tok
  t_NOT_ALLOWED : Tok
  t_NO_SUCH_NUMBER : Tok
  t_NOT_A_UNIT : Tok
  t_ROUND : Tok
  t_UNITS : Tok
  t_POW : Tok
  t_ORDER : Tok
  t_EXPONENT : Tok
  t_GENERATORS : Tok
  t_LOG : Tok
  t_ROOTS : Tok
  t_FACTORS : Tok
  t_TOGETHER : Tok
  t_PARTS : Tok
  t_ORDERS : Tok
  t_INVERSE : Tok
  t_GIVEN_COUNTS : Addr
structure Txt (K : PySem.W.Frag) (mg : Str → Option Value) (A : Ad) : Prop where
  f_common_divisor : Fun K "common_divisor" "common_divisor" s_common_divisor A.c_common_divisor A.d_common_divisor
  m_common_divisor : mg "common_divisor" = some (.ref A.c_common_divisor)
  b_common_divisor : Binds K A.d_common_divisor ["a", "b"] []
  f_common_multiple : Fun K "common_multiple" "common_multiple" s_common_multiple A.c_common_multiple A.d_common_multiple
  m_common_multiple : mg "common_multiple" = some (.ref A.c_common_multiple)
  b_common_multiple : Binds K A.d_common_multiple ["a", "b"] []
  f_is_unit : Fun K "is_unit" "is_unit" s_is_unit A.c_is_unit A.d_is_unit
  m_is_unit : mg "is_unit" = some (.ref A.c_is_unit)
  b_is_unit : Binds K A.d_is_unit ["a", "n"] []
  f_units_round : Fun K "units_round" "units_round" s_units_round A.c_units_round A.d_units_round
  m_units_round : mg "units_round" = some (.ref A.c_units_round)
  b_units_round : Binds K A.d_units_round ["n"] []
  f_one_round : Fun K "one_round" "one_round" s_one_round A.c_one_round A.d_one_round
  m_one_round : mg "one_round" = some (.ref A.c_one_round)
  b_one_round : Binds K A.d_one_round ["n"] []
  f_power : Fun K "power" "power" s_power A.c_power A.d_power
  m_power : mg "power" = some (.ref A.c_power)
  b_power : Binds K A.d_power ["a", "k", "n"] []
  f_order_of : Fun K "order_of" "order_of" s_order_of A.c_order_of A.d_order_of
  m_order_of : mg "order_of" = some (.ref A.c_order_of)
  b_order_of : Binds K A.d_order_of ["a", "n"] []
  f_exponent_round : Fun K "exponent_round" "exponent_round" s_exponent_round A.c_exponent_round A.d_exponent_round
  m_exponent_round : mg "exponent_round" = some (.ref A.c_exponent_round)
  b_exponent_round : Binds K A.d_exponent_round ["n"] []
  f_generators_round : Fun K "generators_round" "generators_round" s_generators_round A.c_generators_round A.d_generators_round
  m_generators_round : mg "generators_round" = some (.ref A.c_generators_round)
  b_generators_round : Binds K A.d_generators_round ["n"] []
  f_log_of : Fun K "log_of" "log_of" s_log_of A.c_log_of A.d_log_of
  m_log_of : mg "log_of" = some (.ref A.c_log_of)
  b_log_of : Binds K A.d_log_of ["g", "a", "n"] []
  f_roots_round : Fun K "roots_round" "roots_round" s_roots_round A.c_roots_round A.d_roots_round
  m_roots_round : mg "roots_round" = some (.ref A.c_roots_round)
  b_roots_round : Binds K A.d_roots_round ["k", "a", "n"] []
  f_prime_factors : Fun K "prime_factors" "prime_factors" s_prime_factors A.c_prime_factors A.d_prime_factors
  m_prime_factors : mg "prime_factors" = some (.ref A.c_prime_factors)
  b_prime_factors : Binds K A.d_prime_factors ["n"] []
  f_cycles_round : Fun K "cycles_round" "cycles_round" s_cycles_round A.c_cycles_round A.d_cycles_round
  m_cycles_round : mg "cycles_round" = some (.ref A.c_cycles_round)
  b_cycles_round : Binds K A.d_cycles_round ["prime", "often"] []
  f_chained : Fun K "chained" "chained" s_chained A.c_chained A.d_chained
  m_chained : mg "chained" = some (.ref A.c_chained)
  b_chained : Binds K A.d_chained ["orders"] []
  f_parts_round : Fun K "parts_round" "parts_round" s_parts_round A.c_parts_round A.d_parts_round
  m_parts_round : mg "parts_round" = some (.ref A.c_parts_round)
  b_parts_round : Binds K A.d_parts_round ["n"] []
  f_order_counts : Fun K "order_counts" "order_counts" s_order_counts A.c_order_counts A.d_order_counts
  m_order_counts : mg "order_counts" = some (.ref A.c_order_counts)
  b_order_counts : Binds K A.d_order_counts ["n"] []
  f_product_round : Fun K "product_round" "product_round" s_product_round A.c_product_round A.d_product_round
  m_product_round : mg "product_round" = some (.ref A.c_product_round)
  b_product_round : Binds K A.d_product_round ["n"] []
  f_inverse_of : Fun K "inverse_of" "inverse_of" s_inverse_of A.c_inverse_of A.d_inverse_of
  m_inverse_of : mg "inverse_of" = some (.ref A.c_inverse_of)
  b_inverse_of : Binds K A.d_inverse_of ["a", "n"] []
  f_least_leaving : Fun K "least_leaving" "least_leaving" s_least_leaving A.c_least_leaving A.d_least_leaving
  m_least_leaving : mg "least_leaving" = some (.ref A.c_least_leaving)
  b_least_leaving : Binds K A.d_least_leaving ["found", "step", "a", "m"] []
  f_may_be_pairs : Fun K "may_be_pairs" "may_be_pairs" s_may_be_pairs A.c_may_be_pairs A.d_may_be_pairs
  m_may_be_pairs : mg "may_be_pairs" = some (.ref A.c_may_be_pairs)
  b_may_be_pairs : Binds K A.d_may_be_pairs ["pairs"] []
  f_may_be_n : Fun K "may_be_n" "may_be_n" s_may_be_n A.c_may_be_n A.d_may_be_n
  m_may_be_n : mg "may_be_n" = some (.ref A.c_may_be_n)
  b_may_be_n : Binds K A.d_may_be_n ["n"] []
  f_counted : Fun K "counted" "counted" s_counted A.c_counted A.d_counted
  m_counted : mg "counted" = some (.ref A.c_counted)
  b_counted : Binds K A.d_counted ["row"] []
  f_counted_pairs : Fun K "counted_pairs" "counted_pairs" s_counted_pairs A.c_counted_pairs A.d_counted_pairs
  m_counted_pairs : mg "counted_pairs" = some (.ref A.c_counted_pairs)
  b_counted_pairs : Binds K A.d_counted_pairs ["pairs"] []
  f_answer_round : Fun K "answer_round" "answer_round" s_answer_round A.c_answer_round A.d_answer_round
  m_answer_round : mg "answer_round" = some (.ref A.c_answer_round)
  b_answer_round : Binds K A.d_answer_round ["n"] []
  f_answer_order : Fun K "answer_order" "answer_order" s_answer_order A.c_answer_order A.d_answer_order
  m_answer_order : mg "answer_order" = some (.ref A.c_answer_order)
  b_answer_order : Binds K A.d_answer_order ["a", "n"] []
  f_answer_log : Fun K "answer_log" "answer_log" s_answer_log A.c_answer_log A.d_answer_log
  m_answer_log : mg "answer_log" = some (.ref A.c_answer_log)
  b_answer_log : Binds K A.d_answer_log ["g", "a", "n"] []
  f_answer_roots : Fun K "answer_roots" "answer_roots" s_answer_roots A.c_answer_roots A.d_answer_roots
  m_answer_roots : mg "answer_roots" = some (.ref A.c_answer_roots)
  b_answer_roots : Binds K A.d_answer_roots ["k", "a", "n"] []
  f_answer_together : Fun K "answer_together" "answer_together" s_answer_together A.c_answer_together A.d_answer_together
  m_answer_together : mg "answer_together" = some (.ref A.c_answer_together)
  b_answer_together : Binds K A.d_answer_together ["pairs"] []
  f_answer_inverse : Fun K "answer_inverse" "answer_inverse" s_answer_inverse A.c_answer_inverse A.d_answer_inverse
  m_answer_inverse : mg "answer_inverse" = some (.ref A.c_answer_inverse)
  b_answer_inverse : Binds K A.d_answer_inverse ["a", "n"] []
  f_answer_about_n : Fun K "answer_about_n" "answer_about_n" s_answer_about_n A.c_answer_about_n A.d_answer_about_n
  m_answer_about_n : mg "answer_about_n" = some (.ref A.c_answer_about_n)
  b_answer_about_n : Binds K A.d_answer_about_n ["number", "n"] []
  f_answer_call : Fun K "answer_call" "answer_call" s_answer_call A.c_answer_call A.d_answer_call
  m_answer_call : mg "answer_call" = some (.ref A.c_answer_call)
  b_answer_call : Binds K A.d_answer_call ["number", "given", "n"] []
  f_n_after : Fun K "n_after" "n_after" s_n_after A.c_n_after A.d_n_after
  m_n_after : mg "n_after" = some (.ref A.c_n_after)
  b_n_after : Binds K A.d_n_after ["number", "given", "n"] []
  f_end_of_call : Fun K "end_of_call" "end_of_call" s_end_of_call A.c_end_of_call A.d_end_of_call
  m_end_of_call : mg "end_of_call" = some (.ref A.c_end_of_call)
  b_end_of_call : Binds K A.d_end_of_call ["calls", "place"] []
  f_answers : Fun K "answers" "answers" s_answers A.c_answers A.d_answers
  m_answers : mg "answers" = some (.ref A.c_answers)
  b_answers : Binds K A.d_answers ["calls"] []
  g_FIRST_N : mg "FIRST_N" = some (.int (2) A.t_FIRST_N)
  g_LEAST_N : mg "LEAST_N" = some (.int (1) A.t_LEAST_N)
  g_MOST_N : mg "MOST_N" = some (.int (300) A.t_MOST_N)
  g_LEAST_M : mg "LEAST_M" = some (.int (1) A.t_LEAST_M)
  g_MOST_M : mg "MOST_M" = some (.int (30) A.t_MOST_M)
  g_MOST_PAIRS : mg "MOST_PAIRS" = some (.int (3) A.t_MOST_PAIRS)
  g_NOT_ALLOWED : mg "NOT_ALLOWED" = some (.int (-1) A.t_NOT_ALLOWED)
  g_NO_SUCH_NUMBER : mg "NO_SUCH_NUMBER" = some (.int (-3) A.t_NO_SUCH_NUMBER)
  g_NOT_A_UNIT : mg "NOT_A_UNIT" = some (.int (-6) A.t_NOT_A_UNIT)
  g_ROUND : mg "ROUND" = some (.int (0) A.t_ROUND)
  g_UNITS : mg "UNITS" = some (.int (1) A.t_UNITS)
  g_POW : mg "POW" = some (.int (2) A.t_POW)
  g_ORDER : mg "ORDER" = some (.int (3) A.t_ORDER)
  g_EXPONENT : mg "EXPONENT" = some (.int (4) A.t_EXPONENT)
  g_GENERATORS : mg "GENERATORS" = some (.int (5) A.t_GENERATORS)
  g_LOG : mg "LOG" = some (.int (6) A.t_LOG)
  g_ROOTS : mg "ROOTS" = some (.int (7) A.t_ROOTS)
  g_FACTORS : mg "FACTORS" = some (.int (8) A.t_FACTORS)
  g_TOGETHER : mg "TOGETHER" = some (.int (9) A.t_TOGETHER)
  g_PARTS : mg "PARTS" = some (.int (10) A.t_PARTS)
  g_ORDERS : mg "ORDERS" = some (.int (11) A.t_ORDERS)
  g_INVERSE : mg "INVERSE" = some (.int (13) A.t_INVERSE)
  g_GIVEN_COUNTS : mg "GIVEN_COUNTS" = some (.ref A.t_GIVEN_COUNTS)
  q_GIVEN_COUNTS : ∀ H : Hp, SqT K H A.t_GIVEN_COUNTS ([1, 0, 2, 1, 0, 0, 2, 2, 0, 1, 0, 0, 0, 1].map V.int)
  z_all : mg "all" = none
  z_len : mg "len" = none
  z_list : mg "list" = none
  z_range : mg "range" = none
  z_sorted : mg "sorted" = none
end Rp


set_option Elab.async false
set_option linter.all false
set_option maxRecDepth 100000
set_option maxHeartbeats 4000000
namespace Rp
open PySem PySem.Spec PyProof.Rows L2
variable {P : Program} {w : World} {K : PySem.W.Frag} {mg : Str → Option Value} {base : Heap} {A : Ad}
abbrev N (n : Nat) : V := .int (n : Int)
theorem N_mod (a b : Nat) : V.int ((a : Int) % (b : Int)) = N (a % b) := by rw [← Int.natCast_emod]
theorem N_mul (a b : Nat) : V.int ((a : Int) * (b : Int)) = N (a * b) := by rw [← Int.natCast_mul]
theorem N_div (a b : Nat) : V.int ((a : Int) / (b : Int)) = N (a / b) := by rw [← Int.natCast_ediv]
theorem N_add (a b : Nat) : V.int ((a : Int) + (b : Int)) = N (a + b) := by rw [← Int.natCast_add]
theorem N_inj {a b : Nat} (h : N a = N b) : a = b := Int.ofNat.inj (V.int.inj h)
/-- a test of two numbers -/
theorem N_eq_iff (a b : Nat) : (N a = N b) ↔ a = b := ⟨N_inj, fun h => by rw [h]⟩
theorem same_upd {H : Hp} {p : Addr} {o : HO} (new : H p = none) : Same H (upd H p o) := fun a x e => by
  rw [upd_ne (ne_of_none e new)]
  exact e
def rLen (K : PySem.W.Frag) : List V → Hp → VK → Prop := fun xs H Q => ∃ p ys, xs = [.ref p] ∧ (SqL K H p ys ∨ SqT K H p ys) ∧ Q (.int ys.length) H
theorem call_lenK {X : Cx} {K : PySem.W.Frag} (h : X.K = K) : CallR X (.builtin "len") (rLen K) := by
  subst h
  exact call_len_seq
def sp_common_divisor : Sp := fun vs H Q _ => ∃ a b : Nat, vs = [N a, N b] ∧ Q (N (Nat.gcd a b)) H
theorem ok_common_divisor (T : Txt K mg A) : FnOk P w K mg base CX0 1 A.c_common_divisor A.d_common_divisor ["a", "b"] sp_common_divisor := by
  refine T.f_common_divisor.ok sc_common_divisor (fun vs H Q E h => ?_) (fun cdv Ar outer s H vs Q E hr h => ?_)
  · obtain ⟨a, b, rfl, _⟩ := h
    rfl
  · obtain ⟨a, b, rfl, q⟩ := h
    refine ⟨_, (pss_cons (ps_while PassesOwn.never (pt_cmpR op_ne (pv 1) pe_int (nomark _))
      (pss_cons (ps_set (i := 2) sc_common_divisor.nd rfl (.inl rfl) (pe_op op_mod (pv 0) (pv 1)))
      (pss_cons (ps_set (i := 0) sc_common_divisor.nd rfl (.inl rfl) (pv 1))
      (pss_one (ps_set (i := 1) sc_common_divisor.nd rfl (.inl rfl) (pv 2))))))
      (pss_one (ps_ret (pv 0)))), ?_⟩
    refine ⟨fun m σ H' => ∃ x r, σ = [some (N x), some (N m), r] ∧ H' = H ∧ Nat.gcd x m = Nat.gcd a b, ⟨b, a, none, rfl, rfl, rfl⟩, fun m σ H' hW => ?_⟩
    obtain ⟨x, r, rfl, rfl, eg⟩ := hW
    refine ⟨N m, rfl, rfl, _, rfl, ite2 (fun c => ?_) (fun c => ?_)⟩
    · have hm : m ≠ 0 := fun z => by
        subst z
        simp at c
      refine ⟨_, fun _ _ h => h, N x, rfl, N m, rfl, (x : Int), (m : Int), rfl, rfl, by show (0 : Int) < (m : Int); omega, _, rfl, _, rfl, x % m, Nat.mod_lt _ (by omega), m, some (N (x % m)), rfl, rfl, ?_⟩
      rw [← Mx.gcd_step]
      exact eg
    · have hm : m = 0 := by
        apply Decidable.byContradiction
        intro z
        apply c
        simp [z]
      subst hm
      rw [Nat.gcd_zero_right] at eg
      subst eg
      exact ⟨_, rfl, q⟩
/-- the least number that both divide -/
def sp_common_multiple : Sp := fun vs H Q _ => ∃ a b : Nat, vs = [N a, N b] ∧ 1 ≤ b ∧ b ≤ 300 ∧ Q (N (Nat.lcm a b)) H
theorem ok_common_multiple (T : Txt K mg A) : FnOk P w K mg base CX0 2 A.c_common_multiple A.d_common_multiple ["a", "b"] sp_common_multiple := by
  refine T.f_common_multiple.ok sc_common_multiple (fun vs H Q E h => ?_) (fun cdv Ar outer s H vs Q E hr h => ?_)
  · obtain ⟨a, b, rfl, _⟩ := h
    rfl
  · obtain ⟨a, b, rfl, h1, h3, q⟩ := h
    refine ⟨_, (pss_one (ps_ret (pe_op op_fdiv (pe_op op_mul (pv 0) (pv 1)) (pe_call (ok_common_divisor T) (hr.mono (by decide)) (by rfl) T.m_common_divisor T.f_common_divisor.kp T.b_common_divisor .nil pass0 (pa_cons (pv 0) (pa_cons (pv 1) pa_nil)))))), ?_⟩
    have gp : Nat.gcd a b ≤ b := Nat.gcd_le_right _ (by omega)
    have g0 : 0 < Nat.gcd a b := Nat.gcd_pos_of_pos_right _ (by omega)
    refine ⟨N a, rfl, N b, rfl, (a : Int), (b : Int), rfl, rfl, .inr ⟨by omega, by omega⟩, ?_⟩
    refine ⟨N a, rfl, N b, rfl, a, b, rfl, ?_⟩
    exact ⟨(a : Int) * (b : Int), ((Nat.gcd a b : Nat) : Int), rfl, rfl, ⟨by omega, by omega⟩, q⟩
end Rp


set_option Elab.async false
set_option linter.all false
set_option maxRecDepth 100000
set_option maxHeartbeats 4000000
namespace Rp
open PySem PySem.Spec PyProof.Rows L2
/-! xs.extend(t), t a tuple -/
theorem ext_tup (l : Addr) (ys : Array Value) (k : Nat) (b : Addr) (zs : Array Value) (j : Nat) (dt : Option Addr) (sl : Array (Option Value))
    (c0 : ¬(!ys.isEmpty && Builtin.List.listTooLong (ys.size + zs.size)) = true) (c1 : ys.size ≤ sizeLine) (c2 : ys.size + zs.size ≤ sizeLine + 1) :
    Meets (Builtin.«list.extend» ⟨[.ref l, .ref b], []⟩) (fun _ R s => s.heap.get? l = some ⟨.type "list", none, .seq ys k, #[]⟩ ∧ s.heap.get? b = some ⟨.type "tuple", dt, .seq zs j, sl⟩ ∧ R (.ok (.ret Value.none)) { s with heap := s.heap.update l (Obj.mapSeq fun x => x ++ zs), toks := s.toks }) :=
  .of_wp fun prog w A R s h => by
    obtain ⟨s1, s2, s3, s4, s5⟩ := s
    obtain ⟨e1, e2, e3⟩ := h
    have z : (ys ++ zs).size ≤ sizeLine + 1 := by rw [Array.size_append]; exact c2
    wp_walk using (wpAny_updateSeq e1 rfl (hz := c1) (_hz' := z)), wpAny_loadPart' e1, wpAny_loadPart' e2
    exact ⟨_, rfl, e3⟩
section
variable {X : Cx}
def rExtT (K : PySem.W.Frag) : V → List V → Hp → VK → Prop := fun x vs H Q => ∃ l b xs zs, x = .ref l ∧ vs = [.ref b] ∧ H l = some (.lst xs) ∧ SqT K H b zs ∧ xs.length + zs.length ≤ sizeLine ∧ Q .non (upd H l (.lst (xs ++ zs)))
theorem mt_extendT : MtM X "list.extend" (rExtT X.K) := by
  intro pn sh σ H x ys v us Q I rx rv hx
  obtain ⟨l, b, xs, zs, rfl, rfl, atL, atB, fitsIn, q⟩ := hx
  cases rx
  obtain ⟨u, rfl, ru⟩ := rv.one
  cases ru
  obtain ⟨zl, i1, n, r, ll, e⟩ := I.lstM atL
  obtain ⟨i2, r2, ⟨o, eo, oc, n2, od⟩, z2⟩ := I.tuple atB
  obtain ⟨c1, c2, c3, c4⟩ := o
  have oc : c1 = .type "tuple" := oc
  have od : c3 = .seq i2.toArray n2 := od
  subst oc od
  have l2 := r2.length
  have sz : i1.toArray.size + i2.toArray.size ≤ sizeLine := by
    have a1 := List.size_toArray (as := i1)
    have a2 := List.size_toArray (as := i2)
    omega
  have lng : ¬ (!i1.toArray.isEmpty && Builtin.List.listTooLong (i1.toArray.size + i2.toArray.size)) = true := by
    rw [notLongL sz, Bool.and_false]
    simp
  refine call_meets F.slot_list_extend ⟨_, e, rfl⟩ F.entry_list_extend (F.args_list_extend_2 _ _) (ext_tup l i1.toArray n b i2.toArray n2 c2 c4 lng (by rw [List.size_toArray]; omega) (by omega)) ⟨e, eo, ?_⟩
  exact ⟨.non, _, I.lset (its' := i1 ++ i2) atL e (by simp) (r.append r2) (by simp only [List.length_append]; omega), rfl, q⟩
end
/-! xs[1::2] -/
theorem odds_pick : ∀ (l : List Value), ((List.range (l.length / 2)).filterMap fun k => l[1 + 2 * k]?) = Mx.odds l
  | [] => rfl
  | [_] => by simp [Mx.odds]
  | a :: b :: r => by
    have e : (a :: b :: r).length / 2 = r.length / 2 + 1 := by
      simp only [List.length_cons]
      omega
    rw [e, List.range_succ_eq_map, List.filterMap_cons]
    show b :: _ = b :: _
    have e3 : ((fun k => (a :: b :: r)[1 + 2 * k]?) ∘ Nat.succ) = fun k => r[1 + 2 * k]? := by
      funext k
      show (a :: b :: r)[1 + 2 * (k + 1)]? = r[1 + 2 * k]?
      have e2 : 1 + 2 * (k + 1) = (1 + 2 * k) + 1 + 1 := by omega
      rw [e2, List.getElem?_cons_succ, List.getElem?_cons_succ]
    rw [List.filterMap_map, e3, odds_pick r]
theorem odds_range (n : Nat) : sliceRange (min 1 (n : Int)) (n : Int) 2 = (List.range (n / 2)).map fun k => 1 + 2 * k := by
  unfold sliceRange
  simp only [show (2 : Int) > 0 by decide, if_true]
  by_cases h : 2 ≤ n
  · have e1 : min 1 (n : Int) = 1 := by omega
    rw [e1, if_pos (by omega)]
    have e2 : (((n : Int) - 1 + 2 - 1) / 2).toNat = n / 2 := by omega
    rw [e2]
    apply List.map_congr_left
    intro k _
    omega
  · have e : ¬ (min 1 (n : Int) < (n : Int)) := by omega
    rw [if_neg e]
    have e2 : n / 2 = 0 := by omega
    rw [e2]
    rfl
theorem odds_slice (its : List Value) : slicePick its.toArray (some 1) none (some 2) = (Mx.odds its).toArray := by
  unfold slicePick
  have e : sliceBounds (some 1) none (some 2) its.toArray.size = (min 1 (its.length : Int), (its.length : Int), 2) := by
    rw [List.size_toArray]
    simp only [sliceBounds, Option.getD_some, show (2 : Int) > 0 by decide, if_true, show ¬ (1 : Int) < 0 by decide, if_false]
    congr 1
    omega
  rw [e]
  show ((sliceRange (min 1 (its.length : Int)) (its.length : Int) 2).filterMap fun i => its.toArray[i]?).toArray = _
  have e3 : ((fun i => its.toArray[i]?) ∘ fun k => 1 + 2 * k) = fun k => its[1 + 2 * k]? := by
    funext k
    show its.toArray[1 + 2 * k]? = _
    rw [List.getElem?_toArray]
  rw [odds_range, List.filterMap_map, e3, odds_pick]
theorem odds_vals : ∀ {xs : List V} {its : List Value}, Vals xs its → Vals (Mx.odds xs) (Mx.odds its)
  | _, _, .nil => .nil
  | _, _, .cons _ .nil => .nil
  | _, _, .cons _ (.cons h r) => .cons h (odds_vals r)
theorem odds_len {α : Type} : ∀ l : List α, (Mx.odds l).length ≤ l.length
  | [] => Nat.le_refl _
  | [_] => by simp [Mx.odds]
  | a :: b :: r => by
    show (Mx.odds r).length + 1 ≤ r.length + 2
    have := odds_len r
    omega
section
variable {X : Cx}
def tOdds (K : PySem.W.Frag) (te : TE) : TE := fun σ H Q => te σ H fun x H1 => ∃ a xs, x = .ref a ∧ SqL K H1 a xs ∧ ∀ p, H1 p = none → Q (.ref p) (upd H1 p (.lst (Mx.odds xs)))
theorem pe_odds {e : Expr} {te : TE} {k k' : Nat} {p1 p2 p3 pos : Pos} (he : PE X e te) : PE X (.Subscript e (.Slice (some (.Constant (.int 1) k p1)) none (some (.Constant (.int 2) k' p2)) p3) pos) (tOdds X.K te) := by
  refine ⟨fun pn sh σ H Q I hw => ?_⟩
  refine Subscript_ (thn (he.run pn sh σ H _ I hw) fun v s1 ⟨x, H1, I1, r1, q1⟩ => ?_)
  obtain ⟨a, xs, rfl, hx, q⟩ := q1
  cases r1
  have one : PO X (some (.Constant (.int 1) k p1)) (tPart (tC (.int 1))) := po_some pe_int
  have two : PO X (some (.Constant (.int 2) k' p2)) (tPart (tC (.int 2))) := po_some pe_int
  refine wpAny_Slice (thn (one.run pn s1 σ H1 (fun o H2 => o = some 1 ∧ H2 = H1) I1 ⟨1, rfl, rfl, rfl⟩) fun vl s2 ⟨l, H2, I2, pl, el, e2⟩ => ?_)
  subst el e2
  refine thn (po_none.run pn s2 σ H2 (fun o G => o = none ∧ G = H2) I2 ⟨rfl, rfl⟩) fun vu s3 ⟨u, H3, I3, pu, eu, e3⟩ => ?_
  subst eu e3
  refine thn (two.run pn s3 σ H3 (fun o G => o = some 2 ∧ G = H3) I3 ⟨2, rfl, rfl, rfl⟩) fun vs s4 ⟨o, H4, I4, ps, eo, e4⟩ => ?_
  subst eo e4
  have I5 : Inv X pn σ H4 { s4 with heap := s4.heap.push ⟨.type "slice", none, .fields #[vl, vu, vs], #[]⟩ } := I4.kept (t' := s4.toks) fun b ob z => Heap.get?_push_of_some _ z
  obtain ⟨vals, r, isL, hz⟩ := I5.list hx
  have hlen := r.length
  show wpAny (model X.prog X.w) X.A (subscriptTail e _ (.ref a) (.ref s4.heap.objs.size)) (EP X pn σ Q) X.xe { s4 with heap := s4.heap.push ⟨.type "slice", none, .fields #[vl, vu, vs], #[]⟩ }
  refine tail_any (ops := [.ref a, .ref s4.heap.objs.size]) isL.isList.typeIs PySem.slot_list_getitem.lookup ?_ (by with_unfolding_all rfl)
  refine wpAny_getItem_list_slice isL.isList (.new _ vl vu vs) pl pu ps (by decide) ?_ (by rw [List.size_toArray]; omega)
  rw [odds_slice]
  refine ⟨.ref _, _, I5.laid (t' := s4.toks) (o := .lst (Mx.odds xs)) (fun b ob z => Heap.get?_push_of_some _ z) (Nat.le_refl _) ?_, rfl, q _ (I5.hok.fresh (Nat.le_refl _))⟩
  exact ⟨Nat.le_trans (odds_len xs) hz, _, 0, odds_vals r, Heap.get?_push_size _ rfl⟩
end
end Rp


set_option Elab.async false
set_option linter.all false
set_option maxRecDepth 100000
set_option maxHeartbeats 4000000
namespace Rp
open PySem PySem.Spec PyProof.Rows L2
variable {P : Program} {w : World} {K : PySem.W.Frag} {mg : Str → Option Value} {base : Heap} {A : Ad}
theorem dec_N (a b : Nat) : (decide (N a = N b)) = decide (a = b) := by
  by_cases h : a = b
  · subst h
    simp
  · rw [decide_eq_false h, decide_eq_false (fun e => h (N_inj e))]
theorem if_T {A B : Prop} {x y : Nat} (e : x = y) (h : A) : if decide (N x = N y) = true then A else B := by
  subst e
  rw [if_pos (decide_eq_true rfl)]
  exact h
theorem if_F {A B : Prop} {x y : Nat} (e : x ≠ y) (h : B) : if decide (N x = N y) = true then A else B := by
  rw [if_neg (fun z => e (N_inj (of_decide_eq_true z)))]
  exact h
def sp_is_unit : Sp := fun vs H Q _ => ∃ a n : Nat, vs = [N a, N n] ∧ Q (.bl (decide (Nat.gcd a n = 1))) H
theorem ok_is_unit (T : Txt K mg A) : FnOk P w K mg base CX0 2 A.c_is_unit A.d_is_unit ["a", "n"] sp_is_unit := by
  refine T.f_is_unit.ok sc_is_unit (fun vs H Q E h => ?_) (fun cdv Ar outer s H vs Q E hr h => ?_)
  · obtain ⟨a, b, rfl, _⟩ := h
    rfl
  · obtain ⟨a, n, rfl, q⟩ := h
    refine ⟨_, (pss_one (ps_ret (pe_cmpR op_eq (pe_call (ok_common_divisor T) (hr.mono (by decide)) (by rfl) T.m_common_divisor T.f_common_divisor.kp T.b_common_divisor .nil pass0 (pa_cons (pv 0) (pa_cons (pv 1) pa_nil))) pe_int (nomark _)))), ?_⟩
    refine ⟨N a, rfl, N n, rfl, a, n, rfl, rfl, ?_⟩
    show Q (.bl (decide (N (Nat.gcd a n) = N 1))) H
    rw [dec_N]
    exact q
def sp_one_round : Sp := fun vs H Q _ => ∃ n : Nat, vs = [N n] ∧ 1 ≤ n ∧ Q (N (1 % n)) H
theorem ok_one_round (T : Txt K mg A) : FnOk P w K mg base CX0 1 A.c_one_round A.d_one_round ["n"] sp_one_round := by
  refine T.f_one_round.ok sc_one_round (fun vs H Q E h => ?_) (fun cdv Ar outer s H vs Q E hr h => ?_)
  · obtain ⟨n, rfl, _⟩ := h
    rfl
  · obtain ⟨n, rfl, hn, q⟩ := h
    refine ⟨_, (pss_one (ps_ret (pe_op op_mod pe_int (pv 0)))), ?_⟩
    exact ⟨N n, rfl, 1, (n : Int), rfl, rfl, by show (0 : Int) < (n : Int); omega, q⟩
def LN (l : List Nat) : HO := .lst (l.map N)
/-- the small numbers that the list layer asks -/
theorem line {n : Nat} (h : n ≤ 1000000) : n < sizeLine := Nat.lt_of_le_of_lt h (by decide)
theorem lineE {n : Nat} (h : n ≤ 1000000) : n ≤ sizeLine := Nat.le_of_lt (line h)
def sp_units_round : Sp := fun vs H Q _ => ∃ n : Nat, vs = [N n] ∧ n ≤ 300 ∧ ∀ H' p, Same H H' → H p = none → H' p = some (LN (Na01.units n)) → Q (.ref p) H'
theorem LN_snoc (l : List Nat) (x : Nat) : LN (l ++ [x]) = .lst (l.map N ++ [N x]) := by
  unfold LN
  rw [List.map_append]
  rfl
/-- a list of one's own grows: what stood before it was made stands -/
theorem same_trans_upd {H H' : Hp} {D : Addr} {o u : HO} (sm : Same H H') (hD : H D = none) (eD : H' D = some o) : Same H (upd H' D u) := fun b x e => by
  rw [upd_ne (ne_of_none e hD)]
  exact sm b x e
theorem filter_range_succ (p : Nat → Bool) (i : Nat) : (List.range (i + 1)).filter p = if p i = true then (List.range i).filter p ++ [i] else (List.range i).filter p := by
  rw [List.range_succ, List.filter_append]
  cases h : p i <;> simp [h]
theorem filter_range_len (p : Nat → Bool) (i : Nat) : ((List.range i).filter p).length ≤ i := by
  refine Nat.le_trans (List.length_filter_le _ _) ?_
  rw [List.length_range]
  exact Nat.le_refl i
theorem ok_units_round (T : Txt K mg A) : FnOk P w K mg base CX0 3 A.c_units_round A.d_units_round ["n"] sp_units_round := by
  refine T.f_units_round.ok sc_units_round (fun vs H Q E h => ?_) (fun cdv Ar outer s H vs Q E hr h => ?_)
  · obtain ⟨n, rfl, _⟩ := h
    rfl
  · obtain ⟨n, rfl, hn, q⟩ := h
    refine ⟨_, (pss_one (ps_ret (pe_lc (own := [("a", 1)]) rfl sc_units_round.nd (pi_range1 (by rfl) T.z_range (pa_cons (pv 0) pa_nil)) (blkOk_by (N := ["n", "a"]) (sc := defScope s_units_round) (by decide +kernel)) (fun _ _ _ _ _ => (pg_name (i := 1) sc_units_round.nd rfl (.inl rfl))) (fun _ _ _ _ _ => (pts_one (pt_val (pe_call (ok_is_unit T) (hr.mono (by decide)) (by rfl) T.m_is_unit T.f_is_unit.kp T.b_is_unit .nil pass0 (pa_cons (pv 1) (pa_cons (pv 0) pa_nil)))))) (fun _ _ _ _ _ => (pv 1))))), ?_⟩
    refine ⟨N n, rfl, (n : Int), rfl, by omega, by omega, fun D hD => ?_⟩
    refine lc_range (n := n) (fun i H' => Same H H' ∧ H' D = some (LN ((List.range i).filter fun a => Nat.gcd a n == 1))) ⟨same_upd hD, upd_same⟩ (fun i H' hi hP => ?_) (fun H' hP => q H' D hP.1 hD hP.2)
    obtain ⟨sm, eD⟩ := hP
    have e0 : V.int (0 + (i : Int)) = N i := by rw [Int.zero_add]
    rw [e0]
    refine ⟨rfl, N i, rfl, N n, rfl, i, n, rfl, ?_⟩
    refine ⟨_, rfl, ?_⟩
    have ef := filter_range_succ (fun a => Nat.gcd a n == 1) i
    refine ite2 (fun c => ?_) (fun c => ?_)
    · have c1 : Nat.gcd i n = 1 := of_decide_eq_true c
      rw [if_pos (by simpa using c1)] at ef
      refine ⟨N i, rfl, _, eD, ?_, same_trans_upd sm hD eD, ?_⟩
      · rw [List.length_map]
        exact line (Nat.le_trans (filter_range_len _ i) (by omega))
      · rw [upd_same, ef, LN_snoc]
    · have c1 : ¬ Nat.gcd i n = 1 := fun z => c (decide_eq_true z)
      rw [if_neg (by simpa using c1)] at ef
      rw [ef]
      exact ⟨sm, eD⟩
/-- a -> a to the power of k, round n -/
def sp_power : Sp := fun vs H Q _ => ∃ a k n : Nat, vs = [N a, N k, N n] ∧ 1 ≤ n ∧ n ≤ 300 ∧ Q (N (a ^ k % n)) H
theorem small_mul {a b : Nat} (h : a ≤ 300) : CMul (a : Int) (b : Int) := .inl ⟨by omega, by omega⟩
theorem small_mulR {a b : Nat} (h : b ≤ 300) : CMul (a : Int) (b : Int) := .inr ⟨by omega, by omega⟩
theorem ok_power (T : Txt K mg A) : FnOk P w K mg base CX0 2 A.c_power A.d_power ["a", "k", "n"] sp_power := by
  refine T.f_power.ok sc_power (fun vs H Q E h => ?_) (fun cdv Ar outer s H vs Q E hr h => ?_)
  · obtain ⟨a, k, n, rfl, _⟩ := h
    rfl
  · obtain ⟨a, k, n, rfl, h1, h3, q⟩ := h
    refine ⟨_, (pss_cons (ps_set (i := 3) sc_power.nd rfl (.inl rfl) (pe_call (ok_one_round T) (hr.mono (by decide)) (by rfl) T.m_one_round T.f_one_round.kp T.b_one_round .nil pass0 (pa_cons (pv 2) pa_nil)))
      (pss_cons (ps_set (i := 4) sc_power.nd rfl (.inl rfl) (pe_op op_mod (pv 0) (pv 2)))
      (pss_cons (ps_while PassesOwn.never (pt_cmpR op_gt (pv 1) pe_int (nomark _))
      (pss_cons (ps_if (pt_cmpR op_eq (pe_op op_mod (pv 1) pe_int) pe_int (nomark _))
      (pss_one (ps_set (i := 3) sc_power.nd rfl (.inl rfl) (pe_op op_mod (pe_op op_mul (pv 3) (pv 4)) (pv 2))))
      pss_nil)
      (pss_cons (ps_set (i := 4) sc_power.nd rfl (.inl rfl) (pe_op op_mod (pe_op op_mul (pv 4) (pv 4)) (pv 2)))
      (pss_one (ps_set (i := 1) sc_power.nd rfl (.inl rfl) (pe_op op_fdiv (pv 1) pe_int))))))
      (pss_one (ps_ret (pv 3)))))), ?_⟩
    have np : (0 : Int) < (n : Int) := by omega
    refine ⟨N n, rfl, n, rfl, h1, ?_⟩
    refine ⟨N a, rfl, N n, rfl, (a : Int), (n : Int), rfl, rfl, np, ?_⟩
    refine ⟨fun m σ H' => ∃ r sq, σ = [some (N a), some (N m), some (N n), some (N r), some (N sq)] ∧ H' = H ∧ r < n ∧ sq < n ∧ r * sq ^ m % n = a ^ k % n,
      ⟨k, 1 % n, a % n, rfl, rfl, Nat.mod_lt _ h1, Nat.mod_lt _ h1, Mx.pow_start n a k⟩, fun m σ H' hW => ?_⟩
    obtain ⟨r, sq, rfl, rfl, hr1, hs1, e⟩ := hW
    refine ⟨N m, rfl, (m : Int), 0, rfl, rfl, _, rfl, ite2 (fun c => ?_) (fun c => ?_)⟩
    · have hm : 0 < m := by
        have := of_decide_eq_true c
        omega
      refine ⟨_, fun _ _ h => h, ?_⟩
      refine ⟨N m, rfl, (m : Int), 2, rfl, rfl, (by show (0 : Int) < 2; decide), rfl, _, rfl, ite2 (fun c2 => ?_) (fun c2 => ?_)⟩
      · have o : m % 2 = 1 := by
          have := V.int.inj (of_decide_eq_true c2)
          omega
        refine ⟨N r, rfl, N sq, rfl, (r : Int), (sq : Int), rfl, rfl, small_mul (by omega), N n, rfl, (r : Int) * (sq : Int), (n : Int), rfl, rfl, np, ?_⟩
        refine ⟨N sq, rfl, N sq, rfl, (sq : Int), (sq : Int), rfl, rfl, small_mul (by omega), N n, rfl, (sq : Int) * (sq : Int), (n : Int), rfl, rfl, np, ?_⟩
        refine ⟨N m, rfl, (m : Int), 2, rfl, rfl, ⟨by decide, by decide⟩, ?_⟩
        exact ⟨m / 2, by omega, r * sq % n, sq * sq % n, rfl, rfl, Nat.mod_lt _ h1, Nat.mod_lt _ h1, (Mx.pow_odd o).trans e⟩
      · have o : ¬ m % 2 = 1 := fun z => c2 (decide_eq_true (congrArg V.int (by omega)))
        refine ⟨N sq, rfl, N sq, rfl, (sq : Int), (sq : Int), rfl, rfl, small_mul (by omega), N n, rfl, (sq : Int) * (sq : Int), (n : Int), rfl, rfl, np, ?_⟩
        refine ⟨N m, rfl, (m : Int), 2, rfl, rfl, ⟨by decide, by decide⟩, ?_⟩
        exact ⟨m / 2, by omega, r, sq * sq % n, rfl, rfl, hr1, Nat.mod_lt _ h1, (Mx.pow_even o).trans e⟩
    · have hm : m = 0 := by
        apply Decidable.byContradiction
        intro z
        exact c (decide_eq_true (by omega))
      subst hm
      rw [Nat.pow_zero, Nat.mul_one, Nat.mod_eq_of_lt hr1] at e
      subst e
      exact ⟨_, rfl, q⟩
def sp_order_of : Sp := fun vs H Q _ => ∃ a n : Nat, vs = [N a, N n] ∧ 1 ≤ n ∧ n ≤ 300 ∧ Nat.gcd a n = 1 ∧ Q (N (Na01.order n a)) H
theorem ok_order_of (T : Txt K mg A) : FnOk P w K mg base CX0 2 A.c_order_of A.d_order_of ["a", "n"] sp_order_of := by
  refine T.f_order_of.ok sc_order_of (fun vs H Q E h => ?_) (fun cdv Ar outer s H vs Q E hr h => ?_)
  · obtain ⟨a, n, rfl, _⟩ := h
    rfl
  · obtain ⟨a, n, rfl, h1, h3, hg, q⟩ := h
    refine ⟨_, (pss_cons (ps_set (i := 2) sc_order_of.nd rfl (.inl rfl) (pe_call (ok_one_round T) (hr.mono (by decide)) (by rfl) T.m_one_round T.f_one_round.kp T.b_one_round .nil pass0 (pa_cons (pv 1) pa_nil)))
      (pss_cons (ps_set (i := 3) sc_order_of.nd rfl (.inl rfl) (pe_op op_mod (pv 0) (pv 1)))
      (pss_cons (ps_set (i := 4) sc_order_of.nd rfl (.inl rfl) pe_int)
      (pss_cons (ps_while PassesOwn.never (pt_cmpR op_ne (pv 3) (pv 2) (nomark _))
      (pss_cons (ps_set (i := 3) sc_order_of.nd rfl (.inl rfl) (pe_op op_mod (pe_op op_mul (pv 3) (pv 0)) (pv 1)))
      (pss_one (ps_aug (i := 4) sc_order_of.nd rfl (.inl rfl) pe_int ip_add))))
      (pss_one (ps_ret (pv 4))))))), ?_⟩
    have np : (0 : Int) < (n : Int) := by omega
    obtain ⟨o1, o2, o3, o4⟩ := Mx.order_ok h1 hg
    refine ⟨N n, rfl, n, rfl, h1, ?_⟩
    refine ⟨N a, rfl, N n, rfl, (a : Int), (n : Int), rfl, rfl, np, ?_⟩
    refine ⟨fun m σ H' => ∃ k, σ = [some (N a), some (N n), some (N (1 % n)), some (N (a ^ k % n)), some (N k)] ∧ H' = H ∧ 1 ≤ k ∧ k + m = Na01.order n a ∧ ∀ j, 1 ≤ j → j < k → a ^ j % n ≠ 1 % n,
      ⟨Na01.order n a - 1, 1, ?_, rfl, Nat.le_refl 1, by omega, fun j _ _ => by omega⟩, fun m σ H' hW => ?_⟩
    · rw [Nat.pow_one]
      rfl
    · obtain ⟨k, rfl, rfl, hk, hm, hn⟩ := hW
      refine ⟨N (a ^ k % n), rfl, N (1 % n), rfl, rfl, _, rfl, ite2 (fun c => ?_) (fun c => ?_)⟩
      · have c1 : a ^ k % n ≠ 1 % n := fun z => by
          rw [z] at c
          simp at c
        have hlt : a ^ k % n < n := Nat.mod_lt _ h1
        refine ⟨_, fun _ _ h => h, ?_⟩
        refine ⟨N (a ^ k % n), rfl, N a, rfl, ((a ^ k % n : Nat) : Int), (a : Int), rfl, rfl, small_mul (by omega), N n, rfl, _, (n : Int), rfl, rfl, np, ?_⟩
        refine ⟨N k, rfl, (k : Int), 1, rfl, rfl, ?_⟩
        have k1 : k ≠ Na01.order n a := fun z => c1 (by rw [z]; exact o3)
        refine ⟨m - 1, by omega, k + 1, ?_, rfl, by omega, by omega, fun j j1 j2 => ?_⟩
        · rw [← Mx.pow_next]
          rfl
        · by_cases z : j = k
          · rw [z]
            exact c1
          · exact hn j j1 (by omega)
      · have c1 : a ^ k % n = 1 % n := by
          apply Decidable.byContradiction
          intro z
          apply c
          rw [decide_eq_false (fun e => z (N_inj e))]
          rfl
        have e := Mx.order_uniq h1 hg hk c1 hn
        rw [← e]
        exact ⟨_, rfl, q⟩
end Rp


set_option Elab.async false
set_option linter.all false
set_option maxRecDepth 100000
set_option maxHeartbeats 4000000
namespace Rp
open PySem PySem.Spec PyProof.Rows L2
variable {P : Program} {w : World} {K : PySem.W.Frag} {mg : Str → Option Value} {base : Heap} {A : Ad}
theorem LN_get {l : List Nat} {i : Nat} {x : V} (h : (l.map N)[i]? = some x) : ∃ a, l[i]? = some a ∧ x = N a := by
  rw [List.getElem?_map] at h
  cases e : l[i]? with
  | none =>
    rw [e] at h
    cases h
  | some a =>
    rw [e] at h
    exact ⟨a, rfl, (Option.some.inj h).symm⟩
theorem take_more {α : Type} {l : List α} {i : Nat} {x : α} (h : l[i]? = some x) : l.take (i + 1) = l.take i ++ [x] := by
  rw [List.take_add_one, h]
  rfl
theorem foldl_more {α β : Type} {f : β → α → β} {b : β} {l : List α} {i : Nat} {x : α} (h : l[i]? = some x) : (l.take (i + 1)).foldl f b = f ((l.take i).foldl f b) x := by
  rw [take_more h, List.foldl_append]
  rfl
theorem mem_of_get {α : Type} {l : List α} {i : Nat} {x : α} (h : l[i]? = some x) : x ∈ l := List.mem_of_getElem? h
def sp_exponent_round : Sp := fun vs H Q _ => ∃ n : Nat, vs = [N n] ∧ 1 ≤ n ∧ n ≤ 300 ∧ ∀ H', Same H H' → Q (N (Na01.exponent n)) H'
theorem ok_exponent_round (T : Txt K mg A) : FnOk P w K mg base CX0 4 A.c_exponent_round A.d_exponent_round ["n"] sp_exponent_round := by
  refine T.f_exponent_round.ok sc_exponent_round (fun vs H Q E h => ?_) (fun cdv Ar outer s H vs Q E hr h => ?_)
  · obtain ⟨n, rfl, _⟩ := h
    rfl
  · obtain ⟨n, rfl, h1, h3, q⟩ := h
    refine ⟨_, (pss_cons (ps_set (i := 1) sc_exponent_round.nd rfl (.inl rfl) pe_int)
      (pss_cons (ps_for PassesOwn.never rfl (pi_list (pe_call (ok_units_round T) (hr.mono (by decide)) (by rfl) T.m_units_round T.f_units_round.kp T.b_units_round .nil pass0 (pa_cons (pv 0) pa_nil))) (pg_name (i := 2) sc_exponent_round.nd rfl (.inl rfl))
      (pss_one (ps_set (i := 1) sc_exponent_round.nd rfl (.inl rfl) (pe_call (ok_common_multiple T) (hr.mono (by decide)) (by rfl) T.m_common_multiple T.f_common_multiple.kp T.b_common_multiple .nil pass0 (pa_cons (pv 1) (pa_cons (pe_call (ok_order_of T) (hr.mono (by decide)) (by rfl) T.m_order_of T.f_order_of.kp T.b_order_of .nil pass0 (pa_cons (pv 2) (pa_cons (pv 0) pa_nil))) pa_nil))))))
      (pss_one (ps_ret (pv 1))))), ?_⟩
    refine ⟨N n, rfl, n, rfl, h3, fun H1 p sm np ep => ?_⟩
    refine ⟨p, rfl, ⟨_, .inl (.inl ep)⟩, ?_⟩
    refine for_list (xs := (Na01.units n).map N) (fun i σ H' => ∃ y2, σ = [some (N n), some (N (((Na01.units n).take i).foldl (fun m a => Nat.lcm m (Na01.order n a)) 1)), y2] ∧ H' = H1) ⟨none, rfl, rfl⟩ (fun i σ H' _ hP => ?_) (fun i x σ H' hx hP => ?_) (fun σ H' hP => ?_)
    · obtain ⟨_, _, rfl⟩ := hP
      exact .inl (.inl ep)
    · obtain ⟨y2, rfl, rfl⟩ := hP
      obtain ⟨a, ea, rfl⟩ := LN_get hx
      obtain ⟨ha, hg⟩ := Mx.mem_units (mem_of_get ea)
      obtain ⟨o1, o2, _, _⟩ := Mx.order_ok h1 hg
      rw [foldl_more ea]
      generalize ((Na01.units n).take i).foldl (fun m a => Nat.lcm m (Na01.order n a)) 1 = m
      refine ⟨N m, rfl, N a, rfl, N n, rfl, a, n, rfl, h1, h3, hg, ?_⟩
      refine ⟨m, Na01.order n a, rfl, o1, by omega, ?_⟩
      exact ⟨_, rfl, rfl⟩
    · obtain ⟨y2, rfl, rfl⟩ := hP
      rw [List.length_map, List.take_length]
      exact ⟨_, rfl, q _ sm⟩
def sp_generators_round : Sp := fun vs H Q _ => ∃ n : Nat, vs = [N n] ∧ 1 ≤ n ∧ n ≤ 300 ∧ ∀ H' p, Same H H' → H p = none → H' p = some (LN (Na01.generators n)) → Q (.ref p) H'
theorem filter_more {α : Type} {p : α → Bool} {l : List α} {i : Nat} {x : α} (h : l[i]? = some x) : (l.take (i + 1)).filter p = if p x = true then (l.take i).filter p ++ [x] else (l.take i).filter p := by
  rw [take_more h, List.filter_append]
  cases e : p x <;> simp [e]
theorem filter_take_len {α : Type} (p : α → Bool) (l : List α) (i : Nat) : ((l.take i).filter p).length ≤ l.length :=
  Nat.le_trans (List.length_filter_le _ _) (by rw [List.length_take]; omega)
theorem ok_generators_round (T : Txt K mg A) : FnOk P w K mg base CX0 4 A.c_generators_round A.d_generators_round ["n"] sp_generators_round := by
  refine T.f_generators_round.ok sc_generators_round (fun vs H Q E h => ?_) (fun cdv Ar outer s H vs Q E hr h => ?_)
  · obtain ⟨n, rfl, _⟩ := h
    rfl
  · obtain ⟨n, rfl, h1, h3, q⟩ := h
    refine ⟨_, (pss_cons (ps_set (i := 1) sc_generators_round.nd rfl (.inr rfl) (pe_call (ok_units_round T) (hr.mono (by decide)) (by rfl) T.m_units_round T.f_units_round.kp T.b_units_round .nil pass0 (pa_cons (pv 0) pa_nil)))
      (pss_one (ps_ret (pe_lc (own := [("g", 2)]) rfl sc_generators_round.nd (pi_list (pv 1)) (blkOk_by (N := ["n", "units", "g"]) (sc := defScope s_generators_round) (by decide +kernel)) (fun _ _ _ _ _ => (pg_name (i := 2) sc_generators_round.nd rfl (.inl rfl))) (fun _ _ _ _ _ => (pts_one (pt_cmpR op_eq (pe_call (ok_order_of T) (hr.mono (by decide)) (by rfl) T.m_order_of T.f_order_of.kp T.b_order_of .nil pass0 (pa_cons (pv 2) (pa_cons (pv 0) pa_nil))) (pe_callB (call_lenK (K := K) rfl) (by rfl) T.z_len PySem.boot_len (pa_cons (pv 1) pa_nil)) (nomark _)))) (fun _ _ _ _ _ => (pv 2)))))), ?_⟩
    refine ⟨N n, rfl, n, rfl, h3, fun H1 p sm np ep => ?_⟩
    refine ⟨.ref p, rfl, p, rfl, ⟨_, .inl (.inl ep)⟩, fun D hD => ?_⟩
    have pD : p ≠ D := ne_of_none ep hD
    refine lc_list (xs := (Na01.units n).map N) (fun i H' => Same H1 H' ∧ H' D = some (LN (((Na01.units n).take i).filter fun a => Na01.order n a == (Na01.units n).length))) ⟨same_upd hD, upd_same⟩ (fun i H' _ hP => .inl (.inl (hP.1 _ _ ep))) (fun i x H' hx hP => ?_) (fun H' hP => ?_)
    · obtain ⟨s1, eD⟩ := hP
      obtain ⟨a, ea, rfl⟩ := LN_get hx
      obtain ⟨ha, hg⟩ := Mx.mem_units (mem_of_get ea)
      refine ⟨rfl, N a, rfl, N n, rfl, a, n, rfl, h1, h3, hg, ?_⟩
      refine ⟨.ref p, rfl, p, _, rfl, .inl (.inl (.inl (s1 _ _ ep))), rfl, _, rfl, ?_⟩
      have ef := filter_more (p := fun a => Na01.order n a == (Na01.units n).length) ea
      have eN : V.int ((((Na01.units n).map N).length : Nat) : Int) = N (Na01.units n).length := by rw [List.length_map]
      rw [eN, dec_N]
      refine ite2 (fun c => ?_) (fun c => ?_)
      · have c1 : Na01.order n a = (Na01.units n).length := of_decide_eq_true c
        rw [if_pos (by simpa using c1)] at ef
        refine ⟨N a, rfl, _, eD, ?_, same_trans_upd s1 hD eD, ?_⟩
        · rw [List.length_map]
          exact line (Nat.le_trans (filter_take_len _ _ i) (Nat.le_trans (Mx.units_length n) (by omega)))
        · rw [upd_same, ef, LN_snoc]
      · have c1 : ¬ Na01.order n a = (Na01.units n).length := fun z => c (decide_eq_true z)
        rw [if_neg (by simpa using c1)] at ef
        rw [ef]
        exact ⟨s1, eD⟩
    · obtain ⟨s1, eD⟩ := hP
      rw [List.length_map, List.take_length] at eD
      exact q H' D (sm.trans s1) (sm.free hD) eD
/-- the answer of log, where the units are units -/
def logA (n g a : Nat) : Int := match Na01.log n g a with
  | none => -3
  | some k => (k : Int)
def sp_log_of : Sp := fun vs H Q _ => ∃ g a n : Nat, vs = [N g, N a, N n] ∧ 1 ≤ n ∧ n ≤ 300 ∧ Nat.gcd g n = 1 ∧ Q (.int (logA n g a)) H
theorem ok_log_of (T : Txt K mg A) : FnOk P w K mg base CX0 2 A.c_log_of A.d_log_of ["g", "a", "n"] sp_log_of := by
  refine T.f_log_of.ok sc_log_of (fun vs H Q E h => ?_) (fun cdv Ar outer s H vs Q E hr h => ?_)
  · obtain ⟨g, a, n, rfl, _⟩ := h
    rfl
  · obtain ⟨g, a, n, rfl, h1, h3, hg, q⟩ := h
    refine ⟨_, (pss_cons (ps_set (i := 3) sc_log_of.nd rfl (.inl rfl) (pe_op op_mod (pv 1) (pv 2)))
      (pss_cons (ps_set (i := 4) sc_log_of.nd rfl (.inl rfl) (pe_call (ok_one_round T) (hr.mono (by decide)) (by rfl) T.m_one_round T.f_one_round.kp T.b_one_round .nil pass0 (pa_cons (pv 2) pa_nil)))
      (pss_cons (ps_for PassesOwn.never rfl (pi_range1 (by rfl) T.z_range (pa_cons (pv 2) pa_nil)) (pg_name (i := 5) sc_log_of.nd rfl (.inl rfl))
      (pss_cons (ps_if (pt_cmpR op_eq (pv 4) (pv 3) (nomark _))
      (pss_one (ps_ret (pv 5)))
      pss_nil)
      (pss_one (ps_set (i := 4) sc_log_of.nd rfl (.inl rfl) (pe_op op_mod (pe_op op_mul (pv 4) (pv 0)) (pv 2))))))
      (pss_one (ps_ret (pe_glob (v := .int (-3)) (by rfl) T.g_NO_SUCH_NUMBER ⟨_, rfl⟩)))))), ?_⟩
    have np : (0 : Int) < (n : Int) := by omega
    refine ⟨N a, rfl, N n, rfl, (a : Int), (n : Int), rfl, rfl, np, ?_⟩
    refine ⟨N n, rfl, n, rfl, h1, ?_⟩
    refine ⟨N n, rfl, (n : Int), rfl, by omega, by omega, ?_⟩
    refine for_range (n := n) (fun i σ H' => ∃ y, σ = [some (N g), some (N a), some (N n), some (N (a % n)), some (N (g ^ i % n)), y] ∧ H' = H ∧ ∀ j, j < i → g ^ j % n ≠ a % n) ⟨none, ?_, rfl, fun j hj => by omega⟩ (fun i σ H' hi hP => ?_) (fun σ H' hP => ?_)
    · rw [Nat.pow_zero]
      rfl
    · obtain ⟨y, rfl, rfl, hn⟩ := hP
      have e0 : V.int (0 + (i : Int)) = N i := by rw [Int.zero_add]
      rw [e0]
      refine ⟨N (g ^ i % n), rfl, N (a % n), rfl, rfl, _, rfl, ite2 (fun c => ?_) (fun c => ?_)⟩
      · have c1 : g ^ i % n = a % n := N_inj (of_decide_eq_true c)
        have e : logA n g a = (i : Int) := by
          unfold logA
          rw [Mx.log_some h1 hg c1 hn]
        rw [e] at q
        exact ⟨_, rfl, q⟩
      · have c1 : g ^ i % n ≠ a % n := fun z => c (decide_eq_true (by rw [z]))
        have hlt : g ^ i % n < n := Nat.mod_lt _ h1
        refine ⟨N (g ^ i % n), rfl, N g, rfl, ((g ^ i % n : Nat) : Int), (g : Int), rfl, rfl, small_mul (by omega), N n, rfl, _, (n : Int), rfl, rfl, np, ?_⟩
        refine ⟨some (N i), ?_, rfl, fun j hj => ?_⟩
        · rw [← Mx.pow_next]
          rfl
        · by_cases z : j = i
          · rw [z]
            exact c1
          · exact hn j (by omega)
    · obtain ⟨y, rfl, rfl, hn⟩ := hP
      have e : logA n g a = -3 := by
        unfold logA
        rw [Mx.log_none h1 hg hn]
      rw [e] at q
      exact q
def sp_may_be_n : Sp := fun vs H Q _ => ∃ n : Nat, vs = [N n] ∧ Q (.bl (decide (1 ≤ n ∧ n ≤ 300))) H
theorem ok_may_be_n (T : Txt K mg A) : FnOk P w K mg base CX0 1 A.c_may_be_n A.d_may_be_n ["n"] sp_may_be_n := by
  refine T.f_may_be_n.ok sc_may_be_n (fun vs H Q E h => ?_) (fun cdv Ar outer s H vs Q E hr h => ?_)
  · obtain ⟨n, rfl, _⟩ := h
    rfl
  · obtain ⟨n, rfl, q⟩ := h
    refine ⟨_, (pss_one (ps_ret (pe_and (pe_cmpR op_le (pe_glob (v := .int (1)) (by rfl) T.g_LEAST_N ⟨_, rfl⟩) (pv 0) (nomark _)) (pe_one (pe_cmpR op_le (pv 0) (pe_glob (v := .int (300)) (by rfl) T.g_MOST_N ⟨_, rfl⟩) (nomark _)))))), ?_⟩
    refine ⟨N n, rfl, 1, (n : Int), rfl, rfl, _, rfl, ite2 (fun c => ?_) (fun c => ?_)⟩
    · have c1 : 1 ≤ n := by
        have := of_decide_eq_true c
        omega
      refine ⟨N n, rfl, (n : Int), 300, rfl, rfl, ?_⟩
      have e : decide (1 ≤ n ∧ n ≤ 300) = decide ((n : Int) ≤ 300) := by
        by_cases h : n ≤ 300
        · rw [decide_eq_true (show 1 ≤ n ∧ n ≤ 300 from ⟨c1, h⟩), decide_eq_true (show (n : Int) ≤ 300 by omega)]
        · rw [decide_eq_false (show ¬ (1 ≤ n ∧ n ≤ 300) from fun z => h z.2), decide_eq_false (show ¬ (n : Int) ≤ 300 by omega)]
      rw [e] at q
      exact q
    · have c1 : ¬ 1 ≤ n := fun z => c (decide_eq_true (by omega))
      rw [decide_eq_false (fun z => c1 z.1)] at q
      exact q
/-- a list of whole numbers that a def gives back, new -/
abbrev Gives (H : Hp) (Q : VK) (l : List Int) : Prop := ∀ H' p, Same H H' → H p = none → H' p = some (.lst (l.map V.int)) → Q (.ref p) H'
theorem LN_ints (l : List Nat) : LN l = .lst ((Na01.ints l).map V.int) := by
  unfold LN Na01.ints
  rw [List.map_map]
  rfl
def sp_answer_round : Sp := fun vs H Q _ => ∃ n : Nat, vs = [N n] ∧ Gives H Q (if n = 0 ∨ 300 < n then [-1] else Na01.ints [(Na01.units n).length])
theorem ok_answer_round (T : Txt K mg A) : FnOk P w K mg base CX0 4 A.c_answer_round A.d_answer_round ["n"] sp_answer_round := by
  refine T.f_answer_round.ok sc_answer_round (fun vs H Q E h => ?_) (fun cdv Ar outer s H vs Q E hr h => ?_)
  · obtain ⟨n, rfl, _⟩ := h
    rfl
  · obtain ⟨n, rfl, q⟩ := h
    refine ⟨_, (pss_cons (ps_if (pt_not (pt_val (pe_call (ok_may_be_n T) (hr.mono (by decide)) (by rfl) T.m_may_be_n T.f_may_be_n.kp T.b_may_be_n .nil pass0 (pa_cons (pv 0) pa_nil))))
      (pss_one (ps_ret (pe_lst (pa_cons (pe_glob (v := .int (-1)) (by rfl) T.g_NOT_ALLOWED ⟨_, rfl⟩) pa_nil))))
      pss_nil)
      (pss_one (ps_ret (pe_lst (pa_cons (pe_callB (call_lenK (K := K) rfl) (by rfl) T.z_len PySem.boot_len (pa_cons (pe_call (ok_units_round T) (hr.mono (by decide)) (by rfl) T.m_units_round T.f_units_round.kp T.b_units_round .nil pass0 (pa_cons (pv 0) pa_nil)) pa_nil)) pa_nil))))), ?_⟩
    refine ⟨N n, rfl, n, rfl, _, rfl, ite2 (fun c => ?_) (fun c => ?_)⟩
    · have c1 : n = 0 ∨ 300 < n := by
        apply Decidable.byContradiction
        intro z
        rw [decide_eq_true (show 1 ≤ n ∧ n ≤ 300 by omega)] at c
        exact absurd c (by decide)
      rw [if_pos c1] at q
      exact ⟨by decide, fun p hp => q _ p (same_upd hp) hp upd_same⟩
    · have c1 : ¬ (n = 0 ∨ 300 < n) := fun z => c (by rw [decide_eq_false (show ¬ (1 ≤ n ∧ n ≤ 300) by omega)]; rfl)
      rw [if_neg c1] at q
      refine ⟨N n, rfl, n, rfl, by omega, fun H1 p sm np ep => ?_⟩
      refine ⟨p, _, rfl, .inl (.inl (.inl ep)), (by show 1 ≤ sizeLine; decide), fun p2 hp2 => q _ p2 (sm.trans (same_upd hp2)) (sm.free hp2) ?_⟩
      rw [upd_same, List.length_map]
      rfl
def sp_answer_order : Sp := fun vs H Q _ => ∃ a n : Nat, vs = [N a, N n] ∧ 1 ≤ n ∧ n ≤ 300 ∧ Gives H Q (if Nat.gcd a n = 1 then Na01.ints [Na01.order n a] else [-6])
theorem ok_answer_order (T : Txt K mg A) : FnOk P w K mg base CX0 3 A.c_answer_order A.d_answer_order ["a", "n"] sp_answer_order := by
  refine T.f_answer_order.ok sc_answer_order (fun vs H Q E h => ?_) (fun cdv Ar outer s H vs Q E hr h => ?_)
  · obtain ⟨a, n, rfl, _⟩ := h
    rfl
  · obtain ⟨a, n, rfl, h1, h3, q⟩ := h
    refine ⟨_, (pss_cons (ps_if (pt_not (pt_val (pe_call (ok_is_unit T) (hr.mono (by decide)) (by rfl) T.m_is_unit T.f_is_unit.kp T.b_is_unit .nil pass0 (pa_cons (pv 0) (pa_cons (pv 1) pa_nil)))))
      (pss_one (ps_ret (pe_lst (pa_cons (pe_glob (v := .int (-6)) (by rfl) T.g_NOT_A_UNIT ⟨_, rfl⟩) pa_nil))))
      pss_nil)
      (pss_one (ps_ret (pe_lst (pa_cons (pe_call (ok_order_of T) (hr.mono (by decide)) (by rfl) T.m_order_of T.f_order_of.kp T.b_order_of .nil pass0 (pa_cons (pv 0) (pa_cons (pv 1) pa_nil))) pa_nil))))), ?_⟩
    refine ⟨N a, rfl, N n, rfl, a, n, rfl, _, rfl, ite2 (fun c => ?_) (fun c => ?_)⟩
    · have c1 : ¬ Nat.gcd a n = 1 := fun z => by
        rw [decide_eq_true z] at c
        exact absurd c (by decide)
      rw [if_neg c1] at q
      exact ⟨by decide, fun p hp => q _ p (same_upd hp) hp upd_same⟩
    · have c1 : Nat.gcd a n = 1 := by
        apply Decidable.byContradiction
        intro z
        exact c (by rw [decide_eq_false z]; rfl)
      rw [if_pos c1] at q
      refine ⟨N a, rfl, N n, rfl, a, n, rfl, h1, h3, c1, ?_⟩
      exact ⟨(by show 1 ≤ sizeLine; decide), fun p hp => q _ p (same_upd hp) hp upd_same⟩
def sp_answer_log : Sp := fun vs H Q _ => ∃ g a n : Nat, vs = [N g, N a, N n] ∧ 1 ≤ n ∧ n ≤ 300 ∧ Gives H Q (if Nat.gcd g n = 1 ∧ Nat.gcd a n = 1 then [logA n g a] else [-6])
theorem ok_answer_log (T : Txt K mg A) : FnOk P w K mg base CX0 3 A.c_answer_log A.d_answer_log ["g", "a", "n"] sp_answer_log := by
  refine T.f_answer_log.ok sc_answer_log (fun vs H Q E h => ?_) (fun cdv Ar outer s H vs Q E hr h => ?_)
  · obtain ⟨g, a, n, rfl, _⟩ := h
    rfl
  · obtain ⟨g, a, n, rfl, h1, h3, q⟩ := h
    refine ⟨_, (pss_cons (ps_if (PW.pt (pw_or (pt_not (pt_val (pe_call (ok_is_unit T) (hr.mono (by decide)) (by rfl) T.m_is_unit T.f_is_unit.kp T.b_is_unit .nil pass0 (pa_cons (pv 0) (pa_cons (pv 2) pa_nil))))) (pw_or1 (pt_not (pt_val (pe_call (ok_is_unit T) (hr.mono (by decide)) (by rfl) T.m_is_unit T.f_is_unit.kp T.b_is_unit .nil pass0 (pa_cons (pv 1) (pa_cons (pv 2) pa_nil))))))))
      (pss_one (ps_ret (pe_lst (pa_cons (pe_glob (v := .int (-6)) (by rfl) T.g_NOT_A_UNIT ⟨_, rfl⟩) pa_nil))))
      pss_nil)
      (pss_one (ps_ret (pe_lst (pa_cons (pe_call (ok_log_of T) (hr.mono (by decide)) (by rfl) T.m_log_of T.f_log_of.kp T.b_log_of .nil pass0 (pa_cons (pv 0) (pa_cons (pv 1) (pa_cons (pv 2) pa_nil)))) pa_nil))))), ?_⟩
    refine ⟨N g, rfl, N n, rfl, g, n, rfl, _, rfl, ?_⟩
    by_cases cg : Nat.gcd g n = 1
    · rw [decide_eq_true cg]
      refine iteF ⟨N a, rfl, N n, rfl, a, n, rfl, _, rfl, ?_⟩
      by_cases ca : Nat.gcd a n = 1
      · rw [decide_eq_true ca]
        rw [if_pos ⟨cg, ca⟩] at q
        refine iteF ⟨N g, rfl, N a, rfl, N n, rfl, g, a, n, rfl, h1, h3, cg, ?_⟩
        exact ⟨(by show 1 ≤ sizeLine; decide), fun p hp => q _ p (same_upd hp) hp upd_same⟩
      · rw [decide_eq_false ca]
        rw [if_neg (fun z => ca z.2)] at q
        exact iteT ⟨(by show 1 ≤ sizeLine; decide), fun p hp => q _ p (same_upd hp) hp upd_same⟩
    · rw [decide_eq_false cg]
      rw [if_neg (fun z => cg z.1)] at q
      exact iteT (iteT ⟨(by show 1 ≤ sizeLine; decide), fun p hp => q _ p (same_upd hp) hp upd_same⟩)
def sp_counted : Sp := fun vs H Q _ => ∃ (p : Addr) (l : List Nat), vs = [.ref p] ∧ H p = some (LN l) ∧ l.length ≤ 1000 ∧ Gives H Q (Na01.told l)
theorem ok_counted (T : Txt K mg A) : FnOk P w K mg base CX0 1 A.c_counted A.d_counted ["row"] sp_counted := by
  refine T.f_counted.ok sc_counted (fun vs H Q E h => ?_) (fun cdv Ar outer s H vs Q E hr h => ?_)
  · obtain ⟨p, l, rfl, _⟩ := h
    rfl
  · obtain ⟨p, l, rfl, ep, hl, q⟩ := h
    refine ⟨_, (pss_one (ps_ret (pe_op op_cat (pe_lst (pa_cons (pe_callB (call_lenK (K := K) rfl) (by rfl) T.z_len PySem.boot_len (pa_cons (pv 0) pa_nil)) pa_nil)) (pv 0)))), ?_⟩
    refine ⟨.ref p, rfl, p, _, rfl, .inl (.inl (.inl ep)), (by show 1 ≤ sizeLine; decide), fun p1 hp1 => ?_⟩
    have sm1 : Same H (upd H p1 (.lst [.int (((l.map N).length : Nat) : Int)])) := same_upd hp1
    refine ⟨.ref p, rfl, p1, p, _, _, rfl, rfl, upd_same, sm1 _ _ ep, ?_, fun p2 hp2 => q _ p2 (sm1.trans (same_upd hp2)) (sm1.free hp2) ?_⟩
    · rw [List.length_map]
      exact lineE (by show 1 + l.length ≤ 1000000; omega)
    · rw [upd_same, List.length_map]
      show some (HO.lst (N l.length :: l.map N)) = _
      have e : HO.lst (N l.length :: l.map N) = LN (l.length :: l) := rfl
      rw [e, LN_ints]
      rfl
end Rp


set_option Elab.async false
set_option linter.all false
set_option maxRecDepth 100000
set_option maxHeartbeats 4000000
namespace Rp
open PySem PySem.Spec PyProof.Rows L2
variable {P : Program} {w : World} {K : PySem.W.Frag} {mg : Str → Option Value} {base : Heap} {A : Ad}
def sp_roots_round : Sp := fun vs H Q _ => ∃ k a n : Nat, vs = [N k, N a, N n] ∧ 1 ≤ n ∧ n ≤ 300 ∧ ∀ H' p, Same H H' → H p = none → H' p = some (LN (Na01.roots n k a)) → Q (.ref p) H'
theorem ok_roots_round (T : Txt K mg A) : FnOk P w K mg base CX0 3 A.c_roots_round A.d_roots_round ["k", "a", "n"] sp_roots_round := by
  refine T.f_roots_round.ok sc_roots_round (fun vs H Q E h => ?_) (fun cdv Ar outer s H vs Q E hr h => ?_)
  · obtain ⟨k, a, n, rfl, _⟩ := h
    rfl
  · obtain ⟨k, a, n, rfl, h1, h3, q⟩ := h
    refine ⟨_, (pss_cons (ps_set (i := 3) sc_roots_round.nd rfl (.inr rfl) (pe_op op_mod (pv 1) (pv 2)))
      (pss_one (ps_ret (pe_lc (own := [("b", 4)]) rfl sc_roots_round.nd (pi_range1 (by rfl) T.z_range (pa_cons (pv 2) pa_nil)) (blkOk_by (N := ["k", "a", "n", "wanted", "b"]) (sc := defScope s_roots_round) (by decide +kernel)) (fun _ _ _ _ _ => (pg_name (i := 4) sc_roots_round.nd rfl (.inl rfl))) (fun _ _ _ _ _ => (pts_one (pt_cmpR op_eq (pe_call (ok_power T) (hr.mono (by decide)) (by rfl) T.m_power T.f_power.kp T.b_power .nil pass0 (pa_cons (pv 4) (pa_cons (pv 0) (pa_cons (pv 2) pa_nil)))) (pv 3) (nomark _)))) (fun _ _ _ _ _ => (pv 4)))))), ?_⟩
    have np : (0 : Int) < (n : Int) := by omega
    refine ⟨N a, rfl, N n, rfl, (a : Int), (n : Int), rfl, rfl, np, ?_⟩
    refine ⟨N n, rfl, (n : Int), rfl, by omega, by omega, fun D hD => ?_⟩
    have er : Na01.roots n k a = (List.range n).filter fun b => b ^ k % n == a % n := by
      unfold Na01.roots
      apply List.filter_congr
      intro b _
      rw [Mx.pow_eq]
    rw [er] at q
    refine lc_range (n := n) (fun i H' => Same H H' ∧ H' D = some (LN ((List.range i).filter fun b => b ^ k % n == a % n))) ⟨same_upd hD, upd_same⟩ (fun i H' hi hP => ?_) (fun H' hP => q H' D hP.1 hD hP.2)
    obtain ⟨sm, eD⟩ := hP
    have e0 : V.int (0 + (i : Int)) = N i := by rw [Int.zero_add]
    rw [e0]
    refine ⟨rfl, N i, rfl, N k, rfl, N n, rfl, i, k, n, rfl, h1, h3, ?_⟩
    refine ⟨N (a % n), rfl, rfl, _, rfl, ?_⟩
    have ef := filter_range_succ (fun b => b ^ k % n == a % n) i
    refine ite2 (fun c => ?_) (fun c => ?_)
    · have c1 : i ^ k % n = a % n := N_inj (of_decide_eq_true c)
      rw [if_pos (beq_iff_eq.mpr c1)] at ef
      refine ⟨N i, rfl, _, eD, ?_, same_trans_upd sm hD eD, ?_⟩
      · rw [List.length_map]
        exact line (Nat.le_trans (filter_range_len _ i) (by omega))
      · rw [upd_same, ef, LN_snoc]
    · have c1 : ¬ i ^ k % n = a % n := fun z => c (decide_eq_true (by rw [z]))
      rw [if_neg (fun z => c1 (beq_iff_eq.mp z))] at ef
      rw [ef]
      exact ⟨sm, eD⟩
def sp_product_round : Sp := fun vs H Q _ => ∃ n : Nat, vs = [N n] ∧ 1 ≤ n ∧ n ≤ 300 ∧ ∀ H', Same H H' → Q (N ((Na01.units n).foldl (fun m a => m * a % n) (1 % n))) H'
theorem ok_product_round (T : Txt K mg A) : FnOk P w K mg base CX0 4 A.c_product_round A.d_product_round ["n"] sp_product_round := by
  refine T.f_product_round.ok sc_product_round (fun vs H Q E h => ?_) (fun cdv Ar outer s H vs Q E hr h => ?_)
  · obtain ⟨n, rfl, _⟩ := h
    rfl
  · obtain ⟨n, rfl, h1, h3, q⟩ := h
    refine ⟨_, (pss_cons (ps_set (i := 1) sc_product_round.nd rfl (.inl rfl) (pe_call (ok_one_round T) (hr.mono (by decide)) (by rfl) T.m_one_round T.f_one_round.kp T.b_one_round .nil pass0 (pa_cons (pv 0) pa_nil)))
      (pss_cons (ps_for PassesOwn.never rfl (pi_list (pe_call (ok_units_round T) (hr.mono (by decide)) (by rfl) T.m_units_round T.f_units_round.kp T.b_units_round .nil pass0 (pa_cons (pv 0) pa_nil))) (pg_name (i := 2) sc_product_round.nd rfl (.inl rfl))
      (pss_one (ps_set (i := 1) sc_product_round.nd rfl (.inl rfl) (pe_op op_mod (pe_op op_mul (pv 1) (pv 2)) (pv 0)))))
      (pss_one (ps_ret (pv 1))))), ?_⟩
    have np : (0 : Int) < (n : Int) := by omega
    refine ⟨N n, rfl, n, rfl, h1, ?_⟩
    refine ⟨N n, rfl, n, rfl, h3, fun H1 p sm np1 ep => ?_⟩
    refine ⟨p, rfl, ⟨_, .inl (.inl ep)⟩, ?_⟩
    refine for_list (xs := (Na01.units n).map N) (fun i σ H' => ∃ y2, σ = [some (N n), some (N (((Na01.units n).take i).foldl (fun m a => m * a % n) (1 % n))), y2] ∧ H' = H1) ⟨none, rfl, rfl⟩ (fun i σ H' _ hP => ?_) (fun i x σ H' hx hP => ?_) (fun σ H' hP => ?_)
    · obtain ⟨_, _, rfl⟩ := hP
      exact .inl (.inl ep)
    · obtain ⟨y2, rfl, rfl⟩ := hP
      obtain ⟨a, ea, rfl⟩ := LN_get hx
      obtain ⟨ha, hg⟩ := Mx.mem_units (mem_of_get ea)
      rw [foldl_more ea]
      generalize ((Na01.units n).take i).foldl (fun m a => m * a % n) (1 % n) = m
      refine ⟨N m, rfl, N a, rfl, (m : Int), (a : Int), rfl, rfl, small_mulR (by omega), N n, rfl, (m : Int) * (a : Int), (n : Int), rfl, rfl, np, ?_⟩
      exact ⟨_, rfl, rfl⟩
    · obtain ⟨y2, rfl, rfl⟩ := hP
      rw [List.length_map, List.take_length]
      exact ⟨_, rfl, q _ sm⟩
def invOf (n a : Nat) : Nat := ((List.range n).find? fun b => a % n * b % n == 1 % n).getD 0
def sp_inverse_of : Sp := fun vs H Q _ => ∃ a n : Nat, vs = [N a, N n] ∧ 1 ≤ n ∧ n ≤ 300 ∧ Nat.gcd a n = 1 ∧ Q (N (invOf n a)) H
theorem ok_inverse_of (T : Txt K mg A) : FnOk P w K mg base CX0 2 A.c_inverse_of A.d_inverse_of ["a", "n"] sp_inverse_of := by
  refine T.f_inverse_of.ok sc_inverse_of (fun vs H Q E h => ?_) (fun cdv Ar outer s H vs Q E hr h => ?_)
  · obtain ⟨a, n, rfl, _⟩ := h
    rfl
  · obtain ⟨a, n, rfl, h1, h3, hg, q⟩ := h
    refine ⟨_, (pss_cons (ps_set (i := 2) sc_inverse_of.nd rfl (.inl rfl) (pe_call (ok_one_round T) (hr.mono (by decide)) (by rfl) T.m_one_round T.f_one_round.kp T.b_one_round .nil pass0 (pa_cons (pv 1) pa_nil)))
      (pss_cons (ps_set (i := 3) sc_inverse_of.nd rfl (.inl rfl) pe_int)
      (pss_cons (ps_while PassesOwn.never (pt_cmpR op_ne (pe_op op_mod (pe_op op_mul (pv 0) (pv 3)) (pv 1)) (pv 2) (nomark _))
      (pss_one (ps_aug (i := 3) sc_inverse_of.nd rfl (.inl rfl) pe_int ip_add)))
      (pss_one (ps_ret (pv 3)))))), ?_⟩
    have np : (0 : Int) < (n : Int) := by omega
    obtain ⟨v, hv, ev⟩ := Mx.has_inverse h1 hg
    have evi : invOf n a = v := Mx.inverse_eq hg hv ev
    rw [evi] at q
    refine ⟨N n, rfl, n, rfl, h1, ?_⟩
    refine ⟨fun m σ H' => ∃ b, σ = [some (N a), some (N n), some (N (1 % n)), some (N b)] ∧ H' = H ∧ b + m = v, ⟨v, 0, rfl, rfl, by omega⟩, fun m σ H' hW => ?_⟩
    obtain ⟨b, rfl, rfl, hm⟩ := hW
    refine ⟨N a, rfl, N b, rfl, (a : Int), (b : Int), rfl, rfl, small_mulR (by omega), N n, rfl, (a : Int) * (b : Int), (n : Int), rfl, rfl, np, N (1 % n), rfl, rfl, _, rfl, ite2 (fun c => ?_) (fun c => ?_)⟩
    · have c1 : a * b % n ≠ 1 % n := fun z => by
        have z2 : V.int ((a : Int) * (b : Int) % (n : Int)) = N (1 % n) := by
          rw [← z]
          rfl
        have c : (!decide (V.int ((a : Int) * (b : Int) % (n : Int)) = N (1 % n))) = true := c
        rw [z2] at c
        simp at c
      have hb : b ≠ v := fun z => c1 (by rw [z]; exact ev)
      refine ⟨_, fun _ _ h => h, ?_⟩
      refine ⟨N b, rfl, (b : Int), 1, rfl, rfl, ?_⟩
      exact ⟨m - 1, by omega, b + 1, rfl, rfl, by omega⟩
    · have c1 : a * b % n = 1 % n := by
        apply Decidable.byContradiction
        intro z
        apply c
        have z2 : ¬ V.int ((a : Int) * (b : Int) % (n : Int)) = N (1 % n) := fun y => z (N_inj (a := a * b % n) y)
        show (!decide (V.int ((a : Int) * (b : Int) % (n : Int)) = N (1 % n))) = true
        rw [decide_eq_false z2]
        rfl
      have e := Mx.cancel_mul hg (c1.trans ev.symm)
      rw [Nat.mod_eq_of_lt hv, Nat.mod_eq_of_lt (by omega)] at e
      subst e
      exact ⟨_, rfl, q⟩
/-- the answer of least_leaving -/
def leastA (x step a m : Nat) : Int := match Mx.hits x step a m with
  | none => -3
  | some c => ((x + c * step : Nat) : Int)
def sp_least_leaving : Sp := fun vs H Q _ => ∃ x step a m : Nat, vs = [N x, N step, N a, N m] ∧ 1 ≤ m ∧ m ≤ 30 ∧ Q (.int (leastA x step a m)) H
theorem ok_least_leaving (T : Txt K mg A) : FnOk P w K mg base CX0 1 A.c_least_leaving A.d_least_leaving ["found", "step", "a", "m"] sp_least_leaving := by
  refine T.f_least_leaving.ok sc_least_leaving (fun vs H Q E h => ?_) (fun cdv Ar outer s H vs Q E hr h => ?_)
  · obtain ⟨x, step, a, m, rfl, _⟩ := h
    rfl
  · obtain ⟨x, step, a, m, rfl, h1, h3, q⟩ := h
    refine ⟨_, (pss_cons (ps_set (i := 4) sc_least_leaving.nd rfl (.inl rfl) (pe_op op_mod (pv 2) (pv 3)))
      (pss_cons (ps_for PassesOwn.never rfl (pi_range1 (by rfl) T.z_range (pa_cons (pv 3) pa_nil)) (pg_name (i := 5) sc_least_leaving.nd rfl (.inl rfl))
      (pss_cons (ps_set (i := 6) sc_least_leaving.nd rfl (.inl rfl) (pe_op op_add (pv 0) (pe_op op_mul (pv 5) (pv 1))))
      (pss_one (ps_if (pt_cmpR op_eq (pe_op op_mod (pv 6) (pv 3)) (pv 4) (nomark _))
      (pss_one (ps_ret (pv 6)))
      pss_nil))))
      (pss_one (ps_ret (pe_glob (v := .int (-3)) (by rfl) T.g_NO_SUCH_NUMBER ⟨_, rfl⟩))))), ?_⟩
    have np : (0 : Int) < (m : Int) := by omega
    refine ⟨N a, rfl, N m, rfl, (a : Int), (m : Int), rfl, rfl, np, ?_⟩
    refine ⟨N m, rfl, (m : Int), rfl, by omega, by omega, ?_⟩
    refine for_range (n := m) (fun i σ H' => ∃ y z, σ = [some (N x), some (N step), some (N a), some (N m), some (N (a % m)), y, z] ∧ H' = H ∧ ∀ j, j < i → (x + j * step) % m ≠ a % m) ⟨none, none, rfl, rfl, fun j hj => by omega⟩ (fun i σ H' hi hP => ?_) (fun σ H' hP => ?_)
    · obtain ⟨y, z, rfl, rfl, hn⟩ := hP
      have e0 : V.int (0 + (i : Int)) = N i := by rw [Int.zero_add]
      rw [e0]
      refine ⟨N x, rfl, N i, rfl, N step, rfl, (i : Int), (step : Int), rfl, rfl, small_mul (by omega), (x : Int), (i : Int) * (step : Int), rfl, rfl, ?_⟩
      refine ⟨N (x + i * step), rfl, N m, rfl, ((x + i * step : Nat) : Int), (m : Int), rfl, rfl, np, N (a % m), rfl, rfl, _, rfl, ite2 (fun c => ?_) (fun c => ?_)⟩
      · have c1 : (x + i * step) % m = a % m := N_inj (of_decide_eq_true c)
        have e : leastA x step a m = ((x + i * step : Nat) : Int) := by
          unfold leastA
          rw [Mx.hits_of hi c1 hn]
        rw [e] at q
        exact ⟨_, rfl, q⟩
      · have c1 : (x + i * step) % m ≠ a % m := fun z => c (decide_eq_true (congrArg N z))
        refine ⟨some (N i), some (N (x + i * step)), rfl, rfl, fun j hj => ?_⟩
        by_cases z : j = i
        · rw [z]
          exact c1
        · exact hn j (by omega)
    · obtain ⟨y, z, rfl, rfl, hn⟩ := hP
      have e : leastA x step a m = -3 := by
        unfold leastA
        rw [Mx.hits_no hn]
      rw [e] at q
      exact q
def sp_answer_roots : Sp := fun vs H Q _ => ∃ k a n : Nat, vs = [N k, N a, N n] ∧ 1 ≤ n ∧ n ≤ 300 ∧ Gives H Q (if k = 0 then [-1] else Na01.told (Na01.roots n k a))
theorem ok_answer_roots (T : Txt K mg A) : FnOk P w K mg base CX0 4 A.c_answer_roots A.d_answer_roots ["k", "a", "n"] sp_answer_roots := by
  refine T.f_answer_roots.ok sc_answer_roots (fun vs H Q E h => ?_) (fun cdv Ar outer s H vs Q E hr h => ?_)
  · obtain ⟨k, a, n, rfl, _⟩ := h
    rfl
  · obtain ⟨k, a, n, rfl, h1, h3, q⟩ := h
    refine ⟨_, (pss_cons (ps_if (pt_cmpR op_eq (pv 0) pe_int (nomark _))
      (pss_one (ps_ret (pe_lst (pa_cons (pe_glob (v := .int (-1)) (by rfl) T.g_NOT_ALLOWED ⟨_, rfl⟩) pa_nil))))
      pss_nil)
      (pss_one (ps_ret (pe_call (ok_counted T) (hr.mono (by decide)) (by rfl) T.m_counted T.f_counted.kp T.b_counted .nil pass0 (pa_cons (pe_call (ok_roots_round T) (hr.mono (by decide)) (by rfl) T.m_roots_round T.f_roots_round.kp T.b_roots_round .nil pass0 (pa_cons (pv 0) (pa_cons (pv 1) (pa_cons (pv 2) pa_nil)))) pa_nil))))), ?_⟩
    refine ⟨N k, rfl, rfl, _, rfl, ite2 (fun c => ?_) (fun c => ?_)⟩
    · have c1 : k = 0 := N_inj (b := 0) (of_decide_eq_true c)
      rw [if_pos c1] at q
      exact ⟨(by show 1 ≤ sizeLine; decide), fun p hp => q _ p (same_upd hp) hp upd_same⟩
    · have c1 : ¬ k = 0 := fun z => c (decide_eq_true (congrArg N z))
      rw [if_neg c1] at q
      refine ⟨N k, rfl, N a, rfl, N n, rfl, k, a, n, rfl, h1, h3, fun H1 p sm np ep => ?_⟩
      refine ⟨p, _, rfl, ep, ?_, fun H' p' sm' np' ep' => q H' p' (sm.trans sm') (sm.free np') ep'⟩
      exact Nat.le_trans (List.length_filter_le _ _) (by rw [List.length_range]; omega)
def sp_answer_inverse : Sp := fun vs H Q _ => ∃ a n : Nat, vs = [N a, N n] ∧ 1 ≤ n ∧ n ≤ 300 ∧ Gives H Q (if Nat.gcd a n = 1 then Na01.ints [invOf n a] else [-6])
theorem ok_answer_inverse (T : Txt K mg A) : FnOk P w K mg base CX0 3 A.c_answer_inverse A.d_answer_inverse ["a", "n"] sp_answer_inverse := by
  refine T.f_answer_inverse.ok sc_answer_inverse (fun vs H Q E h => ?_) (fun cdv Ar outer s H vs Q E hr h => ?_)
  · obtain ⟨a, n, rfl, _⟩ := h
    rfl
  · obtain ⟨a, n, rfl, h1, h3, q⟩ := h
    refine ⟨_, (pss_cons (ps_if (pt_not (pt_val (pe_call (ok_is_unit T) (hr.mono (by decide)) (by rfl) T.m_is_unit T.f_is_unit.kp T.b_is_unit .nil pass0 (pa_cons (pv 0) (pa_cons (pv 1) pa_nil)))))
      (pss_one (ps_ret (pe_lst (pa_cons (pe_glob (v := .int (-6)) (by rfl) T.g_NOT_A_UNIT ⟨_, rfl⟩) pa_nil))))
      pss_nil)
      (pss_one (ps_ret (pe_lst (pa_cons (pe_call (ok_inverse_of T) (hr.mono (by decide)) (by rfl) T.m_inverse_of T.f_inverse_of.kp T.b_inverse_of .nil pass0 (pa_cons (pv 0) (pa_cons (pv 1) pa_nil))) pa_nil))))), ?_⟩
    refine ⟨N a, rfl, N n, rfl, a, n, rfl, _, rfl, ite2 (fun c => ?_) (fun c => ?_)⟩
    · have c1 : ¬ Nat.gcd a n = 1 := fun z => by
        rw [decide_eq_true z] at c
        exact absurd c (by decide)
      rw [if_neg c1] at q
      exact ⟨by decide, fun p hp => q _ p (same_upd hp) hp upd_same⟩
    · have c1 : Nat.gcd a n = 1 := by
        apply Decidable.byContradiction
        intro z
        exact c (by rw [decide_eq_false z]; rfl)
      rw [if_pos c1] at q
      refine ⟨N a, rfl, N n, rfl, a, n, rfl, h1, h3, c1, ?_⟩
      exact ⟨(by show 1 ≤ sizeLine; decide), fun p hp => q _ p (same_upd hp) hp upd_same⟩
end Rp


set_option Elab.async false
set_option linter.all false
set_option maxRecDepth 100000
set_option maxHeartbeats 4000000
namespace Rp
open PySem PySem.Spec PyProof.Rows L2
variable {P : Program} {w : World} {K : PySem.W.Frag} {mg : Str → Option Value} {base : Heap} {A : Ad}
/-- a list of pairs -/
def Prs (H : Hp) (p : Addr) (l : List (Nat × Nat)) : Prop := ∃ as : List Addr, H p = some (.lst (as.map V.ref)) ∧ as.length = l.length ∧ ∀ (i : Nat) (a : Addr) (x : Nat × Nat), as[i]? = some a → l[i]? = some x → H a = some (.tup [N x.1, N x.2])
theorem Prs.nil {H : Hp} {p : Addr} (h : H p = some (.lst [])) : Prs H p [] := ⟨[], h, rfl, fun i a x e => by cases e⟩
theorem Prs.kept {H H' : Hp} {p : Addr} {l : List (Nat × Nat)} (h : Prs H p l) (s : Same H H') : Prs H' p l := by
  obtain ⟨as, h1, h2, h3⟩ := h
  exact ⟨as, s _ _ h1, h2, fun i a x e1 e2 => s _ _ (h3 i a x e1 e2)⟩
/-- one more, by append of a new tuple -/
theorem Prs.more {H : Hp} {p t : Addr} {as : List Addr} {l : List (Nat × Nat)} {x : Nat × Nat} (h1 : H p = some (.lst (as.map V.ref))) (h2 : as.length = l.length)
    (h3 : ∀ (i : Nat) (a : Addr) (x : Nat × Nat), as[i]? = some a → l[i]? = some x → H a = some (.tup [N x.1, N x.2])) (ht : H t = none) :
    Prs (upd (upd H t (.tup [N x.1, N x.2])) p (.lst (as.map V.ref ++ [.ref t]))) p (l ++ [x]) := by
  have ntp : t ≠ p := fun z => by
    rw [z, h1] at ht
    cases ht
  refine ⟨as ++ [t], ?_, by rw [List.length_append, List.length_append, h2]; rfl, fun i a y e1 e2 => ?_⟩
  · rw [upd_same, List.map_append]
    rfl
  · by_cases c : i < as.length
    · rw [List.getElem?_append_left c] at e1
      rw [List.getElem?_append_left (by omega)] at e2
      have := h3 i a y e1 e2
      have np : a ≠ p := fun z => by
        rw [z, h1] at this
        cases this
      rw [upd_ne np, upd_ne (ne_of_none this ht)]
      exact this
    · rw [List.getElem?_append_right (by omega)] at e1 e2
      have hi : i - as.length = 0 := by
        have := (List.getElem?_eq_some_iff.mp e1).1
        simp only [List.length_cons, List.length_nil] at this
        omega
      rw [hi] at e1
      rw [← h2, hi] at e2
      have e3 : t = a := Option.some.inj e1
      have e4 : x = y := Option.some.inj e2
      subst e3 e4
      rw [upd_ne ntp, upd_same]
def sp_prime_factors : Sp := fun vs H Q _ => ∃ n : Nat, vs = [N n] ∧ 1 ≤ n ∧ n ≤ 300 ∧ ∀ H' p, Same H H' → H p = none → Prs H' p (Na01.factors n) → Q (.ref p) H'
theorem ok_prime_factors (T : Txt K mg A) : FnOk P w K mg base CX0 1 A.c_prime_factors A.d_prime_factors ["n"] sp_prime_factors := by
  refine T.f_prime_factors.ok sc_prime_factors (fun vs H Q E h => ?_) (fun cdv Ar outer s H vs Q E hr h => ?_)
  · obtain ⟨n, rfl, _⟩ := h
    rfl
  · obtain ⟨n, rfl, h1, h3, q⟩ := h
    refine ⟨_, (pss_cons (ps_set (i := 1) sc_prime_factors.nd rfl (.inl rfl) (pe_lst pa_nil))
      (pss_cons (ps_set (i := 2) sc_prime_factors.nd rfl (.inl rfl) (pv 0))
      (pss_cons (ps_for PassesOwn.never rfl (pi_range2 (by rfl) T.z_range (pa_cons pe_int (pa_cons (pe_op op_add (pv 0) pe_int) pa_nil))) (pg_name (i := 3) sc_prime_factors.nd rfl (.inl rfl))
      (pss_cons (ps_set (i := 4) sc_prime_factors.nd rfl (.inl rfl) pe_int)
      (pss_cons (ps_while PassesOwn.never (pt_cmpR op_eq (pe_op op_mod (pv 2) (pv 3)) pe_int (nomark _))
      (pss_cons (ps_set (i := 2) sc_prime_factors.nd rfl (.inl rfl) (pe_op op_fdiv (pv 2) (pv 3)))
      (pss_one (ps_aug (i := 4) sc_prime_factors.nd rfl (.inl rfl) pe_int ip_add))))
      (pss_one (ps_if (pt_cmpR op_gt (pv 4) pe_int (nomark _))
      (pss_one (ps_expr (pe_bm PySem.F.plainAttrs_list PySem.F.slot_list_append PySem.F.type_list_append mt_append (pv 1) (pa_cons (pe_tup (pa_cons (pv 3) (pa_cons (pv 4) pa_nil))) pa_nil))))
      pss_nil)))))
      (pss_one (ps_ret (pv 1)))))), ?_⟩
    refine ⟨Nat.zero_le _, fun D hD => ?_⟩
    refine ⟨N n, rfl, ?_⟩
    refine ⟨N n, rfl, (n : Int), 1, rfl, rfl, 2, (n : Int) + 1, rfl, ⟨by omega, by omega, by omega, by omega⟩, ?_⟩
    refine for_range (n := ((n : Int) + 1 - 2).toNat) (fun i σ H' => ∃ l rest y3 y4, σ = [some (N n), some (.ref D), some (N rest), y3, y4] ∧ Same H H' ∧ Prs H' D l ∧ l.length ≤ i ∧ 1 ≤ rest ∧ rest ≤ n ∧ l ++ Na01.partsFrom (n - i) (2 + i) rest = Na01.factors n)
      ⟨[], n, none, none, rfl, same_upd hD, Prs.nil upd_same, Nat.le_refl 0, h1, Nat.le_refl n, rfl⟩ (fun i σ H' hi hP => ?_) (fun σ H' hP => ?_)
    · obtain ⟨l, rest, y3, y4, rfl, sm, ⟨as, e1, e2, e3⟩, hll, r1, r2, ef⟩ := hP
      have e0 : V.int (2 + (i : Int)) = N (2 + i) := rfl
      rw [e0]
      have pp : (0 : Int) < ((2 + i : Nat) : Int) := by omega
      refine ⟨fun m σ H'' => ∃ k, σ = [some (N n), some (.ref D), some (N m), some (N (2 + i)), some (N k)] ∧ H'' = H' ∧ 1 ≤ m ∧ m * (2 + i) ^ k = rest, ⟨rest, 0, rfl, rfl, r1, by rw [Nat.pow_zero, Nat.mul_one]⟩, fun m σ H'' hW => ?_⟩
      obtain ⟨k, rfl, rfl, m1, em⟩ := hW
      refine ⟨N m, rfl, N (2 + i), rfl, (m : Int), ((2 + i : Nat) : Int), rfl, rfl, pp, rfl, _, rfl, ite2 (fun c => ?_) (fun c => ?_)⟩
      · have c1 : m % (2 + i) = 0 := N_inj (b := 0) (of_decide_eq_true c)
        refine ⟨_, fun _ _ h => h, ?_⟩
        refine ⟨N m, rfl, N (2 + i), rfl, (m : Int), ((2 + i : Nat) : Int), rfl, rfl, ⟨pp, by omega⟩, ?_⟩
        refine ⟨N k, rfl, (k : Int), 1, rfl, rfl, ?_⟩
        have hd : m / (2 + i) * (2 + i) = m := Nat.div_mul_cancel (Nat.dvd_of_mod_eq_zero c1)
        have lt : m / (2 + i) < m := Nat.div_lt_self m1 (by omega)
        have ge : 1 ≤ m / (2 + i) := by
          apply Nat.pos_of_ne_zero
          intro z
          rw [z] at hd
          omega
        refine ⟨m / (2 + i), lt, k + 1, rfl, rfl, ge, ?_⟩
        rw [Nat.pow_succ, Nat.mul_comm ((2 + i) ^ k), ← Nat.mul_assoc, hd]
        exact em
      · have c1 : m % (2 + i) ≠ 0 := fun z => c (decide_eq_true (congrArg N z))
        have hs : Na01.partsFrom (n - i) (2 + i) rest = (if 0 < k then [(2 + i, k)] else []) ++ Na01.partsFrom (n - (i + 1)) (2 + (i + 1)) m := by
          have e4 : n - i = n - (i + 1) + 1 := by omega
          rw [e4]
          exact Mx.partsFrom_step (by omega) m1 em.symm c1
        have mle : m ≤ n := by
          have : m * 1 ≤ m * (2 + i) ^ k := Nat.mul_le_mul_left m (Nat.pow_pos (by omega))
          omega
        rw [hs, ← List.append_assoc] at ef
        refine ⟨N k, rfl, (k : Int), 0, rfl, rfl, _, rfl, ite2 (fun d => ?_) (fun d => ?_)⟩
        · have d1 : 0 < k := by
            have := of_decide_eq_true d
            omega
          rw [if_pos d1] at ef
          refine ⟨.ref D, rfl, .inl ⟨rfl, _, .inl (.inl e1)⟩, N (2 + i), rfl, N k, rfl, (by show 2 ≤ sizeLine; decide), fun t ht => ?_⟩
          have nDt : D ≠ t := ne_of_none e1 ht
          refine ⟨D, _, _, rfl, rfl, by rw [upd_ne nDt]; exact e1, ?_, ?_⟩
          · rw [List.length_map]
            exact line (by omega)
          · refine ⟨l ++ [(2 + i, k)], m, some (N (2 + i)), some (N k), rfl, fun b o e => ?_, Prs.more (x := (2 + i, k)) e1 e2 e3 ht, by rw [List.length_append]; simp only [List.length_cons, List.length_nil]; omega, m1, mle, ef⟩
            rw [upd_ne (ne_of_none e hD)]
            exact (sm.trans (same_upd ht)) b o e
        · have d1 : ¬ 0 < k := fun z => d (decide_eq_true (by omega))
          rw [if_neg d1, List.append_nil] at ef
          exact ⟨l, m, some (N (2 + i)), some (N k), rfl, sm, ⟨as, e1, e2, e3⟩, by omega, m1, mle, ef⟩
    · obtain ⟨l, rest, y3, y4, rfl, sm, pr, hll, r1, r2, ef⟩ := hP
      have et : ((n : Int) + 1 - 2).toNat = n - 1 := by omega
      have en : n - (n - 1) = 1 := by omega
      have ep : 2 + (n - 1) = n + 1 := by omega
      rw [et, en, ep, Mx.partsFrom_end r2, List.append_nil] at ef
      subst ef
      exact ⟨_, rfl, q _ D sm hD pr⟩
def sp_cycles_round : Sp := fun vs H Q _ => ∃ p e : Nat, vs = [N p, N e] ∧ 2 ≤ p ∧ p ≤ 300 ∧ e ≤ 300 ∧ ∀ H' a, Same H H' → H a = none → H' a = some (LN (Mx.cyc p e)) → Q (.ref a) H'
theorem ok_cycles_round (T : Txt K mg A) : FnOk P w K mg base CX0 1 A.c_cycles_round A.d_cycles_round ["prime", "often"] sp_cycles_round := by
  refine T.f_cycles_round.ok sc_cycles_round (fun vs H Q E h => ?_) (fun cdv Ar outer s H vs Q E hr h => ?_)
  · obtain ⟨p, e, rfl, _⟩ := h
    rfl
  · obtain ⟨p, e, rfl, h1, h3, h4, q⟩ := h
    refine ⟨_, (pss_cons (ps_set (i := 2) sc_cycles_round.nd rfl (.inl rfl) pe_int)
      (pss_cons (ps_for PassesOwn.never rfl (pi_range1 (by rfl) T.z_range (pa_cons (pv 1) pa_nil)) (pg_name (i := 3) sc_cycles_round.nd rfl (.inl rfl))
      (pss_one (ps_set (i := 2) sc_cycles_round.nd rfl (.inl rfl) (pe_op op_mul (pv 2) (pv 0)))))
      (pss_cons (ps_if (PW.pt (pw_and (pt_cmpR op_eq (pv 0) pe_int (nomark _)) (pw_and1 (pt_cmpR op_gt (pv 1) pe_int (nomark _)))))
      (pss_one (ps_ret (pe_lst (pa_cons pe_int (pa_cons (pe_op op_fdiv (pv 2) pe_int) pa_nil)))))
      pss_nil)
      (pss_one (ps_ret (pe_lst (pa_cons (pe_op op_sub (pv 2) (pe_op op_fdiv (pv 2) (pv 0))) pa_nil))))))), ?_⟩
    refine ⟨N e, rfl, (e : Int), rfl, by omega, by omega, ?_⟩
    refine for_range (n := e) (fun i σ H' => ∃ y, σ = [some (N p), some (N e), some (N (p ^ i)), y] ∧ H' = H) ⟨none, by rw [Nat.pow_zero]; rfl, rfl⟩ (fun i σ H' hi hP => ?_) (fun σ H' hP => ?_)
    · obtain ⟨y, rfl, rfl⟩ := hP
      refine ⟨N (p ^ i), rfl, N p, rfl, ((p ^ i : Nat) : Int), (p : Int), rfl, rfl, small_mulR (by omega), ?_⟩
      exact ⟨_, by rw [Nat.pow_succ]; rfl, rfl⟩
    · obtain ⟨y, rfl, rfl⟩ := hP
      refine ⟨N p, rfl, rfl, _, rfl, ?_⟩
      have fin : ¬ (p = 2 ∧ 2 < e) → (∀ (p' : Addr), H' p' = none → Q (.ref p') (upd H' p' (.lst [N (p ^ e - p ^ e / p)]))) := fun c p' hp => by
        refine q _ p' (same_upd hp) hp ?_
        rw [upd_same]
        unfold Mx.cyc
        rw [if_neg c]
        rfl
      have sb : (((p ^ e : Nat) : Int) - ((p ^ e / p : Nat) : Int)) = ((p ^ e - p ^ e / p : Nat) : Int) := by
        have : p ^ e / p ≤ p ^ e := Nat.div_le_self _ _
        omega
      by_cases c : p = 2
      · refine if_T (x := p) (y := 2) c ?_
        refine ⟨N e, rfl, (e : Int), 2, rfl, rfl, _, rfl, ite2 (fun d => ?_) (fun d => ?_)⟩
        · have d1 : 2 < e := by
            have := of_decide_eq_true d
            omega
          refine ⟨N (p ^ e), rfl, ((p ^ e : Nat) : Int), 4, rfl, rfl, ⟨by decide, by decide⟩, (by show 2 ≤ sizeLine; decide), fun p' hp => q _ p' (same_upd hp) hp ?_⟩
          rw [upd_same]
          unfold Mx.cyc
          rw [if_pos ⟨c, d1⟩]
          rfl
        · have d1 : ¬ 2 < e := fun z => d (decide_eq_true (by omega))
          refine ⟨N (p ^ e), rfl, N (p ^ e), rfl, N p, rfl, ((p ^ e : Nat) : Int), (p : Int), rfl, rfl, ⟨by omega, by omega⟩, ((p ^ e : Nat) : Int), ((p ^ e / p : Nat) : Int), rfl, rfl, (by show 1 ≤ sizeLine; decide), fun p' hp => ?_⟩
          show Q (.ref p') (upd H' p' (.lst [.int (((p ^ e : Nat) : Int) - ((p ^ e / p : Nat) : Int))]))
          rw [sb]
          exact fin (fun z => d1 z.2) p' hp
      · refine if_F (x := p) (y := 2) c (iteF ?_)
        refine ⟨N (p ^ e), rfl, N (p ^ e), rfl, N p, rfl, ((p ^ e : Nat) : Int), (p : Int), rfl, rfl, ⟨by omega, by omega⟩, ((p ^ e : Nat) : Int), ((p ^ e / p : Nat) : Int), rfl, rfl, (by show 1 ≤ sizeLine; decide), fun p' hp => ?_⟩
        show Q (.ref p') (upd H' p' (.lst [.int (((p ^ e : Nat) : Int) - ((p ^ e / p : Nat) : Int))]))
        rw [sb]
        exact fin (fun z => c z.1) p' hp
end Rp


set_option Elab.async false
set_option linter.all false
set_option maxRecDepth 100000
set_option maxHeartbeats 4000000
namespace Rp
open PySem PySem.Spec PyProof.Rows L2
variable {P : Program} {w : World} {K : PySem.W.Frag} {mg : Str → Option Value} {base : Heap} {A : Ad}
theorem LN_at {c : List Nat} {i : Nat} (h : i < c.length) : atI (c.map N) ((i : Nat) : Int) = some (N (c.getD i 0)) := by
  refine atI_nat ?_
  rw [List.getElem?_map, Mx.get_lt h]
  rfl
theorem ix_of {n j : Nat} (h : j < n) : ixN n ((j : Nat) : Int) = some j := by
  unfold ixN
  rw [if_pos (by omega), if_pos (by omega), Int.toNat_natCast]
def sp_chained : Sp := fun vs H Q _ => ∃ (p : Addr) (os : List Nat) (L : Nat), vs = [.ref p] ∧ H p = some (LN os) ∧ 0 < L ∧ L ≤ 300 ∧ Mx.Divs L os ∧ os.length ≤ 10 ∧ ∀ H' a, Same H H' → H a = none → H' a = some (LN (Mx.chain os os.length)) → Q (.ref a) H'
theorem ok_chained (T : Txt K mg A) : FnOk P w K mg base CX0 3 A.c_chained A.d_chained ["orders"] sp_chained := by
  refine T.f_chained.ok sc_chained (fun vs H Q E h => ?_) (fun cdv Ar outer s H vs Q E hr h => ?_)
  · obtain ⟨p, os, L, rfl, _⟩ := h
    rfl
  · obtain ⟨p, os, L, rfl, ep, hL, hL3, hdv, hlen, q⟩ := h
    refine ⟨_, (pss_cons (ps_set (i := 1) sc_chained.nd rfl (.inl rfl) (pe_callTy call_list_of (by rfl) T.z_list (by decide +kernel) (pa_cons (pv 0) pa_nil)))
      (pss_cons (ps_set (i := 2) sc_chained.nd rfl (.inl rfl) (pe_callB (call_lenK (K := K) rfl) (by rfl) T.z_len PySem.boot_len (pa_cons (pv 0) pa_nil)))
      (pss_cons (ps_for PassesOwn.never rfl (pi_range1 (by rfl) T.z_range (pa_cons (pv 2) pa_nil)) (pg_name (i := 3) sc_chained.nd rfl (.inl rfl))
      (pss_one (ps_for PassesOwn.never rfl (pi_range2 (by rfl) T.z_range (pa_cons (pe_op op_add (pv 3) pe_int) (pa_cons (pv 2) pa_nil))) (pg_name (i := 4) sc_chained.nd rfl (.inl rfl))
      (pss_cons (ps_set (i := 5) sc_chained.nd rfl (.inl rfl) (pe_call (ok_common_divisor T) (hr.mono (by decide)) (by rfl) T.m_common_divisor T.f_common_divisor.kp T.b_common_divisor .nil pass0 (pa_cons (pe_ix ix_list (pv 1) (pv 3) (fun _ _ => rfl)) (pa_cons (pe_ix ix_list (pv 1) (pv 4) (fun _ _ => rfl)) pa_nil))))
      (pss_cons (ps_asg (pe_call (ok_common_multiple T) (hr.mono (by decide)) (by rfl) T.m_common_multiple T.f_common_multiple.kp T.b_common_multiple .nil pass0 (pa_cons (pe_ix ix_list (pv 1) (pv 3) (fun _ _ => rfl)) (pa_cons (pe_ix ix_list (pv 1) (pv 4) (fun _ _ => rfl)) pa_nil))) (pg_sub (pv 1) (pv 4) set_list))
      (pss_one (ps_asg (pv 5) (pg_sub (pv 1) (pv 3) set_list))))))))
      (pss_one (ps_ret (pv 1)))))), ?_⟩
    refine ⟨.ref p, rfl, p, _, rfl, .inl (.inl (.inl ep)), fun D hD => ?_⟩
    have pD : p ≠ D := ne_of_none ep hD
    have s0 : Same H (upd H D (LN os)) := same_upd hD
    refine ⟨.ref p, rfl, p, _, rfl, .inl (.inl (.inl (s0 _ _ ep))), ?_⟩
    rw [List.length_map]
    refine ⟨N os.length, rfl, (os.length : Int), rfl, by omega, by omega, ?_⟩
    refine for_range (n := os.length) (fun i σ H' => ∃ y3 y4 y5, σ = [some (.ref p), some (.ref D), some (N os.length), y3, y4, y5] ∧ Same H H' ∧ H' D = some (LN (Mx.chain os i))) ⟨none, none, none, rfl, s0, upd_same⟩ (fun i σ H' hi hP => ?_) (fun σ H' hP => ?_)
    · obtain ⟨y3, y4, y5, rfl, sm, eD⟩ := hP
      have e0 : V.int (0 + (i : Int)) = N i := by rw [Int.zero_add]
      rw [e0]
      obtain ⟨cd, cl⟩ := Mx.chain_ok hdv i (by omega)
      refine ⟨N i, rfl, (i : Int), 1, rfl, rfl, N os.length, rfl, (i : Int) + 1, (os.length : Int), rfl, ⟨by omega, by omega, by omega, by omega⟩, ?_⟩
      refine for_range (n := ((os.length : Int) - ((i : Int) + 1)).toNat) (fun k σ H' => ∃ y4 y5, σ = [some (.ref p), some (.ref D), some (N os.length), some (N i), y4, y5] ∧ Same H H' ∧ H' D = some (LN (Mx.row i k (Mx.chain os i)))) ⟨y4, y5, rfl, sm, eD⟩ (fun k σ H2 hk hP => ?_) (fun σ H2 hP => ?_)
      · obtain ⟨y4, y5, rfl, sm2, eD2⟩ := hP
        have e1 : V.int ((i : Int) + 1 + (k : Int)) = N (i + 1 + k) := rfl
        rw [e1]
        obtain ⟨rd, rl⟩ := Mx.row_ok (low := i) cd k (by rw [cl]; omega)
        rw [cl] at rl
        rw [Mx.row_succ]
        generalize Mx.row i k (Mx.chain os i) = c at *
        have li : i < c.length := by omega
        have lh : i + 1 + k < c.length := by omega
        have b1 := Mx.divs_range hL3 hL (rd _ (Mx.mem_getD li))
        have b2 := Mx.divs_range hL3 hL (rd _ (Mx.mem_getD lh))
        have hL2 : SqL K H2 D (c.map N) := .inl (.inl eD2)
        refine ⟨.ref D, rfl, N i, rfl, D, _, ((i : Nat) : Int), _, rfl, rfl, hL2, LN_at li, .ref D, rfl, N (i + 1 + k), rfl, D, _, ((i + 1 + k : Nat) : Int), _, rfl, rfl, hL2, LN_at lh, c.getD i 0, c.getD (i + 1 + k) 0, rfl, ?_⟩
        refine ⟨.ref D, rfl, N i, rfl, D, _, ((i : Nat) : Int), _, rfl, rfl, hL2, LN_at li, .ref D, rfl, N (i + 1 + k), rfl, D, _, ((i + 1 + k : Nat) : Int), _, rfl, rfl, hL2, LN_at lh, c.getD i 0, c.getD (i + 1 + k) 0, rfl, b2.1, b2.2, ?_⟩
        refine ⟨.ref D, rfl, N (i + 1 + k), rfl, D, _, ((i + 1 + k : Nat) : Int), i + 1 + k, rfl, rfl, eD2, ix_of (by rw [List.length_map]; exact lh), ?_⟩
        refine ⟨N (Nat.gcd (c.getD i 0) (c.getD (i + 1 + k) 0)), rfl, ?_⟩
        refine ⟨.ref D, rfl, N i, rfl, D, _, ((i : Nat) : Int), i, rfl, rfl, upd_same, ix_of (by rw [List.length_set, List.length_map]; exact li), ?_⟩
        refine ⟨some (N (i + 1 + k)), some (N (Nat.gcd (c.getD i 0) (c.getD (i + 1 + k) 0))), rfl, fun b o e => ?_, ?_⟩
        · rw [upd_upd, upd_ne (ne_of_none e hD)]
          exact sm2 b o e
        · rw [upd_same, ← List.map_set, ← List.map_set]
          rfl
      · obtain ⟨y4, y5, rfl, sm2, eD2⟩ := hP
        refine ⟨_, _, _, rfl, sm2, ?_⟩
        rw [Mx.chain_succ, eD2]
        have et : ((os.length : Int) - ((i : Int) + 1)).toNat = os.length - (i + 1) := by omega
        rw [et]
    · obtain ⟨y3, y4, y5, rfl, sm, eD⟩ := hP
      exact ⟨_, rfl, q _ D sm hD eD⟩
def sp_parts_round : Sp := fun vs H Q _ => ∃ n : Nat, vs = [N n] ∧ 1 ≤ n ∧ n ≤ 300 ∧ ∀ H' p, Same H H' → H p = none → H' p = some (LN (Na01.parts n)) → Q (.ref p) H'
theorem flatMap_more {α β : Type} {f : α → List β} {l : List α} {i : Nat} {x : α} (h : l[i]? = some x) : (l.take (i + 1)).flatMap f = (l.take i).flatMap f ++ f x := by
  rw [take_more h, List.flatMap_append, List.flatMap_cons, List.flatMap_nil, List.append_nil]
theorem cyc_len (p e : Nat) : (Mx.cyc p e).length ≤ 2 := by
  unfold Mx.cyc
  split <;> simp
theorem flat_len {α β : Type} (f : α → List β) (c : Nat) (hf : ∀ x, (f x).length ≤ c) : ∀ l : List α, (l.flatMap f).length ≤ l.length * c
  | [] => by simp
  | x :: l => by
    rw [List.flatMap_cons, List.length_append, List.length_cons, Nat.add_mul, Nat.one_mul]
    have := flat_len f c hf l
    have := hf x
    omega
theorem ok_parts_round (T : Txt K mg A) : FnOk P w K mg base CX0 4 A.c_parts_round A.d_parts_round ["n"] sp_parts_round := by
  refine T.f_parts_round.ok sc_parts_round (fun vs H Q E h => ?_) (fun cdv Ar outer s H vs Q E hr h => ?_)
  · obtain ⟨n, rfl, _⟩ := h
    rfl
  · obtain ⟨n, rfl, h1, h3, q⟩ := h
    refine ⟨_, (pss_cons (ps_set (i := 1) sc_parts_round.nd rfl (.inl rfl) (pe_lst pa_nil))
      (pss_cons (ps_for PassesOwn.never rfl (pi_list (pe_call (ok_prime_factors T) (hr.mono (by decide)) (by rfl) T.m_prime_factors T.f_prime_factors.kp T.b_prime_factors .nil pass0 (pa_cons (pv 0) pa_nil))) (pg_name (i := 2) sc_parts_round.nd rfl (.inl rfl))
      (pss_one (ps_expr (pe_bm PySem.F.plainAttrs_list PySem.F.slot_list_extend PySem.F.type_list_extend mt_extend (pv 1) (pa_cons (pe_call (ok_cycles_round T) (hr.mono (by decide)) (by rfl) T.m_cycles_round T.f_cycles_round.kp T.b_cycles_round .nil pass0 (pa_cons (pe_ix ix_tup (pv 2) pe_int (fun _ _ => rfl)) (pa_cons (pe_ix ix_tup (pv 2) pe_int (fun _ _ => rfl)) pa_nil))) pa_nil)))))
      (pss_one (ps_ret (pe_lc (own := [("part", 3)]) rfl sc_parts_round.nd (pi_list (pe_call (ok_chained T) (hr.mono (by decide)) (by rfl) T.m_chained T.f_chained.kp T.b_chained .nil pass0 (pa_cons (pv 1) pa_nil))) (blkOk_by (N := ["n", "orders", "pair", "part"]) (sc := defScope s_parts_round) (by decide +kernel)) (fun _ _ _ _ _ => (pg_name (i := 3) sc_parts_round.nd rfl (.inl rfl))) (fun _ _ _ _ _ => (pts_one (pt_cmpR op_gt (pv 3) pe_int (nomark _)))) (fun _ _ _ _ _ => (pv 3))))))), ?_⟩
    obtain ⟨ff, fl⟩ := Mx.factors_le h3
    obtain ⟨L0, L3, cl⟩ := Mx.cycs_le h3
    have pa := Mx.parts_all h1 h3
    refine ⟨Nat.zero_le _, fun O hO => ?_⟩
    have s0 : Same H (upd H O (.lst [])) := same_upd hO
    refine ⟨N n, rfl, n, rfl, h1, h3, fun H1 p sm np pr => ?_⟩
    obtain ⟨as, e1, e2, e3⟩ := pr
    have hO1 : H1 O = some (.lst []) := sm _ _ upd_same
    have pO : p ≠ O := fun z => by
      rw [z, upd_same] at np
      cases np
    refine ⟨p, rfl, ⟨_, .inl (.inl e1)⟩, ?_⟩
    refine for_list (xs := as.map V.ref) (fun i σ H' => ∃ y2 y3, σ = [some (N n), some (.ref O), y2, y3] ∧ (∀ b o, H1 b = some o → b ≠ O → H' b = some o) ∧ H' O = some (LN (((Na01.factors n).take i).flatMap fun x => Mx.cyc x.1 x.2))) ⟨none, none, rfl, fun b o e _ => e, hO1⟩ (fun i σ H' _ hP => ?_) (fun i x σ H' hx hP => ?_) (fun σ H' hP => ?_)
    · obtain ⟨_, _, _, k1, _⟩ := hP
      exact .inl (.inl (k1 _ _ e1 pO))
    · obtain ⟨y2, y3, rfl, k1, eO⟩ := hP
      rw [List.getElem?_map] at hx
      cases ea : as[i]? with
      | none =>
        rw [ea] at hx
        cases hx
      | some a =>
        rw [ea] at hx
        have hx := Option.some.inj hx
        subst hx
        have hi : i < (Na01.factors n).length := by
          rw [← e2]
          exact (List.getElem?_eq_some_iff.mp ea).1
        obtain ⟨x, ex⟩ : ∃ x, (Na01.factors n)[i]? = some x := ⟨_, List.getElem?_eq_getElem hi⟩
        have et := e3 i a x ea ex
        have aO : a ≠ O := fun z => by
          rw [z, hO1] at et
          cases et
        have et2 : SqT K H' a [N x.1, N x.2] := .inl (.inl (k1 _ _ et aO))
        obtain ⟨f1, f2, f3⟩ := ff x (mem_of_get ex)
        refine ⟨.ref O, rfl, .inl ⟨rfl, _, .inl (.inl eO)⟩, ?_⟩
        refine ⟨.ref a, rfl, a, _, 0, N x.1, rfl, rfl, et2, rfl, .ref a, rfl, a, _, 1, N x.2, rfl, rfl, et2, rfl, x.1, x.2, rfl, f1, f2, f3, fun H2 c s2 nc ec => ?_⟩
        have cO : c ≠ O := fun z => by
          rw [z, eO] at nc
          cases nc
        refine ⟨O, c, _, _, rfl, rfl, s2 _ _ eO, ec, ?_, ?_⟩
        · rw [List.length_map, List.length_map]
          have l1 := flat_len (fun x : Nat × Nat => Mx.cyc x.1 x.2) 2 (fun x => cyc_len x.1 x.2) ((Na01.factors n).take i)
          have l2 := cyc_len x.1 x.2
          rw [List.length_take] at l1
          exact lineE (by omega)
        · refine ⟨some (.ref a), y3, rfl, fun b o e nb => ?_, ?_⟩
          · rw [upd_ne nb]
            exact s2 _ _ (k1 b o e nb)
          · rw [upd_same, flatMap_more ex, ← List.map_append]
            rfl
    · obtain ⟨y2, y3, rfl, k1, eO⟩ := hP
      rw [List.length_map, e2, List.take_length] at eO
      have eO : H' O = some (LN (Mx.cycs n)) := eO
      have smH : Same H H' := fun b o e => by
        refine k1 _ _ (sm _ _ (s0 _ _ e)) fun z => ?_
        rw [z, hO] at e
        cases e
      refine ⟨.ref O, rfl, O, Mx.cycs n, (Mx.cycs n).foldl Nat.lcm 1, rfl, eO, L0, L3, (Mx.dvd_fold _ 1).2, cl, fun H2 C s2 nC eC => ?_⟩
      refine ⟨C, rfl, ⟨_, .inl (.inl eC)⟩, fun D hD => ?_⟩
      have CD : C ≠ D := ne_of_none eC hD
      have clen : (Mx.chain (Mx.cycs n) (Mx.cycs n).length).length = (Mx.cycs n).length := (Mx.chain_ok (L := (Mx.cycs n).foldl Nat.lcm 1) (Mx.dvd_fold _ 1).2 _ (Nat.le_refl _)).2
      refine lc_list (xs := (Mx.chain (Mx.cycs n) (Mx.cycs n).length).map N) (fun i H' => Same H2 H' ∧ H' D = some (LN (((Mx.chain (Mx.cycs n) (Mx.cycs n).length).take i).filter fun x => decide (1 < x)))) ⟨same_upd hD, upd_same⟩ (fun i H' _ hP => .inl (.inl (hP.1 _ _ eC))) (fun i x H3 hx hP => ?_) (fun H3 hP => ?_)
      · obtain ⟨s1, eD⟩ := hP
        obtain ⟨a, ea, rfl⟩ := LN_get hx
        have ef := filter_more (p := fun x => decide (1 < x)) ea
        refine ⟨rfl, N a, rfl, (a : Int), 1, rfl, rfl, _, rfl, ite2 (fun c => ?_) (fun c => ?_)⟩
        · have c1 : 1 < a := by
            have := of_decide_eq_true c
            omega
          rw [if_pos (decide_eq_true c1)] at ef
          refine ⟨N a, rfl, _, eD, ?_, same_trans_upd s1 hD eD, ?_⟩
          · rw [List.length_map]
            exact line (Nat.le_trans (filter_take_len _ _ i) (by omega))
          · rw [upd_same, ef, LN_snoc]
        · have c1 : ¬ 1 < a := fun z => c (decide_eq_true (by omega))
          rw [if_neg (fun z => c1 (of_decide_eq_true z))] at ef
          rw [ef]
          exact ⟨s1, eD⟩
      · obtain ⟨s1, eD⟩ := hP
        rw [List.length_map, List.take_length, pa] at eD
        refine q H3 D ((smH.trans s2).trans s1) ?_ eD
        exact (smH.trans s2).free hD
def sp_counted_pairs : Sp := fun vs H Q _ => ∃ (p : Addr) (l : List (Nat × Nat)), vs = [.ref p] ∧ Prs H p l ∧ l.length ≤ 1000 ∧ Gives H Q ((l.length : Int) :: Na01.ints (l.flatMap fun x => [x.1, x.2]))
theorem ok_counted_pairs (T : Txt K mg A) : FnOk P w K mg base CX0 1 A.c_counted_pairs A.d_counted_pairs ["pairs"] sp_counted_pairs := by
  refine T.f_counted_pairs.ok sc_counted_pairs (fun vs H Q E h => ?_) (fun cdv Ar outer s H vs Q E hr h => ?_)
  · obtain ⟨p, l, rfl, _⟩ := h
    rfl
  · obtain ⟨p, l, rfl, ⟨as, e1, e2, e3⟩, hl, q⟩ := h
    refine ⟨_, (pss_cons (ps_set (i := 1) sc_counted_pairs.nd rfl (.inl rfl) (pe_lst (pa_cons (pe_callB (call_lenK (K := K) rfl) (by rfl) T.z_len PySem.boot_len (pa_cons (pv 0) pa_nil)) pa_nil)))
      (pss_cons (ps_for PassesOwn.never rfl (pi_list (pv 0)) (pg_name (i := 2) sc_counted_pairs.nd rfl (.inl rfl))
      (pss_one (ps_expr (pe_bm PySem.F.plainAttrs_list PySem.F.slot_list_extend PySem.F.type_list_extend mt_extendT (pv 1) (pa_cons (pv 2) pa_nil)))))
      (pss_one (ps_ret (pv 1))))), ?_⟩
    refine ⟨.ref p, rfl, p, _, rfl, .inl (.inl (.inl e1)), (by show 1 ≤ sizeLine; decide), fun R hR => ?_⟩
    have pR : p ≠ R := ne_of_none e1 hR
    have s0 : Same H (upd H R (.lst [.int (((as.map V.ref).length : Nat) : Int)])) := same_upd hR
    refine ⟨.ref p, rfl, p, rfl, ⟨_, .inl (.inl (s0 _ _ e1))⟩, ?_⟩
    refine for_list (xs := as.map V.ref) (fun i σ H' => ∃ y2, σ = [some (.ref p), some (.ref R), y2] ∧ Same H H' ∧ H' R = some (LN (l.length :: (l.take i).flatMap fun x => [x.1, x.2]))) ⟨none, rfl, s0, ?_⟩ (fun i σ H' _ hP => ?_) (fun i x σ H' hx hP => ?_) (fun σ H' hP => ?_)
    · rw [upd_same, List.length_map, e2]
      rfl
    · obtain ⟨_, _, sm, _⟩ := hP
      exact .inl (.inl (sm _ _ e1))
    · obtain ⟨y2, rfl, sm, eR⟩ := hP
      rw [List.getElem?_map] at hx
      cases ea : as[i]? with
      | none =>
        rw [ea] at hx
        cases hx
      | some a =>
        rw [ea] at hx
        have hx := Option.some.inj hx
        subst hx
        have hi : i < l.length := by
          rw [← e2]
          exact (List.getElem?_eq_some_iff.mp ea).1
        obtain ⟨x, ex⟩ : ∃ x, l[i]? = some x := ⟨_, List.getElem?_eq_getElem hi⟩
        have et := e3 i a x ea ex
        have et2 : SqT K H' a [N x.1, N x.2] := .inl (.inl (sm _ _ et))
        refine ⟨.ref R, rfl, .inl ⟨rfl, _, .inl (.inl eR)⟩, .ref a, rfl, R, a, _, _, rfl, rfl, eR, et2, ?_, ?_⟩
        · rw [List.length_map, List.length_cons]
          have l1 := flat_len (fun x : Nat × Nat => [x.1, x.2]) 2 (fun x => Nat.le_refl 2) (l.take i)
          rw [List.length_take] at l1
          exact lineE (by show _ + 2 ≤ _; omega)
        · refine ⟨some (.ref a), rfl, same_trans_upd sm hR eR, ?_⟩
          rw [upd_same, flatMap_more ex]
          show some (HO.lst ((l.length :: (l.take i).flatMap fun x => [x.1, x.2]).map N ++ [x.1, x.2].map N)) = _
          rw [← List.map_append]
          rfl
    · obtain ⟨y2, rfl, sm, eR⟩ := hP
      rw [List.length_map, e2, List.take_length, LN_ints] at eR
      exact ⟨_, rfl, q _ R sm hR eR⟩
end Rp


set_option Elab.async false
set_option linter.all false
set_option maxRecDepth 100000
set_option maxHeartbeats 4000000
namespace Rp
open PySem PySem.Spec PyProof.Rows L2
variable {P : Program} {w : World} {K : PySem.W.Frag} {mg : Str → Option Value} {base : Heap} {A : Ad}
/-- a table's entry as the dict has it -/
def ent (x : Nat × Nat) : Key × V := (Sum.inl (x.1 : Int), N x.2)
theorem ent_key (x : Nat × Nat) (d : Nat) : ((ent x).1 = (Sum.inl (d : Int) : Key)) ↔ x.1 = d := by
  show ((Sum.inl (x.1 : Int) : Key) = Sum.inl (d : Int)) ↔ _
  constructor
  · intro h
    have := Sum.inl.inj h
    omega
  · intro h
    rw [h]
theorem dec_key (x : Nat × Nat) (d : Nat) : decide ((ent x).1 = (Sum.inl (d : Int) : Key)) = decide (x.1 = d) := by
  by_cases h : x.1 = d
  · rw [decide_eq_true h, decide_eq_true ((ent_key x d).mpr h)]
  · rw [decide_eq_false h, decide_eq_false (fun z => h ((ent_key x d).mp z))]
theorem val_ent (t : List (Nat × Nat)) (d : Nat) : valV (t.map ent) (Sum.inl (d : Int) : Key) = (t.find? fun x => decide (x.1 = d)).map fun x => N x.2 := by
  unfold valV
  rw [List.find?_map, Option.map_map]
  have e : ((fun kv : Key × V => decide (kv.1 = (Sum.inl (d : Int) : Key))) ∘ ent) = fun x => decide (x.1 = d) := by
    funext x
    exact dec_key x d
  rw [e]
  rfl
theorem put_ent (t : List (Nat × Nat)) (d v : Nat) : putK (t.map ent) (Sum.inl (d : Int) : Key) (N v) = (Mx.put t d v).map ent := by
  unfold putK Mx.put
  have e : ((t.map ent).any fun kv => decide (kv.1 = (Sum.inl (d : Int) : Key))) = t.any fun x => decide (x.1 = d) := by
    rw [List.any_map]
    congr 1
    funext x
    exact dec_key x d
  rw [e]
  by_cases c : (t.any fun x => decide (x.1 = d)) = true
  · rw [if_pos c, if_pos c, List.map_map, List.map_map]
    apply List.map_congr_left
    intro x _
    show (if (ent x).1 = (Sum.inl (d : Int) : Key) then ((ent x).1, N v) else ent x) = ent (if x.1 = d then (x.1, v) else x)
    by_cases z : x.1 = d
    · rw [if_pos z, if_pos ((ent_key x d).mpr z)]
      rfl
    · rw [if_neg z, if_neg (fun y => z ((ent_key x d).mp y))]
  · rw [if_neg c, if_neg c, List.map_append]
    rfl
theorem val_tab {t : List (Nat × Nat)} {os : List Nat} (h : Mx.Tab t os) (d : Nat) : (valV (t.map ent) (Sum.inl (d : Int) : Key)).getD (.int 0) = N (os.count d) := by
  rw [val_ent, h.find]
  by_cases c : d ∈ os
  · rw [if_pos c]
    rfl
  · rw [if_neg c, List.count_eq_zero.mpr c]
    rfl
theorem val_in {t : List (Nat × Nat)} {os : List Nat} (h : Mx.Tab t os) {d : Nat} (c : d ∈ os) : valV (t.map ent) (Sum.inl (d : Int) : Key) = some (N (os.count d)) := by
  rw [val_ent, h.find, if_pos c]
  rfl
def sp_order_counts : Sp := fun vs H Q _ => ∃ n : Nat, vs = [N n] ∧ 1 ≤ n ∧ n ≤ 300 ∧ ∀ H' p, Same H H' → H p = none → Prs H' p (Na01.orders n) → Q (.ref p) H'
theorem ok_order_counts (T : Txt K mg A) : FnOk P w K mg base CX0 4 A.c_order_counts A.d_order_counts ["n"] sp_order_counts := by
  refine T.f_order_counts.ok sc_order_counts (fun vs H Q E h => ?_) (fun cdv Ar outer s H vs Q E hr h => ?_)
  · obtain ⟨n, rfl, _⟩ := h
    rfl
  · obtain ⟨n, rfl, h1, h3, q⟩ := h
    refine ⟨_, (pss_cons (ps_set (i := 1) sc_order_counts.nd rfl (.inr rfl) pe_dnewK)
      (pss_cons (ps_for PassesOwn.never rfl (pi_list (pe_call (ok_units_round T) (hr.mono (by decide)) (by rfl) T.m_units_round T.f_units_round.kp T.b_units_round .nil pass0 (pa_cons (pv 0) pa_nil))) (pg_name (i := 2) sc_order_counts.nd rfl (.inl rfl))
      (pss_cons (ps_set (i := 3) sc_order_counts.nd rfl (.inl rfl) (pe_call (ok_order_of T) (hr.mono (by decide)) (by rfl) T.m_order_of T.f_order_of.kp T.b_order_of .nil pass0 (pa_cons (pv 2) (pa_cons (pv 0) pa_nil))))
      (pss_one (ps_dput (hu_of hr) (pv 1) (pv 3) (pe_op op_add (pe_dget2 (hu_of hr) (pv 1) (pv 3) pe_int ⟨rfl, rfl, rfl, rfl⟩) pe_int) rfl))))
      (pss_one (ps_ret (pe_lc (own := [("order", 3)]) rfl sc_order_counts.nd (pi_list (pe_callB (call_sortedDI rfl) (by rfl) T.z_sorted (by decide +kernel) (pa_cons (pv 1) pa_nil))) (blkOk_by (N := ["n", "counts", "a", "order"]) (sc := defScope s_order_counts) (by decide +kernel)) (fun _ _ _ _ _ => (pg_name (i := 3) sc_order_counts.nd rfl (.inl rfl))) (fun _ _ _ _ _ => pts_nil) (fun _ _ _ _ _ => (pe_tup (pa_cons (pv 3) (pa_cons (pe_dget (hu_of hr) (pv 1) (pv 3) (fun _ _ => rfl)) pa_nil))))))))), ?_⟩
    refine fun d hd => ?_
    have s0 : Same H (upd H d (.dK [])) := same_upd hd
    refine ⟨N n, rfl, n, rfl, h3, fun H1 p sm np ep => ?_⟩
    have hd1 : H1 d = some (.dK []) := sm _ _ upd_same
    have pd : p ≠ d := fun z => by
      rw [z, upd_same] at np
      cases np
    refine ⟨p, rfl, ⟨_, .inl (.inl ep)⟩, ?_⟩
    refine for_list (xs := (Na01.units n).map N) (fun i σ H' => ∃ t y2 y3, σ = [some (N n), some (.ref d), y2, y3] ∧ (∀ b o, H1 b = some o → b ≠ d → H' b = some o) ∧ H' d = some (.dK (t.map ent)) ∧ Mx.Tab t ((Mx.ordersOf n).take i)) ⟨[], none, none, rfl, fun b o e _ => e, hd1, Mx.Tab.nil⟩ (fun i σ H' _ hP => ?_) (fun i x σ H' hx hP => ?_) (fun σ H' hP => ?_)
    · obtain ⟨_, _, _, _, k1, _⟩ := hP
      exact .inl (.inl (k1 _ _ ep pd))
    · obtain ⟨t, y2, y3, rfl, k1, ed, tb⟩ := hP
      obtain ⟨a, ea, rfl⟩ := LN_get hx
      obtain ⟨ha, hg⟩ := Mx.mem_units (mem_of_get ea)
      have eo : (Mx.ordersOf n)[i]? = some (Na01.order n a) := by
        unfold Mx.ordersOf
        rw [List.getElem?_map, ea]
        rfl
      refine ⟨N a, rfl, N n, rfl, a, n, rfl, h1, h3, hg, ?_⟩
      refine ⟨.ref d, rfl, d, rfl, .inl ⟨_, .inl ed⟩, N (Na01.order n a), rfl, valV (t.map ent) (Sum.inl ((Na01.order n a : Nat) : Int) : Key), .inl ⟨_, Sum.inl ((Na01.order n a : Nat) : Int), .inl ed, rfl, rfl⟩, ?_⟩
      refine ⟨((((Mx.ordersOf n).take i).count (Na01.order n a) : Nat) : Int), 1, val_tab tb _, rfl, ?_⟩
      have few := Mx.tab_few h1 h3 tb
      refine ⟨.ref d, rfl, N (Na01.order n a), rfl, d, _, rfl, .inl ⟨_, Sum.inl ((Na01.order n a : Nat) : Int), ed, rfl, ?_, rfl⟩, ?_⟩
      · rw [List.length_map]
        exact line (by omega)
      · refine ⟨Mx.put t (Na01.order n a) (((Mx.ordersOf n).take i).count (Na01.order n a) + 1), some (N a), some (N (Na01.order n a)), rfl, fun b o e nb => ?_, ?_, ?_⟩
        · rw [upd_ne nb]
          exact k1 b o e nb
        · rw [upd_same, ← put_ent]
          rfl
        · rw [take_more eo]
          exact tb.put _
    · obtain ⟨t, y2, y3, rfl, k1, ed, tb⟩ := hP
      have tb0 := tb
      have lo : ((Na01.units n).map N).length = (Mx.ordersOf n).length := by
        unfold Mx.ordersOf
        rw [List.length_map, List.length_map]
      rw [lo, List.take_length] at tb
      have few := Mx.tab_few h1 h3 tb0
      have smH : Same H H' := fun b o e => by
        refine k1 _ _ (sm _ _ (s0 _ _ e)) fun z => ?_
        rw [z, hd] at e
        cases e
      refine ⟨.ref d, rfl, d, t.map ent, (t.map (·.1)).map fun (k : Nat) => (k : Int), rfl, .inl ed, ?_, ?_, fun ys S perm srt hS => ?_⟩
      · rw [List.map_map, List.map_map, List.map_map]
        rfl
      · rw [List.length_map, List.length_map]
        exact few
      have ey := Mx.sorted_keys h1 tb perm srt
      subst ey
      have oe := Mx.orders_eq n
      have hk : ∀ k ∈ (List.range (n + 1)).filter (fun d => (Mx.ordersOf n).count d != 0), k ∈ Mx.ordersOf n := fun k hk => by
        have := (List.mem_filter.mp hk).2
        exact List.count_pos_iff.mp (Nat.pos_of_ne_zero (by simpa using this))
      have hlen : ((List.range (n + 1)).filter fun d => (Mx.ordersOf n).count d != 0).length ≤ 301 := Nat.le_trans (List.length_filter_le _ _) (by rw [List.length_range]; omega)
      generalize (List.range (n + 1)).filter (fun d => (Mx.ordersOf n).count d != 0) = ks at *
      have em : (ks.map fun (k : Nat) => (k : Int)).map V.int = ks.map N := by
        rw [List.map_map]
        rfl
      rw [em]
      have s2 : Same H' (upd H' S (.lst (ks.map N))) := same_upd hS
      refine ⟨S, rfl, ⟨_, .inl (.inl upd_same)⟩, fun D hD => ?_⟩
      have eS : (upd H' S (.lst (ks.map N))) S = some (.lst (ks.map N)) := upd_same
      have ed2 : (upd H' S (.lst (ks.map N))) d = some (.dK (t.map ent)) := s2 _ _ ed
      refine lc_list (xs := ks.map N) (fun i G => Same (upd H' S (.lst (ks.map N))) G ∧ Prs G D ((ks.take i).map fun k => (k, (Mx.ordersOf n).count k))) ⟨same_upd hD, Prs.nil upd_same⟩ (fun i G _ hP => .inl (.inl (hP.1 _ _ eS))) (fun i x G hx hP => ?_) (fun G hP => ?_)
      · obtain ⟨s3, as, e1, e2, e3⟩ := hP
        obtain ⟨k, ek, rfl⟩ := LN_get hx
        have kin := hk k (mem_of_get ek)
        refine ⟨rfl, ?_⟩
        refine ⟨N k, rfl, .ref d, rfl, N k, rfl, d, N ((Mx.ordersOf n).count k), rfl, .inl ⟨_, Sum.inl ((k : Nat) : Int), .inl (s3 _ _ ed2), rfl, (val_in tb kin).symm⟩, (by show 2 ≤ sizeLine; decide), fun u hu => ?_⟩
        have nDu : D ≠ u := ne_of_none e1 hu
        refine ⟨_, by rw [upd_ne nDu]; exact e1, ?_, fun b o e => ?_, ?_⟩
        · rw [List.length_map, e2, List.length_map, List.length_take]
          exact line (by omega)
        · rw [upd_ne (ne_of_none e hD)]
          exact (s3.trans (same_upd hu)) b o e
        · rw [take_more ek, List.map_append]
          exact Prs.more (x := (k, (Mx.ordersOf n).count k)) e1 e2 e3 hu
      · obtain ⟨s3, pr⟩ := hP
        rw [List.length_map, List.take_length, ← oe] at pr
        exact q G D ((smH.trans s2).trans s3) ((smH.trans s2).free hD) pr
/-- may these numbers be told to together -/
def mb (l : List Nat) : Bool := if l.length % 2 = 1 ∨ 6 < l.length then false else Mx.goodM l
theorem odds_map {α β : Type} (f : α → β) : ∀ l : List α, Mx.odds (l.map f) = (Mx.odds l).map f
  | [] => rfl
  | [_] => rfl
  | _ :: b :: r => by
    show f b :: Mx.odds (r.map f) = f b :: (Mx.odds r).map f
    rw [odds_map f r]
def sp_may_be_pairs : Sp := fun vs H Q _ => ∃ (p : Addr) (l : List Nat), vs = [.ref p] ∧ H p = some (LN l) ∧ l.length ≤ 12 ∧ ∀ H', Same H H' → Q (.bl (mb l)) H'
theorem ok_may_be_pairs (T : Txt K mg A) : FnOk P w K mg base CX0 1 A.c_may_be_pairs A.d_may_be_pairs ["pairs"] sp_may_be_pairs := by
  refine T.f_may_be_pairs.ok sc_may_be_pairs (fun vs H Q E h => ?_) (fun cdv Ar outer s H vs Q E hr h => ?_)
  · obtain ⟨p, l, rfl, _⟩ := h
    rfl
  · obtain ⟨p, l, rfl, ep, h12, q⟩ := h
    refine ⟨_, (pss_cons (ps_if (PW.pt (pw_or (pt_cmpR op_eq (pe_op op_mod (pe_callB (call_lenK (K := K) rfl) (by rfl) T.z_len PySem.boot_len (pa_cons (pv 0) pa_nil)) pe_int) pe_int (nomark _)) (pw_or1 (pt_cmpR op_gt (pe_callB (call_lenK (K := K) rfl) (by rfl) T.z_len PySem.boot_len (pa_cons (pv 0) pa_nil)) (pe_op op_mul pe_int (pe_glob (v := .int (3)) (by rfl) T.g_MOST_PAIRS ⟨_, rfl⟩)) (nomark _)))))
      (pss_one (ps_ret pe_bl))
      pss_nil)
      (pss_one (ps_ret (pe_callB (cr_all rfl) (by rfl) T.z_all (by decide +kernel) (pa_cons (pe_lc (own := [("m", 1)]) rfl sc_may_be_pairs.nd (pi_list (pe_odds (pv 0))) (blkOk_by (N := ["pairs", "m"]) (sc := defScope s_may_be_pairs) (by decide +kernel)) (fun _ _ _ _ _ => (pg_name (i := 1) sc_may_be_pairs.nd rfl (.inl rfl))) (fun _ _ _ _ _ => pts_nil) (fun _ _ _ _ _ => (pe_and (pe_cmpR op_le (pe_glob (v := .int (1)) (by rfl) T.g_LEAST_M ⟨_, rfl⟩) (pv 1) (nomark _)) (pe_one (pe_cmpR op_le (pv 1) (pe_glob (v := .int (30)) (by rfl) T.g_MOST_M ⟨_, rfl⟩) (nomark _)))))) pa_nil))))), ?_⟩
    have hL : SqL K H p (l.map N) := .inl (.inl ep)
    refine ⟨.ref p, rfl, p, _, rfl, .inl hL, ?_⟩
    rw [List.length_map]
    refine ⟨(l.length : Int), 2, rfl, rfl, (by show (0 : Int) < 2; decide), rfl, _, rfl, ite2 (fun c => ?_) (fun c => ?_)⟩
    · have c1 : l.length % 2 = 1 := N_inj (b := 1) (of_decide_eq_true c)
      have e : mb l = false := by
        unfold mb
        rw [if_pos (.inl c1)]
      rw [e] at q
      exact iteT (q _ (fun _ _ h => h))
    · have c1 : ¬ l.length % 2 = 1 := fun z => c (decide_eq_true (congrArg N z))
      refine ⟨.ref p, rfl, p, _, rfl, .inl hL, ?_⟩
      rw [List.length_map]
      refine ⟨2, 3, rfl, rfl, .inl ⟨by decide, by decide⟩, (l.length : Int), 6, rfl, rfl, _, rfl, ite2 (fun d => ?_) (fun d => ?_)⟩
      · have d1 : 6 < l.length := by
          have := of_decide_eq_true d
          omega
        have e : mb l = false := by
          unfold mb
          rw [if_pos (.inr d1)]
        rw [e] at q
        exact q _ (fun _ _ h => h)
      · have d1 : ¬ 6 < l.length := fun z => d (decide_eq_true (by omega))
        have e : mb l = Mx.goodM l := by
          unfold mb
          rw [if_neg (fun z => z.elim c1 d1)]
        rw [e] at q
        refine ⟨.ref p, rfl, p, _, rfl, hL, fun O hO => ?_⟩
        rw [odds_map]
        have s0 : Same H (upd H O (.lst ((Mx.odds l).map N))) := same_upd hO
        have eO : (upd H O (.lst ((Mx.odds l).map N))) O = some (.lst ((Mx.odds l).map N)) := upd_same
        refine ⟨O, rfl, ⟨_, .inl (.inl eO)⟩, fun D hD => ?_⟩
        refine lc_list (xs := (Mx.odds l).map N) (fun i G => Same (upd H O (.lst ((Mx.odds l).map N))) G ∧ G D = some (.lst ((((Mx.odds l).take i).map fun m => decide (1 ≤ m) && decide (m ≤ 30)).map V.bl))) ⟨same_upd hD, upd_same⟩ (fun i G _ hP => .inl (.inl (hP.1 _ _ eO))) (fun i x G hx hP => ?_) (fun G hP => ?_)
        · obtain ⟨s3, eD⟩ := hP
          obtain ⟨m, em, rfl⟩ := LN_get hx
          have fin : ∀ b : Bool, b = (decide (1 ≤ m) && decide (m ≤ 30)) → ∃ acc, G D = some (HO.lst acc) ∧ acc.length < sizeLine ∧ (Same (upd H O (.lst ((Mx.odds l).map N))) (upd G D (.lst (acc ++ [.bl b]))) ∧ (upd G D (.lst (acc ++ [.bl b]))) D = some (.lst ((((Mx.odds l).take (i + 1)).map fun m => decide (1 ≤ m) && decide (m ≤ 30)).map V.bl))) := fun b eb => by
            refine ⟨_, eD, ?_, same_trans_upd s3 hD eD, ?_⟩
            · rw [List.length_map, List.length_map, List.length_take]
              have := odds_len l
              exact line (by omega)
            · rw [upd_same, take_more em, List.map_append, List.map_append, eb]
              rfl
          refine ⟨rfl, ?_⟩
          refine ⟨N m, rfl, 1, (m : Int), rfl, rfl, _, rfl, ite2 (fun c => ?_) (fun c => ?_)⟩
          · have c2 : 1 ≤ m := by
              have := of_decide_eq_true c
              omega
            refine ⟨N m, rfl, (m : Int), 30, rfl, rfl, ?_⟩
            refine fin _ ?_
            rw [decide_eq_true c2, Bool.true_and]
            by_cases z : m ≤ 30
            · rw [decide_eq_true z, decide_eq_true (show (m : Int) ≤ 30 by omega)]
            · rw [decide_eq_false z, decide_eq_false (show ¬ (m : Int) ≤ 30 by omega)]
          · have c2 : ¬ 1 ≤ m := fun z => c (decide_eq_true (by omega))
            refine fin _ ?_
            rw [decide_eq_false c2, Bool.false_and]
        · obtain ⟨s3, eD⟩ := hP
          rw [List.length_map, List.take_length] at eD
          refine ⟨D, _, rfl, .inl (.inl eD), ?_⟩
          have eg : (((Mx.odds l).map fun m => decide (1 ≤ m) && decide (m ≤ 30)).all id) = Mx.goodM l := by
            unfold Mx.goodM
            rw [List.all_map]
            rfl
          rw [eg]
          exact q _ (s0.trans s3)
end Rp


set_option Elab.async false
set_option linter.all false
set_option maxRecDepth 100000
set_option maxHeartbeats 4000000
namespace Rp
open PySem PySem.Spec PyProof.Rows L2
open Na01 (Call)
open Ss
variable {P : Program} {w : World} {K : PySem.W.Frag} {mg : Str → Option Value} {base : Heap} {A : Ad}
def hd (c : Call) : Nat := (flat c).headD 0
def tl (c : Call) : List Nat := (flat c).tail
/-- what together is due to answer -/
def togA (l : List Nat) : List Int := match Na01.pairs l with
  | none => [-1]
  | some r => if 3 < r.length then [-1] else match Na01.together r with
    | none => [-3]
    | some x => Na01.ints [x, r.foldl (fun m x => Nat.lcm m x.2) 1]
theorem togA_no {l : List Nat} (h : mb l = false) : togA l = [-1] := by
  unfold togA
  unfold mb at h
  by_cases c : l.length % 2 = 1
  · rw [Mx.pairs_bad l (.inl c)]
  · by_cases g : Mx.goodM l = false
    · rw [Mx.pairs_bad l (.inr g)]
    · have g1 : Mx.goodM l = true := by simpa using g
      rw [Mx.pairs_good l (by omega) g1]
      show (if 3 < (Mx.prs l).length then ([-1] : List Int) else _) = _
      by_cases d : 6 < l.length
      · rw [Mx.prs_length, if_pos (by omega)]
      · rw [if_neg (fun z => z.elim c d), g1] at h
        cases h
theorem togA_yes {l : List Nat} (h : mb l = true) : l.length % 2 = 0 ∧ l.length ≤ 6 ∧ Mx.goodM l = true ∧ togA l = match Na01.together (Mx.prs l) with
    | none => [-3]
    | some x => Na01.ints [x, Mx.lcmAll (Mx.prs l)] := by
  unfold mb at h
  by_cases c : l.length % 2 = 1 ∨ 6 < l.length
  · rw [if_pos c] at h
    cases h
  · rw [if_neg c] at h
    have c1 : l.length % 2 = 0 := by omega
    have c2 : l.length ≤ 6 := by omega
    refine ⟨c1, c2, h, ?_⟩
    unfold togA
    rw [Mx.pairs_good l c1 h]
    show (if 3 < (Mx.prs l).length then ([-1] : List Int) else _) = _
    rw [Mx.prs_length, if_neg (by omega)]
    rfl
theorem rg_two {k : Nat} (h : k ≤ 6) (e : k % 2 = 0) : RgC 0 (k : Int) 2 (k / 2) := by
  have : k = 0 ∨ k = 2 ∨ k = 4 ∨ k = 6 := by omega
  rcases this with rfl | rfl | rfl | rfl <;> exact ⟨by decide, by decide, by decide, by decide⟩
def sp_answer_together : Sp := fun vs H Q _ => ∃ (p : Addr) (l : List Nat), vs = [.ref p] ∧ H p = some (LN l) ∧ l.length ≤ 12 ∧ Gives H Q (togA l)
theorem ok_answer_together (T : Txt K mg A) : FnOk P w K mg base CX0 3 A.c_answer_together A.d_answer_together ["pairs"] sp_answer_together := by
  refine T.f_answer_together.ok sc_answer_together (fun vs H Q E h => ?_) (fun cdv Ar outer s H vs Q E hr h => ?_)
  · obtain ⟨p, l, rfl, _⟩ := h
    rfl
  · obtain ⟨p, l, rfl, ep, h12, q⟩ := h
    refine ⟨_, (pss_cons (ps_if (pt_not (pt_val (pe_call (ok_may_be_pairs T) (hr.mono (by decide)) (by rfl) T.m_may_be_pairs T.f_may_be_pairs.kp T.b_may_be_pairs .nil pass0 (pa_cons (pv 0) pa_nil))))
      (pss_one (ps_ret (pe_lst (pa_cons (pe_glob (v := .int (-1)) (by rfl) T.g_NOT_ALLOWED ⟨_, rfl⟩) pa_nil))))
      pss_nil)
      (pss_cons (ps_set (i := 1) sc_answer_together.nd rfl (.inl rfl) pe_int)
      (pss_cons (ps_set (i := 2) sc_answer_together.nd rfl (.inl rfl) pe_int)
      (pss_cons (ps_for PassesOwn.never rfl (pi_range3 (by rfl) T.z_range (pa_cons pe_int (pa_cons (pe_callB (call_lenK (K := K) rfl) (by rfl) T.z_len PySem.boot_len (pa_cons (pv 0) pa_nil)) (pa_cons pe_int pa_nil)))) (pg_name (i := 3) sc_answer_together.nd rfl (.inl rfl))
      (pss_cons (ps_set (i := 4) sc_answer_together.nd rfl (.inl rfl) (pe_ix ix_list (pv 0) (pe_op op_add (pv 3) pe_int) (fun _ _ => rfl)))
      (pss_cons (ps_set (i := 1) sc_answer_together.nd rfl (.inl rfl) (pe_call (ok_least_leaving T) (hr.mono (by decide)) (by rfl) T.m_least_leaving T.f_least_leaving.kp T.b_least_leaving .nil pass0 (pa_cons (pv 1) (pa_cons (pv 2) (pa_cons (pe_ix ix_list (pv 0) (pv 3) (fun _ _ => rfl)) (pa_cons (pv 4) pa_nil))))))
      (pss_cons (ps_if (pt_cmpR op_eq (pv 1) (pe_glob (v := .int (-3)) (by rfl) T.g_NO_SUCH_NUMBER ⟨_, rfl⟩) (nomark _))
      (pss_one (ps_ret (pe_lst (pa_cons (pe_glob (v := .int (-3)) (by rfl) T.g_NO_SUCH_NUMBER ⟨_, rfl⟩) pa_nil))))
      pss_nil)
      (pss_one (ps_set (i := 2) sc_answer_together.nd rfl (.inl rfl) (pe_call (ok_common_multiple T) (hr.mono (by decide)) (by rfl) T.m_common_multiple T.f_common_multiple.kp T.b_common_multiple .nil pass0 (pa_cons (pv 2) (pa_cons (pv 4) pa_nil)))))))))
      (pss_one (ps_ret (pe_lst (pa_cons (pv 1) (pa_cons (pv 2) pa_nil))))))))), ?_⟩
    refine ⟨.ref p, rfl, p, l, rfl, ep, h12, fun H1 sm => ?_⟩
    refine ⟨_, rfl, ?_⟩
    cases hm : mb l with
    | false =>
      rw [togA_no hm] at q
      exact iteT ⟨(by show 1 ≤ sizeLine; decide), fun p hp => q _ p (sm.trans (same_upd hp)) (sm.free hp) upd_same⟩
    | true =>
      obtain ⟨l2, l6, lg, et⟩ := togA_yes hm
      refine iteF ?_
      have hL : SqL K H1 p (l.map N) := .inl (.inl (sm _ _ ep))
      refine ⟨.ref p, rfl, p, _, rfl, .inl hL, ?_⟩
      rw [List.length_map]
      refine ⟨0, (l.length : Int), 2, l.length / 2, rfl, rg_two l6 l2, ?_⟩
      refine for_rangeC (n := l.length / 2) (fun i σ H' => ∃ x y3 y4, σ = [some (.ref p), some (N x), some (N (Mx.lcmAll ((Mx.prs l).take i))), y3, y4] ∧ H' = H1 ∧ Mx.fits ((Mx.prs l).take i) x ∧ x < Mx.lcmAll ((Mx.prs l).take i))
        ⟨0, none, none, rfl, rfl, fun r hr => (by cases hr), Nat.lt_succ_self 0⟩ (fun i σ H' hi hP => ?_) (fun σ H' hP => ?_)
      · obtain ⟨x, y3, y4, rfl, rfl, fx, lx⟩ := hP
        have e0 : V.int (0 + ((i : Nat) : Int) * 2) = N (2 * i) := by
          show V.int _ = V.int _
          congr 1
          omega
        rw [e0]
        have ip : i < (Mx.prs l).length := by
          rw [Mx.prs_length]
          exact hi
        obtain ⟨⟨a, m⟩, ex⟩ : ∃ r, (Mx.prs l)[i]? = some r := ⟨_, List.getElem?_eq_getElem ip⟩
        obtain ⟨ga, gm⟩ := Mx.prs_get l i _ ex
        obtain ⟨m1, m30⟩ := Mx.prs_good l lg _ (mem_of_get ex)
        have ga : l[2 * i]? = some a := ga
        have gm : l[2 * i + 1]? = some m := gm
        have m1 : 1 ≤ m := m1
        have m30 : m ≤ 30 := m30
        have aa : atI (l.map N) ((2 * i : Nat) : Int) = some (N a) := by
          refine atI_nat ?_
          rw [List.getElem?_map, ga]
          rfl
        have am : atI (l.map N) ((2 * i + 1 : Nat) : Int) = some (N m) := by
          refine atI_nat ?_
          rw [List.getElem?_map, gm]
          rfl
        have et1 : (Mx.prs l).take (i + 1) = (Mx.prs l).take i ++ [(a, m)] := take_more ex
        rw [et1]
        have nofit : Mx.hits x (Mx.lcmAll ((Mx.prs l).take i)) a m = none → Na01.together (Mx.prs l) = none := fun hn => by
          refine Mx.together_none fun y _ fy => ?_
          refine Mx.no_pair m1 fx lx hn y ?_
          rw [← et1]
          refine Mx.fits_of_append (r := (Mx.prs l).drop (i + 1)) ?_
          rw [List.take_append_drop]
          exact fy
        have nxt : ∀ c, Mx.hits x (Mx.lcmAll ((Mx.prs l).take i)) a m = some c → Mx.fits ((Mx.prs l).take i ++ [(a, m)]) (x + c * Mx.lcmAll ((Mx.prs l).take i)) ∧ x + c * Mx.lcmAll ((Mx.prs l).take i) < Mx.lcmAll ((Mx.prs l).take i ++ [(a, m)]) := fun c hc => Mx.next_pair m1 fx lx hc
        rw [Mx.lcmAll_snoc] at *
        generalize Mx.lcmAll ((Mx.prs l).take i) = step at *
        refine ⟨.ref p, rfl, N (2 * i), rfl, ((2 * i : Nat) : Int), 1, rfl, rfl, p, _, ((2 * i : Nat) : Int) + 1, N m, rfl, rfl, hL, am, ?_⟩
        refine ⟨N x, rfl, N step, rfl, .ref p, rfl, N (2 * i), rfl, p, _, ((2 * i : Nat) : Int), N a, rfl, rfl, hL, aa, N m, rfl, x, step, a, m, rfl, m1, m30, ?_⟩
        refine ⟨.int (leastA x step a m), rfl, rfl, _, rfl, ?_⟩
        cases hh : Mx.hits x step a m with
        | none =>
          have el : leastA x step a m = -3 := by
            unfold leastA
            rw [hh]
          rw [nofit hh] at et
          have et : togA l = [-3] := et
          rw [et] at q
          rw [if_pos (decide_eq_true (by rw [el]))]
          exact ⟨(by show 1 ≤ sizeLine; decide), fun p hp => q _ p (sm.trans (same_upd hp)) (sm.free hp) upd_same⟩
        | some c =>
          have el : leastA x step a m = ((x + c * step : Nat) : Int) := by
            unfold leastA
            rw [hh]
          rw [el]
          rw [if_neg (fun z => by
            have := V.int.inj (of_decide_eq_true z)
            omega)]
          refine ⟨N step, rfl, N m, rfl, step, m, rfl, m1, by omega, ?_⟩
          exact ⟨x + c * step, some (N (2 * i)), some (N m), rfl, rfl, (nxt c hh).1, (nxt c hh).2⟩
      · obtain ⟨x, y3, y4, rfl, rfl, fx, lx⟩ := hP
        rw [← Mx.prs_length, List.take_length] at *
        rw [Mx.together_some fx lx] at et
        have et : togA l = Na01.ints [x, Mx.lcmAll (Mx.prs l)] := et
        rw [et] at q
        exact ⟨N x, rfl, N _, rfl, (by show 2 ≤ sizeLine; decide), fun p hp => q _ p (sm.trans (same_upd hp)) (sm.free hp) upd_same⟩
/-- the calls that are handed nothing -/
def about : Call → Prop
  | .units => True
  | .exponent => True
  | .generators => True
  | .factors => True
  | .parts => True
  | .orders => True
  | .product => True
  | _ => False
theorem orders_len {n : Nat} (h3 : n ≤ 300) : (Na01.orders n).length ≤ 1000 := by
  unfold Na01.orders
  refine Nat.le_trans (List.length_filter_le _ _) ?_
  rw [List.length_map, List.length_range]
  omega
theorem parts_len {n : Nat} (h1 : 1 ≤ n) (h3 : n ≤ 300) : (Na01.parts n).length ≤ 1000 := by
  rw [← Mx.parts_all h1 h3]
  refine Nat.le_trans (List.length_filter_le _ _) ?_
  rw [(Mx.chain_ok (L := (Mx.cycs n).foldl Nat.lcm 1) (Mx.dvd_fold _ 1).2 _ (Nat.le_refl _)).2]
  have := (Mx.cycs_le h3).2.2
  omega
def sp_answer_about_n : Sp := fun vs H Q _ => ∃ (c : Call) (s : Na01.St), vs = [N (hd c), N s.n] ∧ about c ∧ 1 ≤ s.n ∧ s.n ≤ 300 ∧ Gives H Q (Na01.step s c).2
theorem ok_answer_about_n (T : Txt K mg A) : FnOk P w K mg base CX0 5 A.c_answer_about_n A.d_answer_about_n ["number", "n"] sp_answer_about_n := by
  refine T.f_answer_about_n.ok sc_answer_about_n (fun vs H Q E h => ?_) (fun cdv Ar outer s H vs Q E hr h => ?_)
  · obtain ⟨c, s, rfl, _⟩ := h
    rfl
  · obtain ⟨c, st, rfl, hc, h1, h3, q⟩ := h
    refine ⟨_, (pss_cons (ps_if (pt_cmpR op_eq (pv 0) (pe_glob (v := .int (1)) (by rfl) T.g_UNITS ⟨_, rfl⟩) (nomark _))
      (pss_one (ps_ret (pe_call (ok_counted T) (hr.mono (by decide)) (by rfl) T.m_counted T.f_counted.kp T.b_counted .nil pass0 (pa_cons (pe_call (ok_units_round T) (hr.mono (by decide)) (by rfl) T.m_units_round T.f_units_round.kp T.b_units_round .nil pass0 (pa_cons (pv 1) pa_nil)) pa_nil))))
      pss_nil)
      (pss_cons (ps_if (pt_cmpR op_eq (pv 0) (pe_glob (v := .int (4)) (by rfl) T.g_EXPONENT ⟨_, rfl⟩) (nomark _))
      (pss_one (ps_ret (pe_lst (pa_cons (pe_call (ok_exponent_round T) (hr.mono (by decide)) (by rfl) T.m_exponent_round T.f_exponent_round.kp T.b_exponent_round .nil pass0 (pa_cons (pv 1) pa_nil)) pa_nil))))
      pss_nil)
      (pss_cons (ps_if (pt_cmpR op_eq (pv 0) (pe_glob (v := .int (5)) (by rfl) T.g_GENERATORS ⟨_, rfl⟩) (nomark _))
      (pss_one (ps_ret (pe_call (ok_counted T) (hr.mono (by decide)) (by rfl) T.m_counted T.f_counted.kp T.b_counted .nil pass0 (pa_cons (pe_call (ok_generators_round T) (hr.mono (by decide)) (by rfl) T.m_generators_round T.f_generators_round.kp T.b_generators_round .nil pass0 (pa_cons (pv 1) pa_nil)) pa_nil))))
      pss_nil)
      (pss_cons (ps_if (pt_cmpR op_eq (pv 0) (pe_glob (v := .int (8)) (by rfl) T.g_FACTORS ⟨_, rfl⟩) (nomark _))
      (pss_one (ps_ret (pe_call (ok_counted_pairs T) (hr.mono (by decide)) (by rfl) T.m_counted_pairs T.f_counted_pairs.kp T.b_counted_pairs .nil pass0 (pa_cons (pe_call (ok_prime_factors T) (hr.mono (by decide)) (by rfl) T.m_prime_factors T.f_prime_factors.kp T.b_prime_factors .nil pass0 (pa_cons (pv 1) pa_nil)) pa_nil))))
      pss_nil)
      (pss_cons (ps_if (pt_cmpR op_eq (pv 0) (pe_glob (v := .int (10)) (by rfl) T.g_PARTS ⟨_, rfl⟩) (nomark _))
      (pss_one (ps_ret (pe_call (ok_counted T) (hr.mono (by decide)) (by rfl) T.m_counted T.f_counted.kp T.b_counted .nil pass0 (pa_cons (pe_call (ok_parts_round T) (hr.mono (by decide)) (by rfl) T.m_parts_round T.f_parts_round.kp T.b_parts_round .nil pass0 (pa_cons (pv 1) pa_nil)) pa_nil))))
      pss_nil)
      (pss_cons (ps_if (pt_cmpR op_eq (pv 0) (pe_glob (v := .int (11)) (by rfl) T.g_ORDERS ⟨_, rfl⟩) (nomark _))
      (pss_one (ps_ret (pe_call (ok_counted_pairs T) (hr.mono (by decide)) (by rfl) T.m_counted_pairs T.f_counted_pairs.kp T.b_counted_pairs .nil pass0 (pa_cons (pe_call (ok_order_counts T) (hr.mono (by decide)) (by rfl) T.m_order_counts T.f_order_counts.kp T.b_order_counts .nil pass0 (pa_cons (pv 1) pa_nil)) pa_nil))))
      pss_nil)
      (pss_one (ps_ret (pe_lst (pa_cons (pe_call (ok_product_round T) (hr.mono (by decide)) (by rfl) T.m_product_round T.f_product_round.kp T.b_product_round .nil pass0 (pa_cons (pv 1) pa_nil)) pa_nil)))))))))), ?_⟩
    refine ⟨_, rfl, rfl, _, rfl, ?_⟩
    cases c with
    | units =>
      refine if_T (x := 1) (y := 1) rfl ?_
      refine ⟨N st.n, rfl, st.n, rfl, h3, fun H1 p1 sm np ep1 => ?_⟩
      exact ⟨p1, _, rfl, ep1, Nat.le_trans (Mx.units_length _) (by omega), fun H' p' sm' np' ep' => q H' p' (sm.trans sm') (sm.free np') ep'⟩
    | exponent =>
      refine if_F (x := 4) (y := 1) (by decide) ⟨_, rfl, rfl, _, rfl, if_T (x := 4) (y := 4) rfl ?_⟩
      refine ⟨N st.n, rfl, st.n, rfl, h1, h3, fun H' sm => ?_⟩
      exact ⟨(by show 1 ≤ sizeLine; decide), fun p' hp => q _ p' (sm.trans (same_upd hp)) (sm.free hp) upd_same⟩
    | generators =>
      refine if_F (x := 5) (y := 1) (by decide) ⟨_, rfl, rfl, _, rfl, if_F (x := 5) (y := 4) (by decide) ⟨_, rfl, rfl, _, rfl, if_T (x := 5) (y := 5) rfl ?_⟩⟩
      refine ⟨N st.n, rfl, st.n, rfl, h1, h3, fun H1 p1 sm np ep1 => ?_⟩
      refine ⟨p1, _, rfl, ep1, ?_, fun H' p' sm' np' ep' => q H' p' (sm.trans sm') (sm.free np') ep'⟩
      exact Nat.le_trans (List.length_filter_le _ _) (Nat.le_trans (Mx.units_length _) (by omega))
    | factors =>
      refine if_F (x := 8) (y := 1) (by decide) ⟨_, rfl, rfl, _, rfl, if_F (x := 8) (y := 4) (by decide) ⟨_, rfl, rfl, _, rfl, if_F (x := 8) (y := 5) (by decide) ⟨_, rfl, rfl, _, rfl, if_T (x := 8) (y := 8) rfl ?_⟩⟩⟩
      refine ⟨N st.n, rfl, st.n, rfl, h1, h3, fun H1 p1 sm np ep1 => ?_⟩
      exact ⟨p1, _, rfl, ep1, Nat.le_trans (Mx.factors_le h3).2 (by omega), fun H' p' sm' np' ep' => q H' p' (sm.trans sm') (sm.free np') ep'⟩
    | parts =>
      refine if_F (x := 10) (y := 1) (by decide) ⟨_, rfl, rfl, _, rfl, if_F (x := 10) (y := 4) (by decide) ⟨_, rfl, rfl, _, rfl, if_F (x := 10) (y := 5) (by decide) ⟨_, rfl, rfl, _, rfl, if_F (x := 10) (y := 8) (by decide) ⟨_, rfl, rfl, _, rfl, if_T (x := 10) (y := 10) rfl ?_⟩⟩⟩⟩
      refine ⟨N st.n, rfl, st.n, rfl, h1, h3, fun H1 p1 sm np ep1 => ?_⟩
      exact ⟨p1, _, rfl, ep1, parts_len h1 h3, fun H' p' sm' np' ep' => q H' p' (sm.trans sm') (sm.free np') ep'⟩
    | orders =>
      refine if_F (x := 11) (y := 1) (by decide) ⟨_, rfl, rfl, _, rfl, if_F (x := 11) (y := 4) (by decide) ⟨_, rfl, rfl, _, rfl, if_F (x := 11) (y := 5) (by decide) ⟨_, rfl, rfl, _, rfl, if_F (x := 11) (y := 8) (by decide) ⟨_, rfl, rfl, _, rfl, if_F (x := 11) (y := 10) (by decide) ⟨_, rfl, rfl, _, rfl, if_T (x := 11) (y := 11) rfl ?_⟩⟩⟩⟩⟩
      refine ⟨N st.n, rfl, st.n, rfl, h1, h3, fun H1 p1 sm np ep1 => ?_⟩
      exact ⟨p1, _, rfl, ep1, orders_len h3, fun H' p' sm' np' ep' => q H' p' (sm.trans sm') (sm.free np') ep'⟩
    | product =>
      refine if_F (x := 12) (y := 1) (by decide) ⟨_, rfl, rfl, _, rfl, if_F (x := 12) (y := 4) (by decide) ⟨_, rfl, rfl, _, rfl, if_F (x := 12) (y := 5) (by decide) ⟨_, rfl, rfl, _, rfl, if_F (x := 12) (y := 8) (by decide) ⟨_, rfl, rfl, _, rfl, if_F (x := 12) (y := 10) (by decide) ⟨_, rfl, rfl, _, rfl, if_F (x := 12) (y := 11) (by decide) ?_⟩⟩⟩⟩⟩
      refine ⟨N st.n, rfl, st.n, rfl, h1, h3, fun H' sm => ?_⟩
      exact ⟨(by show 1 ≤ sizeLine; decide), fun p' hp => q _ p' (sm.trans (same_upd hp)) (sm.free hp) upd_same⟩
    | _ => exact absurd hc (by simp [about])
end Rp


set_option Elab.async false
set_option linter.all false
set_option maxRecDepth 100000
set_option maxHeartbeats 4000000
namespace Rp
open PySem PySem.Spec PyProof.Rows L2
open Na01 (Call)
open Ss
variable {P : Program} {w : World} {K : PySem.W.Frag} {mg : Str → Option Value} {base : Heap} {A : Ad}
theorem isUnit_gcd (s : Na01.St) (a : Nat) : (Na01.isUnit s a = false) ↔ ¬ Nat.gcd a s.n = 1 := by
  unfold Na01.isUnit
  rw [Mx.gcd_mod]
  simp
def sp_answer_call : Sp := fun vs H Q _ => ∃ (c : Call) (p : Addr) (s : Na01.St), vs = [N (hd c), .ref p, N s.n] ∧ H p = some (LN (tl c)) ∧ okC c ∧ 1 ≤ s.n ∧ s.n ≤ 300 ∧ Gives H Q (Na01.step s c).2
theorem cut_one (x : Nat) (l : List Nat) : cutV ((x :: l).map N) (some 1) none = l.map N := by
  unfold cutV
  have e1 := HT.sIx_nat ((x :: l).map N).length 0 1
  have e2 : HT.sIx ((x :: l).map N).length ((x :: l).map N).length none = ((x :: l).map N).length := rfl
  rw [show (some (1 : Int)) = some ((1 : Nat) : Int) from rfl, e1, e2]
  have e3 : ((x :: l).map N).length = l.length + 1 := by rw [List.length_map]; rfl
  rw [e3, Nat.min_eq_left (by omega)]
  show (l.map N).take (l.length + 1 - 1) = l.map N
  have e4 : l.length + 1 - 1 = (l.map N).length := by rw [List.length_map]; rfl
  rw [e4, List.take_length]
theorem ok_answer_call (T : Txt K mg A) : FnOk P w K mg base CX0 6 A.c_answer_call A.d_answer_call ["number", "given", "n"] sp_answer_call := by
  refine T.f_answer_call.ok sc_answer_call (fun vs H Q E h => ?_) (fun cdv Ar outer s H vs Q E hr h => ?_)
  · obtain ⟨c, p, s, rfl, _⟩ := h
    rfl
  · obtain ⟨c, p, st, rfl, ep, hc, h1, h3, q⟩ := h
    refine ⟨_, (pss_cons (ps_if (pt_cmpR op_eq (pv 0) (pe_glob (v := .int (0)) (by rfl) T.g_ROUND ⟨_, rfl⟩) (nomark _))
      (pss_one (ps_ret (pe_call (ok_answer_round T) (hr.mono (by decide)) (by rfl) T.m_answer_round T.f_answer_round.kp T.b_answer_round .nil pass0 (pa_cons (pe_ix ix_list (pv 1) pe_int (fun _ _ => rfl)) pa_nil))))
      pss_nil)
      (pss_cons (ps_if (pt_cmpR op_eq (pv 0) (pe_glob (v := .int (2)) (by rfl) T.g_POW ⟨_, rfl⟩) (nomark _))
      (pss_one (ps_ret (pe_lst (pa_cons (pe_call (ok_power T) (hr.mono (by decide)) (by rfl) T.m_power T.f_power.kp T.b_power .nil pass0 (pa_cons (pe_ix ix_list (pv 1) pe_int (fun _ _ => rfl)) (pa_cons (pe_ix ix_list (pv 1) pe_int (fun _ _ => rfl)) (pa_cons (pv 2) pa_nil)))) pa_nil))))
      pss_nil)
      (pss_cons (ps_if (pt_cmpR op_eq (pv 0) (pe_glob (v := .int (3)) (by rfl) T.g_ORDER ⟨_, rfl⟩) (nomark _))
      (pss_one (ps_ret (pe_call (ok_answer_order T) (hr.mono (by decide)) (by rfl) T.m_answer_order T.f_answer_order.kp T.b_answer_order .nil pass0 (pa_cons (pe_ix ix_list (pv 1) pe_int (fun _ _ => rfl)) (pa_cons (pv 2) pa_nil)))))
      pss_nil)
      (pss_cons (ps_if (pt_cmpR op_eq (pv 0) (pe_glob (v := .int (6)) (by rfl) T.g_LOG ⟨_, rfl⟩) (nomark _))
      (pss_one (ps_ret (pe_call (ok_answer_log T) (hr.mono (by decide)) (by rfl) T.m_answer_log T.f_answer_log.kp T.b_answer_log .nil pass0 (pa_cons (pe_ix ix_list (pv 1) pe_int (fun _ _ => rfl)) (pa_cons (pe_ix ix_list (pv 1) pe_int (fun _ _ => rfl)) (pa_cons (pv 2) pa_nil))))))
      pss_nil)
      (pss_cons (ps_if (pt_cmpR op_eq (pv 0) (pe_glob (v := .int (7)) (by rfl) T.g_ROOTS ⟨_, rfl⟩) (nomark _))
      (pss_one (ps_ret (pe_call (ok_answer_roots T) (hr.mono (by decide)) (by rfl) T.m_answer_roots T.f_answer_roots.kp T.b_answer_roots .nil pass0 (pa_cons (pe_ix ix_list (pv 1) pe_int (fun _ _ => rfl)) (pa_cons (pe_ix ix_list (pv 1) pe_int (fun _ _ => rfl)) (pa_cons (pv 2) pa_nil))))))
      pss_nil)
      (pss_cons (ps_if (pt_cmpR op_eq (pv 0) (pe_glob (v := .int (9)) (by rfl) T.g_TOGETHER ⟨_, rfl⟩) (nomark _))
      (pss_one (ps_ret (pe_call (ok_answer_together T) (hr.mono (by decide)) (by rfl) T.m_answer_together T.f_answer_together.kp T.b_answer_together .nil pass0 (pa_cons (pe_slice sl_list (pv 1) (po_some pe_int) po_none) pa_nil))))
      pss_nil)
      (pss_cons (ps_if (pt_cmpR op_eq (pv 0) (pe_glob (v := .int (13)) (by rfl) T.g_INVERSE ⟨_, rfl⟩) (nomark _))
      (pss_one (ps_ret (pe_call (ok_answer_inverse T) (hr.mono (by decide)) (by rfl) T.m_answer_inverse T.f_answer_inverse.kp T.b_answer_inverse .nil pass0 (pa_cons (pe_ix ix_list (pv 1) pe_int (fun _ _ => rfl)) (pa_cons (pv 2) pa_nil)))))
      pss_nil)
      (pss_one (ps_ret (pe_call (ok_answer_about_n T) (hr.mono (by decide)) (by rfl) T.m_answer_about_n T.f_answer_about_n.kp T.b_answer_about_n .nil pass0 (pa_cons (pv 0) (pa_cons (pv 2) pa_nil)))))))))))), ?_⟩
    have hL : SqL K H p ((tl c).map N) := .inl (.inl ep)
    refine ⟨_, rfl, rfl, _, rfl, ?_⟩
    cases c with
    | round n =>
      refine if_T (x := 0) (y := 0) rfl ?_
      refine ⟨.ref p, rfl, p, _, _, _, rfl, rfl, hL, rfl, n, rfl, fun H' p' sm np ep' => ?_⟩
      refine q H' p' sm np (ep'.trans ?_)
      show _ = some (HO.lst ((if n = 0 ∨ 300 < n then (st, ([-1] : List Int)) else (⟨n⟩, Na01.ints [(Na01.units n).length])).2.map V.int))
      by_cases z : n = 0 ∨ 300 < n
      · rw [if_pos z, if_pos z]
      · rw [if_neg z, if_neg z]
    | pow a k =>
      refine if_F (x := 2) (y := 0) (by decide) ⟨_, rfl, rfl, _, rfl, if_T (x := 2) (y := 2) rfl ?_⟩
      refine ⟨.ref p, rfl, p, _, _, _, rfl, rfl, hL, rfl, .ref p, rfl, p, _, _, _, rfl, rfl, hL, rfl, N st.n, rfl, a, k, st.n, rfl, h1, h3, ?_⟩
      refine ⟨(by show 1 ≤ sizeLine; decide), fun p' hp => q _ p' (same_upd hp) hp ?_⟩
      rw [upd_same, ← Mx.pow_eq]
      rfl
    | order a =>
      refine if_F (x := 3) (y := 0) (by decide) ⟨_, rfl, rfl, _, rfl, if_F (x := 3) (y := 2) (by decide) ⟨_, rfl, rfl, _, rfl, if_T (x := 3) (y := 3) rfl ?_⟩⟩
      refine ⟨.ref p, rfl, p, _, _, _, rfl, rfl, hL, rfl, N st.n, rfl, a, st.n, rfl, h1, h3, fun H' p' sm np ep' => ?_⟩
      refine q H' p' sm np (ep'.trans ?_)
      show _ = some (HO.lst ((if Na01.isUnit st a = false then ([-6] : List Int) else Na01.ints [Na01.order st.n a]).map V.int))
      by_cases z : Nat.gcd a st.n = 1
      · rw [if_pos z, if_neg (fun y => (isUnit_gcd st a).mp y z)]
      · rw [if_neg z, if_pos ((isUnit_gcd st a).mpr z)]
    | log g a =>
      refine if_F (x := 6) (y := 0) (by decide) ⟨_, rfl, rfl, _, rfl, if_F (x := 6) (y := 2) (by decide) ⟨_, rfl, rfl, _, rfl, if_F (x := 6) (y := 3) (by decide) ⟨_, rfl, rfl, _, rfl, if_T (x := 6) (y := 6) rfl ?_⟩⟩⟩
      refine ⟨.ref p, rfl, p, _, _, _, rfl, rfl, hL, rfl, .ref p, rfl, p, _, _, _, rfl, rfl, hL, rfl, N st.n, rfl, g, a, st.n, rfl, h1, h3, fun H' p' sm np ep' => ?_⟩
      refine q H' p' sm np (ep'.trans ?_)
      show _ = some (HO.lst ((if Na01.isUnit st g = false ∨ Na01.isUnit st a = false then ([-6] : List Int) else match Na01.log st.n g a with | none => [-3] | some k => Na01.ints [k]).map V.int))
      by_cases z : Nat.gcd g st.n = 1 ∧ Nat.gcd a st.n = 1
      · rw [if_pos z, if_neg (fun y => by
          rcases y with y | y
          · exact (isUnit_gcd st g).mp y z.1
          · exact (isUnit_gcd st a).mp y z.2)]
        unfold logA
        cases Na01.log st.n g a <;> rfl
      · rw [if_neg z, if_pos (by
          rw [isUnit_gcd, isUnit_gcd]
          by_cases y : Nat.gcd g st.n = 1
          · exact .inr fun x => z ⟨y, x⟩
          · exact .inl y)]
    | roots k a =>
      refine if_F (x := 7) (y := 0) (by decide) ⟨_, rfl, rfl, _, rfl, if_F (x := 7) (y := 2) (by decide) ⟨_, rfl, rfl, _, rfl, if_F (x := 7) (y := 3) (by decide) ⟨_, rfl, rfl, _, rfl, if_F (x := 7) (y := 6) (by decide) ⟨_, rfl, rfl, _, rfl, if_T (x := 7) (y := 7) rfl ?_⟩⟩⟩⟩
      refine ⟨.ref p, rfl, p, _, _, _, rfl, rfl, hL, rfl, .ref p, rfl, p, _, _, _, rfl, rfl, hL, rfl, N st.n, rfl, k, a, st.n, rfl, h1, h3, fun H' p' sm np ep' => ?_⟩
      exact q H' p' sm np ep'
    | together l =>
      have hl : l.length ≤ 12 := hc.2 l rfl
      refine if_F (x := 9) (y := 0) (by decide) ⟨_, rfl, rfl, _, rfl, if_F (x := 9) (y := 2) (by decide) ⟨_, rfl, rfl, _, rfl, if_F (x := 9) (y := 3) (by decide) ⟨_, rfl, rfl, _, rfl, if_F (x := 9) (y := 6) (by decide) ⟨_, rfl, rfl, _, rfl, if_F (x := 9) (y := 7) (by decide) ⟨_, rfl, rfl, _, rfl, if_T (x := 9) (y := 9) rfl ?_⟩⟩⟩⟩⟩
      refine ⟨.ref p, rfl, _, rfl, p, _, rfl, hL, fun p2 np2 => ?_⟩
      have ecut : cutV ((tl (.together l)).map N) (some 1) none = l.map N := cut_one l.length l
      rw [ecut]
      refine ⟨p2, l, rfl, upd_same, hl, fun H' p' sm np ep' => ?_⟩
      exact q H' p' ((same_upd np2).trans sm) ((same_upd np2).free np) ep'
    | inverse a =>
      refine if_F (x := 13) (y := 0) (by decide) ⟨_, rfl, rfl, _, rfl, if_F (x := 13) (y := 2) (by decide) ⟨_, rfl, rfl, _, rfl, if_F (x := 13) (y := 3) (by decide) ⟨_, rfl, rfl, _, rfl, if_F (x := 13) (y := 6) (by decide) ⟨_, rfl, rfl, _, rfl, if_F (x := 13) (y := 7) (by decide) ⟨_, rfl, rfl, _, rfl, if_F (x := 13) (y := 9) (by decide) ⟨_, rfl, rfl, _, rfl, if_T (x := 13) (y := 13) rfl ?_⟩⟩⟩⟩⟩⟩
      refine ⟨.ref p, rfl, p, _, _, _, rfl, rfl, hL, rfl, N st.n, rfl, a, st.n, rfl, h1, h3, fun H' p' sm np ep' => ?_⟩
      refine q H' p' sm np (ep'.trans ?_)
      show _ = some (HO.lst ((if Na01.isUnit st a = false then ([-6] : List Int) else Na01.ints [invOf st.n a]).map V.int))
      by_cases z : Nat.gcd a st.n = 1
      · rw [if_pos z, if_neg (fun y => (isUnit_gcd st a).mp y z)]
      · rw [if_neg z, if_pos ((isUnit_gcd st a).mpr z)]
    | units =>
      refine if_F (x := 1) (y := 0) (by decide) ⟨_, rfl, rfl, _, rfl, if_F (x := 1) (y := 2) (by decide) ⟨_, rfl, rfl, _, rfl, if_F (x := 1) (y := 3) (by decide) ⟨_, rfl, rfl, _, rfl, if_F (x := 1) (y := 6) (by decide) ⟨_, rfl, rfl, _, rfl, if_F (x := 1) (y := 7) (by decide) ⟨_, rfl, rfl, _, rfl, if_F (x := 1) (y := 9) (by decide) ⟨_, rfl, rfl, _, rfl, if_F (x := 1) (y := 13) (by decide) ?_⟩⟩⟩⟩⟩⟩
      exact ⟨N 1, rfl, N st.n, rfl, .units, st, rfl, trivial, h1, h3, q⟩
    | exponent =>
      refine if_F (x := 4) (y := 0) (by decide) ⟨_, rfl, rfl, _, rfl, if_F (x := 4) (y := 2) (by decide) ⟨_, rfl, rfl, _, rfl, if_F (x := 4) (y := 3) (by decide) ⟨_, rfl, rfl, _, rfl, if_F (x := 4) (y := 6) (by decide) ⟨_, rfl, rfl, _, rfl, if_F (x := 4) (y := 7) (by decide) ⟨_, rfl, rfl, _, rfl, if_F (x := 4) (y := 9) (by decide) ⟨_, rfl, rfl, _, rfl, if_F (x := 4) (y := 13) (by decide) ?_⟩⟩⟩⟩⟩⟩
      exact ⟨N 4, rfl, N st.n, rfl, .exponent, st, rfl, trivial, h1, h3, q⟩
    | generators =>
      refine if_F (x := 5) (y := 0) (by decide) ⟨_, rfl, rfl, _, rfl, if_F (x := 5) (y := 2) (by decide) ⟨_, rfl, rfl, _, rfl, if_F (x := 5) (y := 3) (by decide) ⟨_, rfl, rfl, _, rfl, if_F (x := 5) (y := 6) (by decide) ⟨_, rfl, rfl, _, rfl, if_F (x := 5) (y := 7) (by decide) ⟨_, rfl, rfl, _, rfl, if_F (x := 5) (y := 9) (by decide) ⟨_, rfl, rfl, _, rfl, if_F (x := 5) (y := 13) (by decide) ?_⟩⟩⟩⟩⟩⟩
      exact ⟨N 5, rfl, N st.n, rfl, .generators, st, rfl, trivial, h1, h3, q⟩
    | factors =>
      refine if_F (x := 8) (y := 0) (by decide) ⟨_, rfl, rfl, _, rfl, if_F (x := 8) (y := 2) (by decide) ⟨_, rfl, rfl, _, rfl, if_F (x := 8) (y := 3) (by decide) ⟨_, rfl, rfl, _, rfl, if_F (x := 8) (y := 6) (by decide) ⟨_, rfl, rfl, _, rfl, if_F (x := 8) (y := 7) (by decide) ⟨_, rfl, rfl, _, rfl, if_F (x := 8) (y := 9) (by decide) ⟨_, rfl, rfl, _, rfl, if_F (x := 8) (y := 13) (by decide) ?_⟩⟩⟩⟩⟩⟩
      exact ⟨N 8, rfl, N st.n, rfl, .factors, st, rfl, trivial, h1, h3, q⟩
    | parts =>
      refine if_F (x := 10) (y := 0) (by decide) ⟨_, rfl, rfl, _, rfl, if_F (x := 10) (y := 2) (by decide) ⟨_, rfl, rfl, _, rfl, if_F (x := 10) (y := 3) (by decide) ⟨_, rfl, rfl, _, rfl, if_F (x := 10) (y := 6) (by decide) ⟨_, rfl, rfl, _, rfl, if_F (x := 10) (y := 7) (by decide) ⟨_, rfl, rfl, _, rfl, if_F (x := 10) (y := 9) (by decide) ⟨_, rfl, rfl, _, rfl, if_F (x := 10) (y := 13) (by decide) ?_⟩⟩⟩⟩⟩⟩
      exact ⟨N 10, rfl, N st.n, rfl, .parts, st, rfl, trivial, h1, h3, q⟩
    | orders =>
      refine if_F (x := 11) (y := 0) (by decide) ⟨_, rfl, rfl, _, rfl, if_F (x := 11) (y := 2) (by decide) ⟨_, rfl, rfl, _, rfl, if_F (x := 11) (y := 3) (by decide) ⟨_, rfl, rfl, _, rfl, if_F (x := 11) (y := 6) (by decide) ⟨_, rfl, rfl, _, rfl, if_F (x := 11) (y := 7) (by decide) ⟨_, rfl, rfl, _, rfl, if_F (x := 11) (y := 9) (by decide) ⟨_, rfl, rfl, _, rfl, if_F (x := 11) (y := 13) (by decide) ?_⟩⟩⟩⟩⟩⟩
      exact ⟨N 11, rfl, N st.n, rfl, .orders, st, rfl, trivial, h1, h3, q⟩
    | product =>
      refine if_F (x := 12) (y := 0) (by decide) ⟨_, rfl, rfl, _, rfl, if_F (x := 12) (y := 2) (by decide) ⟨_, rfl, rfl, _, rfl, if_F (x := 12) (y := 3) (by decide) ⟨_, rfl, rfl, _, rfl, if_F (x := 12) (y := 6) (by decide) ⟨_, rfl, rfl, _, rfl, if_F (x := 12) (y := 7) (by decide) ⟨_, rfl, rfl, _, rfl, if_F (x := 12) (y := 9) (by decide) ⟨_, rfl, rfl, _, rfl, if_F (x := 12) (y := 13) (by decide) ?_⟩⟩⟩⟩⟩⟩
      exact ⟨N 12, rfl, N st.n, rfl, .product, st, rfl, trivial, h1, h3, q⟩
def sp_n_after : Sp := fun vs H Q _ => ∃ (c : Call) (p : Addr) (s : Na01.St), vs = [N (hd c), .ref p, N s.n] ∧ H p = some (LN (tl c)) ∧ Q (N (Na01.step s c).1.n) H
theorem ok_n_after (T : Txt K mg A) : FnOk P w K mg base CX0 2 A.c_n_after A.d_n_after ["number", "given", "n"] sp_n_after := by
  refine T.f_n_after.ok sc_n_after (fun vs H Q E h => ?_) (fun cdv Ar outer s H vs Q E hr h => ?_)
  · obtain ⟨c, p, s, rfl, _⟩ := h
    rfl
  · obtain ⟨c, p, st, rfl, ep, q⟩ := h
    refine ⟨_, (pss_cons (ps_if (PW.pt (pw_and (pt_cmpR op_eq (pv 0) (pe_glob (v := .int (0)) (by rfl) T.g_ROUND ⟨_, rfl⟩) (nomark _)) (pw_and1 (pt_val (pe_call (ok_may_be_n T) (hr.mono (by decide)) (by rfl) T.m_may_be_n T.f_may_be_n.kp T.b_may_be_n .nil pass0 (pa_cons (pe_ix ix_list (pv 1) pe_int (fun _ _ => rfl)) pa_nil))))))
      (pss_one (ps_ret (pe_ix ix_list (pv 1) pe_int (fun _ _ => rfl))))
      pss_nil)
      (pss_one (ps_ret (pv 2)))), ?_⟩
    have hL : SqL K H p ((tl c).map N) := .inl (.inl ep)
    refine ⟨_, rfl, rfl, _, rfl, ?_⟩
    have other : hd c ≠ 0 → (Na01.step st c).1 = st := fun z => by
      cases c with
      | round n => exact absurd rfl z
      | _ => rfl
    by_cases hc : hd c = 0
    · have e : ∃ n, c = .round n := by
        cases c with
        | round n => exact ⟨n, rfl⟩
        | _ => exact absurd hc (by unfold hd; simp [flat])
      obtain ⟨n, rfl⟩ := e
      refine if_T (x := 0) (y := 0) rfl ?_
      refine ⟨.ref p, rfl, p, _, _, _, rfl, rfl, hL, rfl, n, rfl, _, rfl, ?_⟩
      have q2 : Q (N (if n = 0 ∨ 300 < n then (st, ([-1] : List Int)) else (⟨n⟩, Na01.ints [(Na01.units n).length])).1.n) H := q
      by_cases z : n = 0 ∨ 300 < n
      · rw [if_pos z] at q2
        rw [decide_eq_false (show ¬ (1 ≤ n ∧ n ≤ 300) by omega)]
        exact iteF ⟨_, rfl, q2⟩
      · rw [if_neg z] at q2
        rw [decide_eq_true (show (1 ≤ n ∧ n ≤ 300) by omega)]
        exact iteT ⟨.ref p, rfl, p, _, _, _, rfl, rfl, hL, rfl, q2⟩
    · rw [other hc] at q
      exact if_F hc (iteF ⟨_, rfl, q⟩)
theorem toI_V (l : List Nat) : (toI l).map V.int = l.map N := by
  unfold toI
  rw [List.map_map]
  rfl
theorem at_pre (pre suf : List Nat) (x : Nat) : atI ((pre ++ x :: suf).map N) ((pre.length : Nat) : Int) = some (N x) := by
  refine atI_nat ?_
  rw [List.getElem?_map, List.getElem?_append_right (Nat.le_refl _), Nat.sub_self]
  rfl
theorem cut_mid (pre mid suf : List Nat) (x : Nat) (i j : Int) (hi : i = ((pre.length + 1 : Nat) : Int)) (hj : j = ((pre.length + 1 + mid.length : Nat) : Int)) : cutV ((pre ++ x :: (mid ++ suf)).map N) (some i) (some j) = mid.map N := by
  subst hi hj
  unfold cutV
  have e1 := HT.sIx_nat ((pre ++ x :: (mid ++ suf)).map N).length 0 (pre.length + 1)
  have e2 := HT.sIx_nat ((pre ++ x :: (mid ++ suf)).map N).length ((pre ++ x :: (mid ++ suf)).map N).length (pre.length + 1 + mid.length)
  rw [e1, e2]
  have hl : ((pre ++ x :: (mid ++ suf)).map N).length = pre.length + 1 + mid.length + suf.length := by
    rw [List.length_map, List.length_append, List.length_cons, List.length_append]
    omega
  rw [hl, Nat.min_eq_left (by omega), Nat.min_eq_left (by omega)]
  have e3 : (pre ++ x :: (mid ++ suf)) = (pre ++ [x]) ++ (mid ++ suf) := by simp
  rw [e3, ← List.map_drop, ← List.map_take]
  have e4 : (pre ++ [x]).length = pre.length + 1 := by simp
  rw [← e4, List.drop_left]
  have e5 : (pre ++ [x]).length + mid.length - (pre ++ [x]).length = mid.length := by omega
  rw [e5, List.take_left]
theorem line16 {n : Nat} (h : n ≤ 1000040) : n < sizeLine := Nat.lt_of_le_of_lt h (by decide)
theorem lineE16 {n : Nat} (h : n ≤ 1000040) : n ≤ sizeLine := Nat.le_of_lt (line16 h)
theorem flat_hd_tl (c : Call) : flat c = hd c :: tl c := by cases c <;> rfl
/-- where a call is over -/
def sp_end_of_call (K : PySem.W.Frag) : Sp := fun vs H Q _ => ∃ (a : Addr) (pre suf : List Nat) (c : Call), vs = [.ref a, N pre.length] ∧ SqL K H a ((pre ++ hd c :: (tl c ++ suf)).map N) ∧ Q (N (pre.length + 1 + (tl c).length)) H
theorem at_next (pre suf : List Nat) (x y : Nat) : atI ((pre ++ x :: y :: suf).map N) (((pre.length + 1 : Nat)) : Int) = some (N y) := by
  have e : pre ++ x :: y :: suf = (pre ++ [x]) ++ y :: suf := by simp
  have l : pre.length + 1 = (pre ++ [x]).length := by simp
  rw [e, l]
  exact at_pre _ _ _
theorem ok_end_of_call (T : Txt K mg A) : FnOk P w K mg base CX0 1 A.c_end_of_call A.d_end_of_call ["calls", "place"] (sp_end_of_call K) := by
  refine T.f_end_of_call.ok sc_end_of_call (fun vs H Q E h => ?_) (fun cdv Ar outer s H vs Q E hr h => ?_)
  · obtain ⟨a, pre, suf, c, rfl, _⟩ := h
    rfl
  · obtain ⟨a, pre, suf, c, rfl, hA, q⟩ := h
    refine ⟨_, (pss_cons (ps_set (i := 2) sc_end_of_call.nd rfl (.inl rfl) (pe_ix ix_list (pv 0) (pv 1) (fun _ _ => rfl)))
      (pss_cons (ps_set (i := 3) sc_end_of_call.nd rfl (.inl rfl) (pe_op op_add (pe_op op_add (pv 1) pe_int) (pe_ix ix_tup (pe_glob (v := .ref A.t_GIVEN_COUNTS) (by rfl) T.g_GIVEN_COUNTS rfl) (pv 2) (fun _ _ => rfl))))
      (pss_cons (ps_if (pt_cmpR op_eq (pv 2) (pe_glob (v := .int (9)) (by rfl) T.g_TOGETHER ⟨_, rfl⟩) (nomark _))
      (pss_one (ps_ret (pe_op op_add (pv 3) (pe_ix ix_list (pv 0) (pe_op op_add (pv 1) pe_int) (fun _ _ => rfl)))))
      pss_nil)
      (pss_one (ps_ret (pv 3)))))), ?_⟩
    refine ⟨.ref a, rfl, N pre.length, rfl, a, _, ((pre.length : Nat) : Int), N (hd c), rfl, rfl, hA, at_pre _ _ _, ?_⟩
    have h14 : ∀ k : Nat, (∀ l, c = .together l → k = 1) → ((∀ l, c ≠ .together l) → k = (tl c).length) → atI (([1, 0, 2, 1, 0, 0, 2, 2, 0, 1, 0, 0, 0, 1] : List Int).map V.int) ((hd c : Nat) : Int) = some (N k) := fun k k1 k2 => by
      cases c with
      | together l =>
        rw [k1 l rfl]
        rfl
      | _ =>
        rw [k2 (fun l => by simp)]
        rfl
    by_cases ht : ∃ l, c = .together l
    · obtain ⟨l, rfl⟩ := ht
      refine ⟨N pre.length, rfl, _, _, rfl, rfl, N 9, rfl, A.t_GIVEN_COUNTS, _, 9, N 1, rfl, rfl, T.q_GIVEN_COUNTS H, h14 1 (fun _ _ => rfl) (fun z => absurd rfl (z l)), _, 1, rfl, rfl, ?_⟩
      refine ⟨N 9, rfl, rfl, _, rfl, if_T (x := 9) (y := 9) rfl ?_⟩
      refine ⟨N (pre.length + 1 + 1), rfl, .ref a, rfl, N pre.length, rfl, _, _, rfl, rfl, a, _, ((pre.length + 1 : Nat) : Int), N l.length, rfl, rfl, hA, at_next _ _ _ _, _, _, rfl, rfl, ?_⟩
      have e : pre.length + 1 + (tl (.together l)).length = pre.length + 1 + 1 + l.length := by
        show pre.length + 1 + (l.length + 1) = _
        omega
      rw [e] at q
      exact q
    · refine ⟨N pre.length, rfl, _, _, rfl, rfl, N (hd c), rfl, A.t_GIVEN_COUNTS, _, ((hd c : Nat) : Int), N (tl c).length, rfl, rfl, T.q_GIVEN_COUNTS H, h14 _ (fun l e => absurd ⟨l, e⟩ ht) (fun _ => rfl), _, _, rfl, rfl, ?_⟩
      have hne : hd c ≠ 9 := fun z => by
        cases c with
        | together l => exact ht ⟨l, rfl⟩
        | _ => exact absurd z (by unfold hd; simp [flat])
      refine ⟨N (hd c), rfl, rfl, _, rfl, if_F (x := hd c) (y := 9) hne ?_⟩
      exact ⟨_, rfl, q⟩
/-- the promise of answers -/
def spAns (K : PySem.W.Frag) : Sp := fun vs H Q _ => ∃ (a : Addr) (cs : List Call), vs = [.ref a] ∧ SqL K H a ((cs.flatMap flat).map N) ∧ (∀ c ∈ cs, okC c) ∧ cs.length ≤ 30 ∧ (play Na01.init cs).length ≤ 1000030 ∧
  ∀ (H' : Hp) (p : Addr), H' p = some (.lst ((play Na01.init cs).map V.int)) → Q (.ref p) H'
theorem ok_answers (T : Txt K mg A) : FnOk P w K mg base CX0 7 A.c_answers A.d_answers ["calls"] (spAns K) := by
  refine T.f_answers.ok sc_answers (fun vs H Q E h => ?_) (fun cdv Ar outer s H vs Q E hr h => ?_)
  · obtain ⟨a, cs, rfl, _⟩ := h
    rfl
  · obtain ⟨a, cs, rfl, hS, hok, h30, hlen, q⟩ := h
    refine ⟨_, (pss_cons (ps_set (i := 1) sc_answers.nd rfl (.inl rfl) (pe_glob (v := .int (2)) (by rfl) T.g_FIRST_N ⟨_, rfl⟩))
      (pss_cons (ps_set (i := 2) sc_answers.nd rfl (.inl rfl) (pe_lst pa_nil))
      (pss_cons (ps_set (i := 3) sc_answers.nd rfl (.inl rfl) pe_int)
      (pss_cons (ps_while PassesOwn.never (pt_cmpR op_lt (pv 3) (pe_callB (call_lenK (K := K) rfl) (by rfl) T.z_len PySem.boot_len (pa_cons (pv 0) pa_nil)) (nomark _))
      (pss_cons (ps_set (i := 4) sc_answers.nd rfl (.inl rfl) (pe_ix ix_list (pv 0) (pv 3) (fun _ _ => rfl)))
      (pss_cons (ps_set (i := 5) sc_answers.nd rfl (.inl rfl) (pe_call (ok_end_of_call T) (hr.mono (by decide)) (by rfl) T.m_end_of_call T.f_end_of_call.kp T.b_end_of_call .nil pass0 (pa_cons (pv 0) (pa_cons (pv 3) pa_nil))))
      (pss_cons (ps_set (i := 6) sc_answers.nd rfl (.inl rfl) (pe_slice sl_list (pv 0) (po_some (pe_op op_add (pv 3) pe_int)) (po_some (pv 5))))
      (pss_cons (ps_set (i := 7) sc_answers.nd rfl (.inl rfl) (pe_call (ok_answer_call T) (hr.mono (by decide)) (by rfl) T.m_answer_call T.f_answer_call.kp T.b_answer_call .nil pass0 (pa_cons (pv 4) (pa_cons (pv 6) (pa_cons (pv 1) pa_nil)))))
      (pss_cons (ps_expr (pe_bm PySem.F.plainAttrs_list PySem.F.slot_list_append PySem.F.type_list_append mt_append (pv 2) (pa_cons (pe_callB (call_lenK (K := K) rfl) (by rfl) T.z_len PySem.boot_len (pa_cons (pv 7) pa_nil)) pa_nil)))
      (pss_cons (ps_expr (pe_bm PySem.F.plainAttrs_list PySem.F.slot_list_extend PySem.F.type_list_extend mt_extend (pv 2) (pa_cons (pv 7) pa_nil)))
      (pss_cons (ps_set (i := 1) sc_answers.nd rfl (.inl rfl) (pe_call (ok_n_after T) (hr.mono (by decide)) (by rfl) T.m_n_after T.f_n_after.kp T.b_n_after .nil pass0 (pa_cons (pv 4) (pa_cons (pv 6) (pa_cons (pv 1) pa_nil)))))
      (pss_one (ps_set (i := 3) sc_answers.nd rfl (.inl rfl) (pv 5)))))))))))
      (pss_one (ps_ret (pv 2))))))), ?_⟩
    refine ⟨Nat.zero_le _, fun r nr => ?_⟩
    have s0 : Same H (upd H r (.lst [])) := same_upd nr
    refine ⟨fun m σ H' => ∃ done rest y4 y5 y6 y7, cs = done ++ rest ∧ m = rest.length ∧ σ = [some (.ref a), some (N (stAfter Na01.init done).n), some (.ref r), some (N (done.flatMap flat).length), y4, y5, y6, y7] ∧ Same H H' ∧ H' r = some (.lst ((play Na01.init done).map V.int)),
      ⟨cs.length, [], cs, none, none, none, none, rfl, rfl, rfl, s0, upd_same⟩, fun m σ H' hW => ?_⟩
    obtain ⟨done, rest, y4, y5, y6, y7, ecs, rfl, rfl, sm, er⟩ := hW
    have hA : SqL K H' a ((cs.flatMap flat).map N) := sm.seq hS
    refine ⟨_, rfl, .ref a, rfl, a, _, rfl, .inl hA, _, _, rfl, rfl, _, rfl, ite2 (fun c => ?_) (fun c => ?_)⟩
    · cases rest with
      | nil =>
        exfalso
        rw [List.append_nil] at ecs
        subst ecs
        rw [List.length_map] at c
        have := of_decide_eq_true c
        omega
      | cons c0 rest =>
        have hc0 := hok c0 (by rw [ecs]; simp)
        have hn := stAfter_n done (s := Na01.init) ⟨by decide, by decide⟩
        have efl : cs.flatMap flat = done.flatMap flat ++ hd c0 :: (tl c0 ++ rest.flatMap flat) := by
          rw [ecs, List.flatMap_append, List.flatMap_cons, flat_hd_tl]
          rfl
        have epl : play Na01.init cs = play Na01.init done ++ ((((Na01.step (stAfter Na01.init done) c0).2.length : Nat) : Int) :: (Na01.step (stAfter Na01.init done) c0).2) ++ play (Na01.step (stAfter Na01.init done) c0).1 rest := by
          rw [ecs, play_append]
          show _ ++ (_ :: (_ ++ _)) = _
          simp
        have hlen2 : (play Na01.init done).length + (1 + (Na01.step (stAfter Na01.init done) c0).2.length) ≤ 1000030 := by
          rw [epl] at hlen
          simp only [List.length_append, List.length_cons] at hlen
          omega
        generalize hst : stAfter Na01.init done = st at *
        generalize hfl : done.flatMap flat = fl at *
        refine ⟨_, fun _ _ h => h, ?_⟩
        -- number = calls[place]
        refine ⟨.ref a, rfl, N fl.length, rfl, a, _, ((fl.length : Nat) : Int), N (hd c0), rfl, rfl, hA, ?_, ?_⟩
        · rw [efl]
          exact at_pre _ _ _
        -- end = end_of_call(calls, place)
        have hA2 : SqL K H' a ((fl ++ hd c0 :: (tl c0 ++ rest.flatMap flat)).map N) := by
          rw [← efl]
          exact hA
        refine ⟨.ref a, rfl, N fl.length, rfl, a, fl, rest.flatMap flat, c0, rfl, hA2, ?_⟩
        -- given = calls[place + 1:end]
        refine ⟨.ref a, rfl, N fl.length, rfl, _, 1, rfl, rfl, _, rfl, N (fl.length + 1 + (tl c0).length), rfl, _, rfl, a, _, rfl, hA, fun pg npg => ?_⟩
        have ecut : cutV ((cs.flatMap flat).map N) (some (((fl.length : Nat) : Int) + 1)) (some ((fl.length + 1 + (tl c0).length : Nat) : Int)) = (tl c0).map N := by
          rw [efl]
          exact cut_mid _ _ _ _ _ _ rfl rfl
        rw [ecut]
        have s1 : Same H' (upd H' pg (LN (tl c0))) := same_upd npg
        have nrp : r ≠ pg := ne_of_none er npg
        -- answer = answer_call(number, given, n)
        refine ⟨N (hd c0), rfl, .ref pg, rfl, N st.n, rfl, c0, pg, st, rfl, upd_same, hc0, hn.1, hn.2, fun H2 pa s2 npa epa => ?_⟩
        have er2 : H2 r = some (.lst ((play Na01.init done).map V.int)) := s2 _ _ (s1 _ _ er)
        have nra : pa ≠ r := fun z => by
          rw [z, upd_ne nrp, er] at npa
          cases npa
        have nrg : pa ≠ pg := fun z => by
          rw [z, upd_same] at npa
          cases npa
        -- result.append(len(answer))
        refine ⟨.ref r, rfl, .inl ⟨rfl, _, .inl (.inl er2)⟩, .ref pa, rfl, pa, _, rfl, .inl (.inl (.inl epa)), r, _, _, rfl, rfl, er2, ?_, ?_⟩
        · rw [List.length_map]
          exact line16 (by omega)
        -- result.extend(answer)
        have epa3 : (upd H2 r (.lst ((play Na01.init done).map V.int ++ [.int ((((Na01.step st c0).2.map V.int).length : Nat) : Int)]))) pa = some (.lst ((Na01.step st c0).2.map V.int)) := by
          rw [upd_ne nra]
          exact epa
        refine ⟨.ref r, rfl, .inl ⟨rfl, _, .inl (.inl upd_same)⟩, .ref pa, rfl, r, pa, _, _, rfl, rfl, upd_same, epa3, ?_, ?_⟩
        · rw [List.length_append, List.length_map, List.length_map]
          exact lineE16 (by show (play Na01.init done).length + 1 + _ ≤ _; omega)
        rw [upd_upd]
        -- n = n_after(number, given, n)
        refine ⟨N (hd c0), rfl, .ref pg, rfl, N st.n, rfl, c0, pg, st, rfl, ?_, ?_⟩
        · rw [upd_ne nrp.symm]
          exact s2 _ _ upd_same
        refine ⟨N (fl.length + 1 + (tl c0).length), rfl, ?_⟩
        refine ⟨rest.length, Nat.lt_succ_self _, done ++ [c0], rest, some (N (hd c0)), some (N (fl.length + 1 + (tl c0).length)), some (.ref pg), some (.ref pa), by rw [ecs, List.append_assoc]; rfl, rfl, ?_, fun b o e => ?_, ?_⟩
        · rw [stAfter_append, hst, List.flatMap_append, hfl, List.length_append]
          have e5 : ([c0].flatMap flat).length = 1 + (tl c0).length := by
            rw [List.flatMap_cons, List.flatMap_nil, List.append_nil, flat_hd_tl, List.length_cons]
            omega
          rw [e5, ← Nat.add_assoc]
          rfl
        · rw [upd_ne (ne_of_none e nr)]
          exact s2 _ _ (s1 _ _ (sm _ _ e))
        · rw [upd_same, play_append, hst]
          show _ = some (HO.lst ((play Na01.init done ++ (_ :: (_ ++ []))).map V.int))
          rw [List.append_nil, List.map_append, List.map_cons, List.length_map, List.append_assoc]
          rfl
    · cases rest with
      | nil =>
        rw [List.append_nil] at ecs
        subst ecs
        exact ⟨_, rfl, q _ _ er⟩
      | cons c0 rest =>
        exfalso
        apply c
        apply decide_eq_true
        rw [List.length_map, ecs, List.flatMap_append, List.flatMap_cons, flat_hd_tl, List.length_append]
        simp only [List.cons_append, List.length_cons]
        omega
end Rp


set_option Elab.async false
set_option linter.all false
set_option maxRecDepth 100000
set_option maxHeartbeats 8000000
namespace Rp
open PySem PySem.Spec PyProof.Rows L2
/-- a written tuple of whole numbers -/
def tupIs (o : Obj) (ns : List Int) : Bool := decide (o.cls = .type "tuple") && match o.data with
  | .seq its _ => decide (its.toList.length ≤ 1000) && decide (its.toList.map (fun v => match v with | .int i _ => some i | _ => none) = ns.map some)
  | _ => false
theorem vals_of : ∀ (its : List Value) (ns : List Int), its.map (fun v => match v with | Value.int i _ => some i | _ => none) = ns.map some → Vals (ns.map V.int) its
  | [], [], _ => .nil
  | [], _ :: _, h => by cases h
  | _ :: _, [], h => by cases h
  | v :: r, n :: s, h => by
    rw [List.map_cons, List.map_cons] at h
    injection h with h1 h2
    refine .cons ?_ (vals_of r s h2)
    cases v with
    | int i t =>
      have e : i = n := by injection h1
      subst e
      exact ⟨t, rfl⟩
    | _ => cases h1
theorem tup_sq {K : PySem.W.Frag} (H : Hp) {a : Addr} {o : Obj} {ns : List Int} (h : K.lookup a = some o) (t : tupIs o ns = true) : SqT K H a (ns.map V.int) := by
  unfold tupIs at t
  rw [Bool.and_eq_true] at t
  obtain ⟨t1, t2⟩ := t
  cases e : o.data with
  | seq its n =>
    rw [e] at t2
    have t3 := (Bool.and_eq_true_iff.mp t2)
    refine .inr ⟨o, its, n, h, of_decide_eq_true t1, e, ?_, vals_of _ _ (of_decide_eq_true t3.2)⟩
    have := of_decide_eq_true t3.1
    rw [Array.length_toList] at this
    exact lineE (by omega)
  | _ =>
    rw [e] at t2
    cases t2
theorem txt_of {K : PySem.W.Frag} {h : Heap} {mg : Str → Option Value} (X : K.In h) (G : h.Ns mainGlobals mg)
    {f0 : Addr} {od0 an0 : Option Addr} {sl0 : Array (Option Value)} {oc0 kV0 dc0 pm0 cd0 ct0 : Value}
    {f1 : Addr} {od1 an1 : Option Addr} {sl1 : Array (Option Value)} {oc1 kV1 dc1 pm1 cd1 ct1 : Value}
    {f2 : Addr} {od2 an2 : Option Addr} {sl2 : Array (Option Value)} {oc2 kV2 dc2 pm2 cd2 ct2 : Value}
    {f3 : Addr} {od3 an3 : Option Addr} {sl3 : Array (Option Value)} {oc3 kV3 dc3 pm3 cd3 ct3 : Value}
    {f4 : Addr} {od4 an4 : Option Addr} {sl4 : Array (Option Value)} {oc4 kV4 dc4 pm4 cd4 ct4 : Value}
    {f5 : Addr} {od5 an5 : Option Addr} {sl5 : Array (Option Value)} {oc5 kV5 dc5 pm5 cd5 ct5 : Value}
    {f6 : Addr} {od6 an6 : Option Addr} {sl6 : Array (Option Value)} {oc6 kV6 dc6 pm6 cd6 ct6 : Value}
    {f7 : Addr} {od7 an7 : Option Addr} {sl7 : Array (Option Value)} {oc7 kV7 dc7 pm7 cd7 ct7 : Value}
    {f8 : Addr} {od8 an8 : Option Addr} {sl8 : Array (Option Value)} {oc8 kV8 dc8 pm8 cd8 ct8 : Value}
    {f9 : Addr} {od9 an9 : Option Addr} {sl9 : Array (Option Value)} {oc9 kV9 dc9 pm9 cd9 ct9 : Value}
    {f10 : Addr} {od10 an10 : Option Addr} {sl10 : Array (Option Value)} {oc10 kV10 dc10 pm10 cd10 ct10 : Value}
    {f11 : Addr} {od11 an11 : Option Addr} {sl11 : Array (Option Value)} {oc11 kV11 dc11 pm11 cd11 ct11 : Value}
    {f12 : Addr} {od12 an12 : Option Addr} {sl12 : Array (Option Value)} {oc12 kV12 dc12 pm12 cd12 ct12 : Value}
    {f13 : Addr} {od13 an13 : Option Addr} {sl13 : Array (Option Value)} {oc13 kV13 dc13 pm13 cd13 ct13 : Value}
    {f14 : Addr} {od14 an14 : Option Addr} {sl14 : Array (Option Value)} {oc14 kV14 dc14 pm14 cd14 ct14 : Value}
    {f15 : Addr} {od15 an15 : Option Addr} {sl15 : Array (Option Value)} {oc15 kV15 dc15 pm15 cd15 ct15 : Value}
    {f16 : Addr} {od16 an16 : Option Addr} {sl16 : Array (Option Value)} {oc16 kV16 dc16 pm16 cd16 ct16 : Value}
    {f17 : Addr} {od17 an17 : Option Addr} {sl17 : Array (Option Value)} {oc17 kV17 dc17 pm17 cd17 ct17 : Value}
    {f18 : Addr} {od18 an18 : Option Addr} {sl18 : Array (Option Value)} {oc18 kV18 dc18 pm18 cd18 ct18 : Value}
    {f19 : Addr} {od19 an19 : Option Addr} {sl19 : Array (Option Value)} {oc19 kV19 dc19 pm19 cd19 ct19 : Value}
    {f20 : Addr} {od20 an20 : Option Addr} {sl20 : Array (Option Value)} {oc20 kV20 dc20 pm20 cd20 ct20 : Value}
    {f21 : Addr} {od21 an21 : Option Addr} {sl21 : Array (Option Value)} {oc21 kV21 dc21 pm21 cd21 ct21 : Value}
    {f22 : Addr} {od22 an22 : Option Addr} {sl22 : Array (Option Value)} {oc22 kV22 dc22 pm22 cd22 ct22 : Value}
    {f23 : Addr} {od23 an23 : Option Addr} {sl23 : Array (Option Value)} {oc23 kV23 dc23 pm23 cd23 ct23 : Value}
    {f24 : Addr} {od24 an24 : Option Addr} {sl24 : Array (Option Value)} {oc24 kV24 dc24 pm24 cd24 ct24 : Value}
    {f25 : Addr} {od25 an25 : Option Addr} {sl25 : Array (Option Value)} {oc25 kV25 dc25 pm25 cd25 ct25 : Value}
    {f26 : Addr} {od26 an26 : Option Addr} {sl26 : Array (Option Value)} {oc26 kV26 dc26 pm26 cd26 ct26 : Value}
    {f27 : Addr} {od27 an27 : Option Addr} {sl27 : Array (Option Value)} {oc27 kV27 dc27 pm27 cd27 ct27 : Value}
    {f28 : Addr} {od28 an28 : Option Addr} {sl28 : Array (Option Value)} {oc28 kV28 dc28 pm28 cd28 ct28 : Value}
    {f29 : Addr} {od29 an29 : Option Addr} {sl29 : Array (Option Value)} {oc29 kV29 dc29 pm29 cd29 ct29 : Value}
    {f30 : Addr} {od30 an30 : Option Addr} {sl30 : Array (Option Value)} {oc30 kV30 dc30 pm30 cd30 ct30 : Value}
    {f31 : Addr} {od31 an31 : Option Addr} {sl31 : Array (Option Value)} {oc31 kV31 dc31 pm31 cd31 ct31 : Value}
    {f32 : Addr} {od32 an32 : Option Addr} {sl32 : Array (Option Value)} {oc32 kV32 dc32 pm32 cd32 ct32 : Value}
    {f33 : Addr} {od33 an33 : Option Addr} {sl33 : Array (Option Value)} {oc33 kV33 dc33 pm33 cd33 ct33 : Value}
    {t_FIRST_N : Tok}
    {t_LEAST_N : Tok}
    {t_MOST_N : Tok}
    {t_LEAST_M : Tok}
    {t_MOST_M : Tok}
    {t_MOST_PAIRS : Tok}
    {t_NOT_ALLOWED : Tok}
    {t_NO_SUCH_NUMBER : Tok}
    {t_NOT_A_UNIT : Tok}
    {t_ROUND : Tok}
    {t_UNITS : Tok}
    {t_POW : Tok}
    {t_ORDER : Tok}
    {t_EXPONENT : Tok}
    {t_GENERATORS : Tok}
    {t_LOG : Tok}
    {t_ROOTS : Tok}
    {t_FACTORS : Tok}
    {t_TOGETHER : Tok}
    {t_PARTS : Tok}
    {t_ORDERS : Tok}
    {t_INVERSE : Tok}
    {t_GIVEN_COUNTS : Addr} {o_GIVEN_COUNTS : Obj}
    (a0 : PySem.W.nsIn K mainGlobals "common_divisor" = some (some (.ref f0)))
    (l0 : K.lookup f0 = some ⟨oc0, od0, .func (PySem.W.fnOf "common_divisor" "common_divisor" (defArgs s_common_divisor) (defBody s_common_divisor) (defScope s_common_divisor) .none kV0 dc0 pm0 an0 cd0 ct0), sl0⟩)
    (c0 : PySem.W.codeIn K cd0 "common_divisor" = true)
    (k0 : PySem.W.keepIn K (.ref f0) = true)
    (a1 : PySem.W.nsIn K mainGlobals "common_multiple" = some (some (.ref f1)))
    (l1 : K.lookup f1 = some ⟨oc1, od1, .func (PySem.W.fnOf "common_multiple" "common_multiple" (defArgs s_common_multiple) (defBody s_common_multiple) (defScope s_common_multiple) .none kV1 dc1 pm1 an1 cd1 ct1), sl1⟩)
    (c1 : PySem.W.codeIn K cd1 "common_multiple" = true)
    (k1 : PySem.W.keepIn K (.ref f1) = true)
    (a2 : PySem.W.nsIn K mainGlobals "is_unit" = some (some (.ref f2)))
    (l2 : K.lookup f2 = some ⟨oc2, od2, .func (PySem.W.fnOf "is_unit" "is_unit" (defArgs s_is_unit) (defBody s_is_unit) (defScope s_is_unit) .none kV2 dc2 pm2 an2 cd2 ct2), sl2⟩)
    (c2 : PySem.W.codeIn K cd2 "is_unit" = true)
    (k2 : PySem.W.keepIn K (.ref f2) = true)
    (a3 : PySem.W.nsIn K mainGlobals "units_round" = some (some (.ref f3)))
    (l3 : K.lookup f3 = some ⟨oc3, od3, .func (PySem.W.fnOf "units_round" "units_round" (defArgs s_units_round) (defBody s_units_round) (defScope s_units_round) .none kV3 dc3 pm3 an3 cd3 ct3), sl3⟩)
    (c3 : PySem.W.codeIn K cd3 "units_round" = true)
    (k3 : PySem.W.keepIn K (.ref f3) = true)
    (a4 : PySem.W.nsIn K mainGlobals "one_round" = some (some (.ref f4)))
    (l4 : K.lookup f4 = some ⟨oc4, od4, .func (PySem.W.fnOf "one_round" "one_round" (defArgs s_one_round) (defBody s_one_round) (defScope s_one_round) .none kV4 dc4 pm4 an4 cd4 ct4), sl4⟩)
    (c4 : PySem.W.codeIn K cd4 "one_round" = true)
    (k4 : PySem.W.keepIn K (.ref f4) = true)
    (a5 : PySem.W.nsIn K mainGlobals "power" = some (some (.ref f5)))
    (l5 : K.lookup f5 = some ⟨oc5, od5, .func (PySem.W.fnOf "power" "power" (defArgs s_power) (defBody s_power) (defScope s_power) .none kV5 dc5 pm5 an5 cd5 ct5), sl5⟩)
    (c5 : PySem.W.codeIn K cd5 "power" = true)
    (k5 : PySem.W.keepIn K (.ref f5) = true)
    (a6 : PySem.W.nsIn K mainGlobals "order_of" = some (some (.ref f6)))
    (l6 : K.lookup f6 = some ⟨oc6, od6, .func (PySem.W.fnOf "order_of" "order_of" (defArgs s_order_of) (defBody s_order_of) (defScope s_order_of) .none kV6 dc6 pm6 an6 cd6 ct6), sl6⟩)
    (c6 : PySem.W.codeIn K cd6 "order_of" = true)
    (k6 : PySem.W.keepIn K (.ref f6) = true)
    (a7 : PySem.W.nsIn K mainGlobals "exponent_round" = some (some (.ref f7)))
    (l7 : K.lookup f7 = some ⟨oc7, od7, .func (PySem.W.fnOf "exponent_round" "exponent_round" (defArgs s_exponent_round) (defBody s_exponent_round) (defScope s_exponent_round) .none kV7 dc7 pm7 an7 cd7 ct7), sl7⟩)
    (c7 : PySem.W.codeIn K cd7 "exponent_round" = true)
    (k7 : PySem.W.keepIn K (.ref f7) = true)
    (a8 : PySem.W.nsIn K mainGlobals "generators_round" = some (some (.ref f8)))
    (l8 : K.lookup f8 = some ⟨oc8, od8, .func (PySem.W.fnOf "generators_round" "generators_round" (defArgs s_generators_round) (defBody s_generators_round) (defScope s_generators_round) .none kV8 dc8 pm8 an8 cd8 ct8), sl8⟩)
    (c8 : PySem.W.codeIn K cd8 "generators_round" = true)
    (k8 : PySem.W.keepIn K (.ref f8) = true)
    (a9 : PySem.W.nsIn K mainGlobals "log_of" = some (some (.ref f9)))
    (l9 : K.lookup f9 = some ⟨oc9, od9, .func (PySem.W.fnOf "log_of" "log_of" (defArgs s_log_of) (defBody s_log_of) (defScope s_log_of) .none kV9 dc9 pm9 an9 cd9 ct9), sl9⟩)
    (c9 : PySem.W.codeIn K cd9 "log_of" = true)
    (k9 : PySem.W.keepIn K (.ref f9) = true)
    (a10 : PySem.W.nsIn K mainGlobals "roots_round" = some (some (.ref f10)))
    (l10 : K.lookup f10 = some ⟨oc10, od10, .func (PySem.W.fnOf "roots_round" "roots_round" (defArgs s_roots_round) (defBody s_roots_round) (defScope s_roots_round) .none kV10 dc10 pm10 an10 cd10 ct10), sl10⟩)
    (c10 : PySem.W.codeIn K cd10 "roots_round" = true)
    (k10 : PySem.W.keepIn K (.ref f10) = true)
    (a11 : PySem.W.nsIn K mainGlobals "prime_factors" = some (some (.ref f11)))
    (l11 : K.lookup f11 = some ⟨oc11, od11, .func (PySem.W.fnOf "prime_factors" "prime_factors" (defArgs s_prime_factors) (defBody s_prime_factors) (defScope s_prime_factors) .none kV11 dc11 pm11 an11 cd11 ct11), sl11⟩)
    (c11 : PySem.W.codeIn K cd11 "prime_factors" = true)
    (k11 : PySem.W.keepIn K (.ref f11) = true)
    (a12 : PySem.W.nsIn K mainGlobals "cycles_round" = some (some (.ref f12)))
    (l12 : K.lookup f12 = some ⟨oc12, od12, .func (PySem.W.fnOf "cycles_round" "cycles_round" (defArgs s_cycles_round) (defBody s_cycles_round) (defScope s_cycles_round) .none kV12 dc12 pm12 an12 cd12 ct12), sl12⟩)
    (c12 : PySem.W.codeIn K cd12 "cycles_round" = true)
    (k12 : PySem.W.keepIn K (.ref f12) = true)
    (a13 : PySem.W.nsIn K mainGlobals "chained" = some (some (.ref f13)))
    (l13 : K.lookup f13 = some ⟨oc13, od13, .func (PySem.W.fnOf "chained" "chained" (defArgs s_chained) (defBody s_chained) (defScope s_chained) .none kV13 dc13 pm13 an13 cd13 ct13), sl13⟩)
    (c13 : PySem.W.codeIn K cd13 "chained" = true)
    (k13 : PySem.W.keepIn K (.ref f13) = true)
    (a14 : PySem.W.nsIn K mainGlobals "parts_round" = some (some (.ref f14)))
    (l14 : K.lookup f14 = some ⟨oc14, od14, .func (PySem.W.fnOf "parts_round" "parts_round" (defArgs s_parts_round) (defBody s_parts_round) (defScope s_parts_round) .none kV14 dc14 pm14 an14 cd14 ct14), sl14⟩)
    (c14 : PySem.W.codeIn K cd14 "parts_round" = true)
    (k14 : PySem.W.keepIn K (.ref f14) = true)
    (a15 : PySem.W.nsIn K mainGlobals "order_counts" = some (some (.ref f15)))
    (l15 : K.lookup f15 = some ⟨oc15, od15, .func (PySem.W.fnOf "order_counts" "order_counts" (defArgs s_order_counts) (defBody s_order_counts) (defScope s_order_counts) .none kV15 dc15 pm15 an15 cd15 ct15), sl15⟩)
    (c15 : PySem.W.codeIn K cd15 "order_counts" = true)
    (k15 : PySem.W.keepIn K (.ref f15) = true)
    (a16 : PySem.W.nsIn K mainGlobals "product_round" = some (some (.ref f16)))
    (l16 : K.lookup f16 = some ⟨oc16, od16, .func (PySem.W.fnOf "product_round" "product_round" (defArgs s_product_round) (defBody s_product_round) (defScope s_product_round) .none kV16 dc16 pm16 an16 cd16 ct16), sl16⟩)
    (c16 : PySem.W.codeIn K cd16 "product_round" = true)
    (k16 : PySem.W.keepIn K (.ref f16) = true)
    (a17 : PySem.W.nsIn K mainGlobals "inverse_of" = some (some (.ref f17)))
    (l17 : K.lookup f17 = some ⟨oc17, od17, .func (PySem.W.fnOf "inverse_of" "inverse_of" (defArgs s_inverse_of) (defBody s_inverse_of) (defScope s_inverse_of) .none kV17 dc17 pm17 an17 cd17 ct17), sl17⟩)
    (c17 : PySem.W.codeIn K cd17 "inverse_of" = true)
    (k17 : PySem.W.keepIn K (.ref f17) = true)
    (a18 : PySem.W.nsIn K mainGlobals "least_leaving" = some (some (.ref f18)))
    (l18 : K.lookup f18 = some ⟨oc18, od18, .func (PySem.W.fnOf "least_leaving" "least_leaving" (defArgs s_least_leaving) (defBody s_least_leaving) (defScope s_least_leaving) .none kV18 dc18 pm18 an18 cd18 ct18), sl18⟩)
    (c18 : PySem.W.codeIn K cd18 "least_leaving" = true)
    (k18 : PySem.W.keepIn K (.ref f18) = true)
    (a19 : PySem.W.nsIn K mainGlobals "may_be_pairs" = some (some (.ref f19)))
    (l19 : K.lookup f19 = some ⟨oc19, od19, .func (PySem.W.fnOf "may_be_pairs" "may_be_pairs" (defArgs s_may_be_pairs) (defBody s_may_be_pairs) (defScope s_may_be_pairs) .none kV19 dc19 pm19 an19 cd19 ct19), sl19⟩)
    (c19 : PySem.W.codeIn K cd19 "may_be_pairs" = true)
    (k19 : PySem.W.keepIn K (.ref f19) = true)
    (a20 : PySem.W.nsIn K mainGlobals "may_be_n" = some (some (.ref f20)))
    (l20 : K.lookup f20 = some ⟨oc20, od20, .func (PySem.W.fnOf "may_be_n" "may_be_n" (defArgs s_may_be_n) (defBody s_may_be_n) (defScope s_may_be_n) .none kV20 dc20 pm20 an20 cd20 ct20), sl20⟩)
    (c20 : PySem.W.codeIn K cd20 "may_be_n" = true)
    (k20 : PySem.W.keepIn K (.ref f20) = true)
    (a21 : PySem.W.nsIn K mainGlobals "counted" = some (some (.ref f21)))
    (l21 : K.lookup f21 = some ⟨oc21, od21, .func (PySem.W.fnOf "counted" "counted" (defArgs s_counted) (defBody s_counted) (defScope s_counted) .none kV21 dc21 pm21 an21 cd21 ct21), sl21⟩)
    (c21 : PySem.W.codeIn K cd21 "counted" = true)
    (k21 : PySem.W.keepIn K (.ref f21) = true)
    (a22 : PySem.W.nsIn K mainGlobals "counted_pairs" = some (some (.ref f22)))
    (l22 : K.lookup f22 = some ⟨oc22, od22, .func (PySem.W.fnOf "counted_pairs" "counted_pairs" (defArgs s_counted_pairs) (defBody s_counted_pairs) (defScope s_counted_pairs) .none kV22 dc22 pm22 an22 cd22 ct22), sl22⟩)
    (c22 : PySem.W.codeIn K cd22 "counted_pairs" = true)
    (k22 : PySem.W.keepIn K (.ref f22) = true)
    (a23 : PySem.W.nsIn K mainGlobals "answer_round" = some (some (.ref f23)))
    (l23 : K.lookup f23 = some ⟨oc23, od23, .func (PySem.W.fnOf "answer_round" "answer_round" (defArgs s_answer_round) (defBody s_answer_round) (defScope s_answer_round) .none kV23 dc23 pm23 an23 cd23 ct23), sl23⟩)
    (c23 : PySem.W.codeIn K cd23 "answer_round" = true)
    (k23 : PySem.W.keepIn K (.ref f23) = true)
    (a24 : PySem.W.nsIn K mainGlobals "answer_order" = some (some (.ref f24)))
    (l24 : K.lookup f24 = some ⟨oc24, od24, .func (PySem.W.fnOf "answer_order" "answer_order" (defArgs s_answer_order) (defBody s_answer_order) (defScope s_answer_order) .none kV24 dc24 pm24 an24 cd24 ct24), sl24⟩)
    (c24 : PySem.W.codeIn K cd24 "answer_order" = true)
    (k24 : PySem.W.keepIn K (.ref f24) = true)
    (a25 : PySem.W.nsIn K mainGlobals "answer_log" = some (some (.ref f25)))
    (l25 : K.lookup f25 = some ⟨oc25, od25, .func (PySem.W.fnOf "answer_log" "answer_log" (defArgs s_answer_log) (defBody s_answer_log) (defScope s_answer_log) .none kV25 dc25 pm25 an25 cd25 ct25), sl25⟩)
    (c25 : PySem.W.codeIn K cd25 "answer_log" = true)
    (k25 : PySem.W.keepIn K (.ref f25) = true)
    (a26 : PySem.W.nsIn K mainGlobals "answer_roots" = some (some (.ref f26)))
    (l26 : K.lookup f26 = some ⟨oc26, od26, .func (PySem.W.fnOf "answer_roots" "answer_roots" (defArgs s_answer_roots) (defBody s_answer_roots) (defScope s_answer_roots) .none kV26 dc26 pm26 an26 cd26 ct26), sl26⟩)
    (c26 : PySem.W.codeIn K cd26 "answer_roots" = true)
    (k26 : PySem.W.keepIn K (.ref f26) = true)
    (a27 : PySem.W.nsIn K mainGlobals "answer_together" = some (some (.ref f27)))
    (l27 : K.lookup f27 = some ⟨oc27, od27, .func (PySem.W.fnOf "answer_together" "answer_together" (defArgs s_answer_together) (defBody s_answer_together) (defScope s_answer_together) .none kV27 dc27 pm27 an27 cd27 ct27), sl27⟩)
    (c27 : PySem.W.codeIn K cd27 "answer_together" = true)
    (k27 : PySem.W.keepIn K (.ref f27) = true)
    (a28 : PySem.W.nsIn K mainGlobals "answer_inverse" = some (some (.ref f28)))
    (l28 : K.lookup f28 = some ⟨oc28, od28, .func (PySem.W.fnOf "answer_inverse" "answer_inverse" (defArgs s_answer_inverse) (defBody s_answer_inverse) (defScope s_answer_inverse) .none kV28 dc28 pm28 an28 cd28 ct28), sl28⟩)
    (c28 : PySem.W.codeIn K cd28 "answer_inverse" = true)
    (k28 : PySem.W.keepIn K (.ref f28) = true)
    (a29 : PySem.W.nsIn K mainGlobals "answer_about_n" = some (some (.ref f29)))
    (l29 : K.lookup f29 = some ⟨oc29, od29, .func (PySem.W.fnOf "answer_about_n" "answer_about_n" (defArgs s_answer_about_n) (defBody s_answer_about_n) (defScope s_answer_about_n) .none kV29 dc29 pm29 an29 cd29 ct29), sl29⟩)
    (c29 : PySem.W.codeIn K cd29 "answer_about_n" = true)
    (k29 : PySem.W.keepIn K (.ref f29) = true)
    (a30 : PySem.W.nsIn K mainGlobals "answer_call" = some (some (.ref f30)))
    (l30 : K.lookup f30 = some ⟨oc30, od30, .func (PySem.W.fnOf "answer_call" "answer_call" (defArgs s_answer_call) (defBody s_answer_call) (defScope s_answer_call) .none kV30 dc30 pm30 an30 cd30 ct30), sl30⟩)
    (c30 : PySem.W.codeIn K cd30 "answer_call" = true)
    (k30 : PySem.W.keepIn K (.ref f30) = true)
    (a31 : PySem.W.nsIn K mainGlobals "n_after" = some (some (.ref f31)))
    (l31 : K.lookup f31 = some ⟨oc31, od31, .func (PySem.W.fnOf "n_after" "n_after" (defArgs s_n_after) (defBody s_n_after) (defScope s_n_after) .none kV31 dc31 pm31 an31 cd31 ct31), sl31⟩)
    (c31 : PySem.W.codeIn K cd31 "n_after" = true)
    (k31 : PySem.W.keepIn K (.ref f31) = true)
    (a32 : PySem.W.nsIn K mainGlobals "end_of_call" = some (some (.ref f32)))
    (l32 : K.lookup f32 = some ⟨oc32, od32, .func (PySem.W.fnOf "end_of_call" "end_of_call" (defArgs s_end_of_call) (defBody s_end_of_call) (defScope s_end_of_call) .none kV32 dc32 pm32 an32 cd32 ct32), sl32⟩)
    (c32 : PySem.W.codeIn K cd32 "end_of_call" = true)
    (k32 : PySem.W.keepIn K (.ref f32) = true)
    (a33 : PySem.W.nsIn K mainGlobals "answers" = some (some (.ref f33)))
    (l33 : K.lookup f33 = some ⟨oc33, od33, .func (PySem.W.fnOf "answers" "answers" (defArgs s_answers) (defBody s_answers) (defScope s_answers) .none kV33 dc33 pm33 an33 cd33 ct33), sl33⟩)
    (c33 : PySem.W.codeIn K cd33 "answers" = true)
    (k33 : PySem.W.keepIn K (.ref f33) = true)
    (n_FIRST_N : PySem.W.nsIn K mainGlobals "FIRST_N" = some (some (.int (2) t_FIRST_N)))
    (n_LEAST_N : PySem.W.nsIn K mainGlobals "LEAST_N" = some (some (.int (1) t_LEAST_N)))
    (n_MOST_N : PySem.W.nsIn K mainGlobals "MOST_N" = some (some (.int (300) t_MOST_N)))
    (n_LEAST_M : PySem.W.nsIn K mainGlobals "LEAST_M" = some (some (.int (1) t_LEAST_M)))
    (n_MOST_M : PySem.W.nsIn K mainGlobals "MOST_M" = some (some (.int (30) t_MOST_M)))
    (n_MOST_PAIRS : PySem.W.nsIn K mainGlobals "MOST_PAIRS" = some (some (.int (3) t_MOST_PAIRS)))
    (n_NOT_ALLOWED : PySem.W.nsIn K mainGlobals "NOT_ALLOWED" = some (some (.int (-1) t_NOT_ALLOWED)))
    (n_NO_SUCH_NUMBER : PySem.W.nsIn K mainGlobals "NO_SUCH_NUMBER" = some (some (.int (-3) t_NO_SUCH_NUMBER)))
    (n_NOT_A_UNIT : PySem.W.nsIn K mainGlobals "NOT_A_UNIT" = some (some (.int (-6) t_NOT_A_UNIT)))
    (n_ROUND : PySem.W.nsIn K mainGlobals "ROUND" = some (some (.int (0) t_ROUND)))
    (n_UNITS : PySem.W.nsIn K mainGlobals "UNITS" = some (some (.int (1) t_UNITS)))
    (n_POW : PySem.W.nsIn K mainGlobals "POW" = some (some (.int (2) t_POW)))
    (n_ORDER : PySem.W.nsIn K mainGlobals "ORDER" = some (some (.int (3) t_ORDER)))
    (n_EXPONENT : PySem.W.nsIn K mainGlobals "EXPONENT" = some (some (.int (4) t_EXPONENT)))
    (n_GENERATORS : PySem.W.nsIn K mainGlobals "GENERATORS" = some (some (.int (5) t_GENERATORS)))
    (n_LOG : PySem.W.nsIn K mainGlobals "LOG" = some (some (.int (6) t_LOG)))
    (n_ROOTS : PySem.W.nsIn K mainGlobals "ROOTS" = some (some (.int (7) t_ROOTS)))
    (n_FACTORS : PySem.W.nsIn K mainGlobals "FACTORS" = some (some (.int (8) t_FACTORS)))
    (n_TOGETHER : PySem.W.nsIn K mainGlobals "TOGETHER" = some (some (.int (9) t_TOGETHER)))
    (n_PARTS : PySem.W.nsIn K mainGlobals "PARTS" = some (some (.int (10) t_PARTS)))
    (n_ORDERS : PySem.W.nsIn K mainGlobals "ORDERS" = some (some (.int (11) t_ORDERS)))
    (n_INVERSE : PySem.W.nsIn K mainGlobals "INVERSE" = some (some (.int (13) t_INVERSE)))
    (n_GIVEN_COUNTS : PySem.W.nsIn K mainGlobals "GIVEN_COUNTS" = some (some (.ref t_GIVEN_COUNTS)))
    (u_GIVEN_COUNTS : K.lookup t_GIVEN_COUNTS = some o_GIVEN_COUNTS)
    (v_GIVEN_COUNTS : tupIs o_GIVEN_COUNTS [1, 0, 2, 1, 0, 0, 2, 2, 0, 1, 0, 0, 0, 1] = true)
    (z_all : PySem.W.nsIn K mainGlobals "all" = some none)
    (z_len : PySem.W.nsIn K mainGlobals "len" = some none)
    (z_list : PySem.W.nsIn K mainGlobals "list" = some none)
    (z_range : PySem.W.nsIn K mainGlobals "range" = some none)
    (z_sorted : PySem.W.nsIn K mainGlobals "sorted" = some none) :
    ∃ A : Ad, Txt K mg A ∧ mg "answers" = some (.ref A.c_answers) ∧ ∀ (s : Shared) (us : List Value), us.length = (["calls"] : List Str).length → BindsTo s A.d_answers ⟨us, []⟩ ((["calls"] : List Str).zip us) := by
  have F0 := fun_mk (st := s_common_divisor) l0 c0 k0
  have F1 := fun_mk (st := s_common_multiple) l1 c1 k1
  have F2 := fun_mk (st := s_is_unit) l2 c2 k2
  have F3 := fun_mk (st := s_units_round) l3 c3 k3
  have F4 := fun_mk (st := s_one_round) l4 c4 k4
  have F5 := fun_mk (st := s_power) l5 c5 k5
  have F6 := fun_mk (st := s_order_of) l6 c6 k6
  have F7 := fun_mk (st := s_exponent_round) l7 c7 k7
  have F8 := fun_mk (st := s_generators_round) l8 c8 k8
  have F9 := fun_mk (st := s_log_of) l9 c9 k9
  have F10 := fun_mk (st := s_roots_round) l10 c10 k10
  have F11 := fun_mk (st := s_prime_factors) l11 c11 k11
  have F12 := fun_mk (st := s_cycles_round) l12 c12 k12
  have F13 := fun_mk (st := s_chained) l13 c13 k13
  have F14 := fun_mk (st := s_parts_round) l14 c14 k14
  have F15 := fun_mk (st := s_order_counts) l15 c15 k15
  have F16 := fun_mk (st := s_product_round) l16 c16 k16
  have F17 := fun_mk (st := s_inverse_of) l17 c17 k17
  have F18 := fun_mk (st := s_least_leaving) l18 c18 k18
  have F19 := fun_mk (st := s_may_be_pairs) l19 c19 k19
  have F20 := fun_mk (st := s_may_be_n) l20 c20 k20
  have F21 := fun_mk (st := s_counted) l21 c21 k21
  have F22 := fun_mk (st := s_counted_pairs) l22 c22 k22
  have F23 := fun_mk (st := s_answer_round) l23 c23 k23
  have F24 := fun_mk (st := s_answer_order) l24 c24 k24
  have F25 := fun_mk (st := s_answer_log) l25 c25 k25
  have F26 := fun_mk (st := s_answer_roots) l26 c26 k26
  have F27 := fun_mk (st := s_answer_together) l27 c27 k27
  have F28 := fun_mk (st := s_answer_inverse) l28 c28 k28
  have F29 := fun_mk (st := s_answer_about_n) l29 c29 k29
  have F30 := fun_mk (st := s_answer_call) l30 c30 k30
  have F31 := fun_mk (st := s_n_after) l31 c31 k31
  have F32 := fun_mk (st := s_end_of_call) l32 c32 k32
  have F33 := fun_mk (st := s_answers) l33 c33 k33
  exact ⟨⟨f0, _, f1, _, f2, _, f3, _, f4, _, f5, _, f6, _, f7, _, f8, _, f9, _, f10, _, f11, _, f12, _, f13, _, f14, _, f15, _, f16, _, f17, _, f18, _, f19, _, f20, _, f21, _, f22, _, f23, _, f24, _, f25, _, f26, _, f27, _, f28, _, f29, _, f30, _, f31, _, f32, _, f33, _, t_FIRST_N, t_LEAST_N, t_MOST_N, t_LEAST_M, t_MOST_M, t_MOST_PAIRS, t_NOT_ALLOWED, t_NO_SUCH_NUMBER, t_NOT_A_UNIT, t_ROUND, t_UNITS, t_POW, t_ORDER, t_EXPONENT, t_GENERATORS, t_LOG, t_ROOTS, t_FACTORS, t_TOGETHER, t_PARTS, t_ORDERS, t_INVERSE, t_GIVEN_COUNTS⟩, ⟨F0, PySem.W.mg_of X G a0, F0.binds (ps := ["a", "b"]) fun _ _ _ _ _ _ us hl => match us, hl with | [_, _], _ => rfl, F1, PySem.W.mg_of X G a1, F1.binds (ps := ["a", "b"]) fun _ _ _ _ _ _ us hl => match us, hl with | [_, _], _ => rfl, F2, PySem.W.mg_of X G a2, F2.binds (ps := ["a", "n"]) fun _ _ _ _ _ _ us hl => match us, hl with | [_, _], _ => rfl, F3, PySem.W.mg_of X G a3, F3.binds (ps := ["n"]) fun _ _ _ _ _ _ us hl => match us, hl with | [_], _ => rfl, F4, PySem.W.mg_of X G a4, F4.binds (ps := ["n"]) fun _ _ _ _ _ _ us hl => match us, hl with | [_], _ => rfl, F5, PySem.W.mg_of X G a5, F5.binds (ps := ["a", "k", "n"]) fun _ _ _ _ _ _ us hl => match us, hl with | [_, _, _], _ => rfl, F6, PySem.W.mg_of X G a6, F6.binds (ps := ["a", "n"]) fun _ _ _ _ _ _ us hl => match us, hl with | [_, _], _ => rfl, F7, PySem.W.mg_of X G a7, F7.binds (ps := ["n"]) fun _ _ _ _ _ _ us hl => match us, hl with | [_], _ => rfl, F8, PySem.W.mg_of X G a8, F8.binds (ps := ["n"]) fun _ _ _ _ _ _ us hl => match us, hl with | [_], _ => rfl, F9, PySem.W.mg_of X G a9, F9.binds (ps := ["g", "a", "n"]) fun _ _ _ _ _ _ us hl => match us, hl with | [_, _, _], _ => rfl, F10, PySem.W.mg_of X G a10, F10.binds (ps := ["k", "a", "n"]) fun _ _ _ _ _ _ us hl => match us, hl with | [_, _, _], _ => rfl, F11, PySem.W.mg_of X G a11, F11.binds (ps := ["n"]) fun _ _ _ _ _ _ us hl => match us, hl with | [_], _ => rfl, F12, PySem.W.mg_of X G a12, F12.binds (ps := ["prime", "often"]) fun _ _ _ _ _ _ us hl => match us, hl with | [_, _], _ => rfl, F13, PySem.W.mg_of X G a13, F13.binds (ps := ["orders"]) fun _ _ _ _ _ _ us hl => match us, hl with | [_], _ => rfl, F14, PySem.W.mg_of X G a14, F14.binds (ps := ["n"]) fun _ _ _ _ _ _ us hl => match us, hl with | [_], _ => rfl, F15, PySem.W.mg_of X G a15, F15.binds (ps := ["n"]) fun _ _ _ _ _ _ us hl => match us, hl with | [_], _ => rfl, F16, PySem.W.mg_of X G a16, F16.binds (ps := ["n"]) fun _ _ _ _ _ _ us hl => match us, hl with | [_], _ => rfl, F17, PySem.W.mg_of X G a17, F17.binds (ps := ["a", "n"]) fun _ _ _ _ _ _ us hl => match us, hl with | [_, _], _ => rfl, F18, PySem.W.mg_of X G a18, F18.binds (ps := ["found", "step", "a", "m"]) fun _ _ _ _ _ _ us hl => match us, hl with | [_, _, _, _], _ => rfl, F19, PySem.W.mg_of X G a19, F19.binds (ps := ["pairs"]) fun _ _ _ _ _ _ us hl => match us, hl with | [_], _ => rfl, F20, PySem.W.mg_of X G a20, F20.binds (ps := ["n"]) fun _ _ _ _ _ _ us hl => match us, hl with | [_], _ => rfl, F21, PySem.W.mg_of X G a21, F21.binds (ps := ["row"]) fun _ _ _ _ _ _ us hl => match us, hl with | [_], _ => rfl, F22, PySem.W.mg_of X G a22, F22.binds (ps := ["pairs"]) fun _ _ _ _ _ _ us hl => match us, hl with | [_], _ => rfl, F23, PySem.W.mg_of X G a23, F23.binds (ps := ["n"]) fun _ _ _ _ _ _ us hl => match us, hl with | [_], _ => rfl, F24, PySem.W.mg_of X G a24, F24.binds (ps := ["a", "n"]) fun _ _ _ _ _ _ us hl => match us, hl with | [_, _], _ => rfl, F25, PySem.W.mg_of X G a25, F25.binds (ps := ["g", "a", "n"]) fun _ _ _ _ _ _ us hl => match us, hl with | [_, _, _], _ => rfl, F26, PySem.W.mg_of X G a26, F26.binds (ps := ["k", "a", "n"]) fun _ _ _ _ _ _ us hl => match us, hl with | [_, _, _], _ => rfl, F27, PySem.W.mg_of X G a27, F27.binds (ps := ["pairs"]) fun _ _ _ _ _ _ us hl => match us, hl with | [_], _ => rfl, F28, PySem.W.mg_of X G a28, F28.binds (ps := ["a", "n"]) fun _ _ _ _ _ _ us hl => match us, hl with | [_, _], _ => rfl, F29, PySem.W.mg_of X G a29, F29.binds (ps := ["number", "n"]) fun _ _ _ _ _ _ us hl => match us, hl with | [_, _], _ => rfl, F30, PySem.W.mg_of X G a30, F30.binds (ps := ["number", "given", "n"]) fun _ _ _ _ _ _ us hl => match us, hl with | [_, _, _], _ => rfl, F31, PySem.W.mg_of X G a31, F31.binds (ps := ["number", "given", "n"]) fun _ _ _ _ _ _ us hl => match us, hl with | [_, _, _], _ => rfl, F32, PySem.W.mg_of X G a32, F32.binds (ps := ["calls", "place"]) fun _ _ _ _ _ _ us hl => match us, hl with | [_, _], _ => rfl, F33, PySem.W.mg_of X G a33, F33.binds (ps := ["calls"]) fun _ _ _ _ _ _ us hl => match us, hl with | [_], _ => rfl, PySem.W.mg_of X G n_FIRST_N, PySem.W.mg_of X G n_LEAST_N, PySem.W.mg_of X G n_MOST_N, PySem.W.mg_of X G n_LEAST_M, PySem.W.mg_of X G n_MOST_M, PySem.W.mg_of X G n_MOST_PAIRS, PySem.W.mg_of X G n_NOT_ALLOWED, PySem.W.mg_of X G n_NO_SUCH_NUMBER, PySem.W.mg_of X G n_NOT_A_UNIT, PySem.W.mg_of X G n_ROUND, PySem.W.mg_of X G n_UNITS, PySem.W.mg_of X G n_POW, PySem.W.mg_of X G n_ORDER, PySem.W.mg_of X G n_EXPONENT, PySem.W.mg_of X G n_GENERATORS, PySem.W.mg_of X G n_LOG, PySem.W.mg_of X G n_ROOTS, PySem.W.mg_of X G n_FACTORS, PySem.W.mg_of X G n_TOGETHER, PySem.W.mg_of X G n_PARTS, PySem.W.mg_of X G n_ORDERS, PySem.W.mg_of X G n_INVERSE, PySem.W.mg_of X G n_GIVEN_COUNTS, fun H => tup_sq H u_GIVEN_COUNTS v_GIVEN_COUNTS, PySem.W.mg_none_of X G z_all, PySem.W.mg_none_of X G z_len, PySem.W.mg_none_of X G z_list, PySem.W.mg_none_of X G z_range, PySem.W.mg_none_of X G z_sorted⟩, PySem.W.mg_of X G a33, fun s us hu => match us, hu with | [_], _ => .of_eq rfl⟩
end Rp


set_option Elab.async false
set_option linter.all false
set_option maxRecDepth 100000
set_option maxHeartbeats 8000000
namespace Rp
open PySem PySem.Spec PyProof.Rows L2
open PySem.W (Codec)
end Rp
open PySem PySem.W PyProof.Rows
set_option maxRecDepth 100000 in
set_option maxHeartbeats 8000000 in
theorem PySem.Challenge.cw_roundpowers_s01_answers_holds : PySem.Challenge.rw_roundpowers_s01_answers.Holds := by
  w_on; k_headS; (case hw => exact ⟨[.list [.int 1]], by decide +kernel, by decide +kernel⟩)
  k_fillS
  refine L2.walk_specK (r := PySem.Challenge.rw_roundpowers_s01_answers) (k := 7) (CX := L2.CX0) (ps := ["calls"]) (sp := Rp.spAns) (by decide +kernel) rfl rfl ⟨rfl, by decide, by decide⟩ (fun w h Y => PySem.W.kIn_of Y) ?F ?S (fun _ _ _ _ z => z)
  case F =>
    intro w mg fa h Y KX G hmg
    obtain ⟨A, T, eA, hb⟩ : ∃ A : Rp.Ad, Rp.Txt _ mg A ∧ mg "answers" = some (.ref A.c_answers) ∧ ∀ (s : Shared) (us : List Value), us.length = (["calls"] : List Str).length → BindsTo s A.d_answers ⟨us, []⟩ ((["calls"] : List Str).zip us) := by
      refine' Rp.txt_of KX G ?a0 ?l0 ?c0 ?k0 ?a1 ?l1 ?c1 ?k1 ?a2 ?l2 ?c2 ?k2 ?a3 ?l3 ?c3 ?k3 ?a4 ?l4 ?c4 ?k4 ?a5 ?l5 ?c5 ?k5 ?a6 ?l6 ?c6 ?k6 ?a7 ?l7 ?c7 ?k7 ?a8 ?l8 ?c8 ?k8 ?a9 ?l9 ?c9 ?k9 ?a10 ?l10 ?c10 ?k10 ?a11 ?l11 ?c11 ?k11 ?a12 ?l12 ?c12 ?k12 ?a13 ?l13 ?c13 ?k13 ?a14 ?l14 ?c14 ?k14 ?a15 ?l15 ?c15 ?k15 ?a16 ?l16 ?c16 ?k16 ?a17 ?l17 ?c17 ?k17 ?a18 ?l18 ?c18 ?k18 ?a19 ?l19 ?c19 ?k19 ?a20 ?l20 ?c20 ?k20 ?a21 ?l21 ?c21 ?k21 ?a22 ?l22 ?c22 ?k22 ?a23 ?l23 ?c23 ?k23 ?a24 ?l24 ?c24 ?k24 ?a25 ?l25 ?c25 ?k25 ?a26 ?l26 ?c26 ?k26 ?a27 ?l27 ?c27 ?k27 ?a28 ?l28 ?c28 ?k28 ?a29 ?l29 ?c29 ?k29 ?a30 ?l30 ?c30 ?k30 ?a31 ?l31 ?c31 ?k31 ?a32 ?l32 ?c32 ?k32 ?a33 ?l33 ?c33 ?k33 ?n_FIRST_N ?n_LEAST_N ?n_MOST_N ?n_LEAST_M ?n_MOST_M ?n_MOST_PAIRS ?n_NOT_ALLOWED ?n_NO_SUCH_NUMBER ?n_NOT_A_UNIT ?n_ROUND ?n_UNITS ?n_POW ?n_ORDER ?n_EXPONENT ?n_GENERATORS ?n_LOG ?n_ROOTS ?n_FACTORS ?n_TOGETHER ?n_PARTS ?n_ORDERS ?n_INVERSE ?n_GIVEN_COUNTS ?u_GIVEN_COUNTS ?v_GIVEN_COUNTS ?z_all ?z_len ?z_list ?z_range ?z_sorted
      (case a0 => k_is)
      (case l0 => k_is)
      (case c0 => k_is)
      (case k0 => k_is)
      (case a1 => k_is)
      (case l1 => k_is)
      (case c1 => k_is)
      (case k1 => k_is)
      (case a2 => k_is)
      (case l2 => k_is)
      (case c2 => k_is)
      (case k2 => k_is)
      (case a3 => k_is)
      (case l3 => k_is)
      (case c3 => k_is)
      (case k3 => k_is)
      (case a4 => k_is)
      (case l4 => k_is)
      (case c4 => k_is)
      (case k4 => k_is)
      (case a5 => k_is)
      (case l5 => k_is)
      (case c5 => k_is)
      (case k5 => k_is)
      (case a6 => k_is)
      (case l6 => k_is)
      (case c6 => k_is)
      (case k6 => k_is)
      (case a7 => k_is)
      (case l7 => k_is)
      (case c7 => k_is)
      (case k7 => k_is)
      (case a8 => k_is)
      (case l8 => k_is)
      (case c8 => k_is)
      (case k8 => k_is)
      (case a9 => k_is)
      (case l9 => k_is)
      (case c9 => k_is)
      (case k9 => k_is)
      (case a10 => k_is)
      (case l10 => k_is)
      (case c10 => k_is)
      (case k10 => k_is)
      (case a11 => k_is)
      (case l11 => k_is)
      (case c11 => k_is)
      (case k11 => k_is)
      (case a12 => k_is)
      (case l12 => k_is)
      (case c12 => k_is)
      (case k12 => k_is)
      (case a13 => k_is)
      (case l13 => k_is)
      (case c13 => k_is)
      (case k13 => k_is)
      (case a14 => k_is)
      (case l14 => k_is)
      (case c14 => k_is)
      (case k14 => k_is)
      (case a15 => k_is)
      (case l15 => k_is)
      (case c15 => k_is)
      (case k15 => k_is)
      (case a16 => k_is)
      (case l16 => k_is)
      (case c16 => k_is)
      (case k16 => k_is)
      (case a17 => k_is)
      (case l17 => k_is)
      (case c17 => k_is)
      (case k17 => k_is)
      (case a18 => k_is)
      (case l18 => k_is)
      (case c18 => k_is)
      (case k18 => k_is)
      (case a19 => k_is)
      (case l19 => k_is)
      (case c19 => k_is)
      (case k19 => k_is)
      (case a20 => k_is)
      (case l20 => k_is)
      (case c20 => k_is)
      (case k20 => k_is)
      (case a21 => k_is)
      (case l21 => k_is)
      (case c21 => k_is)
      (case k21 => k_is)
      (case a22 => k_is)
      (case l22 => k_is)
      (case c22 => k_is)
      (case k22 => k_is)
      (case a23 => k_is)
      (case l23 => k_is)
      (case c23 => k_is)
      (case k23 => k_is)
      (case a24 => k_is)
      (case l24 => k_is)
      (case c24 => k_is)
      (case k24 => k_is)
      (case a25 => k_is)
      (case l25 => k_is)
      (case c25 => k_is)
      (case k25 => k_is)
      (case a26 => k_is)
      (case l26 => k_is)
      (case c26 => k_is)
      (case k26 => k_is)
      (case a27 => k_is)
      (case l27 => k_is)
      (case c27 => k_is)
      (case k27 => k_is)
      (case a28 => k_is)
      (case l28 => k_is)
      (case c28 => k_is)
      (case k28 => k_is)
      (case a29 => k_is)
      (case l29 => k_is)
      (case c29 => k_is)
      (case k29 => k_is)
      (case a30 => k_is)
      (case l30 => k_is)
      (case c30 => k_is)
      (case k30 => k_is)
      (case a31 => k_is)
      (case l31 => k_is)
      (case c31 => k_is)
      (case k31 => k_is)
      (case a32 => k_is)
      (case l32 => k_is)
      (case c32 => k_is)
      (case k32 => k_is)
      (case a33 => k_is)
      (case l33 => k_is)
      (case c33 => k_is)
      (case k33 => k_is)
      (case n_FIRST_N => k_is)
      (case n_LEAST_N => k_is)
      (case n_MOST_N => k_is)
      (case n_LEAST_M => k_is)
      (case n_MOST_M => k_is)
      (case n_MOST_PAIRS => k_is)
      (case n_NOT_ALLOWED => k_is)
      (case n_NO_SUCH_NUMBER => k_is)
      (case n_NOT_A_UNIT => k_is)
      (case n_ROUND => k_is)
      (case n_UNITS => k_is)
      (case n_POW => k_is)
      (case n_ORDER => k_is)
      (case n_EXPONENT => k_is)
      (case n_GENERATORS => k_is)
      (case n_LOG => k_is)
      (case n_ROOTS => k_is)
      (case n_FACTORS => k_is)
      (case n_TOGETHER => k_is)
      (case n_PARTS => k_is)
      (case n_ORDERS => k_is)
      (case n_INVERSE => k_is)
      (case n_GIVEN_COUNTS => k_is)
      (case u_GIVEN_COUNTS => k_is)
      (case v_GIVEN_COUNTS => decide +kernel)
      (case z_all => k_is)
      (case z_len => k_is)
      (case z_list => k_is)
      (case z_range => k_is)
      (case z_sorted => k_is)
    have e := hmg.symm.trans eA
    cases e
    exact ⟨A.d_answers, hb, fun base _ _ => Rp.ok_answers T⟩
  case S =>
    intro K H xs a hO hwi hask hx
    cases hx with
    | cons h1 h2 =>
      cases h2
      cases h1 with
      | lst hs ha =>
        have e := L2.ints_dw a.1 _ ha
        subst e
        obtain ⟨cs, el, hok, h30, ea, hlen⟩ := Ss.asked hask
        refine ⟨_, cs, rfl, ?_, hok, h30, hlen, fun H' p hp => ?_⟩
        · rw [← Rp.toI_V, ← el]
          exact hs
        · have hp2 : H' p = some (.lst ((PyNa01.answers a.1).map L2.V.int)) := by
            rw [ea]
            exact hp
          exact .lst (L2.SqL.of hp2) (L2.dw_ints _)

