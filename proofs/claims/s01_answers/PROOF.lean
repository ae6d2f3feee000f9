import PyProof.Rows.All
import Wide.All
import OpenK.AllK
import Wide.FinOn
import Open.SpecLaws
import KE.OsGo
import HandS.ForSpec
import HandS.ForMost
import HandS.Flow
import HandS.ForDict
import HandS.Conv
import HandS.Codes
import HandS.Rev
import PySem.Challenge.RW_foldedline_s01_answers
set_option Elab.async false
set_option maxRecDepth 100000
set_option maxHeartbeats 4000000
set_option linter.all false
namespace Fl
open Su183

/-! ## Fractions -/
theorem gcd_pos' {p : Int} {q : Nat} (h : 0 < q) : 0 < Nat.gcd p.natAbs q := Nat.gcd_pos_of_pos_right _ h

theorem red_mul {d : Nat} (hd : 0 < d) (a : Int) (b : Nat) : red ((d : Int) * a) (d * b) = red a b := by
  unfold red
  have e : Nat.gcd ((d : Int) * a).natAbs (d * b) = d * Nat.gcd a.natAbs b := by
    rw [Int.natAbs_mul, Int.natAbs_natCast, Nat.gcd_mul_left]
  rw [e]
  refine Prod.ext ?_ ?_
  · show (d : Int) * a / ((d * Nat.gcd a.natAbs b : Nat) : Int) = a / (Nat.gcd a.natAbs b : Int)
    rw [Int.natCast_mul]
    exact Int.mul_ediv_mul_of_pos _ _ (by omega)
  · show d * b / (d * Nat.gcd a.natAbs b) = b / Nat.gcd a.natAbs b
    exact Nat.mul_div_mul_left _ _ hd

theorem red_spec (p : Int) {q : Nat} (hq : 0 < q) : ∃ d : Nat, 0 < d ∧ p = (d : Int) * (red p q).1 ∧ q = d * (red p q).2 ∧ 0 < (red p q).2 ∧ Nat.gcd (red p q).1.natAbs (red p q).2 = 1 := by
  have hg := gcd_pos' (p := p) hq
  refine ⟨Nat.gcd p.natAbs q, hg, ?_, ?_, ?_, ?_⟩
  · show p = (Nat.gcd p.natAbs q : Int) * (p / (Nat.gcd p.natAbs q : Int))
    rw [Int.mul_ediv_cancel']
    exact Int.ofNat_dvd_left.mpr (Nat.gcd_dvd_left _ _)
  · show q = Nat.gcd p.natAbs q * (q / Nat.gcd p.natAbs q)
    rw [Nat.mul_div_cancel' (Nat.gcd_dvd_right _ _)]
  · show 0 < q / Nat.gcd p.natAbs q
    exact Nat.div_pos (Nat.le_of_dvd hq (Nat.gcd_dvd_right _ _)) hg
  · show Nat.gcd (p / (Nat.gcd p.natAbs q : Int)).natAbs (q / Nat.gcd p.natAbs q) = 1
    have : (p / (Nat.gcd p.natAbs q : Int)).natAbs = p.natAbs / Nat.gcd p.natAbs q := by
      rw [Int.natAbs_ediv_of_dvd (Int.ofNat_dvd_left.mpr (Nat.gcd_dvd_left _ _)), Int.natAbs_natCast]
    rw [this]
    exact Nat.gcd_div_gcd_div_gcd_of_pos_right hq

theorem red_den_pos (p : Int) {q : Nat} (hq : 0 < q) : 0 < (red p q).2 := (red_spec p hq).choose_spec.2.2.2.1

/-- two reduced fractions of the same value are the same -/
theorem red_cross {p p' : Int} {q q' : Nat} (hq : 0 < q) (hq' : 0 < q') (h : p * (q' : Int) = p' * (q : Int)) : red p q = red p' q' := by
  have e1 : red p q = red ((q' : Int) * p) (q' * q) := (red_mul hq' p q).symm
  have e2 : red p' q' = red ((q : Int) * p') (q * q') := (red_mul hq p' q').symm
  rw [e1, e2, Nat.mul_comm q' q, Int.mul_comm (q' : Int) p, h, Int.mul_comm p']

theorem cross_red {p p' : Int} {q q' : Nat} (hq : 0 < q) (hq' : 0 < q') (h : red p q = red p' q') : p * (q' : Int) = p' * (q : Int) := by
  obtain ⟨d, hd, e1, e2, _, _⟩ := red_spec p hq
  obtain ⟨d', hd', e1', e2', _, _⟩ := red_spec p' hq'
  rw [← h] at e1' e2'
  have : (q : Int) = (d : Int) * ((red p q).2 : Int) := by exact_mod_cast e2
  have h2 : (q' : Int) = (d' : Int) * ((red p q).2 : Int) := by exact_mod_cast e2'
  generalize (red p q).1 = a at *
  generalize ((red p q).2 : Int) = b at *
  rw [e1, e1', this, h2]
  grind

theorem red_eq_iff {p p' : Int} {q q' : Nat} (hq : 0 < q) (hq' : 0 < q') : red p q = red p' q' ↔ p * (q' : Int) = p' * (q : Int) :=
  ⟨cross_red hq hq', red_cross hq hq'⟩

theorem red_inj {p p' : Int} {q : Nat} (hq : 0 < q) : red p q = red p' q ↔ p = p' := by
  rw [red_eq_iff hq hq]
  exact ⟨fun h => Int.eq_of_mul_eq_mul_right (by omega) h, fun h => by rw [h]⟩

theorem lt_red {p p' : Int} {q q' : Nat} (hq : 0 < q) (hq' : 0 < q') : lt (red p q) (red p' q') = decide (p * (q' : Int) < p' * (q : Int)) := by
  unfold lt
  obtain ⟨d, hd, e1, e2, _, _⟩ := red_spec p hq
  obtain ⟨d', hd', e1', e2', _, _⟩ := red_spec p' hq'
  have h1 : (q : Int) = (d : Int) * ((red p q).2 : Int) := by exact_mod_cast e2
  have h2 : (q' : Int) = (d' : Int) * ((red p' q').2 : Int) := by exact_mod_cast e2'
  generalize (red p q).1 = a at *
  generalize ((red p q).2 : Int) = b at *
  generalize (red p' q').1 = a' at *
  generalize ((red p' q').2 : Int) = b' at *
  rw [e1, e1', h1, h2]
  have e : (d : Int) * a * ((d' : Int) * b') = ((d : Int) * (d' : Int)) * (a * b') := by grind
  have e' : (d' : Int) * a' * ((d : Int) * b) = ((d : Int) * (d' : Int)) * (a' * b) := by grind
  rw [e, e']
  have hp : (0 : Int) < (d : Int) * (d' : Int) := Int.mul_pos (by omega) (by omega)
  exact decide_eq_decide.mpr ⟨fun h => Int.mul_lt_mul_of_pos_left h hp, fun h => Int.lt_of_mul_lt_mul_left h (Int.le_of_lt hp)⟩

theorem ofNat_red (n : Nat) : ofNat n = red (n : Int) 1 := by
  unfold ofNat red
  simp [Nat.gcd_one_right]

/-! ## Lines -/
structure WF (g : Abs) : Prop where
  len : g.to.length = g.n + 1
  all : ∀ v ∈ g.to, v ≤ g.n
  pos : 1 ≤ g.n
  six : g.n ≤ 6

theorem WF.point {g : Abs} (w : WF g) (i : Nat) : g.point i ≤ g.n := by
  unfold Abs.point
  rw [List.getD_eq_getElem?_getD]
  cases h : g.to[i]? with
  | none => simp
  | some v => exact w.all v (List.mem_of_getElem? h)

/-- where p q-ths are put, in q-ths -/
def mv (g : Abs) (q : Nat) (p : Int) : Int := (g.point (p / (q : Int)).toNat : Int) * (q : Int) + g.slope (p / (q : Int)).toNat * (p % (q : Int))

def On (g : Abs) (q : Nat) (p : Int) : Prop := 0 ≤ p ∧ p ≤ (g.n : Int) * (q : Int)

theorem mv_on {g : Abs} (w : WF g) {q : Nat} (hq : 0 < q) (p : Int) : On g q (mv g q p) := by
  unfold mv On Abs.slope
  have h0 := Int.emod_nonneg p (b := (q : Int)) (by omega)
  have h1 := Int.emod_lt_of_pos p (b := (q : Int)) (by omega)
  generalize p % (q : Int) = r at *
  generalize (p / (q : Int)).toNat = i at *
  have ha := w.point i
  have hb := w.point (i + 1)
  generalize g.point i = a at *
  generalize g.point (i + 1) = b at *
  have e : (a : Int) * (q : Int) + ((b : Int) - (a : Int)) * r = (a : Int) * ((q : Int) - r) + (b : Int) * r := by grind
  rw [e]
  constructor
  · exact Int.add_nonneg (Int.mul_nonneg (by omega) (by omega)) (Int.mul_nonneg (by omega) h0)
  · have e2 : (g.n : Int) * (q : Int) = (g.n : Int) * ((q : Int) - r) + (g.n : Int) * r := by grind
    rw [e2]
    exact Int.add_le_add (Int.mul_le_mul_of_nonneg_right (by omega) (by omega)) (Int.mul_le_mul_of_nonneg_right (by omega) h0)

theorem piece_of {g : Abs} (w : WF g) {q : Nat} (hq : 0 < q) {p : Int} (h : On g q p) : g.pieceOf (red p q) = min (g.n - 1) (p / (q : Int)).toNat := by
  unfold Abs.pieceOf
  obtain ⟨d, hd, e1, e2, _, _⟩ := red_spec p hq
  have h2 : (q : Int) = (d : Int) * ((red p q).2 : Int) := by exact_mod_cast e2
  have : p / (q : Int) = (red p q).1 / ((red p q).2 : Int) := by
    generalize (red p q).1 = a at *
    generalize ((red p q).2 : Int) = b at *
    rw [e1, h2]
    exact Int.mul_ediv_mul_of_pos _ _ (by omega)
  rw [this]

theorem put_red {g : Abs} (w : WF g) {q : Nat} (hq : 0 < q) {p : Int} (h : On g q p) : g.put (red p q) = red (mv g q p) q := by
  unfold Abs.put
  rw [piece_of w hq h]
  obtain ⟨d, hd, e1, e2, hb0, _⟩ := red_spec p hq
  have h2 : (q : Int) = (d : Int) * ((red p q).2 : Int) := by exact_mod_cast e2
  have key : mv g q p = (d : Int) * ((g.point (min (g.n - 1) (p / (q : Int)).toNat) : Int) * ((red p q).2 : Int) + g.slope (min (g.n - 1) (p / (q : Int)).toNat) * ((red p q).1 - ((min (g.n - 1) (p / (q : Int)).toNat : Nat) : Int) * ((red p q).2 : Int))) := by
    have hdiv := Int.mul_ediv_add_emod p (q : Int)
    have hr0 := Int.emod_nonneg p (b := (q : Int)) (by omega)
    have hr1 := Int.emod_lt_of_pos p (b := (q : Int)) (by omega)
    have hd0 : 0 ≤ p / (q : Int) := Int.ediv_nonneg h.1 (by omega)
    by_cases c : p / (q : Int) < (g.n : Int)
    · have e : min (g.n - 1) (p / (q : Int)).toNat = (p / (q : Int)).toNat := by omega
      rw [e]
      unfold mv
      have e3 : ((p / (q : Int)).toNat : Int) = p / (q : Int) := by omega
      have e4 : p % (q : Int) = p - (q : Int) * (p / (q : Int)) := by omega
      rw [e3, e4]
      generalize (g.slope (p / (q : Int)).toNat) = s
      generalize ((g.point (p / (q : Int)).toNat : Nat) : Int) = t
      generalize p / (q : Int) = i at *
      generalize (red p q).1 = a at *
      generalize ((red p q).2 : Int) = b at *
      rw [h2, e1]
      grind
    · have hle : p / (q : Int) ≤ (g.n : Int) := Int.ediv_le_of_le_mul (by omega) h.2
      have hn : p / (q : Int) = (g.n : Int) := by omega
      have hm : p % (q : Int) = 0 := by
        have := h.2
        rw [hn] at hdiv
        have e : (q : Int) * (g.n : Int) = (g.n : Int) * (q : Int) := Int.mul_comm _ _
        omega
      have e : min (g.n - 1) (p / (q : Int)).toNat = g.n - 1 := by omega
      rw [e]
      unfold mv Abs.slope
      rw [hm, hn]
      have w1 := w.pos
      have e5 : g.n - 1 + 1 = g.n := by omega
      have e6 : ((g.n : Int)).toNat = g.n := by omega
      have e7 : ((g.n - 1 : Nat) : Int) = (g.n : Int) - 1 := by omega
      rw [e5, e6, e7]
      rw [hn, hm] at hdiv
      generalize ((g.point g.n : Nat) : Int) = t
      generalize ((g.point (g.n - 1) : Nat) : Int) = u
      generalize (red p q).1 = a at *
      generalize ((red p q).2 : Int) = b at *
      generalize (g.n : Int) = n at *
      rw [h2] at hdiv ⊢
      have e8 : (d : Int) * (a - b * n) = 0 := by grind
      have e9 : a = b * n := by
        rcases Int.mul_eq_zero.mp e8 with h | h
        · omega
        · omega
      rw [e9]
      grind
  have hfin : red (mv g q p) q = red ((g.point (min (g.n - 1) (p / (q : Int)).toNat) : Int) * ((red p q).2 : Int) + g.slope (min (g.n - 1) (p / (q : Int)).toNat) * ((red p q).1 - ((min (g.n - 1) (p / (q : Int)).toNat : Nat) : Int) * ((red p q).2 : Int))) (red p q).2 := by
    rw [key]
    conv => lhs; rw [e2]
    have := red_mul hd ((g.point (min (g.n - 1) (p / (q : Int)).toNat) : Int) * ((red p q).2 : Int) + g.slope (min (g.n - 1) (p / (q : Int)).toNat) * ((red p q).1 - ((min (g.n - 1) (p / (q : Int)).toNat : Nat) : Int) * ((red p q).2 : Int))) (red p q).2
    rw [← this]
    congr 1
    rw [← e2]
  exact hfin.symm
end Fl

namespace Fl
open Su183

def itn (g : Abs) (q : Nat) : Nat → Int → Int
  | 0, p => p
  | k + 1, p => itn g q k (mv g q p)

theorem itn_succ (g : Abs) (q : Nat) : ∀ (k : Nat) (p : Int), itn g q (k + 1) p = mv g q (itn g q k p)
  | 0, p => rfl
  | k + 1, p => itn_succ g q k (mv g q p)

theorem itn_add (g : Abs) (q : Nat) (a : Nat) : ∀ (b : Nat) (p : Int), itn g q (a + b) p = itn g q a (itn g q b p)
  | 0, p => rfl
  | b + 1, p => by
    show itn g q (a + b) (mv g q p) = _
    rw [itn_add g q a b]
    rfl

theorem itn_on {g : Abs} (w : WF g) {q : Nat} (hq : 0 < q) {p : Int} (h : On g q p) : ∀ k, On g q (itn g q k p)
  | 0 => h
  | k + 1 => by rw [itn_succ]; exact mv_on w hq _

theorem way_red {g : Abs} (w : WF g) {q : Nat} (hq : 0 < q) : ∀ (k : Nat) {p : Int}, On g q p → g.way (red p q) k = (List.range k).map fun j => red (itn g q j p) q
  | 0, p, h => rfl
  | k + 1, p, h => by
    show red p q :: g.way (g.put (red p q)) k = _
    rw [put_red w hq h, way_red w hq k (mv_on w hq p), List.range_succ_eq_map, List.map_cons, List.map_map]
    rfl

theorem after_red {g : Abs} (w : WF g) {q : Nat} (hq : 0 < q) : ∀ (k : Nat) {p : Int}, On g q p → g.after (red p q) k = red (itn g q k p) q
  | 0, p, h => rfl
  | k + 1, p, h => by
    show g.after (g.put (red p q)) k = _
    rw [put_red w hq h, after_red w hq k (mv_on w hq p)]
    rfl

/-- back for the first time in k steps -/
structure Ret (g : Abs) (q : Nat) (p : Int) (k : Nat) : Prop where
  pos : 0 < k
  back : itn g q k p = p
  first : ∀ j, 0 < j → j < k → itn g q j p ≠ p

theorem back_red {g : Abs} (w : WF g) {q : Nat} (hq : 0 < q) {p : Int} (h : On g q p) (k : Nat) : g.back (red p q) k = true ↔ Ret g q p k := by
  unfold Abs.back
  rw [Bool.and_eq_true, Bool.and_eq_true, decide_eq_true_eq, List.all_eq_true, after_red w hq k h, beq_iff_eq, red_inj hq]
  constructor
  · rintro ⟨h1, h2, h3⟩
    refine ⟨h1, h2, fun j h4 h5 h6 => ?_⟩
    have := h3 j (List.mem_range.mpr h5)
    rw [after_red w hq j h, h6] at this
    simp at this
    omega
  · rintro ⟨h1, h2, h3⟩
    refine ⟨h1, h2, fun j hj => ?_⟩
    rw [after_red w hq j h]
    by_cases c : j = 0
    · simp [c]
    · have := h3 j (by omega) (List.mem_range.mp hj)
      have h7 : ¬ red (itn g q j p) q = red p q := by rw [red_inj hq]; exact this
      simp [h7]

/-! ## Pigeons -/
theorem pig : ∀ (N : Nat) (l : List Nat), l.Nodup → (∀ x ∈ l, x < N) → l.length ≤ N
  | 0, l, _, h => by
    cases l with
    | nil => simp
    | cons a t => exact absurd (h a (by simp)) (by omega)
  | N + 1, l, nd, h => by
    have h1 : (l.erase N).Nodup := nd.erase N
    have h2 : ∀ x ∈ l.erase N, x < N := fun x hx => by
      have := (nd.mem_erase_iff).mp hx
      have := h x this.2
      omega
    have h3 := pig N _ h1 h2
    have h4 := List.length_erase (l := l) (a := N)
    split at h4 <;> omega

theorem pig_fun {N m : Nat} (f : Nat → Nat) (hf : ∀ i, i < m → f i < N) (inj : ∀ i j, i < j → j < m → f i ≠ f j) : m ≤ N := by
  have h := pig N ((List.range m).map f) ?_ ?_
  · simpa using h
  · rw [List.nodup_iff_pairwise_ne, List.pairwise_map]
    have : (List.range m).Pairwise (· < ·) := List.pairwise_lt_range
    refine List.Pairwise.imp_of_mem ?_ this
    intro a b ha hb hab
    exact inj a b hab (List.mem_range.mp hb)
  · intro x hx
    obtain ⟨i, hi, rfl⟩ := List.mem_map.mp hx
    exact hf i (List.mem_range.mp hi)

/-! ## Where one comes into a round -/
/-- i: steps ahead of it; m: the first time that a place is met again -/
structure Rho (g : Abs) (q : Nat) (p : Int) (j m : Nat) : Prop where
  lt : j < m
  eq : itn g q m p = itn g q j p
  nd : ∀ a b, a < b → b < m → itn g q a p ≠ itn g q b p

theorem Rho.bound {g : Abs} (w : WF g) {q : Nat} (hq : 0 < q) {p : Int} (h : On g q p) {j m : Nat} (r : Rho g q p j m) : m ≤ g.n * q + 1 := by
  refine pig_fun (fun i => (itn g q i p).toNat) (fun i _ => ?_) (fun i i' hi hi' => ?_)
  · have := (itn_on w hq h i).2
    have h0 := (itn_on w hq h i).1
    show (itn g q i p).toNat < g.n * q + 1
    have : (((g.n * q : Nat)) : Int) = (g.n : Int) * (q : Int) := Int.natCast_mul _ _
    omega
  · have h0 := (itn_on w hq h i).1
    have h1 := (itn_on w hq h i').1
    have := r.nd i i' hi hi'
    show (itn g q i p).toNat ≠ (itn g q i' p).toNat
    omega

/-- behind m it goes round -/
theorem Rho.round {g : Abs} {q : Nat} {p : Int} {j m : Nat} (r : Rho g q p j m) : ∀ t, ∃ s, j ≤ s ∧ s < m ∧ itn g q (m + t) p = itn g q s p
  | 0 => ⟨j, Nat.le_refl _, r.lt, r.eq⟩
  | t + 1 => by
    obtain ⟨s, h1, h2, h3⟩ := r.round t
    have e : itn g q (m + (t + 1)) p = mv g q (itn g q s p) := by
      rw [← Nat.add_assoc, itn_succ, h3]
    by_cases c : s + 1 = m
    · exact ⟨j, Nat.le_refl _, r.lt, by rw [e, ← itn_succ, c]; exact r.eq⟩
    · exact ⟨s + 1, by omega, by omega, by rw [e, itn_succ]⟩

theorem takeWhile_len {α : Type} {f : α → Bool} : ∀ {l : List α} {t : Nat} {x : α}, l[t]? = some x → f x = false → (∀ s y, s < t → l[s]? = some y → f y = true) → (l.takeWhile f).length = t
  | [], t, x, h, _, _ => by simp at h
  | a :: l, 0, x, h, hx, _ => by
    have e : a = x := Option.some.inj h
    rw [List.takeWhile_cons, e, hx]
    rfl
  | a :: l, t + 1, x, h, hx, hs => by
    have h0 : f a = true := hs 0 a (by omega) rfl
    rw [List.takeWhile_cons, h0]
    have := takeWhile_len (l := l) (t := t) (x := x) h hx (fun s y h1 h2 => hs (s + 1) y (by omega) h2)
    simp [this]

/-- the same over a greater number below -/
theorem mv_mul {g : Abs} {q d : Nat} (hq : 0 < q) (hd : 0 < d) (p : Int) : mv g (d * q) ((d : Int) * p) = (d : Int) * mv g q p := by
  unfold mv
  have e1 : (d : Int) * p / ((d * q : Nat) : Int) = p / (q : Int) := by
    rw [Int.natCast_mul]
    exact Int.mul_ediv_mul_of_pos _ _ (by omega)
  have e2 : (d : Int) * p % ((d * q : Nat) : Int) = (d : Int) * (p % (q : Int)) := by
    rw [Int.natCast_mul]
    exact Int.mul_emod_mul_of_pos _ _ (by omega)
  rw [e1, e2, Int.natCast_mul]
  grind

theorem itn_mul {g : Abs} {q d : Nat} (hq : 0 < q) (hd : 0 < d) : ∀ (k : Nat) (p : Int), itn g (d * q) k ((d : Int) * p) = (d : Int) * itn g q k p
  | 0, p => rfl
  | k + 1, p => by
    show itn g (d * q) k (mv g (d * q) ((d : Int) * p)) = _
    rw [mv_mul hq hd, itn_mul hq hd k]
    rfl

theorem comes_red {g : Abs} (w : WF g) {q : Nat} (hq : 0 < q) {p : Int} (h : On g q p) {j m : Nat} (r : Rho g q p j m) : g.comes (red p q) = (j, m - j) := by
  obtain ⟨d, hd, e1, e2, hq', _⟩ := red_spec p hq
  -- the same over the lowest terms
  have hx : red (red p q).1 (red p q).2 = red p q := by
    have := red_mul hd (red p q).1 (red p q).2
    rw [← e1, ← e2] at this
    exact this.symm
  have hitn : ∀ k, itn g q k p = (d : Int) * itn g (red p q).2 k (red p q).1 := fun k => by
    have := itn_mul (g := g) hq' hd k (red p q).1
    rw [← e1, ← e2] at this
    exact this
  have hinj : ∀ a b, itn g q a p = itn g q b p ↔ itn g (red p q).2 a (red p q).1 = itn g (red p q).2 b (red p q).1 := fun a b => by
    rw [hitn, hitn]
    exact ⟨fun z => Int.eq_of_mul_eq_mul_left (by omega) z, fun z => by rw [z]⟩
  have r' : Rho g (red p q).2 (red p q).1 j m := ⟨r.lt, (hinj _ _).mp r.eq, fun a b h1 h2 h3 => r.nd a b h1 h2 ((hinj _ _).mpr h3)⟩
  have hon : On g (red p q).2 (red p q).1 := by
    obtain ⟨ha, hb⟩ := h
    have h2 : (q : Int) = (d : Int) * ((red p q).2 : Int) := by exact_mod_cast e2
    generalize (red p q).1 = a at *
    generalize (red p q).2 = b at *
    unfold On
    constructor
    · rw [e1] at ha
      exact Int.nonneg_of_mul_nonneg_right ha (by omega)
    · rw [e1, h2] at hb
      have : (d : Int) * a ≤ (d : Int) * ((g.n : Int) * (b : Int)) := by
        have e : (d : Int) * ((g.n : Int) * (b : Int)) = (g.n : Int) * ((d : Int) * (b : Int)) := by grind
        rw [e]
        exact hb
      exact Int.le_of_mul_le_mul_left this (by omega)
  generalize hxx : red p q = x at *
  have hm := r'.bound w hq' hon
  clear r hitn hinj e1 e2 hd h hq
  unfold Abs.comes
  have ew : g.way x (g.n * x.2 + 2) = (List.range (g.n * x.2 + 2)).map fun j => red (itn g x.2 j x.1) x.2 := by
    have := way_red w hq' (g.n * x.2 + 2) hon
    rw [hx] at this
    exact this
  simp only [ew]
  have hget : ∀ i, i < g.n * x.2 + 2 → ((List.range (g.n * x.2 + 2)).map fun j => red (itn g x.2 j x.1) x.2).getD i x = red (itn g x.2 i x.1) x.2 := fun i hi => by
    rw [List.getD_eq_getElem?_getD, List.getElem?_map, List.getElem?_range hi]
    rfl
  have hget? : ∀ i, i < g.n * x.2 + 2 → ((List.range (g.n * x.2 + 2)).map fun j => red (itn g x.2 j x.1) x.2)[i]? = some (red (itn g x.2 i x.1) x.2) := fun i hi => by
    rw [List.getElem?_map, List.getElem?_range hi]
    rfl
  have hlen : ((List.range (g.n * x.2 + 2)).map fun j => red (itn g x.2 j x.1) x.2).length = g.n * x.2 + 2 := by simp
  have hfind : ((List.range ((List.range (g.n * x.2 + 2)).map fun j => red (itn g x.2 j x.1) x.2).length).find? fun i => (((List.range (g.n * x.2 + 2)).map fun j => red (itn g x.2 j x.1) x.2).drop (i + 1)).contains (((List.range (g.n * x.2 + 2)).map fun j => red (itn g x.2 j x.1) x.2).getD i x)) = some j := by
    rw [List.find?_range_eq_some]
    have hjm := r'.lt
    refine ⟨?_, ?_, ?_⟩
    · rw [List.contains_iff_mem, hget j (by omega)]
      rw [List.mem_iff_getElem?]
      refine ⟨m - (j + 1), ?_⟩
      rw [List.getElem?_drop, hget? _ (by omega)]
      have : j + 1 + (m - (j + 1)) = m := by omega
      rw [this, r'.eq]
    · rw [hlen, List.mem_range]
      omega
    · intro i hi
      rw [Bool.not_eq_true']
      rw [← Bool.not_eq_true, List.contains_iff_mem, hget i (by omega), List.mem_iff_getElem?]
      rintro ⟨t, ht⟩
      rw [List.getElem?_drop] at ht
      have hlt : i + 1 + t < g.n * x.2 + 2 := by
        have := (List.getElem?_eq_some_iff.mp ht).1
        simpa using this
      rw [hget? _ hlt] at ht
      have he := (red_inj hq').mp (Option.some.inj ht)
      by_cases c : i + 1 + t < m
      · exact r'.nd i (i + 1 + t) (by omega) c he.symm
      · obtain ⟨s, hs1, hs2, hs3⟩ := r'.round (i + 1 + t - m)
        have e : m + (i + 1 + t - m) = i + 1 + t := by omega
        rw [e] at hs3
        exact r'.nd i s (by omega) hs2 (he.symm.trans hs3)
  rw [hfind]
  have hjm := r'.lt
  show (j, _) = (j, m - j)
  congr 1
  rw [Option.getD_some, hget j (by omega)]
  have hT := takeWhile_len (f := fun y => y != red (itn g x.2 j x.1) x.2) (l := ((List.range (g.n * x.2 + 2)).map fun j => red (itn g x.2 j x.1) x.2).drop (j + 1)) (t := m - (j + 1)) (x := red (itn g x.2 m x.1) x.2) ?_ ?_ ?_
  · rw [hT]
    omega
  · rw [List.getElem?_drop, hget? _ (by omega)]
    have : j + 1 + (m - (j + 1)) = m := by omega
    rw [this]
  · simp [r'.eq]
  · intro s y hs hy
    rw [List.getElem?_drop, hget? _ (by omega)] at hy
    obtain rfl := Option.some.inj hy
    have := r'.nd j (j + 1 + s) (by omega) (by omega)
    have h7 : ¬ red (itn g x.2 (j + 1 + s) x.1) x.2 = red (itn g x.2 j x.1) x.2 := by
      rw [red_inj hq']
      exact fun z => this z.symm
    simp [h7]
end Fl

namespace Fl
open Su183

/-- pieces, each covering the next one, the last one i -/
def IsLoop (g : Abs) (i : Nat) : List Nat → Prop
  | [] => False
  | [j] => g.covers j i = true
  | j :: l :: w => l < g.n ∧ g.covers j l = true ∧ IsLoop g i (l :: w)

theorem mem_loops {g : Abs} {i : Nat} : ∀ {k j : Nat} {w : List Nat}, w ∈ g.loopsFrom i j k ↔ w.length = k ∧ w.head? = some j ∧ IsLoop g i w
  | 0, j, w => by
    unfold Abs.loopsFrom
    constructor
    · intro h
      cases h
    · rintro ⟨h1, h2, _⟩
      cases w <;> simp_all
  | 1, j, w => by
    unfold Abs.loopsFrom
    constructor
    · intro h
      split at h
      · rename_i c
        rw [List.mem_singleton] at h
        subst h
        exact ⟨rfl, rfl, c⟩
      · cases h
    · rintro ⟨h1, h2, h3⟩
      match w, h1, h2, h3 with
      | [a], _, h2, h3 =>
        obtain rfl : a = j := Option.some.inj h2
        have h3' : g.covers a i = true := h3
        rw [if_pos h3']
        exact List.mem_singleton.mpr rfl
  | k + 2, j, w => by
    unfold Abs.loopsFrom
    rw [List.mem_flatMap]
    constructor
    · rintro ⟨l, hl, hw⟩
      rw [List.mem_filter, List.mem_range] at hl
      obtain ⟨v, hv, rfl⟩ := List.mem_map.mp hw
      obtain ⟨h1, h2, h3⟩ := mem_loops.mp hv
      refine ⟨by simp [h1], rfl, ?_⟩
      match v, h1, h2, h3 with
      | b :: v, _, h2, h3 =>
        obtain rfl : b = l := Option.some.inj h2
        exact ⟨hl.1, hl.2, h3⟩
    · rintro ⟨h1, h2, h3⟩
      match w, h1, h2, h3 with
      | a :: b :: v, h1, h2, h3 =>
        obtain rfl : a = j := Option.some.inj h2
        obtain ⟨h4, h5, h6⟩ := h3
        refine ⟨b, List.mem_filter.mpr ⟨List.mem_range.mpr h4, h5⟩, List.mem_map.mpr ⟨b :: v, mem_loops.mpr ⟨?_, rfl, h6⟩, rfl⟩⟩
        simpa using h1

/-- one piece's straight line, in q-ths -/
def line (g : Abs) (q : Nat) (j : Nat) (p : Int) : Int := (g.point j : Int) * (q : Int) + g.slope j * (p - (j : Int) * (q : Int))
def go (g : Abs) (q : Nat) : List Nat → Int → Int
  | [], p => p
  | j :: w, p => go g q w (line g q j p)

theorem along_go (g : Abs) (q : Nat) (p : Int) : ∀ (w : List Nat) (a b : Int), (w.foldl (fun z i => (g.slope i * z.1, (g.point i : Int) + g.slope i * (z.2 - (i : Int)))) (a, b)).1 * p + (w.foldl (fun z i => (g.slope i * z.1, (g.point i : Int) + g.slope i * (z.2 - (i : Int)))) (a, b)).2 * (q : Int) = go g q w (a * p + b * (q : Int))
  | [], a, b => rfl
  | j :: w, a, b => by
    rw [List.foldl_cons, along_go g q p w]
    show go g q w _ = go g q w _
    congr 1
    unfold line
    show g.slope j * a * p + ((g.point j : Int) + g.slope j * (b - (j : Int))) * (q : Int) = _
    grind

theorem along_eq (g : Abs) (q : Nat) (p : Int) (w : List Nat) : (g.along w).1 * p + (g.along w).2 * (q : Int) = go g q w p := by
  unfold Abs.along
  rw [along_go]
  congr 1
  omega

/-- how steep, all in all -/
def steep (g : Abs) : List Nat → Nat
  | [] => 1
  | j :: w => (g.slope j).natAbs * steep g w

theorem along_fst (g : Abs) : ∀ (w : List Nat) (a b : Int), (w.foldl (fun z i => (g.slope i * z.1, (g.point i : Int) + g.slope i * (z.2 - (i : Int)))) (a, b)).1.natAbs = a.natAbs * steep g w
  | [], a, b => (Nat.mul_one _).symm
  | j :: w, a, b => by
    rw [List.foldl_cons, along_fst g w, Int.natAbs_mul]
    show _ = a.natAbs * ((g.slope j).natAbs * steep g w)
    rw [Nat.mul_comm (g.slope j).natAbs a.natAbs, Nat.mul_assoc]

theorem steep_eq (g : Abs) (w : List Nat) : (g.along w).1.natAbs = steep g w := by
  unfold Abs.along
  rw [along_fst]
  simp

theorem covers_iff {g : Abs} {j l : Nat} : g.covers j l = true ↔ (g.point j ≤ l ∧ l < g.point (j + 1)) ∨ (g.point (j + 1) ≤ l ∧ l < g.point j) := by
  unfold Abs.covers
  rw [Bool.and_eq_true, decide_eq_true_eq, decide_eq_true_eq]
  omega

theorem covers_steep {g : Abs} {j l : Nat} (h : g.covers j l = true) : 1 ≤ (g.slope j).natAbs := by
  have := covers_iff.mp h
  unfold Abs.slope
  omega

def In (q j : Nat) (p : Int) : Prop := (j : Int) * (q : Int) ≤ p ∧ p ≤ ((j : Int) + 1) * (q : Int)
def Out (q j : Nat) (e p : Int) : Prop := p ≤ (j : Int) * (q : Int) - e ∨ ((j : Int) + 1) * (q : Int) + e ≤ p

theorem Out.step {g : Abs} {q j l : Nat} {e p : Int} (he : 0 ≤ e) (c : g.covers j l = true) (h : Out q j e p) : Out q l (((g.slope j).natAbs : Int) * e) (line g q j p) := by
  have hc := covers_iff.mp c
  unfold line
  unfold Out at h ⊢
  have ea : (((g.slope j).natAbs : Nat) : Int) = if 0 ≤ g.slope j then g.slope j else - g.slope j := by split <;> omega
  rw [ea]
  have hs : g.slope j = (g.point (j + 1) : Int) - (g.point j : Int) := rfl
  generalize g.slope j = s at *
  generalize g.point j = a at *
  generalize g.point (j + 1) = b at *
  have hq : (0 : Int) ≤ (q : Int) := by omega
  generalize (q : Int) = q at *
  rcases hc with ⟨h1, h2⟩ | ⟨h1, h2⟩
  · have h0 : 0 ≤ s := by omega
    rw [if_pos h0]
    rcases h with h | h
    · left
      have m1 : s * (p - (j : Int) * q) ≤ s * (-e) := Int.mul_le_mul_of_nonneg_left (by omega) h0
      have m2 : (a : Int) * q ≤ (l : Int) * q := Int.mul_le_mul_of_nonneg_right (by omega) hq
      have : s * (-e) = -(s * e) := Int.mul_neg _ _
      omega
    · right
      have m1 : s * (q + e) ≤ s * (p - (j : Int) * q) := Int.mul_le_mul_of_nonneg_left (by
        have : ((j : Int) + 1) * q = (j : Int) * q + q := by grind
        omega) h0
      have m2 : ((l : Int) + 1) * q ≤ (b : Int) * q := Int.mul_le_mul_of_nonneg_right (by omega) hq
      have e1 : s * (q + e) = (b : Int) * q - (a : Int) * q + s * e := by rw [hs]; grind
      omega
  · have h0 : ¬ 0 ≤ s := by omega
    rw [if_neg h0]
    have h0' : 0 ≤ -s := by omega
    rcases h with h | h
    · right
      have m1 : (-s) * e ≤ (-s) * ((j : Int) * q - p) := Int.mul_le_mul_of_nonneg_left (by omega) h0'
      have m2 : ((l : Int) + 1) * q ≤ (a : Int) * q := Int.mul_le_mul_of_nonneg_right (by omega) hq
      have e1 : (-s) * ((j : Int) * q - p) = s * (p - (j : Int) * q) := by grind
      omega
    · left
      have m1 : (-s) * (q + e) ≤ (-s) * (p - (j : Int) * q) := Int.mul_le_mul_of_nonneg_left (by
        have : ((j : Int) + 1) * q = (j : Int) * q + q := by grind
        omega) h0'
      have m2 : (b : Int) * q ≤ (l : Int) * q := Int.mul_le_mul_of_nonneg_right (by omega) hq
      have e1 : (-s) * (q + e) = (a : Int) * q - (b : Int) * q + (-s) * e := by rw [hs]; grind
      have e2 : (-s) * (p - (j : Int) * q) = -(s * (p - (j : Int) * q)) := Int.neg_mul _ _
      omega

theorem Out.mono {q j : Nat} {e e' p : Int} (h : Out q j e p) (l : e' ≤ e) : Out q j e' p := by
  unfold Out at *
  omega

theorem IsLoop.steep_pos {g : Abs} {i : Nat} : ∀ {w : List Nat}, IsLoop g i w → 1 ≤ steep g w
  | [], h => h.elim
  | [j], h => by
    show 1 ≤ (g.slope j).natAbs * 1
    have := covers_steep (show g.covers j i = true from h)
    omega
  | j :: l :: w, h => by
    have h1 := covers_steep h.2.1
    have h2 := h.2.2.steep_pos
    exact Nat.mul_le_mul h1 h2

theorem Out.go {g : Abs} {q i : Nat} : ∀ {w : List Nat} {j : Nat} {e p : Int}, 0 ≤ e → IsLoop g i (j :: w) → Out q j e p → Out q i ((steep g (j :: w) : Int) * e) (go g q (j :: w) p)
  | [], j, e, p, he, h, o => by
    have := o.step he (show g.covers j i = true from h)
    show Out q i ((((g.slope j).natAbs * 1 : Nat) : Int) * e) (line g q j p)
    rw [Nat.mul_one]
    exact this
  | l :: w, j, e, p, he, h, o => by
    have o1 := o.step he h.2.1
    have o2 := Out.go (Int.mul_nonneg (by omega) he) h.2.2 o1
    have e1 : ((steep g (j :: l :: w) : Nat) : Int) * e = ((steep g (l :: w) : Nat) : Int) * (((g.slope j).natAbs : Int) * e) := by
      show (((g.slope j).natAbs * steep g (l :: w) : Nat) : Int) * e = _
      rw [Int.natCast_mul]
      grind
    rw [e1]
    exact o2

theorem not_in {q j : Nat} {p : Int} (h : ¬ In q j p) : ∃ e, 0 < e ∧ Out q j e p ∧ (p = (j : Int) * (q : Int) - e ∨ p = ((j : Int) + 1) * (q : Int) + e) := by
  unfold In at h
  unfold Out
  by_cases c : p < (j : Int) * (q : Int)
  · exact ⟨(j : Int) * (q : Int) - p, by omega, by omega, by omega⟩
  · exact ⟨p - ((j : Int) + 1) * (q : Int), by omega, by omega, by omega⟩

/-- middles go to middles -/
theorem mid_step {g : Abs} {q j l : Nat} {p : Int} (c : g.covers j l = true) (s1 : (g.slope j).natAbs = 1) : 2 * line g q j p - (2 * (l : Int) + 1) * (q : Int) = g.slope j * (2 * p - (2 * (j : Int) + 1) * (q : Int)) := by
  have hc := covers_iff.mp c
  unfold line
  have hs : g.slope j = (g.point (j + 1) : Int) - (g.point j : Int) := rfl
  generalize g.slope j = s at *
  generalize g.point j = a at *
  generalize g.point (j + 1) = b at *
  rcases hc with ⟨h1, h2⟩ | ⟨h1, h2⟩
  · have e1 : s = 1 := by omega
    have e2 : a = l := by omega
    subst e1 e2
    grind
  · have e1 : s = -1 := by omega
    have e2 : a = l + 1 := by omega
    subst e1 e2
    rw [Int.natCast_add]
    grind

theorem along_cons_fst (g : Abs) : ∀ (w : List Nat) (a b : Int), (w.foldl (fun z i => (g.slope i * z.1, (g.point i : Int) + g.slope i * (z.2 - (i : Int)))) (a, b)).1 = a * (g.along w).1
  | w, a, b => by
    suffices h : ∀ (w : List Nat) (a b c d : Int), (w.foldl (fun z i => (g.slope i * z.1, (g.point i : Int) + g.slope i * (z.2 - (i : Int)))) (a * c, b)).1 = a * (w.foldl (fun z i => (g.slope i * z.1, (g.point i : Int) + g.slope i * (z.2 - (i : Int)))) (c, d)).1 by
      have := h w a b 1 0
      rw [Int.mul_one] at this
      exact this
    intro w
    induction w with
    | nil => intro a b c d; rfl
    | cons j w ih =>
      intro a b c d
      rw [List.foldl_cons, List.foldl_cons]
      have e : g.slope j * (a * c) = a * (g.slope j * c) := by grind
      show (w.foldl _ (g.slope j * (a * c), _)).1 = _
      rw [e]
      exact ih _ _ _ _

theorem along_one (g : Abs) (j : Nat) (w : List Nat) : (g.along (j :: w)).1 = g.slope j * (g.along w).1 := by
  have := along_cons_fst g w (g.slope j * 1) ((g.point j : Int) + g.slope j * (0 - (j : Int)))
  rw [Int.mul_one] at this
  unfold Abs.along
  rw [List.foldl_cons]
  show (w.foldl _ (g.slope j * 1, _)).1 = _
  rw [Int.mul_one]
  exact this

theorem mid_go {g : Abs} {q i : Nat} : ∀ {w : List Nat} {j : Nat} {p : Int}, IsLoop g i (j :: w) → steep g (j :: w) = 1 → 2 * go g q (j :: w) p - (2 * (i : Int) + 1) * (q : Int) = (g.along (j :: w)).1 * (2 * p - (2 * (j : Int) + 1) * (q : Int))
  | [], j, p, h, s => by
    have s1 : (g.slope j).natAbs = 1 := by
      have : (g.slope j).natAbs * 1 = 1 := s
      omega
    rw [along_one]
    show 2 * line g q j p - _ = g.slope j * 1 * _
    rw [Int.mul_one]
    exact mid_step h s1
  | l :: w, j, p, h, s => by
    have s' : (g.slope j).natAbs * steep g (l :: w) = 1 := s
    have s1 : (g.slope j).natAbs = 1 := Nat.eq_one_of_mul_eq_one_right s'
    have s2 : steep g (l :: w) = 1 := by rw [s1] at s'; omega
    have e1 := mid_step (q := q) (p := p) h.2.1 s1
    have e2 := mid_go (q := q) (p := line g q j p) h.2.2 s2
    rw [along_one]
    show 2 * go g q (l :: w) (line g q j p) - _ = _
    rw [e2, e1]
    grind

/-- what stays where it is along a loop that isn't all at rest lies in its first piece -/
theorem loop_in {g : Abs} {q i : Nat} (hq : 0 < q) {w : List Nat} {p : Int} (h : IsLoop g i (i :: w)) (fx : go g q (i :: w) p = p) (ne : (g.along (i :: w)).1 ≠ 1) : In q i p := by
  have hs := steep_eq g (i :: w)
  have hp := h.steep_pos
  by_cases c : steep g (i :: w) = 1
  · have ea : (g.along (i :: w)).1 = -1 := by omega
    have hm := mid_go (q := q) (p := p) h c
    rw [fx, ea] at hm
    unfold In
    have : (2 * (i : Int) + 1) * (q : Int) = 2 * ((i : Int) * (q : Int)) + (q : Int) := by grind
    have : ((i : Int) + 1) * (q : Int) = (i : Int) * (q : Int) + (q : Int) := by grind
    omega
  · refine Classical.byContradiction fun hc => ?_
    obtain ⟨e, he, ho, hx⟩ := not_in hc
    have h2 := ho.go (Int.le_of_lt he) h
    rw [fx] at h2
    have h3 : 2 * e ≤ (steep g (i :: w) : Int) * e := Int.mul_le_mul_of_nonneg_right (by omega) (by omega)
    have h4 := h2.mono h3
    unfold Out at h4
    have : ((i : Int) + 1) * (q : Int) = (i : Int) * (q : Int) + (q : Int) := by grind
    omega

/-- a loop whose line is as steep as nothing at all is at rest -/
theorem loop_rest {g : Abs} {i : Nat} {w : List Nat} (h : IsLoop g i (i :: w)) (e1 : (g.along (i :: w)).1 = 1) : g.along (i :: w) = (1, 0) := by
  have hs := steep_eq g (i :: w)
  have c : steep g (i :: w) = 1 := by rw [← hs, e1]; rfl
  have hm := mid_go (q := 1) (p := 0) h c
  have ha := along_eq g 1 0 (i :: w)
  rw [e1] at hm ha
  refine Prod.ext e1 ?_
  show (g.along (i :: w)).2 = 0
  omega

/-- in each of its pieces -/
def Goes (g : Abs) (q : Nat) : List Nat → Int → Prop
  | [], _ => True
  | j :: w, p => In q j p ∧ Goes g q w (line g q j p)

theorem goes_of {g : Abs} {q i : Nat} : ∀ {w : List Nat} {j : Nat} {p : Int}, IsLoop g i (j :: w) → In q j p → In q i (go g q (j :: w) p) → Goes g q (j :: w) p
  | [], j, p, h, hi, _ => ⟨hi, trivial⟩
  | l :: w, j, p, h, hi, he => by
    refine ⟨hi, goes_of h.2.2 ?_ he⟩
    refine Classical.byContradiction fun hc => ?_
    obtain ⟨e, he', ho, _⟩ := not_in hc
    have h2 := ho.go (Int.le_of_lt he') h.2.2
    have h3 : 1 * e ≤ (steep g (l :: w) : Int) * e := Int.mul_le_mul_of_nonneg_right (by have := h.2.2.steep_pos; omega) (by omega)
    have h4 := h2.mono h3
    have he2 : In q i (go g q (l :: w) (line g q j p)) := he
    unfold Out at h4
    unfold In at he2
    have : (0 : Int) ≤ q := by omega
    omega

theorem mv_line {g : Abs} {q j : Nat} (hq : 0 < q) {p : Int} (h : In q j p) : mv g q p = line g q j p := by
  obtain ⟨h1, h2⟩ := h
  have e0 : ((j : Int) + 1) * (q : Int) = (j : Int) * (q : Int) + (q : Int) := by grind
  unfold mv line
  by_cases c : p = ((j : Int) + 1) * (q : Int)
  · have d : p / (q : Int) = (j : Int) + 1 := by rw [c]; exact Int.mul_ediv_cancel _ (by omega)
    have m : p % (q : Int) = 0 := by rw [c]; exact Int.mul_emod_left _ _
    rw [d, m]
    have e1 : ((j : Int) + 1).toNat = j + 1 := by omega
    rw [e1]
    have e2 : p - (j : Int) * (q : Int) = (q : Int) := by omega
    rw [e2]
    unfold Abs.slope
    grind
  · have d : p / (q : Int) = (j : Int) := by
      rw [Int.ediv_eq_iff_of_pos (by omega)]
      constructor
      · have : (q : Int) * (j : Int) = (j : Int) * (q : Int) := Int.mul_comm _ _
        omega
      · have : (q : Int) * (j : Int) = (j : Int) * (q : Int) := Int.mul_comm _ _
        omega
    have m : p % (q : Int) = p - (j : Int) * (q : Int) := by
      have := Int.mul_ediv_add_emod p (q : Int)
      rw [d] at this
      have : (q : Int) * (j : Int) = (j : Int) * (q : Int) := Int.mul_comm _ _
      omega
    rw [d, m]
    have e1 : ((j : Int)).toNat = j := by omega
    rw [e1]

theorem go_itn {g : Abs} {q : Nat} (hq : 0 < q) : ∀ {w : List Nat} {p : Int}, Goes g q w p → go g q w p = itn g q w.length p
  | [], p, h => rfl
  | j :: w, p, h => by
    show go g q w (line g q j p) = itn g q w.length (mv g q p)
    rw [mv_line hq h.1]
    exact go_itn hq h.2
end Fl

namespace Fl
open Su183

theorem le_red {p p' : Int} {q q' : Nat} (hq : 0 < q) (hq' : 0 < q') : le (red p q) (red p' q') = true ↔ p * (q' : Int) ≤ p' * (q : Int) := by
  unfold le
  rw [lt_red hq' hq, Bool.not_eq_true', decide_eq_false_iff_not]
  omega

theorem In.on {g : Abs} {q j : Nat} (hj : j < g.n) {p : Int} (h : In q j p) : On g q p := by
  obtain ⟨h1, h2⟩ := h
  have hq : (0 : Int) ≤ (q : Int) := by omega
  refine ⟨Int.le_trans (Int.mul_nonneg (by omega) hq) h1, Int.le_trans h2 (Int.mul_le_mul_of_nonneg_right (by omega) hq)⟩

theorem goes_red {g : Abs} (w : WF g) {q : Nat} (hq : 0 < q) : ∀ {v : List Nat} {p : Int}, On g q p → (g.goes (red p q) v = true ↔ Goes g q v p)
  | [], p, h => ⟨fun _ => trivial, fun _ => rfl⟩
  | j :: v, p, h => by
    unfold Abs.goes Goes
    rw [Bool.and_eq_true, Bool.and_eq_true, ofNat_red, ofNat_red, le_red (by decide) hq, le_red hq (by decide), put_red w hq h]
    have e1 : ((j : Nat) : Int) * (q : Int) ≤ p * ((1 : Nat) : Int) ↔ (j : Int) * (q : Int) ≤ p := by
      rw [show ((1 : Nat) : Int) = 1 from rfl, Int.mul_one]
    have e2 : p * ((1 : Nat) : Int) ≤ ((j + 1 : Nat) : Int) * (q : Int) ↔ p ≤ ((j : Int) + 1) * (q : Int) := by
      rw [show ((1 : Nat) : Int) = 1 from rfl, Int.mul_one, Int.natCast_add]
      rfl
    rw [e1, e2]
    constructor
    · rintro ⟨h1, h2, h3⟩
      have hi : In q j p := ⟨h1, h2⟩
      rw [mv_line hq hi] at h3
      have ho := mv_on w hq p
      rw [mv_line hq hi] at ho
      exact ⟨hi, (goes_red w hq ho).mp h3⟩
    · rintro ⟨hi, h3⟩
      have ho := mv_on w hq p
      rw [mv_line hq hi] at ho ⊢
      exact ⟨hi.1, hi.2, (goes_red w hq ho).mpr h3⟩

/-- the place of a loop: above, below -/
def place (g : Abs) (w : List Nat) : Int × Nat :=
  if (g.along w).1 = 1 then (3 * (w.headD 0 : Int) + 1, 3) else if (g.along w).1 < 1 then ((g.along w).2, (1 - (g.along w).1).toNat) else (-(g.along w).2, ((g.along w).1 - 1).toNat)

theorem place_pos (g : Abs) (w : List Nat) : 0 < (place g w).2 := by
  unfold place
  split
  · show 0 < 3
    decide
  · split
    · show 0 < (1 - (g.along w).1).toNat
      omega
    · show 0 < ((g.along w).1 - 1).toNat
      omega

theorem place_fix (g : Abs) {i : Nat} {w : List Nat} (h : IsLoop g i (i :: w)) : go g (place g (i :: w)).2 (i :: w) (place g (i :: w)).1 = (place g (i :: w)).1 := by
  rw [← along_eq]
  unfold place
  split
  · rename_i c
    have := loop_rest h c
    rw [this]
    show 1 * (3 * (i : Int) + 1) + 0 * _ = (3 * (i : Int) + 1)
    omega
  · split
    · rename_i c d
      show (g.along (i :: w)).1 * (g.along (i :: w)).2 + (g.along (i :: w)).2 * (((1 - (g.along (i :: w)).1).toNat : Nat) : Int) = (g.along (i :: w)).2
      have e : (((1 - (g.along (i :: w)).1).toNat : Nat) : Int) = 1 - (g.along (i :: w)).1 := by omega
      rw [e]
      grind
    · rename_i c d
      show (g.along (i :: w)).1 * -(g.along (i :: w)).2 + (g.along (i :: w)).2 * ((((g.along (i :: w)).1 - 1).toNat : Nat) : Int) = -(g.along (i :: w)).2
      have e : ((((g.along (i :: w)).1 - 1).toNat : Nat) : Int) = (g.along (i :: w)).1 - 1 := by omega
      rw [e]
      grind

theorem place_in (g : Abs) {i : Nat} {w : List Nat} (h : IsLoop g i (i :: w)) : In (place g (i :: w)).2 i (place g (i :: w)).1 := by
  by_cases c : (g.along (i :: w)).1 = 1
  · unfold place
    rw [if_pos c]
    show (i : Int) * 3 ≤ 3 * (i : Int) + 1 ∧ 3 * (i : Int) + 1 ≤ ((i : Int) + 1) * 3
    omega
  · exact loop_in (place_pos g _) h (place_fix g h) c

theorem place_goes (g : Abs) {i : Nat} {w : List Nat} (h : IsLoop g i (i :: w)) : Goes g (place g (i :: w)).2 (i :: w) (place g (i :: w)).1 :=
  goes_of h (place_in g h) (by rw [place_fix g h]; exact place_in g h)

theorem given_eq {g : Abs} (wf : WF g) {i : Nat} (hi : i < g.n) {w : List Nat} (h : IsLoop g i (i :: w)) : g.given (i :: w) = [red (place g (i :: w)).1 (place g (i :: w)).2] := by
  have hp := place_pos g (i :: w)
  have hin := place_in g h
  have hg := (goes_red wf hp (hin.on hi)).mpr (place_goes g h)
  unfold Abs.given
  unfold place at hg ⊢
  by_cases c : (g.along (i :: w)).1 = 1
  · have e := loop_rest h c
    simp [e]
  · rw [if_neg c] at hg
    simp only [if_neg c]
    by_cases d : (g.along (i :: w)).1 < 1
    · rw [if_pos d] at hg
      simp only [if_pos d]
      rw [if_pos hg]
    · rw [if_neg d] at hg
      simp only [if_neg d]
      rw [if_pos hg]

/-- a loop of k pieces on the line -/
structure Lp (g : Abs) (k : Nat) (w : List Nat) : Prop where
  len : w.length = k
  loop : IsLoop g (w.headD 0) w
  lt : w.headD 0 < g.n

theorem Lp.cons {g : Abs} {k : Nat} {w : List Nat} (h : Lp g k w) : ∃ i v, w = i :: v ∧ IsLoop g i (i :: v) ∧ i < g.n ∧ (i :: v).length = k := by
  obtain ⟨h1, h2, h3⟩ := h
  match w, h1, h2, h3 with
  | i :: v, h1, h2, h3 => exact ⟨i, v, rfl, h2, h3, h1⟩

theorem lp_iff {g : Abs} {k : Nat} {w : List Nat} : Lp g k w ↔ ∃ i, i < g.n ∧ w ∈ g.loopsFrom i i k := by
  constructor
  · intro h
    obtain ⟨i, v, rfl, h1, h2, h3⟩ := h.cons
    exact ⟨i, h2, mem_loops.mpr ⟨h3, rfl, h1⟩⟩
  · rintro ⟨i, hi, h⟩
    obtain ⟨h1, h2, h3⟩ := mem_loops.mp h
    match w, h1, h2, h3 with
    | a :: v, h1, h2, h3 =>
      obtain rfl : a = i := Option.some.inj h2
      exact ⟨h1, h3, hi⟩

theorem Lp.on {g : Abs} {k : Nat} {w : List Nat} (h : Lp g k w) : On g (place g w).2 (place g w).1 := by
  obtain ⟨i, v, rfl, h1, h2, h3⟩ := h.cons
  exact (place_in g h1).on h2

theorem point_on {g : Abs} {j : Nat} (h : j ≤ g.n) : On g 1 (j : Int) := by
  unfold On
  omega

theorem mem_found {g : Abs} (wf : WF g) {k : Nat} {x : Frac} : x ∈ g.found k ↔ (∃ j : Nat, j ≤ g.n ∧ x = red (j : Int) 1 ∧ Ret g 1 (j : Int) k) ∨ (∃ w, Lp g k w ∧ x = red (place g w).1 (place g w).2 ∧ Ret g (place g w).2 (place g w).1 k) := by
  unfold Abs.found
  rw [List.mem_filter, List.mem_append, List.mem_map, List.mem_flatMap]
  constructor
  · rintro ⟨h1 | h1, h2⟩
    · obtain ⟨j, hj, rfl⟩ := h1
      have hj' : j ≤ g.n := by
        have := List.mem_range.mp hj
        omega
      rw [ofNat_red] at h2 ⊢
      exact .inl ⟨j, hj', rfl, (back_red wf (by decide) (point_on hj') k).mp h2⟩
    · obtain ⟨i, hi, h3⟩ := h1
      obtain ⟨w, hw, h4⟩ := List.mem_flatMap.mp h3
      have L : Lp g k w := lp_iff.mpr ⟨i, List.mem_range.mp hi, hw⟩
      obtain ⟨i', v, rfl, h5, h6, h7⟩ := L.cons
      rw [given_eq wf h6 h5, List.mem_singleton] at h4
      subst h4
      exact .inr ⟨_, L, rfl, (back_red wf (place_pos g _) L.on k).mp h2⟩
  · rintro (⟨j, hj, rfl, h⟩ | ⟨w, L, rfl, h⟩)
    · refine ⟨.inl ⟨j, List.mem_range.mpr (by omega), ofNat_red j⟩, (back_red wf (by decide) (point_on hj) k).mpr h⟩
    · refine ⟨.inr ?_, (back_red wf (place_pos g _) L.on k).mpr h⟩
      obtain ⟨i, v, rfl, h5, h6, h7⟩ := L.cons
      refine ⟨i, List.mem_range.mpr h6, List.mem_flatMap.mpr ⟨i :: v, mem_loops.mpr ⟨h7, rfl, h5⟩, ?_⟩⟩
      rw [given_eq wf h6 h5]
      exact List.mem_singleton.mpr rfl

theorem has_iff {g : Abs} (wf : WF g) {k : Nat} : g.has k = true ↔ (∃ j : Nat, j ≤ g.n ∧ Ret g 1 (j : Int) k) ∨ (∃ w, Lp g k w ∧ Ret g (place g w).2 (place g w).1 k) := by
  unfold Abs.has
  rw [Bool.not_eq_true', List.isEmpty_eq_false_iff_exists_mem]
  constructor
  · rintro ⟨x, hx⟩
    rcases (mem_found wf).mp hx with ⟨j, h1, _, h2⟩ | ⟨w, h1, _, h2⟩
    · exact .inl ⟨j, h1, h2⟩
    · exact .inr ⟨w, h1, h2⟩
  · rintro (⟨j, h1, h2⟩ | ⟨w, h1, h2⟩)
    · exact ⟨_, (mem_found wf).mpr (.inl ⟨j, h1, rfl, h2⟩)⟩
    · exact ⟨_, (mem_found wf).mpr (.inr ⟨w, h1, rfl, h2⟩)⟩

theorem third_on {g : Abs} {i : Nat} (h : i < g.n) : On g 3 (3 * (i : Int) + 1) := by
  unfold On
  omega

theorem endless_iff {g : Abs} (wf : WF g) {k : Nat} : g.endless k = true ↔ ∃ w, Lp g k w ∧ (g.along w).1 = 1 ∧ Ret g (place g w).2 (place g w).1 k := by
  unfold Abs.endless
  rw [List.any_eq_true]
  constructor
  · rintro ⟨i, hi, h⟩
    rw [List.any_eq_true] at h
    obtain ⟨w, hw, h⟩ := h
    rw [Bool.and_eq_true, beq_iff_eq] at h
    have L : Lp g k w := lp_iff.mpr ⟨i, List.mem_range.mp hi, hw⟩
    obtain ⟨h1, h2, h3⟩ := mem_loops.mp hw
    match w, h1, h2, h3, L, h with
    | a :: v, h1, h2, h3, L, h =>
      obtain rfl : a = i := Option.some.inj h2
      refine ⟨_, L, by rw [h.1], ?_⟩
      have e : place g (a :: v) = (3 * (a : Int) + 1, 3) := by
        unfold place
        rw [if_pos (by rw [h.1])]
        rfl
      rw [e]
      exact (back_red wf (by decide) (third_on (List.mem_range.mp hi)) k).mp h.2
  · rintro ⟨w, L, h1, h2⟩
    obtain ⟨i, v, rfl, h5, h6, h7⟩ := L.cons
    refine ⟨i, List.mem_range.mpr h6, ?_⟩
    rw [List.any_eq_true]
    refine ⟨i :: v, mem_loops.mpr ⟨h7, rfl, h5⟩, ?_⟩
    have e : place g (i :: v) = (3 * (i : Int) + 1, 3) := by
      unfold place
      rw [if_pos h1]
      rfl
    rw [e] at h2
    rw [Bool.and_eq_true, beq_iff_eq]
    exact ⟨loop_rest h5 h1, (back_red wf (by decide) (third_on h6) k).mpr h2⟩

/-! ## The rows of rounds -/
/-- in lowest terms -/
def Low (x : Frac) : Prop := 0 < x.2 ∧ red x.1 x.2 = x
theorem low_red (p : Int) {q : Nat} (hq : 0 < q) : Low (red p q) := by
  obtain ⟨d, hd, e1, e2, h3, _⟩ := red_spec p hq
  refine ⟨h3, ?_⟩
  have := red_mul hd (red p q).1 (red p q).2
  rw [← e1, ← e2] at this
  exact this.symm

theorem lt_iff {x y : Frac} : lt x y = true ↔ x.1 * (y.2 : Int) < y.1 * (x.2 : Int) := by
  unfold lt
  rw [decide_eq_true_eq]

theorem lt_trans' {x y z : Frac} (hx : 0 < x.2) (hy : 0 < y.2) (hz : 0 < z.2) (h1 : lt x y = true) (h2 : lt y z = true) : lt x z = true := by
  rw [lt_iff] at *
  have a1 : x.1 * (y.2 : Int) * (z.2 : Int) < y.1 * (x.2 : Int) * (z.2 : Int) := Int.mul_lt_mul_of_pos_right h1 (by omega)
  have a2 : y.1 * (z.2 : Int) * (x.2 : Int) < z.1 * (y.2 : Int) * (x.2 : Int) := Int.mul_lt_mul_of_pos_right h2 (by omega)
  have a3 : (y.2 : Int) * (x.1 * (z.2 : Int)) < (y.2 : Int) * (z.1 * (x.2 : Int)) := by
    have e1 : (y.2 : Int) * (x.1 * (z.2 : Int)) = x.1 * (y.2 : Int) * (z.2 : Int) := by grind
    have e2 : (y.2 : Int) * (z.1 * (x.2 : Int)) = z.1 * (y.2 : Int) * (x.2 : Int) := by grind
    have e3 : y.1 * (x.2 : Int) * (z.2 : Int) = y.1 * (z.2 : Int) * (x.2 : Int) := by grind
    omega
  exact Int.lt_of_mul_lt_mul_left a3 (by omega)

theorem lt_irrefl' (x : Frac) : ¬ lt x x = true := by
  rw [lt_iff]
  omega

theorem lt_tri {x y : Frac} (hx : Low x) (hy : Low y) (h1 : ¬ lt x y = true) (h2 : ¬ lt y x = true) : x = y := by
  rw [lt_iff] at h1 h2
  rw [← hx.2, ← hy.2]
  exact red_cross hx.1 hy.1 (by omega)

theorem mem_insert {x : Frac} : ∀ {l : List Frac} {z : Frac}, z ∈ insert_ x l ↔ z = x ∨ z ∈ l
  | [], z => by
    unfold insert_
    simp
  | y :: l, z => by
    unfold insert_
    split
    · rename_i c
      subst c
      simp
    · split
      · simp
      · rw [List.mem_cons, mem_insert, List.mem_cons]
        constructor
        · rintro (h | h | h)
          · exact .inr (.inl h)
          · exact .inl h
          · exact .inr (.inr h)
        · rintro (h | h | h)
          · exact .inr (.inl h)
          · exact .inl h
          · exact .inr (.inr h)

abbrev Rising (l : List Frac) : Prop := l.Pairwise fun a b => lt a b = true

theorem rising_insert {x : Frac} (hx : Low x) : ∀ {l : List Frac}, (∀ y ∈ l, Low y) → Rising l → Rising (insert_ x l)
  | [], _, _ => by
    unfold insert_
    simp [Rising]
  | y :: l, hl, hr => by
    have hr' := List.pairwise_cons.mp hr
    unfold insert_
    split
    · exact hr
    · rename_i c
      split
      · rename_i d
        refine List.pairwise_cons.mpr ⟨fun z hz => ?_, hr⟩
        rcases List.mem_cons.mp hz with rfl | hz'
        · exact d
        · exact lt_trans' hx.1 (hl y (by simp)).1 (hl z hz).1 d (hr'.1 z hz')
      · rename_i d
        refine List.pairwise_cons.mpr ⟨fun z hz => ?_, rising_insert hx (fun z hz => hl z (by simp [hz])) hr'.2⟩
        rcases mem_insert.mp hz with rfl | hz'
        · refine Classical.byContradiction fun e => c ?_
          exact lt_tri hx (hl y (by simp)) d e
        · exact hr'.1 z hz'

theorem fold_insert : ∀ (l s : List Frac), (∀ y ∈ l, Low y) → (∀ y ∈ s, Low y) → Rising s →
    Rising (l.foldl (fun s x => insert_ x s) s) ∧ ∀ z, z ∈ l.foldl (fun s x => insert_ x s) s ↔ z ∈ l ∨ z ∈ s
  | [], s, _, _, hr => ⟨hr, fun z => by simp⟩
  | x :: l, s, hl, hs, hr => by
    have hx := hl x (by simp)
    have h1 : ∀ y ∈ insert_ x s, Low y := fun y hy => by
      rcases mem_insert.mp hy with rfl | h
      · exact hx
      · exact hs y h
    obtain ⟨h2, h3⟩ := fold_insert l (insert_ x s) (fun y hy => hl y (by simp [hy])) h1 (rising_insert hx hs hr)
    refine ⟨h2, fun z => ?_⟩
    rw [List.foldl_cons, h3, mem_insert, List.mem_cons]
    constructor
    · rintro (h | h | h)
      · exact .inl (.inr h)
      · exact .inl (.inl h)
      · exact .inr h
    · rintro ((h | h) | h)
      · exact .inr (.inl h)
      · exact .inl h
      · exact .inr (.inr h)

theorem rising_eq : ∀ {a b : List Frac}, (∀ y ∈ a, Low y) → (∀ y ∈ b, Low y) → Rising a → Rising b → (∀ z, z ∈ a ↔ z ∈ b) → a = b
  | [], [], _, _, _, _, _ => rfl
  | [], y :: b, _, _, _, _, h => absurd ((h y).mpr (by simp)) (by simp)
  | x :: a, [], _, _, _, _, h => absurd ((h x).mp (by simp)) (by simp)
  | x :: a, y :: b, la, lb, ra, rb, h => by
    have ra' := List.pairwise_cons.mp ra
    have rb' := List.pairwise_cons.mp rb
    have lx := la x (by simp)
    have ly := lb y (by simp)
    have e : x = y := by
      rcases List.mem_cons.mp ((h x).mp (by simp)) with e | e
      · exact e
      · rcases List.mem_cons.mp ((h y).mpr (by simp)) with f | f
        · exact f.symm
        · exact absurd (lt_trans' lx.1 ly.1 lx.1 (ra'.1 y f) (rb'.1 x e)) (lt_irrefl' x)
    subst e
    congr 1
    refine rising_eq (fun z hz => la z (by simp [hz])) (fun z hz => lb z (by simp [hz])) ra'.2 rb'.2 fun z => ?_
    constructor
    · intro hz
      rcases List.mem_cons.mp ((h z).mp (by simp [hz])) with e | e
      · subst e
        exact absurd (ra'.1 z hz) (lt_irrefl' z)
      · exact e
    · intro hz
      rcases List.mem_cons.mp ((h z).mpr (by simp [hz])) with e | e
      · subst e
        exact absurd (rb'.1 z hz) (lt_irrefl' z)
      · exact e

theorem mem_merged : ∀ (f : Nat) (a b : List Frac) (z : Frac), z ∈ merged f a b ↔ z ∈ a ∨ z ∈ b
  | 0, a, b, z => by simp [merged]
  | f + 1, [], b, z => by simp [merged]
  | f + 1, x :: a, [], z => by simp [merged]
  | f + 1, x :: a, y :: b, z => by
    unfold merged
    split
    · rw [List.mem_cons, mem_merged f a (y :: b) z, List.mem_cons (a := z) (b := x)]
      grind
    · rw [List.mem_cons, mem_merged f (x :: a) b z, List.mem_cons (a := z) (b := y)]
      grind

theorem mem_falling : ∀ (f : Nat) (l : List Frac) (z : Frac), z ∈ falling f l ↔ z ∈ l
  | 0, l, z => Iff.rfl
  | f + 1, l, z => by
    unfold falling
    split
    · exact Iff.rfl
    · rw [mem_merged, mem_falling f, mem_falling f]
      conv => rhs; rw [← List.take_append_drop (l.length / 2) l, List.mem_append]

theorem leastOf_spec : ∀ (l : List Frac) (m : Frac), (∀ y ∈ l, 0 < y.2) → 0 < m.2 →
    (l.foldl (fun m x => if lt x m = true then x else m) m = m ∨ l.foldl (fun m x => if lt x m = true then x else m) m ∈ l) ∧ ¬ lt m (l.foldl (fun m x => if lt x m = true then x else m) m) = true ∧ ∀ y ∈ l, ¬ lt y (l.foldl (fun m x => if lt x m = true then x else m) m) = true
  | [], m, _, _ => ⟨.inl rfl, lt_irrefl' m, fun y hy => by cases hy⟩
  | x :: l, m, hl, hm => by
    rw [List.foldl_cons]
    have hx := hl x (by simp)
    have hl' : ∀ y ∈ l, 0 < y.2 := fun y hy => hl y (by simp [hy])
    by_cases c : lt x m = true
    · rw [if_pos c]
      obtain ⟨h1, h2, h3⟩ := leastOf_spec l x hl' hx
      have hp : 0 < (l.foldl (fun m x => if lt x m = true then x else m) x).2 := by
        rcases h1 with h1 | h1
        · rw [h1]; exact hx
        · exact hl' _ h1
      refine ⟨.inr ?_, fun h => ?_, fun y hy => ?_⟩
      · rcases h1 with h1 | h1
        · rw [h1]; simp
        · exact List.mem_cons_of_mem _ h1
      · exact h2 (lt_trans' hx hm hp c h)
      · rcases List.mem_cons.mp hy with rfl | hy'
        · exact h2
        · exact h3 y hy'
    · rw [if_neg c]
      obtain ⟨h1, h2, h3⟩ := leastOf_spec l m hl' hm
      have hp : 0 < (l.foldl (fun m x => if lt x m = true then x else m) m).2 := by
        rcases h1 with h1 | h1
        · rw [h1]; exact hm
        · exact hl' _ h1
      refine ⟨?_, h2, fun y hy => ?_⟩
      · rcases h1 with h1 | h1
        · exact .inl h1
        · exact .inr (List.mem_cons_of_mem _ h1)
      · rcases List.mem_cons.mp hy with rfl | hy'
        · intro h
          -- not y < m, so m <= y < the least: m < it
          refine h2 ?_
          rw [lt_iff] at *
          generalize l.foldl (fun m x => if lt x m = true then x else m) m = t at *
          have a1 : m.1 * (y.2 : Int) * (t.2 : Int) ≤ y.1 * (m.2 : Int) * (t.2 : Int) := Int.mul_le_mul_of_nonneg_right (by omega) (by omega)
          have a2 : y.1 * (t.2 : Int) * (m.2 : Int) < t.1 * (y.2 : Int) * (m.2 : Int) := Int.mul_lt_mul_of_pos_right h (by omega)
          have a3 : (y.2 : Int) * (m.1 * (t.2 : Int)) < (y.2 : Int) * (t.1 * (m.2 : Int)) := by
            have e1 : (y.2 : Int) * (m.1 * (t.2 : Int)) = m.1 * (y.2 : Int) * (t.2 : Int) := by grind
            have e2 : (y.2 : Int) * (t.1 * (m.2 : Int)) = t.1 * (y.2 : Int) * (m.2 : Int) := by grind
            have e3 : y.1 * (m.2 : Int) * (t.2 : Int) = y.1 * (t.2 : Int) * (m.2 : Int) := by grind
            omega
          exact Int.lt_of_mul_lt_mul_left a3 (by omega)
        · exact h3 y hy'

theorem leastOf_mem {l : List Frac} (hl : ∀ y ∈ l, 0 < y.2) (h0 : l ≠ []) : leastOf l ∈ l ∧ ∀ y ∈ l, ¬ lt y (leastOf l) = true := by
  match l, h0, hl with
  | x :: l, _, hl =>
    obtain ⟨h1, h2, h3⟩ := leastOf_spec (x :: l) x hl (hl x (by simp))
    refine ⟨?_, h3⟩
    rcases h1 with h1 | h1
    · unfold leastOf
      show List.foldl _ x _ ∈ _
      rw [h1]
      simp
    · exact h1

theorem leastOf_is {l : List Frac} (hl : ∀ y ∈ l, Low y) {m : Frac} (hm : m ∈ l) (h : ∀ y ∈ l, ¬ lt y m = true) : leastOf l = m := by
  have h0 : l ≠ [] := by
    intro e
    rw [e] at hm
    cases hm
  obtain ⟨h1, h2⟩ := leastOf_mem (fun y hy => (hl y hy).1) h0
  exact lt_tri (hl _ h1) (hl m hm) (h _ h1) (h2 m hm)

theorem found_low {g : Abs} (wf : WF g) {k : Nat} {x : Frac} (h : x ∈ g.found k) : Low x := by
  rcases (mem_found wf).mp h with ⟨j, _, rfl, _⟩ | ⟨w, _, rfl, _⟩
  · exact low_red _ (by decide)
  · exact low_red _ (place_pos g w)

theorem found_on {g : Abs} (wf : WF g) {k : Nat} {x : Frac} (h : x ∈ g.found k) : ∃ p q, 0 < q ∧ On g q p ∧ x = red p q ∧ Ret g q p k := by
  rcases (mem_found wf).mp h with ⟨j, hj, rfl, hr⟩ | ⟨w, L, rfl, hr⟩
  · exact ⟨_, 1, by decide, point_on hj, rfl, hr⟩
  · exact ⟨_, _, place_pos g w, L.on, rfl, hr⟩

theorem way_low {g : Abs} (wf : WF g) {k q : Nat} {p : Int} (hq : 0 < q) (h : On g q p) {y : Frac} (hy : y ∈ g.way (red p q) k) : Low y := by
  rw [way_red wf hq k h] at hy
  obtain ⟨j, _, rfl⟩ := List.mem_map.mp hy
  exact low_red _ hq

theorem least_low {g : Abs} (wf : WF g) {k : Nat} {x : Frac} (h : x ∈ g.found k) : Low (leastOf (g.way x k)) := by
  obtain ⟨p, q, hq, ho, rfl, hr⟩ := found_on wf h
  have h0 : g.way (red p q) k ≠ [] := by
    rw [way_red wf hq k ho]
    have := hr.pos
    intro e
    have := congrArg List.length e
    simp at this
    omega
  exact way_low wf hq ho (leastOf_mem (fun y hy => (way_low wf hq ho hy).1) h0).1

theorem rounds_spec {g : Abs} (wf : WF g) (k : Nat) : Rising (g.rounds k) ∧ ∀ z, z ∈ g.rounds k ↔ ∃ x ∈ g.found k, leastOf (g.way x k) = z := by
  unfold Abs.rounds
  have hm : ∀ z, z ∈ g.leasts k ↔ ∃ x ∈ g.found k, leastOf (g.way x k) = z := fun z => by
    unfold Abs.leasts
    rw [mem_falling, List.mem_map]
  obtain ⟨h1, h2⟩ := fold_insert (g.leasts k) [] (fun y hy => by
    obtain ⟨x, hx, rfl⟩ := (hm y).mp hy
    exact least_low wf hx) (fun y hy => by cases hy) List.Pairwise.nil
  refine ⟨h1, fun z => ?_⟩
  rw [h2, hm]
  simp

theorem rounds_low {g : Abs} (wf : WF g) {k : Nat} : ∀ z ∈ g.rounds k, Low z := fun z hz => by
  obtain ⟨x, hx, rfl⟩ := ((rounds_spec wf k).2 z).mp hz
  exact least_low wf hx

/-- the rows of rounds are told by what is in them -/
theorem rounds_is {g : Abs} (wf : WF g) {k : Nat} {r : List Frac} (low : ∀ z ∈ r, Low z) (hr : Rising r) (h : ∀ z, z ∈ r ↔ ∃ x ∈ g.found k, leastOf (g.way x k) = z) : g.rounds k = r :=
  rising_eq (rounds_low wf) low (rounds_spec wf k).1 hr fun z => by rw [(rounds_spec wf k).2, h]
end Fl

namespace Fl

/-- how many numbers a call has, but for row's -/
def cnt (p : Int) : Nat := match PySu183.shape p with
  | some (n, _) => n
  | none => 0

/-- one call read off: its number, its numbers, what is left -/
inductive Read : List Int → Int → List Int → List Int → Prop
  | row {m : Int} {r : List Int} (h0 : 0 ≤ m) (hl : m.toNat ≤ r.length) : Read (2 :: m :: r) 2 (r.take m.toNat) (r.drop m.toNat)
  | plain {p : Int} {r : List Int} (h2 : p ≠ 2) (hp0 : 0 ≤ p) (hp : p ≤ 15) (hl : cnt p ≤ r.length) : Read (p :: r) p (r.take (cnt p)) (r.drop (cnt p))

theorem shape_row : PySu183.shape 2 = some (0, 1) := rfl
theorem shape_plain {p : Int} {n k : Nat} (h2 : p ≠ 2) (h : PySu183.shape p = some (n, k)) : k = 0 ∧ 0 ≤ p ∧ p ≤ 15 := by
  by_cases c0 : p = 0
  · subst c0
    have h' := Option.some.inj h
    exact ⟨(Prod.mk.inj h').2.symm, by decide, by decide⟩
  by_cases c1 : p = 1
  · subst c1
    have h' := Option.some.inj h
    exact ⟨(Prod.mk.inj h').2.symm, by decide, by decide⟩
  by_cases c3 : p = 3
  · subst c3
    have h' := Option.some.inj h
    exact ⟨(Prod.mk.inj h').2.symm, by decide, by decide⟩
  by_cases c4 : p = 4
  · subst c4
    have h' := Option.some.inj h
    exact ⟨(Prod.mk.inj h').2.symm, by decide, by decide⟩
  by_cases c5 : p = 5
  · subst c5
    have h' := Option.some.inj h
    exact ⟨(Prod.mk.inj h').2.symm, by decide, by decide⟩
  by_cases c6 : p = 6
  · subst c6
    have h' := Option.some.inj h
    exact ⟨(Prod.mk.inj h').2.symm, by decide, by decide⟩
  by_cases c7 : p = 7
  · subst c7
    have h' := Option.some.inj h
    exact ⟨(Prod.mk.inj h').2.symm, by decide, by decide⟩
  by_cases c8 : p = 8
  · subst c8
    have h' := Option.some.inj h
    exact ⟨(Prod.mk.inj h').2.symm, by decide, by decide⟩
  by_cases c9 : p = 9
  · subst c9
    have h' := Option.some.inj h
    exact ⟨(Prod.mk.inj h').2.symm, by decide, by decide⟩
  by_cases c10 : p = 10
  · subst c10
    have h' := Option.some.inj h
    exact ⟨(Prod.mk.inj h').2.symm, by decide, by decide⟩
  by_cases c11 : p = 11
  · subst c11
    have h' := Option.some.inj h
    exact ⟨(Prod.mk.inj h').2.symm, by decide, by decide⟩
  by_cases c12 : p = 12
  · subst c12
    have h' := Option.some.inj h
    exact ⟨(Prod.mk.inj h').2.symm, by decide, by decide⟩
  by_cases c13 : p = 13
  · subst c13
    have h' := Option.some.inj h
    exact ⟨(Prod.mk.inj h').2.symm, by decide, by decide⟩
  by_cases c14 : p = 14
  · subst c14
    have h' := Option.some.inj h
    exact ⟨(Prod.mk.inj h').2.symm, by decide, by decide⟩
  by_cases c15 : p = 15
  · subst c15
    have h' := Option.some.inj h
    exact ⟨(Prod.mk.inj h').2.symm, by decide, by decide⟩
  exfalso
  unfold PySu183.shape at h
  rw [if_neg c0, if_neg c1, if_neg h2, if_neg c3, if_neg c4, if_neg c5, if_neg c6, if_neg c7, if_neg c8, if_neg c9, if_neg c10, if_neg c11, if_neg c12, if_neg c13, if_neg c14, if_neg c15] at h
  cases h

theorem whole_plain (p : Int) (ns : List Int) : (PySu183.whole [p :: ns]).headD [] = p :: ns := by
  unfold PySu183.whole
  split <;> first
    | rfl
    | simp_all

theorem calls_step {f : Nat} {p : Int} {r : List Int} {cs : List (List (List Int))} (h : PyFlat.calls PySu183.shape (f + 1) (p :: r) = some cs) :
    ∃ c ns rest cs', cs = c :: cs' ∧ Read (p :: r) p ns rest ∧ (PySu183.whole c).headD [] = p :: ns ∧ PyFlat.calls PySu183.shape f rest = some cs' := by
  unfold PyFlat.calls at h
  cases hc : PyFlat.call PySu183.shape (p :: r) with
  | none => rw [hc] at h; cases h
  | some x =>
    obtain ⟨c, t⟩ := x
    rw [hc] at h
    dsimp only at h
    cases ht : PyFlat.calls PySu183.shape f t with
    | none => rw [ht] at h; cases h
    | some cs' =>
      rw [ht] at h
      have e : c :: cs' = cs := Option.some.inj h
      unfold PyFlat.call at hc
      dsimp only at hc
      cases hs : PySu183.shape p with
      | none => rw [hs] at hc; cases hc
      | some x =>
        obtain ⟨n, k⟩ := x
        rw [hs] at hc
        dsimp only at hc
        split at hc
        · cases hc
        · rename_i hn
          by_cases h2 : p = 2
          · subst h2
            rw [shape_row] at hs
            obtain ⟨rfl, rfl⟩ := Prod.mk.inj (Option.some.inj hs)
            rw [List.drop_zero, List.take_zero] at hc
            unfold PyFlat.rows at hc
            cases hr : PyFlat.row r with
            | none => rw [hr] at hc; cases hc
            | some x =>
              obtain ⟨a, b⟩ := x
              rw [hr] at hc
              unfold PyFlat.rows at hc
              have hc' : some (([2] : List Int) :: [a], b) = some (c, t) := hc
              obtain ⟨rfl, rfl⟩ := Prod.mk.inj (Option.some.inj hc')
              unfold PyFlat.row at hr
              match r, hr with
              | [], hr => cases hr
              | m :: r', hr =>
                dsimp only at hr
                split at hr
                · rename_i hm
                  obtain ⟨rfl, rfl⟩ := Prod.mk.inj (Option.some.inj hr)
                  exact ⟨_, _, _, _, e.symm, .row hm.1 hm.2, rfl, ht⟩
                · cases hr
          · obtain ⟨rfl, hp0, hp⟩ := shape_plain h2 hs
            have hc' : some ((p :: r.take n) :: ([] : List (List Int)), r.drop n) = some (c, t) := hc
            obtain ⟨rfl, rfl⟩ := Prod.mk.inj (Option.some.inj hc')
            have ecnt : cnt p = n := by
              unfold cnt
              rw [hs]
            have R := Read.plain (p := p) (r := r) h2 hp0 hp (by omega)
            rw [ecnt] at R
            exact ⟨_, _, _, _, e.symm, R, whole_plain p _, ht⟩

/-- what is answered of the calls that are left, from a state on -/
def rest (s : Su183Neutral.S) (cs : List (List (List Int))) : List Int := PyFlat.told (PyFlat.played (fun s c => Su183Neutral.step s (c.headD [])) s (cs.map PySu183.whole))
theorem rest_nil (s : Su183Neutral.S) : rest s [] = [] := rfl
theorem rest_cons (s : Su183Neutral.S) (c : List (List Int)) (cs : List (List (List Int))) {d : List Int} (h : (PySu183.whole c).headD [] = d) :
    rest s (c :: cs) = (((Su183Neutral.step s d).2.length : Int) :: (Su183Neutral.step s d).2) ++ rest (Su183Neutral.step s d).1 cs := by
  subst h
  rfl
theorem answers_rest {l : List Int} {cs : List (List (List Int))} (h : PyFlat.calls PySu183.shape l.length l = some cs) : PySu183.answers l = rest Su183Neutral.start cs := by
  unfold PySu183.answers PySu183.calls
  rw [h]
  rfl

/-- all that is asked of what is handed in -/
theorem asked_of {l : List Int} (h : PySu183.answers_asked l = true) : ∃ cs, PyFlat.calls PySu183.shape l.length l = some cs ∧ (∀ c ∈ cs, Su183Neutral.asked1 ((PySu183.whole c).headD []) = true) ∧ (rest Su183Neutral.start cs).length ≤ 10000000 := by
  unfold PySu183.answers_asked at h
  cases hc : PyFlat.calls PySu183.shape l.length l with
  | none => rw [hc] at h; cases h
  | some cs =>
    rw [hc] at h
    dsimp only at h
    rw [Bool.and_eq_true, Bool.and_eq_true] at h
    refine ⟨cs, rfl, fun c m => ?_, ?_⟩
    · have h1 := h.1.2
      unfold Su183Neutral.asked at h1
      rw [Bool.and_eq_true, List.all_eq_true] at h1
      exact h1.2 _ (List.mem_map.mpr ⟨_, List.mem_map.mpr ⟨c, m, rfl⟩, rfl⟩)
    · have h1 := h.2
      unfold PyFlat.short at h1
      rw [answers_rest hc] at h1
      exact of_decide_eq_true h1
theorem calls_nil (f : Nat) {cs : List (List (List Int))} (h : PyFlat.calls PySu183.shape f [] = some cs) : cs = [] := by
  unfold PyFlat.calls at h
  exact (Option.some.inj h).symm
end Fl

namespace Fl
open Su183 (Abs red does)
open Su183Neutral (step asked1 callOf natural)

def Nat32 (z : Int) : Prop := 0 ≤ z ∧ z < 4294967296
theorem nat32 {z : Int} (h : natural z 32 = true) : Nat32 z := by
  unfold natural at h
  rw [Bool.and_eq_true, decide_eq_true_eq, decide_eq_true_eq] at h
  exact h

theorem asked_one {p : Int} (hp : p = 0 ∨ p = 7 ∨ p = 9 ∨ p = 13) {ns : List Int} (h : asked1 (p :: ns) = true) : ∃ a, ns = [a] ∧ Nat32 a := by
  rcases hp with rfl | rfl | rfl | rfl <;>
  · match ns, h with
    | [], h => exact absurd h (by decide)
    | [a], h =>
      have h' : (true && natural a 32) = true := h
      exact ⟨a, rfl, nat32 (by simpa using h')⟩
    | [a, b], h =>
      have h' : (false && (natural a 32 && natural b 32)) = true := h
      simp at h'
    | [a, b, c], h => exact absurd h (by simp [asked1])
    | a :: b :: c :: d :: e, h => exact absurd h (by simp [asked1])

theorem asked_two {p : Int} (hp : p = 1 ∨ p = 3 ∨ p = 5 ∨ p = 6 ∨ p = 10 ∨ p = 11 ∨ p = 12) {ns : List Int} (h : asked1 (p :: ns) = true) : ∃ a b, ns = [a, b] ∧ Nat32 a ∧ Nat32 b := by
  rcases hp with rfl | rfl | rfl | rfl | rfl | rfl | rfl <;>
  · match ns, h with
    | [], h => exact absurd h (by decide)
    | [a], h =>
      have h' : (false && natural a 32) = true := h
      simp at h'
    | [a, b], h =>
      have h' : (true && (natural a 32 && natural b 32)) = true := h
      rw [Bool.true_and, Bool.and_eq_true] at h'
      exact ⟨a, b, rfl, nat32 h'.1, nat32 h'.2⟩
    | [a, b, c], h => exact absurd h (by simp [asked1])
    | a :: b :: c :: d :: e, h => exact absurd h (by simp [asked1])

theorem asked_three {ns : List Int} (h : asked1 (4 :: ns) = true) : ∃ a b c, ns = [a, b, c] ∧ Nat32 a ∧ Nat32 b ∧ Nat32 c := by
  match ns, h with
  | [], h => exact absurd h (by decide)
  | [a], h =>
    have h' : (false && natural a 32) = true := h
    simp at h'
  | [a, b], h =>
    have h' : (false && (natural a 32 && natural b 32)) = true := h
    simp at h'
  | [a, b, c], h =>
    have h' : (natural a 32 && (natural b 32 && natural c 32)) = true := h
    rw [Bool.and_eq_true, Bool.and_eq_true] at h'
    exact ⟨a, b, c, rfl, nat32 h'.1, nat32 h'.2.1, nat32 h'.2.2⟩
  | a :: b :: c :: d :: e, h => exact absurd h (by simp [asked1])

theorem asked_none {p : Int} (hp : p = 8 ∨ p = 14 ∨ p = 15) {ns : List Int} (h : asked1 (p :: ns) = true) : ns = [] := by
  rcases hp with rfl | rfl | rfl <;>
  · match ns, h with
    | [], h => rfl
    | [a], h =>
      have h' : (false && natural a 32) = true := h
      simp at h'
    | [a, b], h =>
      have h' : (false && (natural a 32 && natural b 32)) = true := h
      simp at h'
    | [a, b, c], h => exact absurd h (by simp [asked1])
    | a :: b :: c :: d :: e, h => exact absurd h (by simp [asked1])

theorem asked_row {ns : List Int} (h : asked1 (2 :: ns) = true) : ns.length ≤ 10 ∧ ∀ z ∈ ns, Nat32 z := by
  have h' : (decide (ns.length ≤ 10) && ns.all fun z => natural z 32) = true := h
  rw [Bool.and_eq_true, decide_eq_true_eq, List.all_eq_true] at h'
  exact ⟨h'.1, fun z hz => nat32 (h'.2 z hz)⟩

theorem step_some {g : Abs} {c : List Int} {x : Su183.Call} (h : callOf c = some x) : step (some g) c = (some (does g x).1, (does g x).2.value :: (does g x).2.out) := by
  unfold step
  rw [h]
  rfl

/-- what the object is, between two calls -/
def OkS : Option Abs → Prop
  | none => True
  | some g => WF g

theorem wf_new {n : Nat} (h1 : 1 ≤ n) (h6 : n ≤ 6) : WF (Su183.new n) := by
  refine ⟨?_, fun v hv => ?_, h1, h6⟩
  · show (List.range (n + 1)).length = n + 1
    simp
  · have : v ∈ List.range (n + 1) := hv
    rw [List.mem_range] at this
    show v ≤ n
    omega
theorem wf_set {g : Abs} (w : WF g) {i v : Nat} (hv : v ≤ g.n) : WF { g with to := g.to.set i v } := by
  refine ⟨?_, fun u hu => ?_, w.pos, w.six⟩
  · show (g.to.set i v).length = g.n + 1
    rw [List.length_set, w.len]
  · rcases List.mem_or_eq_of_mem_set hu with h | h
    · exact w.all u h
    · rw [h]; exact hv
theorem wf_to {g : Abs} (w : WF g) {l : List Nat} (hl : l.length = g.n + 1) (h : ∀ v ∈ l, v ≤ g.n) : WF { g with to := l } := ⟨hl, h, w.pos, w.six⟩
theorem wf_turned {g : Abs} (w : WF g) : WF g.turned := by
  refine ⟨?_, fun v hv => ?_, w.pos, w.six⟩
  · show ((List.range (g.n + 1)).map _).length = g.n + 1
    simp
  · obtain ⟨i, _, rfl⟩ := List.mem_map.mp (show v ∈ (List.range (g.n + 1)).map _ from hv)
    show g.n - _ ≤ g.n
    omega

theorem begin_bad {s : Option Abs} {n : Int} (h0 : Nat32 n) (h : n < 1 ∨ 6 < n) : step s [0, n] = (s, [-22]) := by
  have h' : n.toNat = 0 ∨ Su183.PIECES < n.toNat := by
    unfold Su183.PIECES
    have := h0.1
    omega
  have e : ∀ g, does g (.begin_ n.toNat) = (g, Su183.no (-22)) := fun g => if_pos h'
  cases s with
  | none =>
    show (let r := Su183.step none (.begin_ n.toNat); (r.1, r.2.value :: r.2.out)) = _
    unfold Su183.step
    dsimp only
    rw [e]
    rfl
  | some g =>
    rw [step_some (x := .begin_ n.toNat) rfl, e]
    rfl
theorem begin_ok {s : Option Abs} {n : Int} (h1 : 1 ≤ n) (h6 : n ≤ 6) : step s [0, n] = (some (Su183.new n.toNat), [0]) := by
  have h' : ¬ (n.toNat = 0 ∨ Su183.PIECES < n.toNat) := by
    unfold Su183.PIECES
    omega
  have e : ∀ g, does g (.begin_ n.toNat) = (Su183.new n.toNat, Su183.num 0 []) := fun g => if_neg h'
  cases s with
  | none =>
    show (let r := Su183.step none (.begin_ n.toNat); (r.1, r.2.value :: r.2.out)) = _
    unfold Su183.step
    dsimp only
    rw [e]
    rfl
  | some g =>
    rw [step_some (x := .begin_ n.toNat) rfl, e]
    rfl
/-- not begun -/
theorem step_none {p : Int} {ns : List Int} (hp : p ≠ 0) (h : asked1 (p :: ns) = true) : step none (p :: ns) = (none, [-11]) := by
  by_cases h2 : p = 2
  · subst h2
    rfl
  · by_cases h4 : p = 4
    · subst h4
      obtain ⟨a, b, c, rfl, _⟩ := asked_three h
      rfl
    · by_cases h1 : p = 7 ∨ p = 9 ∨ p = 13
      · obtain ⟨a, rfl, _⟩ := asked_one (.inr h1) h
        rcases h1 with rfl | rfl | rfl <;> rfl
      · by_cases h3 : p = 1 ∨ p = 3 ∨ p = 5 ∨ p = 6 ∨ p = 10 ∨ p = 11 ∨ p = 12
        · obtain ⟨a, b, rfl, _⟩ := asked_two h3 h
          rcases h3 with rfl | rfl | rfl | rfl | rfl | rfl | rfl <;> rfl
        · by_cases h5 : p = 8 ∨ p = 14 ∨ p = 15
          · obtain rfl := asked_none h5 h
            rcases h5 with rfl | rfl | rfl <;> rfl
          · exfalso
            match ns, h with
            | [], h =>
              have h' : ([8, 14, 15] : List Int).contains p = true := by
                simpa [asked1, h2] using h
              rw [List.contains_iff_mem] at h'
              simp at h'
              omega
            | [a], h =>
              have h' : (([0, 7, 9, 13] : List Int).contains p && natural a 32) = true := by
                simpa [asked1, h2] using h
              rw [Bool.and_eq_true, List.contains_iff_mem] at h'
              have := h'.1
              simp at this
              omega
            | [a, b], h =>
              have h' : (([1, 3, 5, 6, 10, 11, 12] : List Int).contains p && (natural a 32 && natural b 32)) = true := by
                simpa [asked1, h2] using h
              rw [Bool.and_eq_true, List.contains_iff_mem] at h'
              have := h'.1
              simp at this
              omega
            | [a, b, c], h => simp [asked1, h2, h4] at h
            | a :: b :: c :: d :: e, h => simp [asked1, h2] at h
end Fl

namespace Fl
open Su183 (Abs red does Frac ofFrac)
open Su183Neutral (step)
variable {g : Abs}
theorem set_no1 {i v : Int} (h : (g.n : Int) < i) : step (some g) [1, i, v] = (some g, [-2]) := by
  have e : does g (.set i.toNat v.toNat) = (g, Su183.no (-2)) := if_pos (by omega)
  rw [step_some (x := .set i.toNat v.toNat) rfl, e]
  rfl
theorem set_no2 {i v : Int} (h0 : 0 ≤ i) (h : ¬ (g.n : Int) < i) (h2 : (g.n : Int) < v) : step (some g) [1, i, v] = (some g, [-22]) := by
  have e : does g (.set i.toNat v.toNat) = (g, Su183.no (-22)) := by
    show (if g.n < i.toNat then _ else if g.n < v.toNat then _ else _) = _
    rw [if_neg (by omega), if_pos (by omega)]
  rw [step_some (x := .set i.toNat v.toNat) rfl, e]
  rfl
theorem set_ok {i v : Int} (h0 : 0 ≤ i) (h : ¬ (g.n : Int) < i) (h2 : ¬ (g.n : Int) < v) : step (some g) [1, i, v] = (some { g with to := g.to.set i.toNat v.toNat }, [(g.point i.toNat : Int)]) := by
  have e : does g (.set i.toNat v.toNat) = ({ g with to := g.to.set i.toNat v.toNat }, Su183.num (g.point i.toNat) []) := by
    show (if g.n < i.toNat then _ else if g.n < v.toNat then _ else _) = _
    rw [if_neg (by omega), if_neg (by omega)]
  rw [step_some (x := .set i.toNat v.toNat) rfl, e]
  rfl
theorem row_no {ns : List Int} (h : ns.length ≠ g.n + 1 ∨ ∃ z ∈ ns, (g.n : Int) < z) : step (some g) (2 :: ns) = (some g, [-22]) := by
  have e : does g (.row (ns.map Int.toNat)) = (g, Su183.no (-22)) := if_pos (by
    rcases h with h | ⟨z, hz, hl⟩
    · left
      simpa using h
    · right
      rw [List.any_eq_true]
      exact ⟨z.toNat, List.mem_map.mpr ⟨z, hz, rfl⟩, decide_eq_true (by omega)⟩)
  rw [step_some (x := .row (ns.map Int.toNat)) rfl, e]
  rfl
theorem row_ok {ns : List Int} (h : ns.length = g.n + 1) (h2 : ∀ z ∈ ns, z ≤ (g.n : Int)) : step (some g) (2 :: ns) = (some { g with to := ns.map Int.toNat }, [0]) := by
  have e : does g (.row (ns.map Int.toNat)) = ({ g with to := ns.map Int.toNat }, Su183.num 0 []) := if_neg (by
    rintro (h3 | h3)
    · exact h3 (by simpa using h)
    · rw [List.any_eq_true] at h3
      obtain ⟨v, hv, hl⟩ := h3
      obtain ⟨z, hz, rfl⟩ := List.mem_map.mp hv
      have := h2 z hz
      have := of_decide_eq_true hl
      omega)
  rw [step_some (x := .row (ns.map Int.toNat)) rfl, e]
  rfl
theorem okPlace_on {p q : Int} (hp : 0 ≤ p) (hq : 0 ≤ q) (h : g.okPlace p.toNat q.toNat = true) : 0 < q.toNat ∧ q.toNat ≤ 40 ∧ On g q.toNat p := by
  unfold Su183.Abs.okPlace Su183.BELOW at h
  rw [Bool.and_eq_true, Bool.and_eq_true, decide_eq_true_eq, decide_eq_true_eq, decide_eq_true_eq] at h
  refine ⟨h.1, h.2.1, hp, ?_⟩
  have : ((g.n * q.toNat : Nat) : Int) = (g.n : Int) * (q.toNat : Int) := Int.natCast_mul _ _
  omega
theorem put_no {p q : Int} (h : g.okPlace p.toNat q.toNat = false) : step (some g) [3, p, q] = (some g, [-22]) := by
  have e : does g (.put p.toNat q.toNat) = (g, Su183.no (-22)) := if_pos h
  rw [step_some (x := .put p.toNat q.toNat) rfl, e]
  rfl
theorem put_ok (w : WF g) {p q : Int} (hp : 0 ≤ p) (hq : 0 ≤ q) (h : g.okPlace p.toNat q.toNat = true) : step (some g) [3, p, q] = (some g, [0, (red (mv g q.toNat p) q.toNat).1, ((red (mv g q.toNat p) q.toNat).2 : Int)]) := by
  obtain ⟨h1, h2, h3⟩ := okPlace_on hp hq h
  have e : does g (.put p.toNat q.toNat) = (g, Su183.num 0 (ofFrac (g.put (red (p.toNat : Int) q.toNat)))) := if_neg (by rw [h]; decide)
  have ep : (p.toNat : Int) = p := by omega
  rw [step_some (x := .put p.toNat q.toNat) rfl, e, ep, put_red w h1 h3]
  rfl
theorem way_no {p q k : Int} (h : g.okPlace p.toNat q.toNat = false ∨ k < 1 ∨ 20 < k) : step (some g) [4, p, q, k] = (some g, [-22]) := by
  have e : does g (.way p.toNat q.toNat k.toNat) = (g, Su183.no (-22)) := if_pos (by
    rcases h with h | h | h
    · exact .inl h
    · exact .inr (.inl (by omega))
    · exact .inr (.inr (by omega)))
  rw [step_some (x := .way p.toNat q.toNat k.toNat) rfl, e]
  rfl
/-- fractions over one number below -/
def fracs (q : Nat) (l : List Int) : List Int := l.flatMap fun p => [(red p q).1, ((red p q).2 : Int)]
theorem way_fracs (w : WF g) {q : Nat} (hq : 0 < q) {p : Int} (h : On g q p) (k : Nat) : (g.way (red p q) k).flatMap ofFrac = fracs q ((List.range k).map fun j => itn g q j p) := by
  rw [way_red w hq k h]
  unfold fracs
  rw [List.flatMap_map, List.flatMap_map]
  rfl
theorem way_ok (w : WF g) {p q k : Int} (hp : 0 ≤ p) (hq : 0 ≤ q) (h : g.okPlace p.toNat q.toNat = true) (h1 : 1 ≤ k) (h2 : k ≤ 20) : step (some g) [4, p, q, k] = (some g, k :: fracs q.toNat ((List.range k.toNat).map fun j => itn g q.toNat j p)) := by
  obtain ⟨a1, a2, a3⟩ := okPlace_on hp hq h
  have e : does g (.way p.toNat q.toNat k.toNat) = (g, Su183.num k.toNat ((g.way (red (p.toNat : Int) q.toNat) k.toNat).flatMap ofFrac)) := if_neg (by
    rw [h]
    rintro (h | h | h)
    · cases h
    · omega
    · omega)
  have ep : (p.toNat : Int) = p := by omega
  rw [step_some (x := .way p.toNat q.toNat k.toNat) rfl, e, ep, way_fracs w a1 a3]
  have ek : Int.ofNat k.toNat = k := by show (k.toNat : Int) = k; omega
  show (some g, Int.ofNat k.toNat :: _) = _
  rw [ek]
  rfl
theorem comes_no {p q : Int} (h : g.okPlace p.toNat q.toNat = false) : step (some g) [5, p, q] = (some g, [-22]) := by
  have e : does g (.comes p.toNat q.toNat) = (g, Su183.no (-22)) := if_pos h
  rw [step_some (x := .comes p.toNat q.toNat) rfl, e]
  rfl
theorem comes_ok (w : WF g) {p q : Int} (hp : 0 ≤ p) (hq : 0 ≤ q) (h : g.okPlace p.toNat q.toNat = true) {j m : Nat} (r : Rho g q.toNat p j m) : step (some g) [5, p, q] = (some g, [(j : Int), ((m - j : Nat) : Int)]) := by
  obtain ⟨a1, a2, a3⟩ := okPlace_on hp hq h
  have e : does g (.comes p.toNat q.toNat) = (g, Su183.num (g.comes (red (p.toNat : Int) q.toNat)).1 [((g.comes (red (p.toNat : Int) q.toNat)).2 : Int)]) := if_neg (by rw [h]; decide)
  have ep : (p.toNat : Int) = p := by omega
  rw [step_some (x := .comes p.toNat q.toNat) rfl, e, ep, comes_red w a1 a3 r]
  rfl
theorem covers_no {i j : Int} (h : (g.n : Int) ≤ i ∨ (g.n : Int) ≤ j) : step (some g) [6, i, j] = (some g, [-2]) := by
  have e : does g (.covers i.toNat j.toNat) = (g, Su183.no (-2)) := if_pos (by omega)
  rw [step_some (x := .covers i.toNat j.toNat) rfl, e]
  rfl
theorem covers_ok {i j : Int} (hi : 0 ≤ i) (hj : 0 ≤ j) (h1 : i < (g.n : Int)) (h2 : j < (g.n : Int)) : step (some g) [6, i, j] = (some g, [if g.covers i.toNat j.toNat = true then 1 else 0]) := by
  have e : does g (.covers i.toNat j.toNat) = (g, Su183.num (Su183.bit (g.covers i.toNat j.toNat)) []) := if_neg (by omega)
  rw [step_some (x := .covers i.toNat j.toNat) rfl, e]
  cases g.covers i.toNat j.toNat <;> rfl
theorem steps_no {k : Int} (h0 : 0 ≤ k) (h : k < 1 ∨ 6 < k) : Su183.okSteps k.toNat = false := by
  unfold Su183.okSteps Su183.STEPS
  rw [Bool.and_eq_false_iff, decide_eq_false_iff_not, decide_eq_false_iff_not]
  omega
theorem steps_ok {k : Int} (h1 : 1 ≤ k) (h6 : k ≤ 6) : ¬ Su183.okSteps k.toNat = false := by
  unfold Su183.okSteps Su183.STEPS
  rw [Bool.and_eq_false_iff, decide_eq_false_iff_not, decide_eq_false_iff_not]
  omega
theorem has_no {k : Int} (h0 : 0 ≤ k) (h : k < 1 ∨ 6 < k) : step (some g) [7, k] = (some g, [-22]) := by
  have e : does g (.has k.toNat) = (g, Su183.no (-22)) := if_pos (steps_no h0 h)
  rw [step_some (x := .has k.toNat) rfl, e]
  rfl
theorem has_ok {k : Int} (h1 : 1 ≤ k) (h6 : k ≤ 6) : step (some g) [7, k] = (some g, [if g.has k.toNat = true then 1 else 0]) := by
  have e : does g (.has k.toNat) = (g, Su183.num (Su183.bit (g.has k.toNat)) []) := if_neg (steps_ok h1 h6)
  rw [step_some (x := .has k.toNat) rfl, e]
  cases g.has k.toNat <;> rfl
theorem rounds_no {k : Int} (h0 : 0 ≤ k) (h : k < 1 ∨ 6 < k) : step (some g) [9, k] = (some g, [-22]) := by
  have e : does g (.rounds k.toNat) = (g, Su183.no (-22)) := if_pos (steps_no h0 h)
  rw [step_some (x := .rounds k.toNat) rfl, e]
  rfl
theorem rounds_endless {k : Int} (h1 : 1 ≤ k) (h6 : k ≤ 6) (h : g.endless k.toNat = true) : step (some g) [9, k] = (some g, [-75]) := by
  have e : does g (.rounds k.toNat) = (g, Su183.no (-75)) := by
    show (if Su183.okSteps k.toNat = false then _ else if g.endless k.toNat = true then _ else _) = _
    rw [if_neg (steps_ok h1 h6), if_pos h]
  rw [step_some (x := .rounds k.toNat) rfl, e]
  rfl
theorem rounds_ok {k : Int} (h1 : 1 ≤ k) (h6 : k ≤ 6) (h : g.endless k.toNat = false) : step (some g) [9, k] = (some g, [((g.rounds k.toNat).length : Int)]) := by
  have e : does g (.rounds k.toNat) = (g, Su183.num (g.rounds k.toNat).length []) := by
    show (if Su183.okSteps k.toNat = false then _ else if g.endless k.toNat = true then _ else _) = _
    rw [if_neg (steps_ok h1 h6), if_neg (by rw [h]; decide)]
  rw [step_some (x := .rounds k.toNat) rfl, e]
  rfl
theorem round_no {k j : Int} (h0 : 0 ≤ k) (h : k < 1 ∨ 6 < k) : step (some g) [10, k, j] = (some g, [-22]) := by
  have e : does g (.round k.toNat j.toNat) = (g, Su183.no (-22)) := if_pos (steps_no h0 h)
  rw [step_some (x := .round k.toNat j.toNat) rfl, e]
  rfl
theorem round_endless {k j : Int} (h1 : 1 ≤ k) (h6 : k ≤ 6) (h : g.endless k.toNat = true) : step (some g) [10, k, j] = (some g, [-75]) := by
  have e : does g (.round k.toNat j.toNat) = (g, Su183.no (-75)) := by
    unfold does
    dsimp only
    rw [if_neg (steps_ok h1 h6), if_pos h]
  rw [step_some (x := .round k.toNat j.toNat) rfl, e]
  rfl
theorem round_more {k j : Int} (h1 : 1 ≤ k) (h6 : k ≤ 6) (h : g.endless k.toNat = false) (hj : (g.rounds k.toNat)[j.toNat]? = none) : step (some g) [10, k, j] = (some g, [-33]) := by
  have e : does g (.round k.toNat j.toNat) = (g, Su183.no (-33)) := by
    unfold does
    dsimp only
    rw [if_neg (steps_ok h1 h6), if_neg (by rw [h]; decide), hj]
  rw [step_some (x := .round k.toNat j.toNat) rfl, e]
  rfl
theorem round_ok {k j : Int} (h1 : 1 ≤ k) (h6 : k ≤ 6) (h : g.endless k.toNat = false) {x : Frac} (hj : (g.rounds k.toNat)[j.toNat]? = some x) : step (some g) [10, k, j] = (some g, k :: (g.way x k.toNat).flatMap ofFrac) := by
  have e : does g (.round k.toNat j.toNat) = (g, Su183.num k.toNat ((g.way x k.toNat).flatMap ofFrac)) := by
    unfold does
    dsimp only
    rw [if_neg (steps_ok h1 h6), if_neg (by rw [h]; decide), hj]
  rw [step_some (x := .round k.toNat j.toNat) rfl, e]
  have ek : Int.ofNat k.toNat = k := by show (k.toNat : Int) = k; omega
  show (some g, Int.ofNat k.toNat :: _) = _
  rw [ek]
  rfl
theorem type_no {k j : Int} (h0 : 0 ≤ k) (h : k < 1 ∨ 6 < k) : step (some g) [11, k, j] = (some g, [-22]) := by
  have e : does g (.type k.toNat j.toNat) = (g, Su183.no (-22)) := if_pos (steps_no h0 h)
  rw [step_some (x := .type k.toNat j.toNat) rfl, e]
  rfl
theorem type_endless {k j : Int} (h1 : 1 ≤ k) (h6 : k ≤ 6) (h : g.endless k.toNat = true) : step (some g) [11, k, j] = (some g, [-75]) := by
  have e : does g (.type k.toNat j.toNat) = (g, Su183.no (-75)) := by
    unfold does
    dsimp only
    rw [if_neg (steps_ok h1 h6), if_pos h]
  rw [step_some (x := .type k.toNat j.toNat) rfl, e]
  rfl
theorem type_more {k j : Int} (h1 : 1 ≤ k) (h6 : k ≤ 6) (h : g.endless k.toNat = false) (hj : (g.rounds k.toNat)[j.toNat]? = none) : step (some g) [11, k, j] = (some g, [-33]) := by
  have e : does g (.type k.toNat j.toNat) = (g, Su183.no (-33)) := by
    unfold does
    dsimp only
    rw [if_neg (steps_ok h1 h6), if_neg (by rw [h]; decide), hj]
  rw [step_some (x := .type k.toNat j.toNat) rfl, e]
  rfl
theorem type_ok {k j : Int} (h1 : 1 ≤ k) (h6 : k ≤ 6) (h : g.endless k.toNat = false) {x : Frac} (hj : (g.rounds k.toNat)[j.toNat]? = some x) : step (some g) [11, k, j] = (some g, k :: Su183.ints (g.type x k.toNat)) := by
  have e : does g (.type k.toNat j.toNat) = (g, Su183.num k.toNat (Su183.ints (g.type x k.toNat))) := by
    unfold does
    dsimp only
    rw [if_neg (steps_ok h1 h6), if_neg (by rw [h]; decide), hj]
  rw [step_some (x := .type k.toNat j.toNat) rfl, e]
  have ek : Int.ofNat k.toNat = k := by show (k.toNat : Int) = k; omega
  show (some g, Int.ofNat k.toNat :: _) = _
  rw [ek]
  rfl
/-- the type over one number below -/
theorem type_red (w : WF g) {q : Nat} (hq : 0 < q) {p : Int} (h : On g q p) (k : Nat) : g.type (red p q) k = (List.range k).map fun j => ((List.range k).filter fun i => decide (itn g q i p < itn g q j p)).length := by
  unfold Su183.Abs.type
  rw [way_red w hq k h, List.map_map]
  refine List.map_congr_left fun j _ => ?_
  show (((List.range k).map _).filter _).length = _
  rw [List.filter_map, List.length_map]
  congr 1
  refine List.filter_congr fun i _ => ?_
  show Su183.lt (red (itn g q i p) q) (red (itn g q j p) q) = _
  rw [lt_red hq hq]
  refine decide_eq_decide.mpr ⟨fun h => Int.lt_of_mul_lt_mul_right h (by omega), fun h => Int.mul_lt_mul_of_pos_right h (by omega)⟩
theorem brings_no {k l : Int} (hk : 0 ≤ k) (hl : 0 ≤ l) (h : k < 1 ∨ 1000 < k ∨ l < 1 ∨ 1000 < l) : step (some g) [12, k, l] = (some g, [-22]) := by
  have e : does g (.brings k.toNat l.toNat) = (g, Su183.no (-22)) := if_pos (by omega)
  rw [step_some (x := .brings k.toNat l.toNat) rfl, e]
  rfl
theorem brings_ok {k l : Int} (h1 : 1 ≤ k) (h2 : k ≤ 1000) (h3 : 1 ≤ l) (h4 : l ≤ 1000) : step (some g) [12, k, l] = (some g, [if Su183.brings k.toNat l.toNat = true then 1 else 0]) := by
  have e : does g (.brings k.toNat l.toNat) = (g, Su183.num (Su183.bit (Su183.brings k.toNat l.toNat)) []) := if_neg (by omega)
  rw [step_some (x := .brings k.toNat l.toNat) rfl, e]
  cases Su183.brings k.toNat l.toNat <;> rfl
theorem slope_no {i : Int} (h : (g.n : Int) ≤ i) : step (some g) [13, i] = (some g, [-2]) := by
  have e : does g (.slope i.toNat) = (g, Su183.no (-2)) := if_pos (by omega)
  rw [step_some (x := .slope i.toNat) rfl, e]
  rfl
theorem slope_ok {i : Int} (h0 : 0 ≤ i) (h : i < (g.n : Int)) : step (some g) [13, i] = (some g, [0, g.slope i.toNat]) := by
  have e : does g (.slope i.toNat) = (g, Su183.num 0 [g.slope i.toNat]) := if_neg (by omega)
  rw [step_some (x := .slope i.toNat) rfl, e]
  rfl
theorem turn_ok : step (some g) [14] = (some g.turned, [0]) := rfl
theorem state_ok : step (some g) [15] = (some g, (g.n : Int) :: g.to.map fun (v : Nat) => (v : Int)) := rfl
theorem which_ok : step (some g) [8] = (some g, [((((List.range 6).map fun i => if g.has (i + 1) = true then 2 ^ i else 0).sum : Nat) : Int)]) := rfl
end Fl

namespace Fl
open Su183

/-- the pieces that a place goes through -/
def path (g : Abs) (q : Nat) : Nat → Int → List Nat
  | 0, _ => []
  | k + 1, p => (p / (q : Int)).toNat :: path g q k (mv g q p)
theorem path_len (g : Abs) (q : Nat) : ∀ (k : Nat) (p : Int), (path g q k p).length = k
  | 0, _ => rfl
  | k + 1, p => by
    show (path g q k _).length + 1 = k + 1
    rw [path_len g q k]
theorem path_mem (g : Abs) (q : Nat) : ∀ (k : Nat) (p : Int) (j : Nat), j < k → (itn g q j p / (q : Int)).toNat ∈ path g q k p
  | 0, _, j, h => by omega
  | k + 1, p, 0, h => List.mem_cons_self
  | k + 1, p, j + 1, h => List.mem_cons_of_mem _ (path_mem g q k (mv g q p) j (by omega))

theorem piece_in {g : Abs} {q : Nat} (hq : 0 < q) {p : Int} (h : On g q p) : In q (p / (q : Int)).toNat p := by
  have hd : 0 ≤ p / (q : Int) := Int.ediv_nonneg h.1 (by omega)
  have e : (((p / (q : Int)).toNat : Nat) : Int) = p / (q : Int) := by omega
  have h3 := Int.mul_ediv_add_emod p (q : Int)
  have h0 := Int.emod_nonneg p (b := (q : Int)) (by omega)
  have h1 := Int.emod_lt_of_pos p (b := (q : Int)) (by omega)
  unfold In
  rw [e]
  have c : (q : Int) * (p / (q : Int)) = p / (q : Int) * (q : Int) := Int.mul_comm _ _
  have c2 : (p / (q : Int) + 1) * (q : Int) = p / (q : Int) * (q : Int) + (q : Int) := by grind
  omega

theorem path_goes {g : Abs} (w : WF g) {q : Nat} (hq : 0 < q) : ∀ (k : Nat) {p : Int}, On g q p → Goes g q (path g q k p) p
  | 0, p, h => trivial
  | k + 1, p, h => by
    have hi := piece_in hq h
    refine ⟨hi, ?_⟩
    rw [← mv_line hq hi]
    exact path_goes w hq k (mv_on w hq p)

theorem path_go {g : Abs} (w : WF g) {q : Nat} (hq : 0 < q) (k : Nat) {p : Int} (h : On g q p) : go g q (path g q k p) p = itn g q k p := by
  have := go_itn hq (path_goes w hq k h)
  rw [path_len] at this
  exact this

theorem piece_lt {g : Abs} {q : Nat} (hq : 0 < q) {p : Int} (h : On g q p) (nd : ¬ p % (q : Int) = 0) : (p / (q : Int)).toNat < g.n := by
  have hd : 0 ≤ p / (q : Int) := Int.ediv_nonneg h.1 (by omega)
  have h3 := Int.mul_ediv_add_emod p (q : Int)
  have h0 := Int.emod_nonneg p (b := (q : Int)) (by omega)
  refine Classical.byContradiction fun c => ?_
  have hle : (g.n : Int) ≤ p / (q : Int) := by omega
  have hm : (g.n : Int) * (q : Int) ≤ p / (q : Int) * (q : Int) := Int.mul_le_mul_of_nonneg_right hle (by omega)
  have c1 : (q : Int) * (p / (q : Int)) = p / (q : Int) * (q : Int) := Int.mul_comm _ _
  have := h.2
  omega

/-- a place that is no point, put onto none: its piece covers the next one -/
theorem piece_covers {g : Abs} (w : WF g) {q : Nat} (hq : 0 < q) {p : Int} (h : On g q p) (n1 : ¬ p % (q : Int) = 0) (n2 : ¬ mv g q p % (q : Int) = 0) : g.covers (p / (q : Int)).toNat (mv g q p / (q : Int)).toNat = true := by
  have ho := mv_on w hq p
  rw [covers_iff]
  have hd : 0 ≤ p / (q : Int) := Int.ediv_nonneg h.1 (by omega)
  have hd2 : 0 ≤ mv g q p / (q : Int) := Int.ediv_nonneg ho.1 (by omega)
  have r0 := Int.emod_nonneg p (b := (q : Int)) (by omega)
  have r1 := Int.emod_lt_of_pos p (b := (q : Int)) (by omega)
  have t0 := Int.emod_nonneg (mv g q p) (b := (q : Int)) (by omega)
  have t1 := Int.emod_lt_of_pos (mv g q p) (b := (q : Int)) (by omega)
  have t3 := Int.mul_ediv_add_emod (mv g q p) (q : Int)
  have em : mv g q p = (g.point (p / (q : Int)).toNat : Int) * (q : Int) + ((g.point ((p / (q : Int)).toNat + 1) : Int) - (g.point (p / (q : Int)).toNat : Int)) * (p % (q : Int)) := rfl
  generalize hv : mv g q p = v at *
  generalize g.point (p / (q : Int)).toNat = a at *
  generalize g.point ((p / (q : Int)).toNat + 1) = b at *
  generalize p % (q : Int) = r at *
  generalize hm : v % (q : Int) = t at *
  obtain ⟨l, hl⟩ : ∃ l : Nat, v / (q : Int) = (l : Int) := ⟨(v / (q : Int)).toNat, by omega⟩
  have el : (v / (q : Int)).toNat = l := by omega
  rw [el]
  rw [hl] at t3
  have hqp : (0 : Int) < (q : Int) := by omega
  -- v = a q + (b - a) r, 0 < r < q; v = q l + t, 0 < t < q
  rcases Nat.lt_trichotomy a b with hab | hab | hab
  · left
    have e1 : (0 : Int) < ((b : Int) - (a : Int)) * r := Int.mul_pos (by omega) (by omega)
    have e2 : (0 : Int) < ((b : Int) - (a : Int)) * ((q : Int) - r) := Int.mul_pos (by omega) (by omega)
    have e3 : ((b : Int) - (a : Int)) * ((q : Int) - r) = (b : Int) * (q : Int) - (a : Int) * (q : Int) - ((b : Int) - (a : Int)) * r := by grind
    constructor
    · refine Classical.byContradiction fun c => ?_
      have : ((l : Int) + 1) * (q : Int) ≤ (a : Int) * (q : Int) := Int.mul_le_mul_of_nonneg_right (by omega) (by omega)
      have e4 : ((l : Int) + 1) * (q : Int) = (q : Int) * (l : Int) + (q : Int) := by grind
      omega
    · refine Classical.byContradiction fun c => ?_
      have : (b : Int) * (q : Int) ≤ (l : Int) * (q : Int) := Int.mul_le_mul_of_nonneg_right (by omega) (by omega)
      have e4 : (l : Int) * (q : Int) = (q : Int) * (l : Int) := Int.mul_comm _ _
      omega
  · exfalso
    subst hab
    rw [Int.sub_self, Int.zero_mul, Int.add_zero] at em
    rw [em] at hm
    have : ((a : Int) * (q : Int)) % (q : Int) = 0 := Int.mul_emod_left _ _
    omega
  · right
    have e1 : (0 : Int) < ((a : Int) - (b : Int)) * r := Int.mul_pos (by omega) (by omega)
    have e2 : (0 : Int) < ((a : Int) - (b : Int)) * ((q : Int) - r) := Int.mul_pos (by omega) (by omega)
    have e3 : ((a : Int) - (b : Int)) * ((q : Int) - r) = (a : Int) * (q : Int) - (b : Int) * (q : Int) - ((a : Int) - (b : Int)) * r := by grind
    have e5 : ((b : Int) - (a : Int)) * r = -(((a : Int) - (b : Int)) * r) := by grind
    constructor
    · refine Classical.byContradiction fun c => ?_
      have : ((l : Int) + 1) * (q : Int) ≤ (b : Int) * (q : Int) := Int.mul_le_mul_of_nonneg_right (by omega) (by omega)
      have e4 : ((l : Int) + 1) * (q : Int) = (q : Int) * (l : Int) + (q : Int) := by grind
      omega
    · refine Classical.byContradiction fun c => ?_
      have : (a : Int) * (q : Int) ≤ (l : Int) * (q : Int) := Int.mul_le_mul_of_nonneg_right (by omega) (by omega)
      have e4 : (l : Int) * (q : Int) = (q : Int) * (l : Int) := Int.mul_comm _ _
      omega

theorem path_loop {g : Abs} (w : WF g) {q : Nat} (hq : 0 < q) : ∀ (k : Nat) {p : Int}, On g q p → (∀ j, j ≤ k + 1 → ¬ itn g q j p % (q : Int) = 0) → IsLoop g (itn g q (k + 1) p / (q : Int)).toNat (path g q (k + 1) p)
  | 0, p, h, nd => piece_covers w hq h (nd 0 (by omega)) (nd 1 (by omega))
  | k + 1, p, h, nd => by
    refine ⟨?_, piece_covers w hq h (nd 0 (by omega)) (nd 1 (by omega)), ?_⟩
    · exact piece_lt hq (mv_on w hq p) (nd 1 (by omega))
    · exact path_loop w hq k (mv_on w hq p) fun j hj => nd (j + 1) (by omega)

/-- points are put onto points -/
theorem mv_point {g : Abs} {q : Nat} (hq : 0 < q) {p : Int} (h : p % (q : Int) = 0) : mv g q p % (q : Int) = 0 := by
  unfold mv
  rw [h, Int.mul_zero, Int.add_zero]
  exact Int.mul_emod_left _ _
theorem itn_point {g : Abs} {q : Nat} (hq : 0 < q) {p : Int} (h : p % (q : Int) = 0) : ∀ k, itn g q k p % (q : Int) = 0
  | 0 => h
  | k + 1 => by rw [itn_succ]; exact mv_point hq (itn_point hq h k)

theorem steep_all {g : Abs} : ∀ {w : List Nat}, steep g w = 1 → ∀ i ∈ w, (g.slope i).natAbs = 1
  | [], _, i, h => by cases h
  | j :: w, e, i, h => by
    have e' : (g.slope j).natAbs * steep g w = 1 := e
    have e1 : (g.slope j).natAbs = 1 := Nat.eq_one_of_mul_eq_one_right e'
    have e2 : steep g w = 1 := by rw [e1] at e'; omega
    rcases List.mem_cons.mp h with rfl | h
    · exact e1
    · exact steep_all e2 i h

theorem ret_red {g : Abs} (w : WF g) {q q' : Nat} (hq : 0 < q) (hq' : 0 < q') {p p' : Int} (h : On g q p) (h' : On g q' p') (e : red p q = red p' q') {k : Nat} (r : Ret g q p k) : Ret g q' p' k := by
  rw [← back_red w hq' h' k, ← e, back_red w hq h k]
  exact r

/-- along a loop at rest the third goes as the place goes -/
theorem third_along {g : Abs} (w : WF g) {q : Nat} (hq : 0 < q) {p : Int} (h : On g q p) {k : Nat} (nd : ∀ j, j ≤ k → ¬ itn g q j p % (q : Int) = 0) (st : ∀ j, j < k → (g.slope (itn g q j p / (q : Int)).toNat).natAbs = 1) : ∀ j, j ≤ k →
    ∃ s : Int, (s = 1 ∨ s = -1) ∧ 2 * itn g q j p - (2 * ((itn g q j p / (q : Int)).toNat : Int) + 1) * (q : Int) = s * (2 * p - (2 * ((p / (q : Int)).toNat : Int) + 1) * (q : Int)) ∧
      2 * itn g 3 j (3 * ((p / (q : Int)).toNat : Int) + 1) - (2 * ((itn g q j p / (q : Int)).toNat : Int) + 1) * 3 = s * (-1)
  | 0, _ => ⟨1, .inl rfl, by rw [Int.one_mul]; rfl, by show 2 * (3 * (((p / (q : Int)).toNat : Nat) : Int) + 1) - (2 * (((p / (q : Int)).toNat : Nat) : Int) + 1) * 3 = 1 * (-1); omega⟩
  | j + 1, hj => by
    obtain ⟨s, hs, e1, e2⟩ := third_along w hq h nd st j (by omega)
    have hon := itn_on w hq h j
    have hc := piece_covers w hq hon (nd j (by omega)) (by rw [← itn_succ]; exact nd (j + 1) hj)
    rw [← itn_succ] at hc
    have s1 := st j (by omega)
    have m1 := mid_step (q := q) (p := itn g q j p) hc s1
    have hin : In 3 (itn g q j p / (q : Int)).toNat (itn g 3 j (3 * ((p / (q : Int)).toNat : Int) + 1)) := by
      unfold In
      rcases hs with rfl | rfl <;> omega
    have m2 := mid_step (q := 3) (p := itn g 3 j (3 * ((p / (q : Int)).toNat : Int) + 1)) hc s1
    rw [← mv_line hq (piece_in hq hon), ← itn_succ] at m1
    rw [← mv_line (by decide) hin, ← itn_succ] at m2
    refine ⟨g.slope (itn g q j p / (q : Int)).toNat * s, ?_, ?_, ?_⟩
    · have : g.slope (itn g q j p / (q : Int)).toNat = 1 ∨ g.slope (itn g q j p / (q : Int)).toNat = -1 := by omega
      rcases hs with rfl | rfl <;> rcases this with e | e <;> rw [e] <;> decide
    · rw [m1, e1]
      grind
    · have e3 : (((3 : Nat) : Int)) = 3 := rfl
      rw [e3] at m2
      rw [m2, e2]
      grind

/-- **all that come back in k steps are found, unless there are endlessly many** -/
theorem complete {g : Abs} (w : WF g) {q : Nat} (hq : 0 < q) {p : Int} (h : On g q p) {k : Nat} (r : Ret g q p k) : g.endless k = true ∨ red p q ∈ g.found k := by
  have kp := r.pos
  by_cases hz : p % (q : Int) = 0
  · right
    rw [mem_found w]
    left
    have hd : 0 ≤ p / (q : Int) := Int.ediv_nonneg h.1 (by omega)
    have h3 := Int.mul_ediv_add_emod p (q : Int)
    obtain ⟨j, hj⟩ : ∃ j : Nat, p / (q : Int) = (j : Int) := ⟨(p / (q : Int)).toNat, by omega⟩
    rw [hj, hz] at h3
    have hjn : j ≤ g.n := by
      have hle : p / (q : Int) ≤ (g.n : Int) := Int.ediv_le_of_le_mul (by omega) h.2
      omega
    have e : red p q = red (j : Int) 1 := red_cross hq (by decide) (by
      show p * 1 = (j : Int) * (q : Int)
      have : (q : Int) * (j : Int) = (j : Int) * (q : Int) := Int.mul_comm _ _
      omega)
    exact ⟨j, hjn, e, ret_red w hq (by decide) h (point_on hjn) e r⟩
  · -- no point on the way
    have nd : ∀ j, j ≤ k → ¬ itn g q j p % (q : Int) = 0 := fun j hj c => hz (by
      have := itn_point (g := g) hq c (k - j)
      rw [← itn_add] at this
      have e : k - j + j = k := by omega
      rw [e, r.back] at this
      exact this)
    obtain ⟨k', rfl⟩ : ∃ k', k = k' + 1 := ⟨k - 1, by omega⟩
    have hl := path_loop w hq k' h nd
    rw [r.back] at hl
    have hlt := piece_lt hq h hz
    have L : Lp g (k' + 1) (path g q (k' + 1) p) := ⟨path_len g q _ p, hl, hlt⟩
    have hgo := path_go w hq (k' + 1) h
    rw [r.back, ← along_eq] at hgo
    by_cases c : (g.along (path g q (k' + 1) p)).1 = 1
    · left
      rw [endless_iff w]
      refine ⟨_, L, c, ?_⟩
      have e : place g (path g q (k' + 1) p) = (3 * (((p / (q : Int)).toNat : Nat) : Int) + 1, 3) := by
        unfold place
        rw [if_pos c]
        rfl
      have hst : steep g (path g q (k' + 1) p) = 1 := by
        rw [← steep_eq, c]
        rfl
      have TA := third_along w hq h nd (fun j hj => steep_all hst _ (path_mem g q _ p j hj))
      refine ⟨kp, ?_, fun j j0 jk hc => ?_⟩
      · rw [e]
        show itn g 3 (k' + 1) (3 * (((p / (q : Int)).toNat : Nat) : Int) + 1) = 3 * (((p / (q : Int)).toNat : Nat) : Int) + 1
        have hfix := place_fix g (i := (p / (q : Int)).toNat) (w := path g q k' (mv g q p)) hl
        have hgs := place_goes g (i := (p / (q : Int)).toNat) (w := path g q k' (mv g q p)) hl
        have := go_itn (place_pos g _) hgs
        rw [hfix] at this
        have e' : place g ((p / (q : Int)).toNat :: path g q k' (mv g q p)) = (3 * (((p / (q : Int)).toNat : Nat) : Int) + 1, 3) := e
        rw [e'] at this
        have el : ((p / (q : Int)).toNat :: path g q k' (mv g q p)).length = k' + 1 := path_len g q (k' + 1) p
        rw [el] at this
        exact this.symm
      · rw [e] at hc
        have hc' : itn g 3 j (3 * (((p / (q : Int)).toNat : Nat) : Int) + 1) = 3 * (((p / (q : Int)).toNat : Nat) : Int) + 1 := hc
        obtain ⟨s, hs, e1, e2⟩ := TA j (by omega)
        rw [hc'] at e2
        refine r.first j j0 jk ?_
        rcases hs with rfl | rfl
        · have e3 : (itn g q j p / (q : Int)).toNat = (p / (q : Int)).toNat := by omega
          rw [e3] at e1
          omega
        · exfalso
          omega
    · right
      rw [mem_found w]
      right
      have e : red p q = red (place g (path g q (k' + 1) p)).1 (place g (path g q (k' + 1) p)).2 := by
        refine red_cross hq (place_pos g _) ?_
        unfold place
        rw [if_neg c]
        generalize (g.along (path g q (k' + 1) p)).1 = a at *
        generalize (g.along (path g q (k' + 1) p)).2 = b at *
        split
        · rename_i d
          show p * (((1 - a).toNat : Nat) : Int) = b * (q : Int)
          have : (((1 - a).toNat : Nat) : Int) = 1 - a := by omega
          rw [this]
          grind
        · rename_i d
          show p * (((a - 1).toNat : Nat) : Int) = -b * (q : Int)
          have : (((a - 1).toNat : Nat) : Int) = a - 1 := by omega
          rw [this]
          grind
      exact ⟨_, L, e, ret_red w hq (place_pos g _) h L.on e r⟩

/-- the rows of rounds, by what comes back -/
theorem mem_rounds {g : Abs} (w : WF g) {k : Nat} (ne : g.endless k = false) (z : Frac) : z ∈ g.rounds k ↔ ∃ p q, 0 < q ∧ On g q p ∧ Ret g q p k ∧ leastOf (g.way (red p q) k) = z := by
  rw [(rounds_spec w k).2]
  constructor
  · rintro ⟨x, hx, rfl⟩
    obtain ⟨p, q, hq, ho, rfl, hr⟩ := found_on w hx
    exact ⟨p, q, hq, ho, hr, rfl⟩
  · rintro ⟨p, q, hq, ho, hr, rfl⟩
    rcases complete w hq ho hr with h | h
    · rw [ne] at h
      cases h
    · exact ⟨_, h, rfl⟩
end Fl

namespace Fl
open Su183

/-! ## Rounds and their least places -/
theorem Ret.step {g : Abs} {q : Nat} {p : Int} {k : Nat} (r : Ret g q p k) : Ret g q (mv g q p) k := by
  have kp := r.pos
  obtain ⟨m, rfl⟩ : ∃ m, k = m + 1 := ⟨k - 1, by omega⟩
  have hb : itn g q m (mv g q p) = p := r.back
  refine ⟨kp, ?_, fun j h1 h2 h3 => r.first j h1 h2 ?_⟩
  · rw [itn_succ, hb]
  · have e : itn g q m (itn g q j (mv g q p)) = p := by rw [h3, hb]
    rw [← itn_add, Nat.add_comm, itn_add, hb] at e
    exact e
theorem Ret.at {g : Abs} {q : Nat} {p : Int} {k : Nat} (r : Ret g q p k) : ∀ j, Ret g q (itn g q j p) k
  | 0 => r
  | j + 1 => by
    rw [itn_succ]
    exact (r.at j).step
/-- each is one of the first k -/
theorem Ret.among {g : Abs} {q : Nat} {p : Int} {k : Nat} (r : Ret g q p k) : ∀ j, ∃ i, i < k ∧ itn g q j p = itn g q i p
  | 0 => ⟨0, r.pos, rfl⟩
  | j + 1 => by
    obtain ⟨i, hi, e⟩ := r.among j
    by_cases c : i + 1 = k
    · refine ⟨0, r.pos, ?_⟩
      rw [itn_succ, e, ← itn_succ, c]
      exact r.back
    · exact ⟨i + 1, by omega, by rw [itn_succ, e, itn_succ]⟩
/-- some value of a function is the least -/
theorem least_at (f : Nat → Nat) : ∃ j, ∀ m, f j ≤ f m := by
  suffices h : ∀ N j, f j ≤ N → ∃ j, ∀ m, f j ≤ f m from h (f 0) 0 (Nat.le_refl _)
  intro N
  induction N with
  | zero => exact fun j h => ⟨j, fun m => by omega⟩
  | succ N ih =>
    intro j h
    by_cases c : ∃ m, f m ≤ N
    · obtain ⟨m, hm⟩ := c
      exact ih m hm
    · refine ⟨j, fun m => ?_⟩
      have : ¬ f m ≤ N := fun z => c ⟨m, z⟩
      omega
theorem Ret.least {g : Abs} (w : WF g) {q : Nat} (hq : 0 < q) {p : Int} (h : On g q p) {k : Nat} (r : Ret g q p k) : ∃ j, ∀ m, itn g q j p ≤ itn g q m p := by
  obtain ⟨j, hj⟩ := least_at fun m => (itn g q m p).toNat
  refine ⟨j, fun m => ?_⟩
  have := hj m
  have h1 := (itn_on w hq h j).1
  have h2 := (itn_on w hq h m).1
  omega
/-- it comes back in k steps, and is its round's least place -/
structure Leads (g : Abs) (q : Nat) (p : Int) (k : Nat) : Prop where
  pos : 0 < k
  back : itn g q k p = p
  less : ∀ j, 0 < j → j < k → p < itn g q j p
theorem Leads.ret {g : Abs} {q : Nat} {p : Int} {k : Nat} (l : Leads g q p k) : Ret g q p k := ⟨l.pos, l.back, fun j h1 h2 h3 => by have := l.less j h1 h2; omega⟩
theorem leads_of {g : Abs} {q : Nat} {p : Int} {k : Nat} (r : Ret g q p k) (h : ∀ m, p ≤ itn g q m p) : Leads g q p k :=
  ⟨r.pos, r.back, fun j h1 h2 => by
    have := h j
    have := r.first j h1 h2
    omega⟩
def leadsB (g : Abs) (q : Nat) (p : Int) (k : Nat) : Bool := decide (0 < k) && (decide (itn g q k p = p) && (List.range k).all fun j => j == 0 || decide (p < itn g q j p))
theorem leadsB_iff {g : Abs} {q : Nat} {p : Int} {k : Nat} : leadsB g q p k = true ↔ Leads g q p k := by
  unfold leadsB
  rw [Bool.and_eq_true, Bool.and_eq_true, decide_eq_true_eq, decide_eq_true_eq, List.all_eq_true]
  constructor
  · rintro ⟨h1, h2, h3⟩
    refine ⟨h1, h2, fun j h4 h5 => ?_⟩
    have := h3 j (List.mem_range.mpr h5)
    rw [Bool.or_eq_true, beq_iff_eq, decide_eq_true_eq] at this
    omega
  · rintro ⟨h1, h2, h3⟩
    refine ⟨h1, h2, fun j hj => ?_⟩
    rw [Bool.or_eq_true, beq_iff_eq, decide_eq_true_eq]
    by_cases c : j = 0
    · exact .inl c
    · exact .inr (h3 j (by omega) (List.mem_range.mp hj))
theorem leads_least {g : Abs} (w : WF g) {q : Nat} (hq : 0 < q) {p : Int} (h : On g q p) {k : Nat} (l : Leads g q p k) : leastOf (g.way (red p q) k) = red p q := by
  refine leastOf_is (fun y hy => way_low w hq h hy) ?_ fun y hy => ?_
  · rw [way_red w hq k h]
    exact List.mem_map.mpr ⟨0, List.mem_range.mpr l.pos, rfl⟩
  · rw [way_red w hq k h] at hy
    obtain ⟨j, hj, rfl⟩ := List.mem_map.mp hy
    rw [lt_red hq hq, decide_eq_true_eq]
    have hle : p ≤ itn g q j p := by
      by_cases c : j = 0
      · subst c
        exact Int.le_refl _
      · have := l.less j (by omega) (List.mem_range.mp hj)
        omega
    have := Int.mul_le_mul_of_nonneg_right hle (show (0 : Int) ≤ (q : Int) by omega)
    omega
theorem ret_leads {g : Abs} (w : WF g) {q : Nat} (hq : 0 < q) {p : Int} (h : On g q p) {k : Nat} (r : Ret g q p k) : ∃ p', On g q p' ∧ Leads g q p' k ∧ (∀ m, p' ≤ itn g q m p') ∧ leastOf (g.way (red p q) k) = red p' q := by
  obtain ⟨j, hj⟩ := r.least w hq h
  have hm : ∀ m, itn g q j p ≤ itn g q m (itn g q j p) := fun m => by
    rw [← itn_add]
    exact hj _
  refine ⟨itn g q j p, itn_on w hq h j, leads_of (r.at j) hm, hm, ?_⟩
  obtain ⟨i, hi, e⟩ := r.among j
  refine leastOf_is (fun y hy => way_low w hq h hy) ?_ fun y hy => ?_
  · rw [way_red w hq k h, e]
    exact List.mem_map.mpr ⟨i, List.mem_range.mpr hi, rfl⟩
  · rw [way_red w hq k h] at hy
    obtain ⟨m, _, rfl⟩ := List.mem_map.mp hy
    rw [lt_red hq hq, decide_eq_true_eq]
    have := Int.mul_le_mul_of_nonneg_right (hj m) (show (0 : Int) ≤ (q : Int) by omega)
    omega
/-- the rows of rounds, by their least places -/
theorem mem_leads {g : Abs} (w : WF g) {k : Nat} (ne : g.endless k = false) (z : Frac) : z ∈ g.rounds k ↔ ∃ p q, 0 < q ∧ On g q p ∧ Leads g q p k ∧ (∀ m, p ≤ itn g q m p) ∧ red p q = z := by
  rw [mem_rounds w ne]
  constructor
  · rintro ⟨p, q, hq, h, r, rfl⟩
    obtain ⟨p', h1, h2, h3, h4⟩ := ret_leads w hq h r
    exact ⟨p', q, hq, h1, h2, h3, h4.symm⟩
  · rintro ⟨p, q, hq, h, l, _, rfl⟩
    exact ⟨p, q, hq, h, l.ret, leads_least w hq h l⟩
theorem leads_mem {g : Abs} (w : WF g) {k : Nat} (ne : g.endless k = false) {p : Int} {q : Nat} (hq : 0 < q) (h : On g q p) (l : Leads g q p k) : red p q ∈ g.rounds k :=
  (mem_rounds w ne _).mpr ⟨p, q, hq, h, l.ret, leads_least w hq h l⟩
theorem leads_red {g : Abs} (w : WF g) {q q' : Nat} (hq : 0 < q) (hq' : 0 < q') {p p' : Int} (h : On g q p) (h' : On g q' p') (e : red p q = red p' q') {k : Nat} (l : Leads g q p k) : Leads g q' p' k := by
  have r := ret_red w hq hq' h h' e l.ret
  refine ⟨l.pos, r.back, fun j h1 h2 => ?_⟩
  have a1 : red (itn g q j p) q = red (itn g q' j p') q' := by rw [← after_red w hq j h, ← after_red w hq' j h', e]
  have a2 := l.less j h1 h2
  have a3 : lt (red p q) (red (itn g q j p) q) = true := by
    rw [lt_red hq hq, decide_eq_true_eq]
    exact Int.mul_lt_mul_of_pos_right a2 (by omega)
  rw [e, a1, lt_red hq' hq', decide_eq_true_eq] at a3
  exact Int.lt_of_mul_lt_mul_right a3 (by omega)

/-! ## The loop of a place that is no point -/
theorem no_points {g : Abs} {q : Nat} (hq : 0 < q) {p : Int} {k : Nat} (r : Ret g q p k) (hz : ¬ p % (q : Int) = 0) : ∀ j, j ≤ k → ¬ itn g q j p % (q : Int) = 0 := fun j hj c => hz (by
  have := itn_point (g := g) hq c (k - j)
  rw [← itn_add] at this
  have e : k - j + j = k := by omega
  rw [e, r.back] at this
  exact this)
theorem point_of {g : Abs} {q : Nat} (hq : 0 < q) {p : Int} (h : On g q p) (hz : p % (q : Int) = 0) : ∃ j : Nat, j ≤ g.n ∧ red p q = red (j : Int) 1 ∧ p = (j : Int) * (q : Int) := by
  have hd : 0 ≤ p / (q : Int) := Int.ediv_nonneg h.1 (by omega)
  have h3 := Int.mul_ediv_add_emod p (q : Int)
  obtain ⟨j, hj⟩ : ∃ j : Nat, p / (q : Int) = (j : Int) := ⟨(p / (q : Int)).toNat, by omega⟩
  rw [hj, hz] at h3
  have hc : (q : Int) * (j : Int) = (j : Int) * (q : Int) := Int.mul_comm _ _
  refine ⟨j, ?_, red_cross hq (by decide) ?_, by omega⟩
  · have hle : p / (q : Int) ≤ (g.n : Int) := Int.ediv_le_of_le_mul (by omega) h.2
    omega
  · show p * 1 = (j : Int) * (q : Int)
    omega
theorem path_lp {g : Abs} (w : WF g) {q : Nat} (hq : 0 < q) {p : Int} (h : On g q p) {k : Nat} (r : Ret g q p k) (hz : ¬ p % (q : Int) = 0) : Lp g k (path g q k p) := by
  have kp := r.pos
  obtain ⟨m, rfl⟩ : ∃ m, k = m + 1 := ⟨k - 1, by omega⟩
  have hl := path_loop w hq m h (no_points hq r hz)
  rw [r.back] at hl
  exact ⟨path_len g q _ p, hl, piece_lt hq h hz⟩
theorem path_place {g : Abs} (w : WF g) {q : Nat} (hq : 0 < q) {p : Int} (h : On g q p) {k : Nat} (r : Ret g q p k) (c : ¬ (g.along (path g q k p)).1 = 1) : red p q = red (place g (path g q k p)).1 (place g (path g q k p)).2 := by
  have hgo := path_go w hq k h
  rw [r.back, ← along_eq] at hgo
  refine red_cross hq (place_pos g _) ?_
  unfold place
  rw [if_neg c]
  generalize (g.along (path g q k p)).1 = a at *
  generalize (g.along (path g q k p)).2 = b at *
  split
  · show p * (((1 - a).toNat : Nat) : Int) = b * (q : Int)
    have : (((1 - a).toNat : Nat) : Int) = 1 - a := by omega
    rw [this]
    grind
  · show p * (((a - 1).toNat : Nat) : Int) = -b * (q : Int)
    have : (((a - 1).toNat : Nat) : Int) = a - 1 := by omega
    rw [this]
    grind
/-- along a loop at rest the third comes back as the place does -/
theorem path_third {g : Abs} (w : WF g) {q : Nat} (hq : 0 < q) {p : Int} (h : On g q p) {k : Nat} (r : Ret g q p k) (hz : ¬ p % (q : Int) = 0) (c : (g.along (path g q k p)).1 = 1) : Ret g (place g (path g q k p)).2 (place g (path g q k p)).1 k := by
  have kp := r.pos
  have nd := no_points hq r hz
  have L := path_lp w hq h r hz
  obtain ⟨m, rfl⟩ : ∃ m, k = m + 1 := ⟨k - 1, by omega⟩
  have e : place g (path g q (m + 1) p) = (3 * (((p / (q : Int)).toNat : Nat) : Int) + 1, 3) := by
    unfold place
    rw [if_pos c]
    rfl
  have hst : steep g (path g q (m + 1) p) = 1 := by
    rw [← steep_eq, c]
    rfl
  have TA := third_along w hq h nd (fun j hj => steep_all hst _ (path_mem g q _ p j hj))
  have hl : IsLoop g (p / (q : Int)).toNat (path g q (m + 1) p) := L.loop
  refine ⟨kp, ?_, fun j j0 jk hc => ?_⟩
  · have hfix := place_fix g (i := (p / (q : Int)).toNat) (w := path g q m (mv g q p)) hl
    have hgs := place_goes g (i := (p / (q : Int)).toNat) (w := path g q m (mv g q p)) hl
    have hh := go_itn (place_pos g _) hgs
    rw [hfix] at hh
    have el : ((p / (q : Int)).toNat :: path g q m (mv g q p)).length = m + 1 := path_len g q (m + 1) p
    rw [el] at hh
    exact hh.symm
  · rw [e] at hc
    have hc' : itn g 3 j (3 * (((p / (q : Int)).toNat : Nat) : Int) + 1) = 3 * (((p / (q : Int)).toNat : Nat) : Int) + 1 := hc
    obtain ⟨s, hs, e1, e2⟩ := TA j (by omega)
    rw [hc'] at e2
    refine r.first j j0 jk ?_
    rcases hs with rfl | rfl
    · have e3 : (itn g q j p / (q : Int)).toNat = (p / (q : Int)).toNat := by omega
      rw [e3] at e1
      omega
    · exfalso
      omega
theorem path_ret {g : Abs} (w : WF g) {q : Nat} (hq : 0 < q) {p : Int} (h : On g q p) {k : Nat} (r : Ret g q p k) (hz : ¬ p % (q : Int) = 0) : Ret g (place g (path g q k p)).2 (place g (path g q k p)).1 k := by
  by_cases c : (g.along (path g q k p)).1 = 1
  · exact path_third w hq h r hz c
  · exact ret_red w hq (place_pos g _) h (path_lp w hq h r hz).on (path_place w hq h r c) r
/-- the pieces of a least place's loop: none before its own -/
theorem path_ge {g : Abs} {q : Nat} (hq : 0 < q) : ∀ (k : Nat) {p : Int} {z : Int}, (∀ m, z ≤ itn g q m p) → ∀ i ∈ path g q k p, (z / (q : Int)).toNat ≤ i
  | 0, p, z, h, i, hi => by cases hi
  | k + 1, p, z, h, i, hi => by
    rcases List.mem_cons.mp hi with rfl | hi
    · have := Int.ediv_le_ediv (c := (q : Int)) (by omega) (h 0)
      have h2 : z / (q : Int) ≤ p / (q : Int) := this
      omega
    · exact path_ge hq k (p := mv g q p) (fun m => h (m + 1)) i hi

/-! ## The pieces from which a loop can be led back -/
/-- from which pieces so many coverings can lead to a piece, none before it -/
def wb (g : Abs) (start : Nat) : Nat → List Nat
  | 0 => [start]
  | m + 1 => ((List.range g.n).drop start).filter fun i => (wb g start m).any (g.covers i)
theorem drop_range (n s : Nat) : (List.range n).drop s = (List.range (n - s)).map (s + ·) := by
  refine List.ext_getElem? fun i => ?_
  rw [List.getElem?_drop, List.getElem?_map]
  by_cases c : s + i < n
  · rw [List.getElem?_range c, List.getElem?_range (by omega)]
    rfl
  · rw [List.getElem?_eq_none (by rw [List.length_range]; omega), List.getElem?_eq_none (by rw [List.length_range]; omega)]
    rfl
theorem mem_from {n s i : Nat} : i ∈ (List.range n).drop s ↔ s ≤ i ∧ i < n := by
  rw [drop_range, List.mem_map]
  constructor
  · rintro ⟨j, hj, rfl⟩
    have := List.mem_range.mp hj
    omega
  · rintro ⟨h1, h2⟩
    exact ⟨i - s, List.mem_range.mpr (by omega), by omega⟩
theorem mem_wb {g : Abs} {start m i : Nat} : i ∈ wb g start (m + 1) ↔ start ≤ i ∧ i < g.n ∧ ∃ j ∈ wb g start m, g.covers i j = true := by
  show i ∈ (List.drop start (List.range g.n)).filter _ ↔ _
  rw [List.mem_filter, mem_from, List.any_eq_true, and_assoc]
theorem wb_lt {g : Abs} {start : Nat} (hs : start < g.n) : ∀ m, ∀ i ∈ wb g start m, i < g.n
  | 0, i, h => by
    obtain rfl := List.mem_singleton.mp h
    exact hs
  | m + 1, i, h => (mem_wb.mp h).2.1
theorem wb_len (g : Abs) (w : WF g) (start : Nat) : ∀ m, (wb g start m).length ≤ g.n
  | 0 => w.pos
  | m + 1 => by
    have := List.length_filter_le (fun i => (wb g start m).any (g.covers i)) ((List.range g.n).drop start)
    rw [List.length_drop, List.length_range] at this
    show (List.filter _ _).length ≤ _
    omega
theorem wb_up (g : Abs) (start : Nat) : ∀ m, (wb g start m).Pairwise (· < ·)
  | 0 => List.pairwise_singleton _ _
  | m + 1 => List.Pairwise.filter _ (List.Pairwise.drop (List.pairwise_lt_range))
/-- each covers the next -/
def Chain (g : Abs) : List Nat → Prop
  | [] => True
  | [i] => i < g.n
  | i :: j :: w => i < g.n ∧ g.covers i j = true ∧ Chain g (j :: w)
theorem chain_snoc {g : Abs} {j : Nat} (hj : j < g.n) : ∀ {w : List Nat}, Chain g w → (∀ i, w.getLast? = some i → g.covers i j = true) → Chain g (w ++ [j])
  | [], _, _ => hj
  | [i], h, hl => ⟨h, hl i rfl, hj⟩
  | i :: k :: w, h, hl => ⟨h.1, h.2.1, chain_snoc hj (w := k :: w) h.2.2 (fun x hx => hl x (by rw [List.getLast?_cons_cons]; exact hx))⟩
theorem chain_loop {g : Abs} {start : Nat} : ∀ {w : List Nat}, Chain g w → (∃ i, w.getLast? = some i ∧ g.covers i start = true) → IsLoop g start w
  | [], _, ⟨i, h, _⟩ => by cases h
  | [i], h, ⟨j, hj, hc⟩ => by
    obtain rfl : i = j := Option.some.inj hj
    exact hc
  | i :: k :: w, h, ⟨j, hj, hc⟩ => by
    have hk : k < g.n := by
      cases w with
      | nil => exact h.2.2
      | cons l w => exact h.2.2.1
    exact ⟨hk, h.2.1, chain_loop h.2.2 ⟨j, by rw [List.getLast?_cons_cons] at hj; exact hj, hc⟩⟩
theorem chain_lt {g : Abs} : ∀ {w : List Nat}, Chain g w → ∀ i ∈ w, i < g.n
  | [], _, i, h => by cases h
  | [j], h, i, hi => by
    obtain rfl := List.mem_singleton.mp hi
    exact h
  | j :: k :: w, h, i, hi => by
    rcases List.mem_cons.mp hi with rfl | hi
    · exact h.1
    · exact chain_lt h.2.2 i hi
/-- the rest of a loop leads back -/
theorem loop_wb {g : Abs} {start : Nat} : ∀ {w : List Nat} {i : Nat}, i < g.n → (∀ j ∈ i :: w, start ≤ j) → IsLoop g start (i :: w) → i ∈ wb g start (w.length + 1)
  | [], i, hi, hs, h => mem_wb.mpr ⟨hs i (by simp), hi, start, List.mem_singleton.mpr rfl, h⟩
  | j :: w, i, hi, hs, h => mem_wb.mpr ⟨hs i (by simp), hi, j, loop_wb h.1 (fun x hx => hs x (List.mem_cons_of_mem _ hx)) h.2.2, h.2.1⟩
/-- a loop's parts -/
theorem loop_split {g : Abs} {start : Nat} : ∀ {u : List Nat} {i j : Nat} {v : List Nat}, IsLoop g start (u ++ i :: j :: v) → g.covers i j = true ∧ j < g.n ∧ IsLoop g start (j :: v)
  | [], i, j, v, h => ⟨h.2.1, h.1, h.2.2⟩
  | [a], i, j, v, h => loop_split (u := []) h.2.2
  | a :: b :: u, i, j, v, h => loop_split (u := b :: u) h.2.2
/-- some loop of k pieces begins with w, goes on from start on, and its place comes back in k steps -/
def Some1 (g : Abs) (k start : Nat) (w : List Nat) : Prop := ∃ v, Lp g k (w ++ v) ∧ (∀ j ∈ v, start ≤ j) ∧ Ret g (place g (w ++ v)).2 (place g (w ++ v)).1 k
theorem some_full {g : Abs} {k start : Nat} {w : List Nat} (hk : w.length = k) (L : Lp g k w) : Some1 g k start w ↔ Ret g (place g w).2 (place g w).1 k := by
  constructor
  · rintro ⟨v, L', _, r⟩
    have : v = [] := by
      have := L'.len
      rw [List.length_append] at this
      exact List.eq_nil_of_length_eq_zero (by omega)
    subst this
    rw [List.append_nil] at r
    exact r
  · intro r
    refine ⟨[], ?_, fun j h => (by cases h), ?_⟩
    · rw [List.append_nil]
      exact L
    · rw [List.append_nil]
      exact r
theorem some_more {g : Abs} {k : Nat} {u : List Nat} {i : Nat} {start : Nat} (hs : (u ++ [i]).head? = some start) (hk : (u ++ [i]).length < k) :
    Some1 g k start (u ++ [i]) ↔ ∃ j ∈ wb g start (k - (u ++ [i]).length), g.covers i j = true ∧ Some1 g k start ((u ++ [i]) ++ [j]) := by
  have hd : ∀ v, ((u ++ [i]) ++ v).headD 0 = start := fun v => by
    cases u with
    | nil =>
      obtain rfl : i = start := Option.some.inj hs
      rfl
    | cons a u =>
      obtain rfl : a = start := Option.some.inj hs
      rfl
  constructor
  · rintro ⟨v, L, hv, r⟩
    have hl := L.len
    rw [List.length_append] at hl
    cases v with
    | nil => simp at hl; simp at hk; omega
    | cons j v =>
      have h := L.loop
      rw [hd] at h
      have h' : IsLoop g start (u ++ i :: j :: v) := by
        rw [List.append_assoc] at h
        exact h
      obtain ⟨h1, h2, h3⟩ := loop_split h'
      have h4 := loop_wb h2 hv h3
      have e : v.length + 1 = k - (u ++ [i]).length := by
        rw [List.length_cons] at hl
        omega
      rw [e] at h4
      refine ⟨j, h4, h1, v, ?_⟩
      have e2 : (u ++ [i]) ++ [j] ++ v = (u ++ [i]) ++ j :: v := by rw [List.append_assoc]; rfl
      rw [e2]
      exact ⟨L, fun x hx => hv x (List.mem_cons_of_mem _ hx), r⟩
  · rintro ⟨j, hj, _, v, L, hv, r⟩
    refine ⟨j :: v, ?_⟩
    have e2 : (u ++ [i]) ++ [j] ++ v = (u ++ [i]) ++ j :: v := by rw [List.append_assoc]; rfl
    rw [e2] at L r
    refine ⟨L, fun x hx => ?_, r⟩
    rcases List.mem_cons.mp hx with rfl | hx
    · obtain ⟨m, hm⟩ : ∃ m, k - (u ++ [i]).length = m + 1 := ⟨k - (u ++ [i]).length - 1, by omega⟩
      rw [hm] at hj
      exact (mem_wb.mp hj).1
    · exact hv x hx
theorem has_some {g : Abs} (wf : WF g) {k : Nat} (hk : 0 < k) : g.has k = true ↔ (∃ j : Nat, j ≤ g.n ∧ Ret g 1 (j : Int) k) ∨ (∃ i, i < g.n ∧ i ∈ wb g i k ∧ Some1 g k i [i]) := by
  rw [has_iff wf]
  constructor
  · rintro (h | ⟨w, L, r⟩)
    · exact .inl h
    · have hq := place_pos g w
      have ho := L.on
      generalize (place g w).2 = q at *
      generalize (place g w).1 = p at *
      by_cases hz : p % (q : Int) = 0
      · obtain ⟨j, h1, h2, _⟩ := point_of hq ho hz
        exact .inl ⟨j, h1, ret_red wf hq (by decide) ho (point_on h1) h2 r⟩
      · right
        obtain ⟨j, hj⟩ := r.least wf hq ho
        have r' := r.at j
        have ho' := itn_on wf hq ho j
        have hz' : ¬ itn g q j p % (q : Int) = 0 := by
          obtain ⟨i, hi, e⟩ := r.among j
          rw [e]
          exact no_points hq r hz i (by omega)
        have hm : ∀ m, itn g q j p ≤ itn g q m (itn g q j p) := fun m => by
          rw [← itn_add]
          exact hj _
        generalize itn g q j p = p' at *
        have L' := path_lp wf hq ho' r' hz'
        have R' := path_ret wf hq ho' r' hz'
        have G' := path_ge hq k hm
        obtain ⟨m, rfl⟩ : ∃ m, k = m + 1 := ⟨k - 1, by omega⟩
        have hl : IsLoop g (p' / (q : Int)).toNat ((p' / (q : Int)).toNat :: path g q m (mv g q p')) := L'.loop
        have hb := loop_wb L'.lt G' hl
        rw [path_len] at hb
        exact ⟨_, L'.lt, hb, path g q m (mv g q p'), L', fun x hx => G' x (List.mem_cons_of_mem _ hx), R'⟩
  · rintro (h | ⟨i, _, _, v, L, _, r⟩)
    · exact .inl h
    · exact .inr ⟨_, L, r⟩
end Fl

namespace Fl
open Su183 (Abs twos oddPart)
theorem twos_pow {o : Nat} (ho : o % 2 = 1) : ∀ (t f : Nat), t < f → twos f (2 ^ t * o) = t
  | 0, f + 1, _ => by
    unfold twos
    rw [if_neg (by rw [Nat.pow_zero, Nat.one_mul]; omega)]
  | t + 1, f + 1, h => by
    unfold twos
    have e : 2 ^ (t + 1) * o = 2 * (2 ^ t * o) := by
      rw [Nat.pow_succ, Nat.mul_comm (2 ^ t) 2, Nat.mul_assoc]
    have hp : 0 < 2 ^ t * o := Nat.mul_pos (Nat.pow_pos (by decide)) (by omega)
    rw [if_pos (by rw [e]; omega), e, Nat.mul_div_cancel_left _ (by decide), twos_pow ho t f (by omega)]
theorem pow_gt (t : Nat) : t < 2 ^ t := Nat.lt_two_pow_self
theorem twos_is {o t : Nat} (ho : o % 2 = 1) : twos (2 ^ t * o) (2 ^ t * o) = t := by
  refine twos_pow ho t _ ?_
  have h1 := pow_gt t
  have h2 : 2 ^ t * 1 ≤ 2 ^ t * o := Nat.mul_le_mul_left _ (by omega)
  omega
theorem odd_is {o t : Nat} (ho : o % 2 = 1) : oddPart (2 ^ t * o) = o := by
  unfold oddPart
  rw [twos_is ho]
  exact Nat.mul_div_cancel_left _ (Nat.pow_pos (by decide))
/-- each number from 1 on is a power of two times an odd one -/
theorem split_two : ∀ k : Nat, 0 < k → ∃ t o, o % 2 = 1 ∧ k = 2 ^ t * o
  | k, h => by
    by_cases c : k % 2 = 1
    · exact ⟨0, k, c, by rw [Nat.pow_zero, Nat.one_mul]⟩
    · obtain ⟨t, o, h1, h2⟩ := split_two (k / 2) (by omega)
      refine ⟨t + 1, o, h1, ?_⟩
      rw [Nat.pow_succ, Nat.mul_comm (2 ^ t) 2, Nat.mul_assoc, ← h2]
      omega
termination_by k => k
decreasing_by omega
/-- which brings which, by the two parts -/
theorem brings_is {a b c e : Nat} (hb : b % 2 = 1) (he : e % 2 = 1) : Su183.brings (2 ^ a * b) (2 ^ c * e) = true ↔ (2 ^ a * b = 2 ^ c * e ∨ (if b = 1 then e = 1 ∧ c < a else e = 1 ∨ a < c ∨ (a = c ∧ b < e))) := by
  have p1 : 0 < 2 ^ a * b := Nat.mul_pos (Nat.pow_pos (by decide)) (by omega)
  have p2 : 0 < 2 ^ c * e := Nat.mul_pos (Nat.pow_pos (by decide)) (by omega)
  unfold Su183.brings
  rw [odd_is hb, odd_is he, twos_is hb, twos_is he]
  simp only [Bool.and_eq_true, decide_eq_true_eq, Bool.or_eq_true, beq_iff_eq]
  constructor
  · rintro ⟨_, _, h⟩
    rcases h with h | h
    · exact .inl h
    · right
      split at h
      · rename_i hb1
        rw [if_pos hb1]
        simpa using h
      · rename_i hb1
        rw [if_neg hb1]
        simpa using h
  · intro h
    refine ⟨p1, p2, ?_⟩
    rcases h with h | h
    · exact .inl h
    · right
      split
      · rename_i hb1
        rw [if_pos hb1] at h
        simpa using h
      · rename_i hb1
        rw [if_neg hb1] at h
        simpa using h
/-- the line turned about, point by point -/
theorem turned_to (g : Abs) (w : WF g) : g.turned.to = (g.to.reverse).map fun v => g.n - v := by
  show (List.range (g.n + 1)).map (fun i => g.n - g.point (g.n - i)) = _
  refine List.ext_getElem? fun i => ?_
  rw [List.getElem?_map, List.getElem?_map]
  by_cases c : i < g.n + 1
  · have hl : i < g.to.reverse.length := by rw [List.length_reverse, w.len]; exact c
    have hl2 : g.n - i < g.to.length := by rw [w.len]; omega
    have e : g.to.reverse[i] = g.to[g.n - i] := by
      rw [List.getElem_reverse]
      congr 1
      have := w.len
      omega
    rw [List.getElem?_range c, List.getElem?_eq_getElem hl, e]
    show some (g.n - g.point (g.n - i)) = some (g.n - g.to[g.n - i])
    unfold Su183.Abs.point
    rw [List.getD_eq_getElem?_getD, List.getElem?_eq_getElem hl2]
    rfl
  · rw [List.getElem?_eq_none (by rw [List.length_range]; omega), List.getElem?_eq_none (by rw [List.length_reverse, w.len]; omega)]
    rfl
end Fl

namespace Fl
open Su183

/-! ## Paths: the piece that was come to, the slope and the shift -/
def kid (g : Abs) (c : Nat) (s t : Int) : Int × Int := (g.slope c * s, g.slope c * (t - (c : Int)) + (g.point c : Int))
def goesTo (g : Abs) (goals : List Nat) (c : Nat) (s : Int) : List Nat := if s < 0 then (goals.filter (g.covers c)).reverse else goals.filter (g.covers c)
def kids (g : Abs) (goals : List Nat) (x : Nat × Int × Int) : List (Nat × Int × Int) :=
  (goesTo g goals x.1 (kid g x.1 x.2.1 x.2.2).1).map fun l => (l, (kid g x.1 x.2.1 x.2.2).1, (kid g x.1 x.2.1 x.2.2).2)
def paths (g : Abs) (start k : Nat) : Nat → List (Nat × Int × Int)
  | 0 => [(start, 1, 0)]
  | j + 1 => (paths g start k j).flatMap (kids g (wb g start (k - (j + 1))))
theorem mem_goesTo {g : Abs} {goals : List Nat} {c : Nat} {s : Int} {l : Nat} : l ∈ goesTo g goals c s ↔ l ∈ goals ∧ g.covers c l = true := by
  unfold goesTo
  split
  · rw [List.mem_reverse, List.mem_filter]
  · rw [List.mem_filter]
theorem mem_kids {g : Abs} {goals : List Nat} {x y : Nat × Int × Int} : y ∈ kids g goals x ↔ y.1 ∈ goals ∧ g.covers x.1 y.1 = true ∧ y.2 = kid g x.1 x.2.1 x.2.2 := by
  unfold kids
  rw [List.mem_map]
  constructor
  · rintro ⟨l, hl, rfl⟩
    have := mem_goesTo.mp hl
    exact ⟨this.1, this.2, rfl⟩
  · rintro ⟨h1, h2, h3⟩
    exact ⟨y.1, mem_goesTo.mpr ⟨h1, h2⟩, by rw [← h3]⟩
/-- within what a path comes to -/
def Win (x : Nat × Int × Int) (q : Nat) (p : Int) : Prop := (x.1 : Int) * (q : Int) ≤ x.2.1 * p + x.2.2 * (q : Int) ∧ x.2.1 * p + x.2.2 * (q : Int) ≤ ((x.1 : Int) + 1) * (q : Int)
def WinS (x : Nat × Int × Int) (q : Nat) (p : Int) : Prop := (x.1 : Int) * (q : Int) < x.2.1 * p + x.2.2 * (q : Int) ∧ x.2.1 * p + x.2.2 * (q : Int) < ((x.1 : Int) + 1) * (q : Int)
def Bef (x y : Nat × Int × Int) : Prop := ∀ (q : Nat) (p p' : Int), 0 < q → WinS x q p → Win y q p' → p < p'
theorem kid_line (g : Abs) (c : Nat) (s t p : Int) (q : Nat) : (kid g c s t).1 * p + (kid g c s t).2 * (q : Int) = line g q c (s * p + t * (q : Int)) := by
  unfold kid line
  show g.slope c * s * p + (g.slope c * (t - (c : Int)) + (g.point c : Int)) * (q : Int) = _
  grind
theorem kids_win {g : Abs} {goals : List Nat} {x y : Nat × Int × Int} (h : y ∈ kids g goals x) {q : Nat} {p : Int} (hw : Win y q p) : Win x q p := by
  obtain ⟨_, hc, e⟩ := mem_kids.mp h
  unfold Win at hw
  rw [e, kid_line] at hw
  refine Classical.byContradiction fun hn => ?_
  obtain ⟨e', he, ho, _⟩ := not_in (q := q) (j := x.1) (p := x.2.1 * p + x.2.2 * (q : Int)) hn
  have h2 := ho.step (Int.le_of_lt he) hc
  have h3 : 1 * e' ≤ (((g.slope x.1).natAbs : Nat) : Int) * e' := Int.mul_le_mul_of_nonneg_right (by have := covers_steep hc; omega) (by omega)
  have h4 := h2.mono h3
  unfold Out at h4
  have h5 : ((y.1 : Int) + 1) * (q : Int) = (y.1 : Int) * (q : Int) + (q : Int) := by grind
  have : (0 : Int) ≤ q := by omega
  omega
theorem kids_winS {g : Abs} {goals : List Nat} {x y : Nat × Int × Int} (h : y ∈ kids g goals x) {q : Nat} (hq : 0 < q) {p : Int} (hw : WinS y q p) : WinS x q p := by
  have hw' : Win y q p := ⟨Int.le_of_lt hw.1, Int.le_of_lt hw.2⟩
  obtain ⟨h1, h2⟩ := kids_win h hw'
  obtain ⟨_, hc, e⟩ := mem_kids.mp h
  unfold WinS at hw
  rw [e, kid_line] at hw
  have key : ∀ (v P : Int), v = P * (q : Int) → ¬ ((y.1 : Int) * (q : Int) < v ∧ v < ((y.1 : Int) + 1) * (q : Int)) := by
    rintro v P rfl ⟨a, b⟩
    have a' := Int.lt_of_mul_lt_mul_right a (by omega)
    have b' := Int.lt_of_mul_lt_mul_right b (by omega)
    omega
  refine ⟨?_, ?_⟩
  · refine Classical.byContradiction fun hn => ?_
    have ev : x.2.1 * p + x.2.2 * (q : Int) = (x.1 : Int) * (q : Int) := by omega
    rw [ev] at hw
    refine key _ (g.point x.1 : Int) ?_ hw
    unfold line
    rw [Int.sub_self, Int.mul_zero, Int.add_zero]
  · refine Classical.byContradiction fun hn => ?_
    have ev : x.2.1 * p + x.2.2 * (q : Int) = ((x.1 : Int) + 1) * (q : Int) := by omega
    rw [ev] at hw
    refine key _ (g.point (x.1 + 1) : Int) ?_ hw
    unfold line Abs.slope
    grind
theorem kids_up {g : Abs} {goals : List Nat} (hg : goals.Pairwise (· < ·)) (x : Nat × Int × Int) : (kids g goals x).Pairwise Bef := by
  unfold kids goesTo
  generalize (kid g x.1 x.2.1 x.2.2).1 = s
  generalize (kid g x.1 x.2.1 x.2.2).2 = t
  rw [List.pairwise_map]
  split
  · rename_i c
    rw [List.pairwise_reverse]
    refine List.Pairwise.imp ?_ (hg.filter _)
    intro a b hab q p p' hq h1 h2
    have h1' := h1.1
    have h2' := h2.2
    have h3 : ((a : Int) + 1) * (q : Int) ≤ (b : Int) * (q : Int) := Int.mul_le_mul_of_nonneg_right (by omega) (by omega)
    have h4 : s * p' < s * p := by
      have h1'' : (b : Int) * (q : Int) < s * p + t * (q : Int) := h1'
      have h2'' : s * p' + t * (q : Int) ≤ ((a : Int) + 1) * (q : Int) := h2'
      omega
    refine Classical.byContradiction fun hn => ?_
    have h5 : (-s) * p' ≤ (-s) * p := Int.mul_le_mul_of_nonneg_left (by omega) (by omega)
    rw [Int.neg_mul, Int.neg_mul] at h5
    omega
  · rename_i c
    refine List.Pairwise.imp ?_ (hg.filter _)
    intro a b hab q p p' hq h1 h2
    have h3 : ((a : Int) + 1) * (q : Int) ≤ (b : Int) * (q : Int) := Int.mul_le_mul_of_nonneg_right (by omega) (by omega)
    have h4 : s * p < s * p' := by
      have h1'' : s * p + t * (q : Int) < ((a : Int) + 1) * (q : Int) := h1.2
      have h2'' : (b : Int) * (q : Int) ≤ s * p' + t * (q : Int) := h2.1
      omega
    refine Classical.byContradiction fun hn => ?_
    have h5 : s * p' ≤ s * p := Int.mul_le_mul_of_nonneg_left (by omega) (by omega)
    omega
theorem paths_up (g : Abs) (start k : Nat) : ∀ j, (paths g start k j).Pairwise Bef
  | 0 => List.pairwise_singleton _ _
  | j + 1 => by
    show ((paths g start k j).flatMap _).Pairwise Bef
    rw [List.pairwise_flatMap]
    refine ⟨fun x _ => kids_up (wb_up g start _) x, List.Pairwise.imp ?_ (paths_up g start k j)⟩
    intro a b hab x hx y hy q p p' hq h1 h2
    exact hab q p p' hq (kids_winS hx hq h1) (kids_win hy h2)
theorem along_snoc (g : Abs) (l : List Nat) (i : Nat) : g.along (l ++ [i]) = (g.slope i * (g.along l).1, (g.point i : Int) + g.slope i * ((g.along l).2 - (i : Int))) := by
  unfold Su183.Abs.along
  rw [List.foldl_append]
  rfl
theorem along_kid (g : Abs) (l : List Nat) (i : Nat) : kid g i (g.along l).1 (g.along l).2 = g.along (l ++ [i]) := by
  rw [along_snoc]
  unfold kid
  rw [Int.add_comm]
/-- each path is a beginning of a loop -/
theorem paths_sound {g : Abs} {start k : Nat} (hs : start < g.n) : ∀ {j : Nat} {x : Nat × Int × Int}, x ∈ paths g start k j → ∃ w, w.length = j ∧ Chain g (w ++ [x.1]) ∧ (w ++ [x.1]).head? = some start ∧ g.along w = x.2
  | 0, x, h => by
    obtain rfl := List.mem_singleton.mp h
    exact ⟨[], rfl, hs, rfl, rfl⟩
  | j + 1, x, h => by
    obtain ⟨y, hy, hx⟩ := List.mem_flatMap.mp h
    obtain ⟨w, h1, h2, h3, h4⟩ := paths_sound hs hy
    obtain ⟨h5, h6, h7⟩ := mem_kids.mp hx
    refine ⟨w ++ [y.1], by rw [List.length_append, h1]; rfl, chain_snoc (wb_lt hs _ _ h5) h2 (fun i hi => ?_), ?_, ?_⟩
    · rw [List.getLast?_append] at hi
      obtain rfl : y.1 = i := Option.some.inj hi
      exact h6
    · cases w <;> exact h3
    · rw [h7, ← along_kid, h4]
/-- each loop from a piece on, none before it, is among the paths -/
theorem paths_full {g : Abs} {start k : Nat} : ∀ (v u : List Nat) (i : Nat), IsLoop g start (i :: v) → (∀ x ∈ i :: v, start ≤ x) → i < g.n → (i, g.along u) ∈ paths g start k u.length → u.length + (v.length + 1) = k → (start, g.along (u ++ i :: v)) ∈ paths g start k k
  | [], u, i, h, hs, hi, hp, hk => by
    have hk' : k = u.length + 1 := by simpa using hk.symm
    have : (start, g.along (u ++ [i])) ∈ paths g start k (u.length + 1) := by
      refine List.mem_flatMap.mpr ⟨_, hp, mem_kids.mpr ⟨?_, h, ?_⟩⟩
      · rw [← hk', Nat.sub_self]
        exact List.mem_singleton.mpr rfl
      · exact (along_kid g u i).symm
    rw [← hk'] at this
    exact this
  | l :: v, u, i, h, hs, hi, hp, hk => by
    have hlen : (u ++ [i]).length = u.length + 1 := by rw [List.length_append]; rfl
    have hk2 : v.length + 1 = k - (u.length + 1) := by
      rw [List.length_cons] at hk
      omega
    have hb := loop_wb h.1 (fun x hx => hs x (List.mem_cons_of_mem _ hx)) h.2.2
    rw [hk2] at hb
    have : (start, g.along ((u ++ [i]) ++ l :: v)) ∈ paths g start k k := by
      refine paths_full v (u ++ [i]) l h.2.2 (fun x hx => hs x (List.mem_cons_of_mem _ hx)) h.1 ?_ (by rw [hlen]; omega)
      rw [hlen]
      exact List.mem_flatMap.mpr ⟨_, hp, mem_kids.mpr ⟨hb, h.2.1, (along_kid g u i).symm⟩⟩
    rw [List.append_assoc] at this
    exact this
theorem paths_all {g : Abs} {k : Nat} {w : List Nat} {i : Nat} (hl : IsLoop g i (i :: w)) (hs : ∀ x ∈ i :: w, i ≤ x) (hi : i < g.n) (hk : w.length + 1 = k) : (i, g.along (i :: w)) ∈ paths g i k k :=
  paths_full w [] i hl hs hi (List.mem_singleton.mpr rfl) (by rw [List.length_nil]; omega)
theorem paths_end {g : Abs} {start k : Nat} (hs : start < g.n) (hk : 0 < k) {x : Nat × Int × Int} (h : x ∈ paths g start k k) : x.1 = start ∧ ∃ w, Lp g k (start :: w) ∧ g.along (start :: w) = x.2 := by
  obtain ⟨m, rfl⟩ : ∃ m, k = m + 1 := ⟨k - 1, by omega⟩
  have hx : x.1 = start := by
    obtain ⟨y, hy, hx⟩ := List.mem_flatMap.mp h
    have := (mem_kids.mp hx).1
    rw [Nat.sub_self] at this
    exact List.mem_singleton.mp this
  refine ⟨hx, ?_⟩
  obtain ⟨y, hy, hx'⟩ := List.mem_flatMap.mp h
  obtain ⟨w, h1, h2, h3, h4⟩ := paths_sound hs hy
  obtain ⟨_, h6, h7⟩ := mem_kids.mp hx'
  rw [hx] at h6
  have hl := chain_loop (start := start) h2 ⟨y.1, by rw [List.getLast?_append]; rfl, h6⟩
  have e : g.along (w ++ [y.1]) = x.2 := by rw [h7, ← along_kid, h4]
  have hln : (w ++ [y.1]).length = m + 1 := by rw [List.length_append, h1]; rfl
  generalize w ++ [y.1] = v at *
  match v, h3 with
  | a :: v, h3 =>
    obtain rfl : a = start := Option.some.inj h3
    exact ⟨v, ⟨hln, hl, hs⟩, e⟩
theorem kids_len {g : Abs} {goals : List Nat} (x : Nat × Int × Int) : (kids g goals x).length ≤ goals.length := by
  unfold kids goesTo
  rw [List.length_map]
  split
  · rw [List.length_reverse]
    exact List.length_filter_le _ _
  · exact List.length_filter_le _ _
theorem flat_len {α β : Type} (f : α → List β) (c : Nat) : ∀ l : List α, (∀ x ∈ l, (f x).length ≤ c) → (l.flatMap f).length ≤ l.length * c
  | [], _ => by simp
  | x :: l, h => by
    have := flat_len f c l fun y hy => h y (List.mem_cons_of_mem _ hy)
    have h1 := h x (by simp)
    rw [List.flatMap_cons, List.length_append, List.length_cons, Nat.succ_mul]
    omega
theorem paths_len {g : Abs} (w : WF g) (start k : Nat) : ∀ j, (paths g start k j).length ≤ 6 ^ j
  | 0 => Nat.le_refl _
  | j + 1 => by
    have ih := paths_len w start k j
    have h6 := w.six
    have := flat_len (kids g (wb g start (k - (j + 1)))) 6 (paths g start k j) fun x _ => Nat.le_trans (kids_len x) (Nat.le_trans (wb_len g w start _) h6)
    show ((paths g start k j).flatMap _).length ≤ _
    rw [Nat.pow_succ]
    exact Nat.le_trans this (Nat.mul_le_mul_right 6 ih)

/-! ## The least places, as the program finds them -/
def fix (s t : Int) : Int × Nat := if 1 < s then (-t, (s - 1).toNat) else (t, (1 - s).toNat)
theorem fix_place {g : Abs} {w : List Nat} {s t : Int} (e : g.along w = (s, t)) (h : s ≠ 1) : fix s t = place g w := by
  unfold fix place
  rw [e]
  show _ = (if s = 1 then _ else if s < 1 then (t, (1 - s).toNat) else (-t, (s - 1).toNat))
  rw [if_neg h]
  by_cases c : 1 < s
  · rw [if_pos c, if_neg (by omega)]
  · rw [if_neg c, if_pos (by omega)]
def ends (g : Abs) (start k : Nat) : List (Int × Nat) := ((paths g start k k).filter fun x => decide (x.2.1 ≠ 1)).map fun x => fix x.2.1 x.2.2
def inner (g : Abs) (start k : Nat) : List (Int × Nat) := (ends g start k).filter fun z => decide (z.1 % (z.2 : Int) ≠ 0) && leadsB g z.2 z.1 k
def block (g : Abs) (k i : Nat) : List (Int × Nat) := (if leadsB g 1 (i : Int) k = true then [((i : Int), 1)] else []) ++ (if i < g.n then inner g i k else [])
def leaders (g : Abs) (k : Nat) : List (Int × Nat) := (List.range (g.n + 1)).flatMap (block g k)
theorem mem_ends {g : Abs} {start k : Nat} (hs : start < g.n) (hk : 0 < k) {z : Int × Nat} (h : z ∈ ends g start k) : ∃ w, Lp g k (start :: w) ∧ z = place g (start :: w) ∧ (g.along (start :: w)).1 ≠ 1 := by
  obtain ⟨x, hx, rfl⟩ := List.mem_map.mp h
  rw [List.mem_filter, decide_eq_true_eq] at hx
  obtain ⟨_, w, h1, h2⟩ := paths_end hs hk hx.1
  refine ⟨w, h1, fix_place h2 hx.2, ?_⟩
  rw [h2]
  exact hx.2
theorem ends_on {g : Abs} {start k : Nat} (hs : start < g.n) (hk : 0 < k) {z : Int × Nat} (h : z ∈ ends g start k) : 0 < z.2 ∧ On g z.2 z.1 ∧ In z.2 start z.1 := by
  obtain ⟨w, L, rfl, _⟩ := mem_ends hs hk h
  exact ⟨place_pos g _, L.on, place_in g L.loop⟩
/-- in the block of its point -/
theorem mem_block {g : Abs} {k i : Nat} (hi : i ≤ g.n) (hk : 0 < k) {z : Int × Nat} (h : z ∈ block g k i) : 0 < z.2 ∧ On g z.2 z.1 ∧ Leads g z.2 z.1 k ∧ (i : Int) * (z.2 : Int) ≤ z.1 ∧ z.1 < ((i : Int) + 1) * (z.2 : Int) := by
  unfold block at h
  rcases List.mem_append.mp h with h | h
  · split at h
    · rename_i c
      obtain rfl := List.mem_singleton.mp h
      refine ⟨Nat.one_pos, point_on hi, leadsB_iff.mp c, ?_, ?_⟩
      · show (i : Int) * 1 ≤ (i : Int)
        omega
      · show (i : Int) < ((i : Int) + 1) * 1
        omega
    · cases h
  · split at h
    · rename_i c
      unfold inner at h
      rw [List.mem_filter, Bool.and_eq_true, decide_eq_true_eq] at h
      obtain ⟨h1, h2, h3⟩ := h
      obtain ⟨a1, a2, a3⟩ := ends_on c hk h1
      refine ⟨a1, a2, leadsB_iff.mp h3, a3.1, ?_⟩
      have := a3.2
      refine Classical.byContradiction fun hn => h2 ?_
      have e : z.1 = ((i : Int) + 1) * (z.2 : Int) := by omega
      rw [e]
      exact Int.mul_emod_left _ _
    · cases h
theorem low_lt {x y : Int × Nat} (hx : 0 < x.2) (hy : 0 < y.2) (h : x.1 * (y.2 : Int) < y.1 * (x.2 : Int)) : lt (red x.1 x.2) (red y.1 y.2) = true := by
  rw [lt_red hx hy, decide_eq_true_eq]
  exact h
theorem fix_eq {s t : Int} (h : s ≠ 1) : s * (fix s t).1 + t * ((fix s t).2 : Int) = (fix s t).1 := by
  unfold fix
  split
  · show s * -t + t * (((s - 1).toNat : Nat) : Int) = -t
    have : (((s - 1).toNat : Nat) : Int) = s - 1 := by omega
    rw [this]
    grind
  · show s * t + t * (((1 - s).toNat : Nat) : Int) = t
    have : (((1 - s).toNat : Nat) : Int) = 1 - s := by omega
    rw [this]
    grind
theorem inner_up {g : Abs} {start k : Nat} (hs : start < g.n) (hk : 0 < k) : (inner g start k).Pairwise fun x y => x.1 * (y.2 : Int) < y.1 * (x.2 : Int) := by
  unfold inner ends
  rw [List.filter_map, List.pairwise_map]
  have hp := ((paths_up g start k k).filter (fun x => decide (x.2.1 ≠ 1))).filter ((fun z : Int × Nat => decide (z.1 % (z.2 : Int) ≠ 0) && leadsB g z.2 z.1 k) ∘ fun x => fix x.2.1 x.2.2)
  refine List.Pairwise.imp_of_mem ?_ hp
  intro a b ha hb hab
  rw [List.mem_filter, List.mem_filter, decide_eq_true_eq] at ha hb
  obtain ⟨⟨ha1, ha2⟩, ha3⟩ := ha
  obtain ⟨⟨hb1, hb2⟩, _⟩ := hb
  have ha3' : (decide ((fix a.2.1 a.2.2).1 % ((fix a.2.1 a.2.2).2 : Int) ≠ 0) && leadsB g (fix a.2.1 a.2.2).2 (fix a.2.1 a.2.2).1 k) = true := ha3
  rw [Bool.and_eq_true, decide_eq_true_eq] at ha3'
  have ma : fix a.2.1 a.2.2 ∈ ends g start k := List.mem_map.mpr ⟨a, List.mem_filter.mpr ⟨ha1, decide_eq_true ha2⟩, rfl⟩
  have mb : fix b.2.1 b.2.2 ∈ ends g start k := List.mem_map.mpr ⟨b, List.mem_filter.mpr ⟨hb1, decide_eq_true hb2⟩, rfl⟩
  obtain ⟨a1, a2, a3⟩ := ends_on hs hk ma
  obtain ⟨b1, b2, b3⟩ := ends_on hs hk mb
  have ea := fix_eq (t := a.2.2) ha2
  have eb := fix_eq (t := b.2.2) hb2
  obtain ⟨sa, _⟩ := paths_end hs hk ha1
  obtain ⟨sb, _⟩ := paths_end hs hk hb1
  have hz := ha3'.1
  generalize fix a.2.1 a.2.2 = x at *
  generalize fix b.2.1 b.2.2 = y at *
  show x.1 * (y.2 : Int) < y.1 * (x.2 : Int)
  have hn1 : ¬ x.1 = (start : Int) * (x.2 : Int) := fun e => hz (by rw [e]; exact Int.mul_emod_left _ _)
  have hn2 : ¬ x.1 = ((start : Int) + 1) * (x.2 : Int) := fun e => hz (by rw [e]; exact Int.mul_emod_left _ _)
  have hyp : (0 : Int) < (y.2 : Int) := by omega
  have hxp : (0 : Int) < (x.2 : Int) := by omega
  refine hab (x.2 * y.2) _ _ (Nat.mul_pos a1 b1) ⟨?_, ?_⟩ ⟨?_, ?_⟩
  · have h1 : (start : Int) * (x.2 : Int) * (y.2 : Int) < x.1 * (y.2 : Int) := Int.mul_lt_mul_of_pos_right (by have := a3.1; omega) hyp
    have e1 : a.2.1 * (x.1 * (y.2 : Int)) + a.2.2 * ((x.2 * y.2 : Nat) : Int) = x.1 * (y.2 : Int) := by
      rw [Int.natCast_mul]
      grind
    rw [e1, sa, Int.natCast_mul, ← Int.mul_assoc]
    exact h1
  · have h1 : x.1 * (y.2 : Int) < ((start : Int) + 1) * (x.2 : Int) * (y.2 : Int) := Int.mul_lt_mul_of_pos_right (by have := a3.2; omega) hyp
    have e1 : a.2.1 * (x.1 * (y.2 : Int)) + a.2.2 * ((x.2 * y.2 : Nat) : Int) = x.1 * (y.2 : Int) := by
      rw [Int.natCast_mul]
      grind
    rw [e1, sa, Int.natCast_mul, ← Int.mul_assoc]
    exact h1
  · have h1 : (start : Int) * (y.2 : Int) * (x.2 : Int) ≤ y.1 * (x.2 : Int) := Int.mul_le_mul_of_nonneg_right b3.1 (by omega)
    have e1 : b.2.1 * (y.1 * (x.2 : Int)) + b.2.2 * ((x.2 * y.2 : Nat) : Int) = y.1 * (x.2 : Int) := by
      rw [Int.natCast_mul]
      grind
    rw [e1, sb, Int.natCast_mul, Int.mul_comm (x.2 : Int), ← Int.mul_assoc]
    exact h1
  · have h1 : y.1 * (x.2 : Int) ≤ ((start : Int) + 1) * (y.2 : Int) * (x.2 : Int) := Int.mul_le_mul_of_nonneg_right b3.2 (by omega)
    have e1 : b.2.1 * (y.1 * (x.2 : Int)) + b.2.2 * ((x.2 * y.2 : Nat) : Int) = y.1 * (x.2 : Int) := by
      rw [Int.natCast_mul]
      grind
    rw [e1, sb, Int.natCast_mul, Int.mul_comm (x.2 : Int), ← Int.mul_assoc]
    exact h1
theorem block_up {g : Abs} {k i : Nat} (hi : i ≤ g.n) (hk : 0 < k) : (block g k i).Pairwise fun x y => x.1 * (y.2 : Int) < y.1 * (x.2 : Int) := by
  unfold block
  rw [List.pairwise_append]
  refine ⟨?_, ?_, fun x hx y hy => ?_⟩
  · split
    · exact List.pairwise_singleton _ _
    · exact List.Pairwise.nil
  · split
    · rename_i c
      exact inner_up c hk
    · exact List.Pairwise.nil
  · split at hx
    · obtain rfl := List.mem_singleton.mp hx
      split at hy
      · rename_i c
        unfold inner at hy
        rw [List.mem_filter, Bool.and_eq_true, decide_eq_true_eq] at hy
        obtain ⟨h1, h2, h3⟩ := hy
        obtain ⟨a1, a2, a3⟩ := ends_on c hk h1
        have hn1 : ¬ y.1 = (i : Int) * (y.2 : Int) := fun e => h2 (by rw [e]; exact Int.mul_emod_left _ _)
        have := a3.1
        show (i : Int) * (y.2 : Int) < y.1 * 1
        omega
      · cases hy
    · cases hx
theorem leaders_up {g : Abs} {k : Nat} (hk : 0 < k) : (leaders g k).Pairwise fun x y => x.1 * (y.2 : Int) < y.1 * (x.2 : Int) := by
  unfold leaders
  rw [List.pairwise_flatMap]
  refine ⟨fun i hi => block_up (by have := List.mem_range.mp hi; omega) hk, ?_⟩
  refine List.Pairwise.imp_of_mem ?_ (List.pairwise_lt_range (n := g.n + 1))
  intro i j hi hj hij x hx y hy
  have hi' := List.mem_range.mp hi
  have hj' := List.mem_range.mp hj
  obtain ⟨a1, _, _, _, a2⟩ := mem_block (by omega) hk hx
  obtain ⟨b1, _, _, b2, _⟩ := mem_block (by omega) hk hy
  have h1 : x.1 * (y.2 : Int) < ((i : Int) + 1) * (x.2 : Int) * (y.2 : Int) := Int.mul_lt_mul_of_pos_right a2 (by omega)
  have h2 : (j : Int) * (y.2 : Int) * (x.2 : Int) ≤ y.1 * (x.2 : Int) := Int.mul_le_mul_of_nonneg_right b2 (by omega)
  have h3 : ((i : Int) + 1) * ((x.2 : Int) * (y.2 : Int)) ≤ (j : Int) * ((x.2 : Int) * (y.2 : Int)) := Int.mul_le_mul_of_nonneg_right (by omega) (Int.mul_nonneg (by omega) (by omega))
  have e1 : ((i : Int) + 1) * (x.2 : Int) * (y.2 : Int) = ((i : Int) + 1) * ((x.2 : Int) * (y.2 : Int)) := Int.mul_assoc _ _ _
  have e2 : (j : Int) * (y.2 : Int) * (x.2 : Int) = (j : Int) * ((x.2 : Int) * (y.2 : Int)) := by grind
  omega
theorem leaders_mem {g : Abs} {k : Nat} (hk : 0 < k) {z : Int × Nat} (h : z ∈ leaders g k) : 0 < z.2 ∧ On g z.2 z.1 ∧ Leads g z.2 z.1 k := by
  obtain ⟨i, hi, h⟩ := List.mem_flatMap.mp h
  have hi' := List.mem_range.mp hi
  obtain ⟨a1, a2, a3, _⟩ := mem_block (by omega) hk h
  exact ⟨a1, a2, a3⟩
theorem leaders_full {g : Abs} (w : WF g) {k : Nat} (ne : g.endless k = false) {p : Int} {q : Nat} (hq : 0 < q) (ho : On g q p) (l : Leads g q p k) (hm : ∀ m, p ≤ itn g q m p) : ∃ z ∈ leaders g k, red z.1 z.2 = red p q := by
  have hk := l.pos
  by_cases hz : p % (q : Int) = 0
  · obtain ⟨j, h1, h2, _⟩ := point_of hq ho hz
    have l' := leads_red w hq (by decide) ho (point_on h1) h2 l
    refine ⟨((j : Int), 1), List.mem_flatMap.mpr ⟨j, List.mem_range.mpr (by omega), ?_⟩, h2.symm⟩
    unfold block
    rw [if_pos (leadsB_iff.mpr l')]
    exact List.mem_append_left _ (List.mem_singleton.mpr rfl)
  · have L := path_lp w hq ho l.ret hz
    have G := path_ge hq k hm
    have c : ¬ (g.along (path g q k p)).1 = 1 := fun c => by
      have : g.endless k = true := (endless_iff w).mpr ⟨_, L, c, path_ret w hq ho l.ret hz⟩
      rw [ne] at this
      cases this
    have e := path_place w hq ho l.ret c
    have l' := leads_red w hq (place_pos g _) ho L.on e l
    have hlt := piece_lt hq ho hz
    obtain ⟨m, rfl⟩ : ∃ m, k = m + 1 := ⟨k - 1, by omega⟩
    have hl : IsLoop g (p / (q : Int)).toNat ((p / (q : Int)).toNat :: path g q m (mv g q p)) := L.loop
    have hin := paths_all (k := m + 1) hl G hlt (by rw [path_len])
    refine ⟨place g (path g q (m + 1) p), List.mem_flatMap.mpr ⟨(p / (q : Int)).toNat, List.mem_range.mpr (by omega), ?_⟩, e.symm⟩
    unfold block
    rw [if_pos hlt]
    refine List.mem_append_right _ (List.mem_filter.mpr ⟨List.mem_map.mpr ⟨_, List.mem_filter.mpr ⟨hin, decide_eq_true c⟩, fix_place rfl c⟩, ?_⟩)
    rw [Bool.and_eq_true, decide_eq_true_eq]
    refine ⟨fun z0 => hz ?_, leadsB_iff.mpr l'⟩
    -- a point would be one of p's own
    obtain ⟨j, h1, h2, _⟩ := point_of (place_pos g _) L.on z0
    rw [← e] at h2
    have := cross_red hq (by decide) h2
    have e3 : p * 1 = (j : Int) * (q : Int) := this
    rw [Int.mul_one] at e3
    rw [e3]
    exact Int.mul_emod_left _ _
/-- **the rounds are told by the leaders** -/
theorem rounds_leaders {g : Abs} (w : WF g) {k : Nat} (hk : 0 < k) (ne : g.endless k = false) : g.rounds k = (leaders g k).map fun z => red z.1 z.2 := by
  refine rising_eq (rounds_low w) (fun y hy => ?_) (rounds_spec w k).1 ?_ fun z => ?_
  · obtain ⟨z, hz, rfl⟩ := List.mem_map.mp hy
    exact low_red _ (leaders_mem hk hz).1
  · unfold Rising
    rw [List.pairwise_map]
    refine List.Pairwise.imp_of_mem ?_ (leaders_up hk)
    intro x y hx hy hxy
    exact low_lt (leaders_mem hk hx).1 (leaders_mem hk hy).1 hxy
  · rw [mem_leads w ne, List.mem_map]
    constructor
    · rintro ⟨p, q, hq, ho, l, hm, rfl⟩
      obtain ⟨z, h1, h2⟩ := leaders_full w ne hq ho l hm
      exact ⟨z, h1, h2⟩
    · rintro ⟨z, hz, rfl⟩
      obtain ⟨a1, a2, a3⟩ := leaders_mem hk hz
      exact (mem_leads w ne _).mp (leads_mem w ne a1 a2 a3)
theorem block_len {g : Abs} (w : WF g) (k i : Nat) : (block g k i).length ≤ 1 + 6 ^ k := by
  unfold block
  rw [List.length_append]
  have h1 : (if leadsB g 1 (i : Int) k = true then [((i : Int), 1)] else ([] : List (Int × Nat))).length ≤ 1 := by
    split
    · exact Nat.le_refl _
    · exact Nat.zero_le _
  have h2 : (if i < g.n then inner g i k else []).length ≤ 6 ^ k := by
    split
    · unfold inner ends
      refine Nat.le_trans (List.length_filter_le _ _) ?_
      rw [List.length_map]
      exact Nat.le_trans (List.length_filter_le _ _) (paths_len w i k k)
    · exact Nat.zero_le _
  omega
end Fl

namespace Fl
open Su183

/-! ## Whole pieces that come back -/
def pit (g : Abs) : Nat → Nat → Nat
  | 0, i => i
  | j + 1, i => pit g j (g.point i)
theorem pit_succ (g : Abs) : ∀ j i, pit g (j + 1) i = g.point (pit g j i)
  | 0, i => rfl
  | j + 1, i => pit_succ g j (g.point i)
theorem pit_le {g : Abs} (w : WF g) {i : Nat} (h : i ≤ g.n) : ∀ j, pit g j i ≤ g.n
  | 0 => h
  | j + 1 => by rw [pit_succ]; exact w.point _
/-- as near as the ends of a piece -/
def Near (s e : Nat) : Prop := s = e + 1 ∨ e = s + 1
structure Whole (g : Abs) (i k : Nat) : Prop where
  pos : 0 < k
  near : ∀ j, j ≤ k → Near (pit g j i) (pit g j (i + 1))
  back : pit g k i = i ∧ pit g k (i + 1) = i + 1
  first : ∀ j, 0 < j → j < k → ¬ (pit g j i = i ∧ pit g j (i + 1) = i + 1)
theorem div3 {a : Nat} {r : Int} (h0 : 0 ≤ r) (h : r < 3) : ((3 * (a : Int) + r) / ((3 : Nat) : Int)).toNat = a ∧ (3 * (a : Int) + r) % ((3 : Nat) : Int) = r := by
  have : ((3 : Nat) : Int) = 3 := rfl
  rw [this]
  omega
theorem mv_near {g : Abs} {s e : Nat} (h : Near s e) : mv g 3 (2 * (s : Int) + (e : Int)) = 2 * (g.point s : Int) + (g.point e : Int) := by
  unfold mv Abs.slope
  rcases h with rfl | rfl
  · have e1 : 2 * ((e + 1 : Nat) : Int) + (e : Int) = 3 * (e : Int) + 2 := by omega
    obtain ⟨h1, h2⟩ := div3 (a := e) (r := 2) (by decide) (by decide)
    rw [e1, h1, h2]
    have : ((3 : Nat) : Int) = 3 := rfl
    omega
  · have e1 : 2 * (s : Int) + ((s + 1 : Nat) : Int) = 3 * (s : Int) + 1 := by omega
    obtain ⟨h1, h2⟩ := div3 (a := s) (r := 1) (by decide) (by decide)
    rw [e1, h1, h2]
    have : ((3 : Nat) : Int) = 3 := rfl
    omega
theorem third_pit {g : Abs} {i : Nat} : ∀ {j : Nat}, (∀ m, m < j → Near (pit g m i) (pit g m (i + 1))) → itn g 3 j (3 * (i : Int) + 1) = 2 * (pit g j i : Int) + (pit g j (i + 1) : Int)
  | 0, _ => by
    show 3 * (i : Int) + 1 = 2 * (i : Int) + ((i + 1 : Nat) : Int)
    omega
  | j + 1, h => by
    rw [itn_succ, third_pit (fun m hm => h m (by omega)), mv_near (h j (by omega)), pit_succ, pit_succ]
theorem steep_one {g : Abs} : ∀ {w : List Nat}, (∀ i ∈ w, (g.slope i).natAbs = 1) → steep g w = 1
  | [], _ => rfl
  | j :: w, h => by
    show (g.slope j).natAbs * steep g w = 1
    rw [h j (by simp), steep_one fun i hi => h i (by simp [hi])]
theorem path_from {g : Abs} {q : Nat} : ∀ {k : Nat} {p : Int} {c : Nat}, c ∈ path g q k p → ∃ j, j < k ∧ c = (itn g q j p / (q : Int)).toNat
  | 0, p, c, h => by cases h
  | k + 1, p, c, h => by
    rcases List.mem_cons.mp h with rfl | h
    · exact ⟨0, by omega, rfl⟩
    · obtain ⟨j, hj, e⟩ := path_from h
      exact ⟨j + 1, by omega, e⟩
theorem near_slope {g : Abs} {s e : Nat} (h : Near s e) (h2 : Near (g.point s) (g.point e)) : (g.slope ((2 * (s : Int) + (e : Int)) / ((3 : Nat) : Int)).toNat).natAbs = 1 := by
  rcases h with rfl | rfl
  · have e1 : 2 * ((e + 1 : Nat) : Int) + (e : Int) = 3 * (e : Int) + 2 := by omega
    rw [e1, (div3 (a := e) (r := 2) (by decide) (by decide)).1]
    unfold Abs.slope
    rcases h2 with h | h <;> omega
  · have e1 : 2 * (s : Int) + ((s + 1 : Nat) : Int) = 3 * (s : Int) + 1 := by omega
    rw [e1, (div3 (a := s) (r := 1) (by decide) (by decide)).1]
    unfold Abs.slope
    rcases h2 with h | h <;> omega
theorem Whole.ret {g : Abs} {i k : Nat} (h : Whole g i k) : Ret g 3 (3 * (i : Int) + 1) k := by
  refine ⟨h.pos, ?_, fun j j0 jk e => h.first j j0 jk ?_⟩
  · rw [third_pit fun m hm => h.near m (by omega), h.back.1, h.back.2]
    omega
  · rw [third_pit fun m hm => h.near m (by omega)] at e
    have := h.near j (by omega)
    unfold Near at this
    omega
theorem whole_endless {g : Abs} (w : WF g) {i k : Nat} (hi : i < g.n) (h : Whole g i k) : g.endless k = true := by
  have r := h.ret
  have ho := third_on hi
  have hz : ¬ (3 * (i : Int) + 1) % ((3 : Nat) : Int) = 0 := by
    rw [(div3 (a := i) (r := 1) (by decide) (by decide)).2]
    decide
  have L := path_lp w (by decide) ho r hz
  have hp := h.pos
  have hst : steep g (path g 3 k (3 * (i : Int) + 1)) = 1 := steep_one fun c hc => by
    obtain ⟨j, hj, rfl⟩ := path_from hc
    rw [third_pit fun m hm => h.near m (by omega)]
    refine near_slope (h.near j (by omega)) ?_
    rw [← pit_succ, ← pit_succ]
    exact h.near (j + 1) (by omega)
  have c : (g.along (path g 3 k (3 * (i : Int) + 1))).1 = 1 := by
    obtain ⟨m, rfl⟩ : ∃ m, k = m + 1 := ⟨k - 1, by omega⟩
    have ehd := (div3 (a := i) (r := 1) (by decide) (by decide)).1
    have hl : IsLoop g ((3 * (i : Int) + 1) / ((3 : Nat) : Int)).toNat (path g 3 (m + 1) (3 * (i : Int) + 1)) := L.loop
    have hm := mid_go (q := 3) (p := 3 * (i : Int) + 1) hl hst
    have hg := path_go w (by decide) (m + 1) ho
    rw [r.back] at hg
    have hg' : go g 3 (((3 * (i : Int) + 1) / ((3 : Nat) : Int)).toNat :: path g 3 m (mv g 3 (3 * (i : Int) + 1))) (3 * (i : Int) + 1) = 3 * (i : Int) + 1 := hg
    rw [hg', ehd] at hm
    have e3 : ((3 : Nat) : Int) = 3 := rfl
    rw [e3] at hm
    have e4 : 2 * (3 * (i : Int) + 1) - (2 * (i : Int) + 1) * 3 = -1 := by omega
    rw [e4] at hm
    have e5 : path g 3 (m + 1) (3 * (i : Int) + 1) = i :: path g 3 m (mv g 3 (3 * (i : Int) + 1)) := by
      show ((3 * (i : Int) + 1) / ((3 : Nat) : Int)).toNat :: _ = _
      rw [ehd]
    rw [e5]
    omega
  exact (endless_iff w).mpr ⟨_, L, c, path_third w (by decide) ho r hz c⟩
def Pair (c s e : Nat) : Prop := (s = c ∧ e = c + 1) ∨ (s = c + 1 ∧ e = c)
theorem pair_step {g : Abs} {c l s e : Nat} (h : Pair c s e) (hc : g.covers c l = true) (s1 : (g.slope c).natAbs = 1) : Pair l (g.point s) (g.point e) := by
  have := covers_iff.mp hc
  unfold Abs.slope at s1
  unfold Pair
  rcases h with ⟨rfl, rfl⟩ | ⟨rfl, rfl⟩ <;> omega
theorem pair_along {g : Abs} {i : Nat} : ∀ {v : List Nat} {c s e : Nat}, IsLoop g i (c :: v) → (∀ x ∈ c :: v, (g.slope x).natAbs = 1) → Pair c s e → (∀ j, j ≤ v.length + 1 → Near (pit g j s) (pit g j e)) ∧ Pair i (pit g (v.length + 1) s) (pit g (v.length + 1) e)
  | [], c, s, e, h, h1, hp => by
    have hn : Near s e := by
      unfold Near
      unfold Pair at hp
      omega
    have h2 := pair_step hp (show g.covers c i = true from h) (h1 c (by simp))
    refine ⟨fun j hj => ?_, h2⟩
    match j, hj with
    | 0, _ => exact hn
    | 1, _ =>
      show Near (g.point s) (g.point e)
      unfold Near
      unfold Pair at h2
      omega
    | j + 2, hj => simp at hj
  | l :: v, c, s, e, h, h1, hp => by
    have hn : Near s e := by
      unfold Near
      unfold Pair at hp
      omega
    have h2 := pair_step hp h.2.1 (h1 c (by simp))
    obtain ⟨a, b⟩ := pair_along h.2.2 (fun x hx => h1 x (List.mem_cons_of_mem _ hx)) h2
    refine ⟨fun j hj => ?_, b⟩
    match j, hj with
    | 0, _ => exact hn
    | j + 1, hj =>
      rw [List.length_cons] at hj
      exact a j (by omega)
theorem endless_whole {g : Abs} (w : WF g) {k : Nat} : g.endless k = true ↔ ∃ i, i < g.n ∧ Whole g i k := by
  constructor
  · intro h
    obtain ⟨v, L, h1, r⟩ := (endless_iff w).mp h
    obtain ⟨i, v, rfl, h5, h6, h7⟩ := L.cons
    have e : place g (i :: v) = (3 * (i : Int) + 1, 3) := by
      unfold place
      rw [if_pos h1]
      rfl
    rw [e] at r
    have hst : steep g (i :: v) = 1 := by
      rw [← steep_eq, h1]
      rfl
    obtain ⟨a, b⟩ := pair_along (s := i) (e := i + 1) h5 (steep_all hst) (.inl ⟨rfl, rfl⟩)
    have ek : v.length + 1 = k := h7
    rw [ek] at a b
    have hb : pit g k i = i ∧ pit g k (i + 1) = i + 1 := by
      have e1 := r.back
      rw [third_pit fun m hm => a m (by omega)] at e1
      unfold Pair at b
      have e2 : 2 * (pit g k i : Int) + (pit g k (i + 1) : Int) = 3 * (i : Int) + 1 := e1
      omega
    refine ⟨i, h6, r.pos, a, hb, fun j j0 jk z => r.first j j0 jk ?_⟩
    rw [third_pit fun m hm => a m (by omega), z.1, z.2]
    show 2 * (i : Int) + ((i + 1 : Nat) : Int) = 3 * (i : Int) + 1
    omega
  · rintro ⟨i, hi, h⟩
    exact whole_endless w hi h
end Fl

namespace Fl
open PySem PySem.Spec PyProof.Rows L2
open Su183 (Abs)
def top (i : Nat) : Stmt := PySem.Challenge.pw_foldedline_s01_answers.main.body.getD i (.Pass ⟨0, 0, 0, 0⟩)
abbrev sInit : Stmt := inClass (top 38) 0
abbrev sLowest : Stmt := top 1
abbrev sPutOver : Stmt := top 2
abbrev sPlaces : Stmt := top 3
abbrev sWayInto : Stmt := top 4
abbrev sBackIn : Stmt := top 5
abbrev sCovers : Stmt := top 6
abbrev sSome : Stmt := top 7
abbrev sPieces : Stmt := top 8
abbrev sWays : Stmt := top 9
abbrev sOneMore : Stmt := top 10
abbrev sPutBack : Stmt := top 11
abbrev sPlaceOf : Stmt := top 12
abbrev sLoop : Stmt := top 13
abbrev sHasR : Stmt := top 14
abbrev sWhole : Stmt := top 16
abbrev sEndless : Stmt := top 17
abbrev sLeads : Stmt := top 18
abbrev sAmong : Stmt := top 19
abbrev sLonger : Stmt := top 20
abbrev sPlacesL : Stmt := top 21
abbrev sWithin : Stmt := top 22
abbrev sAllL : Stmt := top 23
abbrev sPow : Stmt := top 25
abbrev sBringsN : Stmt := top 26
abbrev sRenew : Stmt := top 39
abbrev sLeadersOf : Stmt := top 40
abbrev sLast : Stmt := top 41
abbrev sIsPlace : Stmt := top 42
abbrev sIsSteps : Stmt := top 43
abbrev sFracs : Stmt := top 44
abbrev sBegin : Stmt := top 45
abbrev sSet : Stmt := top 46
abbrev sRow : Stmt := top 47
abbrev sPut : Stmt := top 48
abbrev sWay : Stmt := top 49
abbrev sComes : Stmt := top 50
abbrev sCov : Stmt := top 51
abbrev sHas : Stmt := top 52
abbrev sWhich : Stmt := top 53
abbrev sStepsRef : Stmt := top 54
abbrev sRoundRef : Stmt := top 55
abbrev sCount : Stmt := top 56
abbrev sTellR : Stmt := top 57
abbrev sLess : Stmt := top 58
abbrev sRanks : Stmt := top 59
abbrev sBrings : Stmt := top 60
abbrev sSlope : Stmt := top 61
abbrev sTurn : Stmt := top 62
abbrev sState : Stmt := top 63
abbrev sMake : Stmt := top 68
abbrev sAns : Stmt := top 69
/-- f(e, ..)(..): what is called is told by an expression; the promise goes with the address -/
structure HeldX (P : Program) (w : World) (K : PySem.W.Frag) (mg : Str → Option Value) (base : Heap) (k : Nat) (f : Addr) (sp : Sp) : Prop where
  ex : ∃ (fd : FuncData) (ps : List Str), FnOk P w K mg base CX0 k f fd ps sp ∧ PySem.W.keepIn K (.ref f) = true ∧ Binds K fd ps []
def tCallX (S : Addr → Sp → Prop) (tf : TE) (t : TA) : TE := fun σ H Q => tf σ H fun x H1 => ∃ f sp, x = .ref f ∧ S f sp ∧ t σ H1 fun vs H2 => sp vs H2 Q E0
theorem pe_callX {X : Cx} {k : Nat} {S : Addr → Sp → Prop} {g e : Expr} {es : List Expr} {pos : Pos} {tf : TE} {t : TA} (A : ∀ f sp, S f sp → HeldX X.prog X.w X.K X.mg X.base k f sp) (hr : Room k X.A) (hf : PE X g tf) (ha : PA X (e :: es) t)
    (he : starEach (e :: es) X.env = (false, eval e X.env) :: starEach es X.env := by rfl) (hpl : (backTo pos (starEach es X.env)).any (·.1) = false := by rfl)
    (ht : eval (.Call g (e :: es) [] pos) X.env = (do callWith pos (← eval g X.env) [] (backTo pos (starEach (e :: es) X.env)) (backToKw pos (keywordEach [] X.env))) := by rfl) :
    PE X (.Call g (e :: es) [] pos) (tCallX S tf t) := by
  refine ⟨fun pins s σ H Q I h => ?_⟩
  rw [ht]
  refine wpAny_bind (thn (hf.run pins s σ H _ I h) fun u s1 ⟨x, H1, I1, rx, f, sp, ex, hS, q⟩ => ?_)
  subst ex
  obtain rfl : u = Value.ref f := rx
  obtain ⟨fd, ps, F, hk, hb⟩ := (A f sp hS).ex
  refine PySem.W.callWith_K (h₀ := X.base) I.ok.mod.kin hk (thn (ha.run pos pins s1 σ _ _ I1 q) fun us s2 ⟨vs, H2, I2, r, q2⟩ => ⟨I2.kIn, ?_⟩) he hpl
  have q3 : sp (vs ++ []) H2 Q E0 := by rw [List.append_nil]; exact q2
  exact run_fn F hr hb .nil pass0 I2 r q3
/-- an if whose test is known -/
theorem ifT {c : Bool} {A B : Prop} (hc : c = true) (h : A) : if c = true then A else B := by
  rw [if_pos hc]
  exact h
theorem ifF {c : Bool} {A B : Prop} (hc : c = false) (h : B) : if c = true then A else B := by
  rw [hc, if_neg Bool.false_ne_true]
  exact h
theorem fdiv_nat {i : Int} {j : Nat} : i.fdiv (j : Int) = i / (j : Int) := Int.fdiv_eq_ediv_of_nonneg _ (by omega)
theorem fmod_nat {i : Int} {j : Nat} : i.fmod (j : Int) = i % (j : Int) := Int.fmod_eq_emod_of_nonneg _ (by omega)
/-- an operation of two ints, its value named -/
theorem opZ {X : Cx} {f : Value → Value → Sem Value} {C : Int → Int → Prop} {g : Int → Int → V} (h : OpR X f (rI C g)) : OpR X f (fun x y H Q => ∃ i j v, x = .int i ∧ y = .int j ∧ C i j ∧ g i j = v ∧ Q v H) :=
  fun pins s σ H x y v u Q I r1 r2 ⟨i, j, z, e1, e2, c, e3, q⟩ => h pins s σ H x y v u Q I r1 r2 ⟨i, j, e1, e2, c, by rw [e3]; exact q⟩
theorem opZ0 {X : Cx} {f : Value → Value → Sem Value} {g : Int → Int → V} (h : OpR X f (rI0 g)) : OpR X f (fun x y H Q => ∃ i j v, x = .int i ∧ y = .int j ∧ g i j = v ∧ Q v H) :=
  fun pins s σ H x y v u Q I r1 r2 ⟨i, j, z, e1, e2, e3, q⟩ => h pins s σ H x y v u Q I r1 r2 ⟨i, j, e1, e2, by rw [e3]; exact q⟩
/-- a def of the program's own, by its name: its promise, of at most k rooms -/
structure Def (P : Program) (w : World) (K : PySem.W.Frag) (mg : Str → Option Value) (base : Heap) (k : Nat) (x : Str) (sp : Sp) : Prop where
  ex : ∃ (f : Addr) (fd : FuncData) (ps : List Str), mg x = some (.ref f) ∧ PySem.W.keepIn K (.ref f) = true ∧ Binds K fd ps [] ∧ FnOk P w K mg base CX0 k f fd ps sp
def tDef (sp : Sp) (t : TA) : TE := fun σ H Q => t σ H fun vs H1 => sp vs H1 Q E0
theorem pe_def {X : Cx} {k j : Nat} {sp : Sp} {x : Str} {p pos : Pos} {e : Expr} {es : List Expr} {t : TA} (D : Def X.prog X.w X.K X.mg X.base k x sp) (hr : Room j X.A) (hk : k ≤ j) (hg : Gl X x) (ha : PA X (e :: es) t)
    (hdb : (x == ("__debug__" : Str)) = false := by decide) (he : starEach (e :: es) X.env = (false, eval e X.env) :: starEach es X.env := by rfl) (hpl : (backTo pos (starEach es X.env)).any (·.1) = false := by rfl) :
    PE X (.Call (.Name x p) (e :: es) [] pos) (tDef sp t) := by
  obtain ⟨f, fd, ps, h1, h2, h3, h4⟩ := D.ex
  have h := pe_call (E := E0) (pos := pos) (p := p) h4 (hr.mono hk) hg h1 h2 h3 .nil pass0 ha hdb he hpl
  have e : tCall sp [] E0 t = tDef sp t := by
    funext σ H Q
    show t σ H (fun vs H1 => sp (vs ++ []) H1 Q E0) = t σ H (fun vs H1 => sp vs H1 Q E0)
    congr 1
    funext vs H1
    rw [List.append_nil]
  rw [e] at h
  exact h
/-- a constant of the module -/
theorem pe_k {X : Cx} {x : Str} {v : V} {pos : Pos} (hg : Gl X x) (h : ∃ u, X.mg x = some u ∧ RelV v u) (hd : (x == ("__debug__" : Str)) = false := by decide) : PE X (.Name x pos) (tC v) := by
  obtain ⟨u, hm, r⟩ := h
  exact pe_glob hg hm r hd
end Fl

/-! list(reversed(xs)): a new list, turned about -/
namespace FlR
open PySem PySem.Spec PyProof.Rows L2
section
variable {P : Program} {wo : World} {A : Around} {E : Value → Shared → Prop} {s : Shared}
/-- a new list takes what a reversed list gives -/
theorem ext_back {it l n : Addr} {vs : Array Value} {R : Result → Shared → Prop} {c₀ : Nat} (hh : A.handled = none) (ni : n ≠ it) (nl : n ≠ l) (li : l ≠ it) (fits : vs.size ≤ sizeLine)
    (hn : s.heap.get? n = some { cls := .type "list", data := .seq #[] c₀ }) (hi : s.heap.IsRevIter it l ((vs.size : Int) - 1)) (hl : s.heap.IsList l vs)
    (go : ∀ (h' : Heap) (tk : Nat) (acc : Array Value) (c' : Nat), (∀ b o, b ≠ it → b ≠ n → s.heap.get? b = some o → h'.get? b = some o) → h'.get? n = some { cls := .type "list", dict := none, data := .seq acc c', slots := #[] } →
      ItemsOf (fun i v => vs[vs.size - 1 - i]? = some v) acc vs.size → R (.ok (.ret .none)) { s with heap := h', toks := tk }) :
    wpAny (model P wo) A.in1 (Builtin.List.listExtendWith (.ref n) (.ref it) .none)
      (fun fin s' => match fin with | .done f => R (.ok f) s' | .again c' => c'.quiet = true ∧ codeAny (model P wo) A c' R s') (fun e s' => R (.error e) s') s := by
  have W := (Walks.listRev (prog := P) (w := wo) (A := A.in1) hh it l li vs).toS
  have hT : s.TypeIs (.ref it) "list_reverseiterator" := hi.typeIs
  have nin : n ∉ [it, l] := by simp [ni, nl]
  have same : Builtin.List.listSameRef (.ref n) (.ref it) = false := by simp [Builtin.List.listSameRef, ni]
  unfold Builtin.List.listExtendWith; refine wpAny_bind (wpAny_typeOf hT ?_)
  rw [if_neg (by rw [same]; decide)]; refine wpAny_bind (wpAny_pyIter_revIter hi ?_)
  refine wpAny_bind (wpAny_holding ?_); unfold Builtin.List.listLengthHint
  refine wpAny_bind (wpAny_specialOf hT RT.nolen_lri ?_)
  show wpAny _ A.in1 (specialOf (Value.ref it) (Str.ofString "__length_hint__") >>= _) _ _ s
  refine wpAny_bind (wpAny_specialOf hT RT.hint_lri ?_); generalize hid : ("list_reverseiterator.__length_hint__" : String) = idd
  wp_delta; rw [show splitId idd = some ("list_reverseiterator", "__length_hint__") from by subst hid; decide +kernel]
  subst hid; refine wpAny_bind (wpAny_isInstance (b := true) hT (by rw [isSubtype_type]; kernel_rfl) ?_)
  refine wpAny_pure ?_; rw [if_neg (by decide)]
  have e0 : ((vs.size : Nat) : Int) - 1 - ((0 : Nat) : Int) = (vs.size : Int) - 1 := by omega
  refine wpAny_pure ⟨plainId_quiet F.plain_extend_loop _, codeAny_extend_loopS W fits _ nin _ vs.size 0 _ _ _ rfl (Nat.zero_le _) ⟨Nat.zero_le _, by rw [e0]; exact hi, hl⟩ hn (ItemsOf.nil _) fun s2 acc c2 hm hS hacc => ?_⟩
  rw [Moved.eq_with hm]
  refine go s2.heap s2.toks acc c2 (fun b o b1 b2 e => hm.heap b o (fun z => ?_) e) hS hacc
  rcases List.mem_cons.mp z with z | z
  · exact b2 z
  · exact b1 (List.mem_singleton.mp z)
theorem list_back {it l : Addr} {vs : Array Value} {Q : Value → Shared → Prop} (hh : A.handled = none) (li : l ≠ it) (fits : vs.size ≤ sizeLine) (hi : s.heap.IsRevIter it l ((vs.size : Int) - 1)) (hl : s.heap.IsList l vs)
    (go : ∀ (h' : Heap) (tk : Nat) (acc : Array Value) (c' : Nat), (∀ b o, b ≠ it → s.heap.get? b = some o → h'.get? b = some o) → h'.get? s.heap.objs.size = some { cls := .type "list", dict := none, data := .seq acc c', slots := #[] } →
      ItemsOf (fun i v => vs[vs.size - 1 - i]? = some v) acc vs.size → Q (.ref s.heap.objs.size) { s with heap := h', toks := tk }) :
    wpAny (model P wo) A (call (.type "list") [.ref it]) Q E s := by
  obtain ⟨oi, hoi, _⟩ := id hi
  obtain ⟨ol, hol, _⟩ := id hl
  refine callType_codes (Q₁ := fun x s1 => x = .ref s.heap.objs.size ∧ s1 = { s with heap := s.heap.push { cls := .type "list", data := .seq #[] } }) F.called_list (F.typeCall_list_1 _) F.entry_list_init (code_list_new _ ⟨rfl, rfl⟩) ?_
  rintro x s1 ⟨rfl, rfl⟩
  have hS : (s.heap.push { cls := .type "list", data := .seq #[] }).get? s.heap.objs.size = some { cls := .type "list", data := .seq #[] } := Heap.get?_push_size _ rfl
  refine ⟨⟨_, hS, rfl⟩, F.args_list_init_2 _ _, ?_⟩
  show wpAny _ _ (do let o ← Builtin.List.listItems (.ref s.heap.objs.size); Builtin.List.listUpdate (.ref s.heap.objs.size) (fun _ => #[]); letGo o.toList.reverse; Builtin.List.listExtendWith (.ref s.heap.objs.size) (.ref it) .none) _ _ _
  refine wpAny_bind ?_; unfold Builtin.List.listItems
  refine wpAny_bind (wpAny_seqItems hS rfl (wpAny_pure ?_))
  show wpAny _ _ (updateSeq s.heap.objs.size (fun _ => #[]) >>= fun _ => letGo (#[] : Array Value).toList.reverse >>= fun _ => Builtin.List.listExtendWith (.ref s.heap.objs.size) (.ref it) .none) _ _ _
  refine wpAny_bind (wpAny_updateSeq hS rfl ?_)
  have h2 := Heap.get?_update_self (Obj.mapSeq (fun _ => (#[] : Array Value))) hS rfl
  have ni : s.heap.objs.size ≠ it := Nat.ne_of_gt (Heap.lt_size hoi)
  have nl : s.heap.objs.size ≠ l := Nat.ne_of_gt (Heap.lt_size hol)
  have oth : ∀ b o, b ≠ s.heap.objs.size → s.heap.get? b = some o → ((s.heap.push { cls := .type "list", data := .seq #[] }).update s.heap.objs.size (Obj.mapSeq (fun _ => (#[] : Array Value)))).get? b = some o := fun b o hb e => (Heap.get?_update_other _ _ (Ne.symm hb)).trans (Heap.get?_push_of_some _ e)
  refine wpAny_bind (wpAny_letGo ?_)
  refine ext_back (A := A.in1) hh ni nl li fits h2 (hi.at fun o e => oth _ o (Ne.symm ni) e) (hl.at fun o e => oth _ o (Ne.symm nl) e) fun h' tk acc c' hk hn' hacc => ?_
  exact ⟨rfl, go h' tk acc c' (fun b o hb e => hk b o hb (Nat.ne_of_lt (Heap.lt_size e)) (oth b o (Nat.ne_of_lt (Heap.lt_size e)) e)) hn' hacc⟩
end
section
variable {X : Cx}
def tLstBack (K : PySem.W.Frag) (te : TE) : TE := fun σ H Q => te σ H fun v H1 => ∃ (a : Addr) (xs : List V), v = .ref a ∧ SqL K H1 a xs ∧ ∀ q, H1 q = none → Q (.ref q) (upd H1 q (.lst xs.reverse))
theorem pe_listBack {e : Expr} {te : TE} {p p2 pos pos2 : Pos} (hc : X.calm = true) (hg : Gl X "list") (hm : X.mg "list" = none) (hg2 : Gl X "reversed") (hm2 : X.mg "reversed" = none) (he : PE X e te)
    (na : starEach [e] X.env = (false, eval e X.env) :: starEach [] X.env := by rfl)
    (nb : starEach [.Call (.Name "reversed" p2) [e] [] pos2] X.env = (false, eval (.Call (.Name "reversed" p2) [e] [] pos2) X.env) :: starEach [] X.env := by rfl) :
    PE X (.Call (.Name "list" p) [.Call (.Name "reversed" p2) [e] [] pos2] [] pos) (tLstBack X.K te) := by
  refine ⟨fun pins s σ H Q I h => Call_ (ld_blt I hg hm boot_list (PyProof.Rows.callWith_type1 (args_cons (Call_ (ld_blt I hg2 hm2 PyProof.Rows.boot_reversed (PyProof.Rows.callWith_type1 (args_cons (thn (he.run pins s σ H _ I h) fun u s1 ⟨v, H1, I1, r1, q1⟩ => args_nil ?_) na) na rfl))) nb) nb rfl))⟩
  obtain ⟨a, xs, ev, hq, q⟩ := q1; subst ev; obtain rfl : u = Value.ref a := r1
  obtain ⟨its, rv, pl, hz⟩ := I1.list hq; refine call_reversed_list pl.isList (args_nil ?_)
  have I2 : Inv X pins σ H1 { s1 with heap := s1.heap.push (revObj a ((its.toArray.size : Int) - 1)) } := I1.kept (t' := s1.toks) fun b o z => Heap.get?_push_of_some _ z
  have hl := pl.isList
  obtain ⟨ol, hol, _⟩ := id hl
  refine list_back (s := { s1 with heap := s1.heap.push (revObj a ((its.toArray.size : Int) - 1)) }) (I1.ok.hd hc) (Nat.ne_of_lt (Heap.lt_size hol)) (by rw [List.size_toArray, ← rv.length]; exact hz) ⟨_, Heap.get?_push_size _ rfl, rfl, rfl⟩ (hl.push _) fun h' tk acc c' hk hn hi => ?_
  have fp : FpOk X pins H1 s1.heap.objs.size := I1.fpOk (Nat.le_refl _) (I1.hok.fresh (Nat.le_refl _))
  refine ⟨.ref _, upd H1 _ (.lst xs.reverse), I2.turnedNew (t' := tk) (ch := [s1.heap.objs.size]) (fun b o hb z => hk b o (fun y => hb (List.mem_singleton.mpr y)) z) (fun b hb => by obtain rfl := List.mem_singleton.mp hb; exact fp) (Nat.le_refl _)
    (show ObjOk X.prog X.w _ _ _ (.lst xs.reverse) from ⟨by rw [List.length_reverse]; exact hz, acc.toList, c', RT.vals_rev rv hi, by rw [Array.toArray_toList]; exact hn⟩), rfl, q _ (I2.hok.fresh (Nat.le_refl _))⟩
end
end FlR

namespace Fl
open PySem PySem.Spec PyProof.Rows L2
open Su183 (Abs red)
/-- the line's points as the program keeps them -/
def gs (g : Abs) : List V := g.to.map fun (v : Nat) => V.int (v : Int)
theorem gs_len {g : Abs} (w : WF g) : (gs g).length = g.n + 1 := by
  unfold gs
  rw [List.length_map, w.len]
theorem gs_get {g : Abs} (w : WF g) {i : Nat} (h : i ≤ g.n) : (gs g)[i]? = some (.int (g.point i : Int)) := by
  unfold gs Su183.Abs.point
  have hl : i < g.to.length := by rw [w.len]; omega
  rw [List.getElem?_map, List.getD_eq_getElem?_getD, List.getElem?_eq_getElem hl]
  rfl
/-! ### lowest -/
def spLowest : Sp := fun vs H Q _ => ∃ (p : Int) (q : Nat), vs = [.int p, .int q] ∧ 0 ≤ p ∧ 0 < q ∧ q < 1000000 ∧
  ∀ a, H a = none → Q (.ref a) (upd H a (.lst [.int (red p q).1, .int ((red p q).2 : Int)]))
def spPutOver (K : PySem.W.Frag) : Sp := fun vs H Q _ => ∃ (a : Addr) (g : Abs) (p : Int) (q : Nat), vs = [.ref a, .int p, .int q] ∧ SqL K H a (gs g) ∧ WF g ∧ 0 < q ∧ q < 1000000 ∧ On g q p ∧ Q (.int (mv g q p)) H
section
variable {P : Program} {w : World} {K : PySem.W.Frag} {mg : Str → Option Value} {base : Heap}
theorem scLowest : FnScope ["p", "q", "common", "rest", "after"] ["p", "q"] (defScope sLowest) := ⟨rfl, rfl, rfl, by decide +kernel, rfl, by decide +kernel, by decide +kernel⟩
theorem ok_lowest {f : Addr} {fd : FuncData} (F : Fun K "lowest" "lowest" sLowest f fd) : FnOk P w K mg base CX0 1 f fd ["p", "q"] spLowest := by
  refine F.ok scLowest (fun vs H Q E h => ?_) (fun cdv A outer s H vs Q E hr h => ?_)
  · obtain ⟨p, q, rfl, _⟩ := h
    rfl
  · obtain ⟨p, q, rfl, h0, hq, hq2, k⟩ := h
    refine ⟨_, pss_cons (ps_set (i := 2) scLowest.nd rfl (Or.inl rfl) (pv 0))
      (pss_cons (ps_set (i := 3) scLowest.nd rfl (Or.inl rfl) (pv 1))
      (pss_cons (ps_while PassesOwn.never (pt_cmpR op_gt (pv 3) pe_int (nomark _))
        (pss_cons (ps_set (i := 4) scLowest.nd rfl (Or.inl rfl) (pe_op op_modN (pv 2) (pv 3)))
        (pss_cons (ps_set (i := 2) scLowest.nd rfl (Or.inl rfl) (pv 3))
        (pss_one (ps_set (i := 3) scLowest.nd rfl (Or.inl rfl) (pv 4))))))
      (pss_one (ps_ret (pe_lst (pa_cons (pe_op op_fdivN (pv 0) (pv 2)) (pa_cons (pe_op op_fdivN (pv 1) (pv 2)) pa_nil))))))), ?_⟩
    refine ⟨_, rfl, _, rfl, ?_⟩
    refine while_by (fun σ H' => H' = H ∧ ∃ (c r : Nat) (v : Option V), σ = [some (.int p), some (.int q), some (.int (c : Int)), some (.int (r : Int)), v] ∧ Nat.gcd c r = Nat.gcd p.natAbs q ∧ r ≤ q)
      (fun σ _ => match σ with | [_, _, _, some (.int r), _] => r.toNat | _ => 0) ⟨rfl, p.natAbs, q, none, ?_, rfl, Nat.le_refl _⟩ ?_ ?_
    · have : (p.natAbs : Int) = p := by omega
      rw [this]
      rfl
    · rintro σ H' ⟨rfl, c, r, v, rfl, hg, hrq⟩
      refine ⟨_, rfl, _, _, rfl, rfl, _, rfl, ?_⟩
      by_cases hr0 : r = 0
      · subst hr0
        refine ifF (by simp) ?_
        have hc : c = Nat.gcd p.natAbs q := by rw [← hg, Nat.gcd_zero_right]
        have hcpos : 0 < c := by rw [hc]; exact gcd_pos' hq
        have hcle : c ≤ q := by rw [hc]; exact Nat.gcd_le_right _ hq
        refine ⟨_, rfl, _, rfl, _, _, rfl, rfl, ⟨by omega, by omega⟩, _, rfl, _, rfl, _, _, rfl, rfl, ⟨by omega, by omega⟩, (by show 2 ≤ sizeLine; decide), fun a ha => ?_⟩
        have e1 : p.fdiv (c : Int) = (red p q).1 := by
          rw [fdiv_nat, hc]
          rfl
        have e2 : (q : Int).fdiv (c : Int) = ((red p q).2 : Int) := by
          rw [fdiv_nat, hc]
          rfl
        show Q (.ref a) (upd H' a (.lst [.int (p.fdiv (c : Int)), .int ((q : Int).fdiv (c : Int))]))
        rw [e1, e2]
        exact k a ha
      · refine ifT (by simp; omega) ?_
        refine ⟨_, rfl, _, rfl, _, _, rfl, rfl, by omega, _, rfl, _, rfl, ?_⟩
        have em : (c : Int).fmod (r : Int) = ((c % r : Nat) : Int) := by
          rw [fmod_nat]
          rfl
        have hlt := Nat.mod_lt c (Nat.pos_of_ne_zero hr0)
        refine ⟨⟨rfl, r, c % r, some (.int ((c % r : Nat) : Int)), ?_, ?_, by omega⟩, ?_⟩
        · show [some (V.int p), some (V.int (q : Int)), some (V.int (r : Int)), some (V.int ((c : Int).fmod (r : Int))), some (V.int ((c : Int).fmod (r : Int)))] = _
          rw [em]
        · rw [← hg, Nat.gcd_comm c r, Nat.gcd_rec r c, Nat.gcd_comm]
        · show ((c : Int).fmod (r : Int)).toNat < ((r : Nat) : Int).toNat
          rw [em]
          show ((c % r : Nat) : Int).toNat < ((r : Nat) : Int).toNat
          omega
    · intro σ H1 Q1 Q2 m z
      obtain ⟨v, h1, i, j, h2, h3, b, h4, h5⟩ := z
      exact ⟨v, h1, i, j, h2, h3, b, h4, m _ _ h5⟩
theorem scPutOver : FnScope ["points", "p", "q", "piece", "into", "start"] ["points", "p", "q"] (defScope sPutOver) := ⟨rfl, rfl, rfl, by decide +kernel, rfl, by decide +kernel, by decide +kernel⟩
theorem ok_putOver {f : Addr} {fd : FuncData} (F : Fun K "put_over" "put_over" sPutOver f fd) : FnOk P w K mg base CX0 1 f fd ["points", "p", "q"] (spPutOver K) := by
  refine F.ok scPutOver (fun vs H Q E h => ?_) (fun cdv A outer s H vs Q E hr h => ?_)
  · obtain ⟨a, g, p, q, rfl, _⟩ := h
    rfl
  · obtain ⟨a, g, p, q, rfl, hS, wf, hq, hq2, ho, k⟩ := h
    refine ⟨_, pss_cons (ps_set (i := 3) scPutOver.nd rfl (Or.inl rfl) (pe_op (opZ op_fdiv) (pv 1) (pv 2)))
      (pss_cons (ps_set (i := 4) scPutOver.nd rfl (Or.inl rfl) (pe_op (opZ op_mod) (pv 1) (pv 2)))
      (pss_cons (ps_set (i := 5) scPutOver.nd rfl (Or.inl rfl) (pe_ix ix_list (pv 0) (pv 3) (fun _ _ => rfl)))
      (pss_cons (ps_if (pt_cmpR op_eq (pv 4) pe_int (nomark _)) (pss_one (ps_ret (pe_op op_mul (pv 5) (pv 2)))) pss_nil)
      (pss_one (ps_ret (pe_op op_add (pe_op op_mul (pv 5) (pv 2)) (pe_op op_mul (pe_op (opZ0 op_sub) (pe_ix ix_list (pv 0) (pe_op op_add (pv 3) pe_int) (fun _ _ => rfl)) (pv 5)) (pv 4)))))))), ?_⟩
    have hn6 := wf.six
    have hd0 : 0 ≤ p / (q : Int) := Int.ediv_nonneg ho.1 (by omega)
    have hd1 : p / (q : Int) ≤ (g.n : Int) := Int.ediv_le_of_le_mul (by omega) ho.2
    obtain ⟨i, hi⟩ : ∃ i : Nat, p / (q : Int) = (i : Int) := ⟨(p / (q : Int)).toNat, by omega⟩
    have hin : i ≤ g.n := by omega
    have hm0 := Int.emod_nonneg p (b := (q : Int)) (by omega)
    have hm1 := Int.emod_lt_of_pos p (b := (q : Int)) (by omega)
    have hb := wf.point i
    refine ⟨_, rfl, _, rfl, _, _, .int (i : Int), rfl, rfl, ⟨by omega, by omega⟩, congrArg V.int hi, ?_⟩
    refine ⟨_, rfl, _, rfl, _, _, .int (p % (q : Int)), rfl, rfl, (by show (0 : Int) < q; omega), rfl, ?_⟩
    refine ⟨_, rfl, _, rfl, a, _, _, _, rfl, rfl, hS, atI_nat (gs_get wf hin), ?_⟩
    refine ⟨_, rfl, rfl, _, rfl, ?_⟩
    have emv : mv g q p = (g.point i : Int) * (q : Int) + g.slope i * (p % (q : Int)) := by
      unfold mv
      rw [hi]
      rfl
    refine ite2 (fun c => ?_) (fun c => ?_)
    · have c' : p % (q : Int) = 0 := by simpa using c
      refine ⟨_, rfl, _, rfl, _, _, rfl, rfl, .inl ⟨by omega, by omega⟩, ?_⟩
      rw [emv, c', Int.mul_zero, Int.add_zero] at k
      exact k
    · have c' : p % (q : Int) ≠ 0 := by simpa using c
      have hlt : i < g.n := by
        refine Classical.byContradiction fun hc => c' ?_
        have : i = g.n := by omega
        have h2 := ho.2
        have h3 := Int.mul_ediv_add_emod p (q : Int)
        rw [hi, this] at h3
        have : (q : Int) * (g.n : Int) = (g.n : Int) * (q : Int) := Int.mul_comm _ _
        omega
      have hb2 := wf.point (i + 1)
      have hs : -(2 ^ 64) < g.slope i ∧ g.slope i < 2 ^ 64 := by
        unfold Su183.Abs.slope
        omega
      refine ⟨_, rfl, _, rfl, _, _, rfl, rfl, .inl ⟨by omega, by omega⟩, _, rfl, _, rfl, _, _, rfl, rfl, a, _, _, _, rfl, rfl, hS, atI_nat (gs_get wf (show i + 1 ≤ g.n from hlt)), _, rfl, _, _, .int (g.slope i), rfl, rfl, rfl, _, rfl, _, _, rfl, rfl, .inl hs, _, _, rfl, rfl, ?_⟩
      rw [emv] at k
      exact k
end
end Fl

namespace Fl
open PySem PySem.Spec PyProof.Rows L2
open Su183 (Abs red)
def spPlaces (K : PySem.W.Frag) : Sp := fun vs H Q _ => ∃ (a : Addr) (g : Abs) (p : Int) (q k : Nat), vs = [.ref a, .int p, .int q, .int k] ∧ SqL K H a (gs g) ∧ WF g ∧ 0 < q ∧ q < 1000000 ∧ On g q p ∧ k ≤ 1000 ∧
  ∀ (H' : Hp) (r : Addr), Same H H' → H r = none → H' r = some (.lst ((List.range k).map fun j => .int (itn g q j p))) → Q (.ref r) H'
def spBackIn (K : PySem.W.Frag) : Sp := fun vs H Q _ => ∃ (a : Addr) (g : Abs) (p : Int) (q k : Nat), vs = [.ref a, .int p, .int q, .int k] ∧ SqL K H a (gs g) ∧ WF g ∧ 0 < q ∧ q < 1000000 ∧ On g q p ∧ 0 < k ∧ k ≤ 1000 ∧
  ∀ b : Bool, (b = true ↔ Ret g q p k) → Q (.bl b) H
def spCovers (K : PySem.W.Frag) : Sp := fun vs H Q _ => ∃ (a : Addr) (g : Abs) (i j : Nat), vs = [.ref a, .int i, .int j] ∧ SqL K H a (gs g) ∧ WF g ∧ i < g.n ∧ Q (.bl (g.covers i j)) H
def spWayInto (K : PySem.W.Frag) : Sp := fun vs H Q _ => ∃ (a : Addr) (g : Abs) (p : Int) (q : Nat), vs = [.ref a, .int p, .int q] ∧ SqL K H a (gs g) ∧ WF g ∧ 0 < q ∧ q < 1000 ∧ On g q p ∧
  ∀ (H' : Hp) (r : Addr) (j m : Nat), Same H H' → H r = none → Rho g q p j m → H' r = some (.lst [.int j, .int ((m - j : Nat) : Int)]) → Q (.ref r) H'
section
variable {P : Program} {w : World} {K : PySem.W.Frag} {mg : Str → Option Value} {base : Heap}
theorem scPlaces : FnScope ["points", "p", "q", "k", "places", "at", "step"] ["points", "p", "q", "k"] (defScope sPlaces) := ⟨rfl, rfl, rfl, by decide +kernel, rfl, by decide +kernel, by decide +kernel⟩
theorem ok_places {f : Addr} {fd : FuncData} (F : Fun K "places_from" "places_from" sPlaces f fd) (D : Def P w K mg base 1 "put_over" (spPutOver K)) (mgR : mg "range" = none) : FnOk P w K mg base CX0 2 f fd ["points", "p", "q", "k"] (spPlaces K) := by
  refine F.ok scPlaces (fun vs H Q E h => ?_) (fun cdv A outer s H vs Q E hr h => ?_)
  · obtain ⟨a, g, p, q, k, rfl, _⟩ := h
    rfl
  · obtain ⟨a, g, p, q, n, rfl, hS, wf, hq, hq2, ho, hn, k⟩ := h
    refine ⟨_, pss_cons (ps_set (i := 4) scPlaces.nd rfl (Or.inl rfl) (pe_lst pa_nil))
      (pss_cons (ps_set (i := 5) scPlaces.nd rfl (Or.inl rfl) (pv 1))
      (pss_cons (ps_for PassesOwn.never rfl (pi_range1 rfl mgR (pa_cons (pv 3) pa_nil)) (pg_name (i := 6) scPlaces.nd rfl (Or.inl rfl))
        (pss_cons (ps_expr (pe_bm PySem.F.plainAttrs_list PySem.F.slot_list_append PySem.F.type_list_append mt_append (pv 4) (pa_cons (pv 5) pa_nil)))
        (pss_one (ps_set (i := 5) scPlaces.nd rfl (Or.inl rfl) (pe_def D hr (by decide) rfl (pa_cons (pv 0) (pa_cons (pv 5) (pa_cons (pv 2) pa_nil))))))))
      (pss_one (ps_ret (pv 4))))), ?_⟩
    refine ⟨Nat.zero_le _, fun r hr0 => ?_⟩
    refine ⟨_, rfl, _, rfl, (n : Int), rfl, by omega, by omega, for_range (n := n) (fun i σ H' => Same H H' ∧ H' r = some (.lst ((List.range i).map fun j => .int (itn g q j p))) ∧ ∃ v, σ = [some (.ref a), some (.int p), some (.int q), some (.int n), some (.ref r), some (.int (itn g q i p)), v])
      ⟨fun b o e => by rw [upd_ne (ne_of_none e hr0)]; exact e, upd_same, none, rfl⟩ ?_ ?_⟩
    · rintro i σ H' hi ⟨s1, h1, v, rfl⟩
      refine ⟨_, rfl, .inl ⟨rfl, _, SqL.of h1⟩, _, rfl, r, _, _, rfl, rfl, h1, (by rw [List.length_map, List.length_range]; exact Nat.lt_of_lt_of_le (Nat.lt_of_lt_of_le hi hn) (by decide)), ?_⟩
      have s2 : Same H (upd H' r (.lst ((List.range i).map (fun j => V.int (itn g q j p)) ++ [.int (itn g q i p)]))) := fun b o e => by
        rw [upd_ne (ne_of_none e hr0)]
        exact s1 b o e
      refine ⟨_, rfl, _, rfl, _, rfl, a, g, _, q, rfl, s2.seq hS, wf, hq, hq2, itn_on wf hq ho i, s2, ?_, some (.int (0 + (i : Int))), ?_⟩
      · rw [upd_same, List.range_succ, List.map_append]
        rfl
      · rw [itn_succ]
        rfl
    · rintro σ H' ⟨s1, h1, v, rfl⟩
      exact ⟨_, rfl, k H' r s1 hr0 h1⟩
theorem scBackIn : FnScope ["points", "p", "q", "k", "at", "step"] ["points", "p", "q", "k"] (defScope sBackIn) := ⟨rfl, rfl, rfl, by decide +kernel, rfl, by decide +kernel, by decide +kernel⟩
theorem ok_backIn {f : Addr} {fd : FuncData} (F : Fun K "comes_back_in" "comes_back_in" sBackIn f fd) (D : Def P w K mg base 1 "put_over" (spPutOver K)) (mgR : mg "range" = none) : FnOk P w K mg base CX0 2 f fd ["points", "p", "q", "k"] (spBackIn K) := by
  refine F.ok scBackIn (fun vs H Q E h => ?_) (fun cdv A outer s H vs Q E hr h => ?_)
  · obtain ⟨a, g, p, q, k, rfl, _⟩ := h
    rfl
  · obtain ⟨a, g, p, q, n, rfl, hS, wf, hq, hq2, ho, hn0, hn, k⟩ := h
    refine ⟨_, pss_cons (ps_set (i := 4) scBackIn.nd rfl (Or.inl rfl) (pv 1))
      (pss_cons (ps_for PassesOwn.never rfl (pi_range2 (by rfl) mgR (pa_cons pe_int (pa_cons (pe_op op_add (pv 3) pe_int) pa_nil))) (pg_name (i := 5) scBackIn.nd rfl (Or.inl rfl))
        (pss_cons (ps_set (i := 4) scBackIn.nd rfl (Or.inl rfl) (pe_def D hr (by decide) rfl (pa_cons (pv 0) (pa_cons (pv 4) (pa_cons (pv 2) pa_nil)))))
        (pss_one (ps_if (pt_cmpR op_eq (pv 4) (pv 1) (nomark _)) (pss_one (ps_ret (pe_cmpR op_eq (pv 5) (pv 3) (nomark _)))) pss_nil))))
      (pss_one (ps_ret pe_bl))), ?_⟩
    refine ⟨_, rfl, _, rfl, _, _, rfl, rfl, 1, (n : Int) + 1, rfl, ⟨by omega, by omega, by omega, by omega⟩, ?_⟩
    have en : ((n : Int) + 1 - 1).toNat = n := by omega
    rw [en]
    refine for_range (lo := 1) (n := n) (fun i σ H' => H' = H ∧ (∀ j, 0 < j → j ≤ i → itn g q j p ≠ p) ∧ ∃ v, σ = [some (.ref a), some (.int p), some (.int q), some (.int n), some (.int (itn g q i p)), v])
      ⟨rfl, fun j h1 h2 => by omega, none, rfl⟩ ?_ ?_
    · rintro i σ H' hi ⟨rfl, hf, v, rfl⟩
      refine ⟨_, rfl, _, rfl, _, rfl, a, g, _, q, rfl, hS, wf, hq, hq2, itn_on wf hq ho i, ?_⟩
      have e1 : mv g q (itn g q i p) = itn g q (i + 1) p := (itn_succ g q i p).symm
      rw [e1]
      refine ⟨_, rfl, _, rfl, rfl, _, rfl, ?_⟩
      refine ite2 (fun c => ?_) (fun c => ?_)
      · have c' : itn g q (i + 1) p = p := by simpa using c
        refine ⟨_, rfl, _, rfl, rfl, k _ ?_⟩
        rw [decide_eq_true_eq]
        constructor
        · intro e
          have : i + 1 = n := by
            have := V.int.inj e
            omega
          subst this
          exact ⟨hn0, c', fun j h1 h2 => hf j h1 (by omega)⟩
        · intro e
          refine Classical.byContradiction fun hc => ?_
          have : i + 1 ≠ n := fun z => hc (by rw [← z]; congr 1; omega)
          exact e.first (i + 1) (by omega) (by omega) c'
      · have c' : ¬ itn g q (i + 1) p = p := by simpa using c
        refine ⟨rfl, fun j h1 h2 => ?_, some (.int (1 + (i : Int))), rfl⟩
        by_cases hj : j = i + 1
        · rw [hj]; exact c'
        · exact hf j h1 (by omega)
    · rintro σ H' ⟨rfl, hf, v, rfl⟩
      refine k false ?_
      constructor
      · intro e
        cases e
      · intro e
        exact absurd e.back (hf n hn0 (Nat.le_refl _))
theorem scCovers : FnScope ["points", "i", "j", "low", "high"] ["points", "i", "j"] (defScope sCovers) := ⟨rfl, rfl, rfl, by decide +kernel, rfl, by decide +kernel, by decide +kernel⟩
theorem ok_coversP {f : Addr} {fd : FuncData} (F : Fun K "covers_piece" "covers_piece" sCovers f fd) (mgMin : mg "min" = none) (mgMax : mg "max" = none) : FnOk P w K mg base CX0 1 f fd ["points", "i", "j"] (spCovers K) := by
  refine F.ok scCovers (fun vs H Q E h => ?_) (fun cdv A outer s H vs Q E hr h => ?_)
  · obtain ⟨a, g, i, j, rfl, _⟩ := h
    rfl
  · obtain ⟨a, g, i, j, rfl, hS, wf, hi, k⟩ := h
    refine ⟨_, pss_cons (ps_set (i := 3) scCovers.nd rfl (Or.inl rfl) (pe_callB (call_min2 rfl) (by rfl) mgMin (by decide +kernel) (pa_cons (pe_ix ix_list (pv 0) (pv 1) (fun _ _ => rfl)) (pa_cons (pe_ix ix_list (pv 0) (pe_op op_add (pv 1) pe_int) (fun _ _ => rfl)) pa_nil))))
      (pss_cons (ps_set (i := 4) scCovers.nd rfl (Or.inl rfl) (pe_callB (call_max2 rfl) (by rfl) mgMax (by decide +kernel) (pa_cons (pe_ix ix_list (pv 0) (pv 1) (fun _ _ => rfl)) (pa_cons (pe_ix ix_list (pv 0) (pe_op op_add (pv 1) pe_int) (fun _ _ => rfl)) pa_nil))))
      (pss_one (ps_ret (pe_and (pe_cmp (pc_le (pv 3) (pv 2)) rfl) (pe_one (pe_cmp (pc_le (pe_op op_add (pv 2) pe_int) (pv 4)) rfl)))))), ?_⟩
    have h1 := gs_get wf (show i ≤ g.n by omega)
    have h2 := gs_get wf (show i + 1 ≤ g.n by omega)
    refine ⟨_, rfl, _, rfl, a, _, _, _, rfl, rfl, hS, atI_nat h1, _, rfl, _, rfl, _, _, rfl, rfl, a, _, _, _, rfl, rfl, hS, atI_nat h2, _, _, rfl, ?_⟩
    refine ⟨_, rfl, _, rfl, a, _, _, _, rfl, rfl, hS, atI_nat h1, _, rfl, _, rfl, _, _, rfl, rfl, a, _, _, _, rfl, rfl, hS, atI_nat h2, _, _, rfl, ?_⟩
    refine ⟨_, rfl, _, rfl, _, _, rfl, rfl, _, rfl, ?_⟩
    have ec : g.covers i j = (decide ((if (g.point (i + 1) : Int) < (g.point i : Int) then (g.point (i + 1) : Int) else (g.point i : Int)) ≤ (j : Int)) && decide ((j : Int) + 1 ≤ (if (g.point i : Int) < (g.point (i + 1) : Int) then (g.point (i + 1) : Int) else (g.point i : Int)))) := by
      unfold Su183.Abs.covers
      congr 1
      · refine decide_eq_decide.mpr ?_
        split <;> omega
      · refine decide_eq_decide.mpr ?_
        split <;> omega
    rw [ec] at k
    refine ite2 (fun c => ?_) (fun c => ?_)
    · have c' : decide ((if (g.point (i + 1) : Int) < (g.point i : Int) then (g.point (i + 1) : Int) else (g.point i : Int)) ≤ (j : Int)) = true := c
      rw [c', Bool.true_and] at k
      exact ⟨_, rfl, _, _, rfl, rfl, _, rfl, _, _, rfl, rfl, k⟩
    · have c' : decide ((if (g.point (i + 1) : Int) < (g.point i : Int) then (g.point (i + 1) : Int) else (g.point i : Int)) ≤ (j : Int)) = false := by
        rw [← Bool.not_eq_true]
        exact c
      rw [c', Bool.false_and] at k
      exact k
/-! ### the dict of places met -/
def met (g : Abs) (q : Nat) (p : Int) (m : Nat) : List (Key × V) := (List.range m).map fun j => ((Sum.inl (itn g q j p) : Key), V.int j)
theorem met_len (g : Abs) (q : Nat) (p : Int) (m : Nat) : (met g q p m).length = m := by
  unfold met
  rw [List.length_map, List.length_range]
theorem met_succ (g : Abs) (q : Nat) (p : Int) (m : Nat) : met g q p (m + 1) = met g q p m ++ [((Sum.inl (itn g q m p) : Key), V.int m)] := by
  unfold met
  rw [List.range_succ, List.map_append]
  rfl
theorem met_val (g : Abs) (q : Nat) (p x : Int) : ∀ m, (valV (met g q p m) (Sum.inl x : Key) = none ∧ ∀ j, j < m → itn g q j p ≠ x) ∨ ∃ j, j < m ∧ itn g q j p = x ∧ valV (met g q p m) (Sum.inl x : Key) = some (.int j)
  | 0 => .inl ⟨rfl, fun j h => by omega⟩
  | m + 1 => by
    rw [met_succ]
    by_cases hx : valV (met g q p m) (Sum.inl (itn g q m p) : Key) = none
    · rw [valV_snoc _ _ _ _ hx]
      by_cases e : (Sum.inl x : Key) = Sum.inl (itn g q m p)
      · rw [if_pos e]
        exact .inr ⟨m, by omega, (Sum.inl.inj e).symm, rfl⟩
      · rw [if_neg e]
        rcases met_val g q p x m with ⟨h1, h2⟩ | ⟨j, h1, h2, h3⟩
        · refine .inl ⟨h1, fun j hj z => ?_⟩
          by_cases c : j = m
          · subst c
            exact e (congrArg Sum.inl z.symm)
          · exact h2 j (by omega) z
        · exact .inr ⟨j, by omega, h2, h3⟩
    · rw [← met_succ]
      -- the key stands already: the first place counts
      have app : ∀ (l : List (Key × V)) (k j : Key) (y : V), ¬ valV l k = none → valV (l ++ [(k, y)]) j = valV l j := by
        intro l k j y
        induction l with
        | nil => intro z; exact absurd rfl z
        | cons a l ih =>
          intro z
          show valV (a :: (l ++ [(k, y)])) j = valV (a :: l) j
          by_cases ej : a.1 = j
          · rw [valV_pos ej, valV_pos ej]
          · rw [valV_neg ej, valV_neg ej]
            by_cases ek : a.1 = k
            · by_cases hk : valV l k = none
              · rw [valV_snoc _ _ _ _ hk, if_neg (fun z2 => ej (ek.trans z2.symm))]
              · exact ih hk
            · rw [valV_neg ek] at z
              exact ih z
      rw [met_succ, app _ _ _ _ hx]
      rcases met_val g q p x m with ⟨h1, h2⟩ | ⟨j, h1, h2, h3⟩
      · refine .inl ⟨h1, fun j hj z => ?_⟩
        by_cases c : j = m
        · subst c
          rw [z] at hx
          exact hx h1
        · exact h2 j (by omega) z
      · exact .inr ⟨j, by omega, h2, h3⟩
theorem scWayInto : FnScope ["points", "p", "q", "met", "at"] ["points", "p", "q"] (defScope sWayInto) := ⟨rfl, rfl, rfl, by decide +kernel, rfl, by decide +kernel, by decide +kernel⟩
theorem ok_wayInto {f : Addr} {fd : FuncData} (F : Fun K "way_into_round" "way_into_round" sWayInto f fd) (D : Def P w K mg base 1 "put_over" (spPutOver K)) (mgLen : mg "len" = none) : FnOk P w K mg base CX0 2 f fd ["points", "p", "q"] (spWayInto K) := by
  refine F.ok scWayInto (fun vs H Q E h => ?_) (fun cdv A outer s H vs Q E hr h => ?_)
  · obtain ⟨a, g, p, q, rfl, _⟩ := h
    rfl
  · obtain ⟨a, g, p, q, rfl, hS, wf, hq, hq2, ho, k⟩ := h
    have hu := hu_of hr
    refine ⟨_, pss_cons (ps_set (i := 3) scWayInto.nd rfl (Or.inl rfl) pe_dnewK)
      (pss_cons (ps_set (i := 4) scWayInto.nd rfl (Or.inl rfl) (pv 1))
      (pss_cons (ps_while PassesOwn.never (pt_cmp (pc_dnotin hu (pv 4) (pv 3)))
        (pss_cons (ps_dput hu (pv 3) (pv 4) (pe_callB call_lenD (by rfl) mgLen PySem.boot_len (pa_cons (pv 3) pa_nil)) rfl)
        (pss_one (ps_set (i := 4) scWayInto.nd rfl (Or.inl rfl) (pe_def D hr (by decide) rfl (pa_cons (pv 0) (pa_cons (pv 4) (pa_cons (pv 2) pa_nil))))))))
      (pss_one (ps_ret (pe_lst (pa_cons (pe_dget hu (pv 3) (pv 4) (fun _ _ => rfl)) (pa_cons (pe_op op_sub (pe_callB call_lenD (by rfl) mgLen PySem.boot_len (pa_cons (pv 3) pa_nil)) (pe_dget hu (pv 3) (pv 4) (fun _ _ => rfl))) pa_nil))))))), ?_⟩
    intro d hd
    refine ⟨_, rfl, ?_⟩
    have hn6 := wf.six
    have hbnd : g.n * q + 1 ≤ 7000 := by
      have : g.n * q ≤ 6 * q := Nat.mul_le_mul_right _ hn6
      omega
    refine while_by (fun σ H' => ∃ m : Nat, Same H H' ∧ H' d = some (.dK (met g q p m)) ∧ (∀ i j, i < j → j < m → itn g q i p ≠ itn g q j p) ∧ m ≤ g.n * q + 1 ∧ σ = [some (.ref a), some (.int p), some (.int q), some (.ref d), some (.int (itn g q m p))])
      (fun _ H' => match H' d with | some (.dK l) => g.n * q + 1 - l.length | _ => 0) ⟨0, fun b o e => by rw [upd_ne (ne_of_none e hd)]; exact e, upd_same, fun i j h1 h2 => by omega, by omega, rfl⟩ ?_ ?_
    · rintro σ H' ⟨m, s1, h1, nd, hm, rfl⟩
      refine ⟨_, rfl, _, rfl, d, _, rfl, DGet.k (k := Sum.inl (itn g q m p)) h1, _, rfl, ?_⟩
      rcases met_val g q p (itn g q m p) m with ⟨v1, v2⟩ | ⟨j, hj, e1, v1⟩
      · rw [v1]
        refine iteT ?_
        have nd' : ∀ i j, i < j → j < m + 1 → itn g q i p ≠ itn g q j p := fun i j h2 h3 => by
          by_cases c : j = m
          · subst c
            exact v2 i h2
          · exact nd i j h2 (by omega)
        have hm' : m + 1 ≤ g.n * q + 1 := by
          refine pig_fun (fun i => (itn g q i p).toNat) (fun i _ => ?_) (fun i i' hi hi' => ?_)
          · have h2 := (itn_on wf hq ho i).2
            have h0 := (itn_on wf hq ho i).1
            show (itn g q i p).toNat < g.n * q + 1
            have : (((g.n * q : Nat)) : Int) = (g.n : Int) * (q : Int) := Int.natCast_mul _ _
            omega
          · have h0 := (itn_on wf hq ho i).1
            have h2 := (itn_on wf hq ho i').1
            have := nd' i i' hi hi'
            show (itn g q i p).toNat ≠ (itn g q i' p).toNat
            omega
        have hlen := met_len g q p m
        refine ⟨_, rfl, d, _, rfl, h1, _, rfl, _, rfl, d, _, rfl, DPut.k (k := Sum.inl (itn g q m p)) h1 (Nat.lt_of_le_of_lt (show (met g q p m).length ≤ 7000 by omega) (by decide)), ?_⟩
        rw [hlen, putK_new _ v1, ← met_succ]
        have s2 : Same H (upd H' d (.dK (met g q p (m + 1)))) := fun b o e => by
          rw [upd_ne (ne_of_none e hd)]
          exact s1 b o e
        refine ⟨_, rfl, _, rfl, _, rfl, a, g, _, q, rfl, s2.seq hS, wf, hq, by omega, itn_on wf hq ho m, ⟨m + 1, s2, upd_same, nd', hm', ?_⟩, ?_⟩
        · rw [itn_succ]
          rfl
        · show (match (upd H' d (.dK (met g q p (m + 1)))) d with | some (.dK l) => g.n * q + 1 - l.length | _ => 0) < (match H' d with | some (.dK l) => g.n * q + 1 - l.length | _ => 0)
          rw [upd_same, h1]
          show g.n * q + 1 - (met g q p (m + 1)).length < g.n * q + 1 - (met g q p m).length
          rw [met_len, met_len]
          omega
      · rw [v1]
        refine iteF ?_
        have R : Rho g q p j m := ⟨hj, e1.symm, nd⟩
        have hlen := met_len g q p m
        have D1 : DGet H' d (.int (itn g q m p)) (some (.int j)) := by
          have := DGet.k (k := (Sum.inl (itn g q m p) : Key)) h1
          rw [v1] at this
          exact this
        refine ⟨_, rfl, _, rfl, d, _, rfl, D1, _, rfl, d, _, rfl, h1, _, rfl, _, rfl, d, _, rfl, D1, _, _, rfl, rfl, (by show 2 ≤ sizeLine; decide), fun r hr1 => ?_⟩
        rw [hlen]
        have e2 : (m : Int) - (j : Int) = ((m - j : Nat) : Int) := by omega
        refine k _ r j m (fun b o e => ?_) (s1.free hr1) R ?_
        · rw [upd_ne (ne_of_none (s1 b o e) hr1)]
          exact s1 b o e
        · rw [upd_same, ← e2]
    · intro σ H1 Q1 Q2 mo z
      obtain ⟨v, h1, v2, h2, d2, o2, h3, h4, b, h5, h6⟩ := z
      exact ⟨v, h1, v2, h2, d2, o2, h3, h4, b, h5, mo _ _ h6⟩
end
end Fl

namespace Fl
open PySem PySem.Spec PyProof.Rows L2
open Su183 (Abs red does)
open Su183Neutral (asked1)
/-! ### the object -/
def pF (l d : Addr) : List (Str × V) := [("points", .ref l), ("leaders", .ref d)]
theorem lk_here {k : Str} {v : V} {r : List (Str × V)} : List.lookup k ((k, v) :: r) = some v := by
  have e : (k == k) = true := beq_self_eq_true k
  simp only [List.lookup, e]
theorem lk_next {k j : Str} {v : V} {r : List (Str × V)} (h : (k == j) = false) : List.lookup k ((j, v) :: r) = List.lookup k r := by
  simp only [List.lookup, h]
theorem pF_lk (l d : Addr) : (pF l d).lookup ("points" : Str) = some (.ref l) := lk_here
theorem pF_lkD (l d : Addr) : (pF l d).lookup ("leaders" : Str) = some (.ref d) := (lk_next (by decide)).trans lk_here
theorem pF_put (l d m : Addr) : putF "points" (.ref m) (pF l d) = pF m d := if_pos rfl
theorem pF_putD (l d m : Addr) : putF "leaders" (.ref m) (pF l d) = pF l m := by
  show (if ("points" : Str) = "leaders" then _ else (("points" : Str), V.ref l) :: putF "leaders" (.ref m) [("leaders", .ref d)]) = _
  rw [if_neg (by decide)]
  show (("points" : Str), V.ref l) :: (if ("leaders" : Str) = "leaders" then _ else _) = _
  rw [if_pos rfl]
  rfl
theorem pF_put1 (l m : Addr) : putF "leaders" (.ref m) [("points", .ref l)] = pF l m := by
  show (if ("points" : Str) = "leaders" then _ else (("points" : Str), V.ref l) :: putF "leaders" (.ref m) []) = _
  rw [if_neg (by decide)]
  rfl
/-- leaders as they stand in memory: a list of lists of two numbers -/
def LeadAt (H : Hp) (a : Addr) (zs : List (Int × Nat)) : Prop :=
  ∃ rs : List Addr, rs.length = zs.length ∧ H a = some (.lst (rs.map V.ref)) ∧ ∀ (i : Nat) (b : Addr) (z : Int × Nat), rs[i]? = some b → zs[i]? = some z → H b = some (.lst [.int z.1, .int (z.2 : Int)])
/-- what is kept of rounds that were asked for -/
structure Cache (H : Hp) (s : Option Abs) (kvs : List (Key × V)) : Prop where
  nd : (kvs.map Prod.fst).Nodup
  keys : ∀ kv ∈ kvs, ∃ (k : Nat) (a : Addr) (g : Abs), s = some g ∧ kv = ((Sum.inl (k : Int) : Key), V.ref a) ∧ 1 ≤ k ∧ k ≤ 6 ∧ LeadAt H a (leaders g k)
def pts : Option Abs → List V
  | none => []
  | some g => gs g
def LineAt (C : Addr) (H : Hp) (x d : Addr) (s : Option Abs) : Prop :=
  ∃ (dx l : Addr) (kvs : List (Key × V)), H x = some (.ins C dx (pF l d)) ∧ H l = some (.lst (pts s)) ∧ H d = some (.dK kvs) ∧ Cache H s kvs
theorem LeadAt.mono {H H' : Hp} {a : Addr} {zs : List (Int × Nat)} (L : LeadAt H a zs) (k : ∀ b xs, H b = some (.lst xs) → H' b = some (.lst xs)) : LeadAt H' a zs := by
  obtain ⟨rs, h1, h2, h3⟩ := L
  exact ⟨rs, h1, k _ _ h2, fun i b z e1 e2 => k _ _ (h3 i b z e1 e2)⟩
theorem Cache.mono {H H' : Hp} {s : Option Abs} {kvs : List (Key × V)} (c : Cache H s kvs) (k : ∀ b xs, H b = some (.lst xs) → H' b = some (.lst xs)) : Cache H' s kvs :=
  ⟨c.nd, fun kv h => by
    obtain ⟨m, a, g, h1, h2, h3, h4, h5⟩ := c.keys kv h
    exact ⟨m, a, g, h1, h2, h3, h4, h5.mono k⟩⟩
theorem Cache.len {H : Hp} {s : Option Abs} {kvs : List (Key × V)} (c : Cache H s kvs) : kvs.length ≤ 7 := by
  have h := pig 7 ((kvs.map Prod.fst).map fun k => match k with | Sum.inl i => i.toNat | Sum.inr _ => 0) ?_ ?_
  · rw [List.length_map, List.length_map] at h
    exact h
  · rw [List.nodup_iff_pairwise_ne, List.pairwise_map]
    refine List.Pairwise.imp_of_mem ?_ c.nd
    intro a b ha hb hab
    obtain ⟨kv, hkv, rfl⟩ := List.mem_map.mp ha
    obtain ⟨kw, hkw, rfl⟩ := List.mem_map.mp hb
    obtain ⟨m, _, _, _, e1, _⟩ := c.keys kv hkv
    obtain ⟨n, _, _, _, e2, _⟩ := c.keys kw hkw
    rw [e1, e2] at hab ⊢
    show ((m : Int)).toNat ≠ ((n : Int)).toNat
    intro e
    exact hab (by show (Sum.inl (m : Int) : Key) = Sum.inl (n : Int); congr 1; omega)
  · intro i hi
    obtain ⟨k, hk, rfl⟩ := List.mem_map.mp hi
    obtain ⟨kv, hkv, rfl⟩ := List.mem_map.mp hk
    obtain ⟨m, _, _, _, e1, h1, h2, _⟩ := c.keys kv hkv
    rw [e1]
    show ((m : Int)).toNat < 7
    omega
theorem cache_nil (H : Hp) (s : Option Abs) : Cache H s [] := ⟨List.nodup_nil, fun kv h => by cases h⟩
theorem LineAt.same {C : Addr} {H H' : Hp} {x d : Addr} {s : Option Abs} (L : LineAt C H x d s) (sm : Same H H') : LineAt C H' x d s := by
  obtain ⟨dx, l, kvs, h1, h2, h3, h4⟩ := L
  exact ⟨dx, l, kvs, sm _ _ h1, sm _ _ h2, sm _ _ h3, h4.mono fun b xs e => sm _ _ e⟩
theorem LineAt.dict {C : Addr} {H : Hp} {x d : Addr} {s : Option Abs} (L : LineAt C H x d s) : ∃ kvs, H d = some (.dK kvs) := by
  obtain ⟨dx, l, kvs, h1, h2, h3, h4⟩ := L
  exact ⟨kvs, h3⟩
theorem LineAt.inst {C : Addr} {H : Hp} {x d : Addr} {s : Option Abs} (L : LineAt C H x d s) : ∃ dx fs, H x = some (.ins C dx fs) := by
  obtain ⟨dx, l, kvs, h1, h2, h3, h4⟩ := L
  exact ⟨dx, _, h1⟩
theorem LineAt.opens {C : Addr} {H : Hp} {x d : Addr} {g : Abs} (L : LineAt C H x d (some g)) : ∃ (dx l : Addr) (kvs : List (Key × V)), H x = some (.ins C dx (pF l d)) ∧ H l = some (.lst (gs g)) ∧ H d = some (.dK kvs) ∧ Cache H (some g) kvs := L
theorem same_new {H : Hp} {r : Addr} {o : HO} (h : H r = none) : Same H (upd H r o) := fun b u e => by
  rw [upd_ne (ne_of_none e h)]
  exact e
/-- the lists that belong to a line -/
def Own (H : Hp) (x b : Addr) : Prop := ∃ (C dx l d : Addr), H x = some (.ins C dx (pF l d)) ∧ (b = l ∨ ∃ kvs, H d = some (.dK kvs) ∧ ∃ (k : Key) (a : Addr), (k, V.ref a) ∈ kvs ∧ (b = a ∨ ∃ rs : List Addr, H a = some (.lst (rs.map V.ref)) ∧ b ∈ rs))
theorem refs_inj {a b : List Addr} (h : a.map V.ref = b.map V.ref) : a = b := by
  induction a generalizing b with
  | nil =>
    cases b with
    | nil => rfl
    | cons x b => cases h
  | cons x a ih =>
    cases b with
    | nil => cases h
    | cons y b =>
      have h1 := List.cons.inj h
      rw [V.ref.inj h1.1, ih h1.2]
theorem ins_inj {C C' dx dx' l l' d d' : Addr} {o : Option HO} (h : o = some (.ins C dx (pF l d))) (h' : o = some (.ins C' dx' (pF l' d'))) : l = l' ∧ d = d' := by
  rw [h] at h'
  have := (HO.ins.inj (Option.some.inj h')).2.2
  have e1 := List.cons.inj this
  have e2 := List.cons.inj e1.2
  exact ⟨V.ref.inj (Prod.mk.inj e1.1).2, V.ref.inj (Prod.mk.inj e2.1).2⟩
theorem own_same {C : Addr} {H H' : Hp} {x d b : Addr} {s : Option Abs} (L : LineAt C H x d s) (sm : Same H H') (o : Own H' x b) : Own H x b := by
  obtain ⟨dx, l, kvs, h1, h2, h3, h4⟩ := L
  obtain ⟨C', dx', l', d', e1, e2⟩ := o
  obtain ⟨rfl, rfl⟩ := ins_inj (sm _ _ h1) e1
  refine ⟨C, dx, l, d, h1, ?_⟩
  rcases e2 with e2 | ⟨kvs', e3, k, a, hm, e4⟩
  · exact .inl e2
  · rw [sm _ _ h3] at e3
    obtain rfl := HO.dK.inj (Option.some.inj e3)
    refine .inr ⟨kvs, h3, k, a, hm, ?_⟩
    rcases e4 with e4 | ⟨rs, e5, e6⟩
    · exact .inl e4
    · obtain ⟨m, a', g, _, ea, _, _, rs', _, e7, _⟩ := h4.keys _ hm
      obtain rfl := V.ref.inj (Prod.mk.inj ea).2
      rw [sm _ _ e7] at e5
      obtain rfl := refs_inj (HO.lst.inj (Option.some.inj e5))
      exact .inr ⟨rs', e7, e6⟩
theorem own_new {C dx : Addr} {H : Hp} {x l d b : Addr} (h1 : H x = some (.ins C dx (pF l d))) (h3 : H d = some (.dK [])) (o : Own H x b) : b = l := by
  obtain ⟨C', dx', l', d', e1, e2⟩ := o
  obtain ⟨rfl, rfl⟩ := ins_inj h1 e1
  rcases e2 with e2 | ⟨kvs', e3, k, a, hm, _⟩
  · exact e2
  · rw [h3] at e3
    obtain rfl := HO.dK.inj (Option.some.inj e3)
    cases hm
theorem LineAt.put {C : Addr} {H : Hp} {x d t : Addr} {s : Option Abs} {o : HO} (L : LineAt C H x d s) (nx : t ≠ x) (nd : t ≠ d) (no : ¬ Own H x t) : LineAt C (upd H t o) x d s ∧ ¬ Own (upd H t o) x t := by
  obtain ⟨dx, l, kvs, h1, h2, h3, h4⟩ := L
  have nl : l ≠ t := fun z => no ⟨C, dx, l, d, h1, .inl z.symm⟩
  constructor
  · refine ⟨dx, l, kvs, by rw [upd_ne nx.symm]; exact h1, by rw [upd_ne nl]; exact h2, by rw [upd_ne nd.symm]; exact h3, h4.nd, fun kv hkv => ?_⟩
    obtain ⟨m, a, g, e1, e2, e3, e4, rs, e5, e6, e7⟩ := h4.keys kv hkv
    have hm : ((Sum.inl (m : Int) : Key), V.ref a) ∈ kvs := by rw [← e2]; exact hkv
    have na : a ≠ t := fun z => no ⟨C, dx, l, d, h1, .inr ⟨kvs, h3, _, a, hm, .inl z.symm⟩⟩
    refine ⟨m, a, g, e1, e2, e3, e4, rs, e5, by rw [upd_ne na]; exact e6, fun i b z f1 f2 => ?_⟩
    have nb : b ≠ t := fun z => no ⟨C, dx, l, d, h1, .inr ⟨kvs, h3, _, a, hm, .inr ⟨rs, e6, by rw [← z]; exact List.mem_of_getElem? f1⟩⟩⟩
    rw [upd_ne nb]
    exact e7 i b z f1 f2
  · rintro ⟨C', dx', l', d', e1, e2⟩
    rw [upd_ne nx.symm] at e1
    obtain ⟨rfl, rfl⟩ := ins_inj h1 e1
    rcases e2 with e2 | ⟨kvs', e3, k, a, hm, e4⟩
    · exact nl e2.symm
    · rw [upd_ne nd.symm] at e3
      have na : a ≠ t := fun z => no ⟨C, dx, l, d, h1, .inr ⟨kvs', e3, k, a, hm, .inl z.symm⟩⟩
      rcases e4 with e4 | ⟨rs, e5, e6⟩
      · exact na e4.symm
      · rw [upd_ne na] at e5
        exact no ⟨C, dx, l, d, h1, .inr ⟨kvs', e3, k, a, hm, .inr ⟨rs, e5, e6⟩⟩⟩
theorem own_held {C : Addr} {H : Hp} {x d b : Addr} {s : Option Abs} (L : LineAt C H x d s) (o : Own H x b) : H b ≠ none := by
  obtain ⟨dx, l, kvs, h1, h2, h3, h4⟩ := L
  obtain ⟨C', dx', l', d', e1, e2⟩ := o
  obtain ⟨rfl, rfl⟩ := ins_inj h1 e1
  rcases e2 with e2 | ⟨kvs', e3, k, a, hm, e4⟩
  · rw [e2, h2]
    intro z
    cases z
  · rw [h3] at e3
    obtain rfl := HO.dK.inj (Option.some.inj e3)
    obtain ⟨m, a', g, _, ea, _, _, rs', el, e7, e8⟩ := h4.keys _ hm
    obtain rfl := V.ref.inj (Prod.mk.inj ea).2
    rcases e4 with e4 | ⟨rs, e5, e6⟩
    · rw [e4, e7]
      intro z
      cases z
    · rw [e7] at e5
      obtain rfl := refs_inj (HO.lst.inj (Option.some.inj e5))
      obtain ⟨i, hi⟩ := List.mem_iff_getElem?.mp e6
      have hlt : i < rs'.length := (List.getElem?_eq_some_iff.mp hi).1
      rw [e8 i b _ hi (List.getElem?_eq_getElem (show i < (leaders g m).length by omega))]
      intro z
      cases z
/-- what the top has written -/
structure Txt (K : PySem.W.Frag) (mg : Str → Option Value) (C : Addr) : Prop where
  cl : Cls K C
  nP : NoAttr K C "points"
  nL : NoAttr K C "leaders"
  gC : mg "Line" = some (.ref C)
  len : mg "len" = none
  range : mg "range" = none
  list : mg "list" = none
  max : mg "max" = none
  min : mg "min" = none
  abs : mg "abs" = none
  rev : mg "reversed" = none
  c2 : ∃ u, mg "NONE_SUCH" = some u ∧ RelV (.int (-2)) u
  c11 : ∃ u, mg "NOT_BEGUN" = some u ∧ RelV (.int (-11)) u
  c22 : ∃ u, mg "NOT_AS_TOLD" = some u ∧ RelV (.int (-22)) u
  c33 : ∃ u, mg "NO_MORE" = some u ∧ RelV (.int (-33)) u
  c75 : ∃ u, mg "ENDLESS" = some u ∧ RelV (.int (-75)) u
  pieces : ∃ u, mg "MOST_PIECES" = some u ∧ RelV (.int 6) u
  parts : ∃ u, mg "MOST_PARTS" = some u ∧ RelV (.int 40) u
  places : ∃ u, mg "MOST_PLACES" = some u ∧ RelV (.int 20) u
  steps : ∃ u, mg "MOST_STEPS" = some u ∧ RelV (.int 6) u
  brought : ∃ u, mg "MOST_BROUGHT" = some u ∧ RelV (.int 1000) u
  bgn : ∃ u, mg "BEGIN" = some u ∧ RelV (.int 0) u
  row : ∃ u, mg "ROW" = some u ∧ RelV (.int 2) u
def spInit (C : Addr) : Sp := fun vs H Q _ => ∃ (p dx : Addr), vs = [.ref p] ∧ H p = some (.ins C dx []) ∧ ∀ (H' : Hp) (d : Addr), LineAt C H' p d none → (∀ b, Own H' p b → H b = none) → H d = none → (∀ b o, H b = some o → b ≠ p → H' b = some o) → Q .non H'
def spRenew (C : Addr) : Sp := fun vs H Q _ => ∃ (x l dx m d : Addr) (g : Abs), vs = [.ref x, .ref l] ∧ H x = some (.ins C dx (pF m d)) ∧ H l = some (.lst (gs g)) ∧
  ∀ (H' : Hp) (d' : Addr), LineAt C H' x d' (some g) → (∀ b, Own H' x b → b = l) → H d' = none → (∀ b, b ≠ x → b ≠ d' → H' b = H b) → Q .non H'
def spLast (C : Addr) : Sp := fun vs H Q _ => ∃ (x d : Addr) (g : Abs), vs = [.ref x] ∧ LineAt C H x d (some g) ∧ WF g ∧ Q (.int (g.n : Int)) H
def spIsPlace (C : Addr) : Sp := fun vs H Q _ => ∃ (x d : Addr) (g : Abs) (p q : Int), vs = [.ref x, .int p, .int q] ∧ LineAt C H x d (some g) ∧ WF g ∧ 0 ≤ p ∧ 0 ≤ q ∧ Q (.bl (g.okPlace p.toNat q.toNat)) H
def spIsSteps : Sp := fun vs H Q _ => ∃ k : Int, vs = [.int k] ∧ 0 ≤ k ∧ Q (.bl (Su183.okSteps k.toNat)) H
/-- a call's own def: what it promises -/
def spMk (K : PySem.W.Frag) (C : Addr) (i : Int) : Sp := fun vs H Q _ => ∃ (x d a : Addr) (s : Option Abs) (ns : List Int), vs = [.ref x, .ref a] ∧ LineAt C H x d s ∧ SqL K H a (ns.map V.int) ∧ OkS s ∧ (i = 0 ∨ s ≠ none) ∧ asked1 (i :: ns) = true ∧
  ∀ (H' : Hp) (r d' : Addr), LineAt C H' x d' (Su183Neutral.step s (i :: ns)).1 → (∀ b, Own H' x b → Own H x b ∨ H b = none) → (d' = d ∨ H d' = none) → H r = none → H' r = some (.lst ((Su183Neutral.step s (i :: ns)).2.map V.int)) → (∀ b o, H b = some o → b ≠ x → b ≠ d → H' b = some o) → Q (.ref r) H'
section
variable {P : Program} {w : World} {K : PySem.W.Frag} {mg : Str → Option Value} {base : Heap} {C : Addr}
theorem scInit : FnScope ["self"] ["self"] (defScope sInit) := ⟨rfl, rfl, rfl, by decide +kernel, rfl, by decide +kernel, by decide +kernel⟩
theorem ok_init {f : Addr} {fd : FuncData} (F : Fun K "__init__" "Line.__init__" sInit f fd) (T : Txt K mg C) : FnOk P w K mg base CX0 1 f fd ["self"] (spInit C) := by
  refine F.ok scInit (fun vs H Q E h => ?_) (fun cdv A outer s H vs Q E hr h => ?_)
  · obtain ⟨p, dx, rfl, _⟩ := h
    rfl
  · obtain ⟨p, dx, rfl, hp, k⟩ := h
    refine ⟨_, pss_cons (ps_fld (pv 0) (pe_lst pa_nil) rfl) (pss_one (ps_fld (pv 0) pe_dnewK rfl)), ?_⟩
    refine ⟨Nat.zero_le _, fun l hl => ?_⟩
    have npl : p ≠ l := ne_of_none hp hl
    refine ⟨_, rfl, p, C, dx, [], rfl, (by rw [upd_ne npl]; exact hp), T.cl, T.nP, (by show 0 < 1000; decide), ?_⟩
    intro d hd
    have npd : p ≠ d := ne_of_none upd_same hd
    have hd1 : upd H l (.lst []) d = none := by rw [upd_ne npd.symm] at hd; exact hd
    have nld : l ≠ d := ne_of_none upd_same hd1
    have hd2 : H d = none := by rw [upd_ne nld.symm] at hd1; exact hd1
    refine ⟨_, rfl, p, C, dx, [("points", .ref l)], rfl, (by rw [upd_ne npd, upd_same]; rfl), T.cl, T.nL, (by show 1 < 1000; decide), ?_⟩
    rw [pF_put1]
    have hd0 : upd (upd (upd (upd H l (.lst [])) p (.ins C dx (putF "points" (.ref l) []))) d (.dK [])) p (.ins C dx (pF l d)) d = some (.dK []) := by rw [upd_ne npd.symm, upd_same]
    refine k _ d ⟨dx, l, [], upd_same, ?_, hd0, cache_nil _ _⟩ (fun b o => ?_) hd2 fun b o e hb => ?_
    · rw [upd_ne npl.symm, upd_ne nld, upd_ne npl.symm, upd_same]
      rfl
    · rw [own_new upd_same hd0 o]
      exact hl
    · rw [upd_ne hb, upd_ne (ne_of_none e hd2), upd_ne hb, upd_ne (ne_of_none e hl)]
      exact e
theorem scRenew : FnScope ["line", "points"] ["line", "points"] (defScope sRenew) := ⟨rfl, rfl, rfl, by decide +kernel, rfl, by decide +kernel, by decide +kernel⟩
theorem ok_renew {f : Addr} {fd : FuncData} (F : Fun K "renew" "renew" sRenew f fd) (T : Txt K mg C) : FnOk P w K mg base CX0 1 f fd ["line", "points"] (spRenew C) := by
  refine F.ok scRenew (fun vs H Q E h => ?_) (fun cdv A outer s H vs Q E hr h => ?_)
  · obtain ⟨x, l, dx, m, d, g, rfl, _⟩ := h
    rfl
  · obtain ⟨x, l, dx, m, d, g, rfl, hx, hl, k⟩ := h
    refine ⟨_, pss_cons (ps_fld (pv 0) (pv 1) rfl) (pss_one (ps_fld (pv 0) pe_dnewK rfl)), ?_⟩
    refine ⟨_, rfl, _, rfl, x, C, dx, _, rfl, hx, T.cl, T.nP, (by show 2 < 1000; decide), ?_⟩
    rw [pF_put]
    intro d' hd
    have nxd : x ≠ d' := ne_of_none upd_same hd
    have hd1 : H d' = none := by rw [upd_ne nxd.symm] at hd; exact hd
    have nxl : x ≠ l := ne_of hx hl (by intro q; cases q)
    refine ⟨_, rfl, x, C, dx, _, rfl, (by rw [upd_ne nxd, upd_same]), T.cl, T.nL, (by show 2 < 1000; decide), ?_⟩
    rw [pF_putD]
    have hd0 : upd (upd (upd H x (.ins C dx (pF l d))) d' (.dK [])) x (.ins C dx (pF l d')) d' = some (.dK []) := by rw [upd_ne nxd.symm, upd_same]
    refine k _ d' ⟨dx, l, [], upd_same, ?_, hd0, cache_nil _ _⟩ (fun b o => own_new upd_same hd0 o) hd1 fun b h1 h2 => ?_
    · rw [upd_ne nxl.symm, upd_ne (ne_of_none hl hd1), upd_ne nxl.symm]
      exact hl
    · rw [upd_ne h1, upd_ne h2, upd_ne h1]
theorem scLast : FnScope ["line"] ["line"] (defScope sLast) := ⟨rfl, rfl, rfl, by decide +kernel, rfl, by decide +kernel, by decide +kernel⟩
theorem ok_last {f : Addr} {fd : FuncData} (F : Fun K "last_point" "last_point" sLast f fd) (T : Txt K mg C) : FnOk P w K mg base CX0 1 f fd ["line"] (spLast C) := by
  refine F.ok scLast (fun vs H Q E h => ?_) (fun cdv A outer s H vs Q E hr h => ?_)
  · obtain ⟨x, d, g, rfl, _⟩ := h
    rfl
  · obtain ⟨x, d, g, rfl, ⟨dx, l, kvs, h1, h2, h3, h4⟩, wf, k⟩ := h
    refine ⟨_, pss_one (ps_ret (pe_op (opZ0 op_sub) (pe_callB call_len_seq (by rfl) T.len PySem.boot_len (pa_cons (pe_fld (pv 0) rfl) pa_nil)) pe_int)), ?_⟩
    refine ⟨_, rfl, x, C, dx, _, _, rfl, h1, T.cl, T.nP, pF_lk l d, l, _, rfl, .inl (SqL.of h2), _, _, .int (g.n : Int), rfl, rfl, ?_, k⟩
    show V.int (((gs g).length : Int) - 1) = _
    rw [gs_len wf]
    show V.int _ = V.int _
    congr 1
    omega
theorem scIsPlace : FnScope ["line", "p", "q"] ["line", "p", "q"] (defScope sIsPlace) := ⟨rfl, rfl, rfl, by decide +kernel, rfl, by decide +kernel, by decide +kernel⟩
theorem ok_isPlace {f : Addr} {fd : FuncData} (F : Fun K "is_place" "is_place" sIsPlace f fd) (T : Txt K mg C) (D : Def P w K mg base 1 "last_point" (spLast C)) : FnOk P w K mg base CX0 2 f fd ["line", "p", "q"] (spIsPlace C) := by
  refine F.ok scIsPlace (fun vs H Q E h => ?_) (fun cdv A outer s H vs Q E hr h => ?_)
  · obtain ⟨x, l, g, p, q, rfl, _⟩ := h
    rfl
  · obtain ⟨x, l, g, p, q, rfl, L, wf, hp, hq, k⟩ := h
    refine ⟨_, pss_one (ps_ret (pe_and (pe_chain op_le op_le pe_int (pv 2) (pe_k rfl T.parts)) (pe_one (pe_cmp (pc_le (pv 1) (pe_op op_mul (pe_def D hr (by decide) rfl (pa_cons (pv 0) pa_nil)) (pv 2))) rfl)))), ?_⟩
    have hn := wf.six
    have e0 : g.okPlace p.toNat q.toNat = (decide (1 ≤ q) && (decide (q ≤ 40) && decide (p ≤ (g.n : Int) * q))) := by
      unfold Su183.Abs.okPlace Su183.BELOW
      have e1 : decide (0 < q.toNat) = decide (1 ≤ q) := decide_eq_decide.mpr (by omega)
      have e2 : decide (q.toNat ≤ 40) = decide (q ≤ 40) := decide_eq_decide.mpr (by omega)
      have e3 : decide (p.toNat ≤ g.n * q.toNat) = decide (p ≤ (g.n : Int) * q) := decide_eq_decide.mpr (by
        have : ((g.n * q.toNat : Nat) : Int) = (g.n : Int) * q := by
          rw [Int.natCast_mul]
          congr 1
          omega
        omega)
      rw [e1, e2, e3]
    rw [e0] at k
    refine ⟨_, rfl, _, _, rfl, rfl, _, rfl, ?_⟩
    by_cases c1 : 1 ≤ q
    · refine ifT (decide_eq_true c1) ?_
      rw [decide_eq_true c1, Bool.true_and] at k
      refine ⟨_, _, rfl, rfl, _, rfl, ?_⟩
      by_cases c2 : q ≤ 40
      · refine ifT (decide_eq_true c2) ?_
        rw [decide_eq_true c2, Bool.true_and] at k
        exact ⟨_, rfl, _, rfl, x, l, g, rfl, L, wf, _, rfl, _, _, rfl, rfl, .inl ⟨by omega, by omega⟩, _, _, rfl, rfl, k⟩
      · refine ifF (decide_eq_false c2) ?_
        rw [decide_eq_false c2, Bool.false_and] at k
        exact k
    · refine ifF (decide_eq_false c1) ?_
      rw [decide_eq_false c1, Bool.false_and] at k
      exact ⟨_, rfl, ifF rfl k⟩
theorem scIsSteps : FnScope ["k"] ["k"] (defScope sIsSteps) := ⟨rfl, rfl, rfl, by decide +kernel, rfl, by decide +kernel, by decide +kernel⟩
theorem ok_isSteps {f : Addr} {fd : FuncData} (F : Fun K "is_steps" "is_steps" sIsSteps f fd) (T : Txt K mg C) : FnOk P w K mg base CX0 1 f fd ["k"] spIsSteps := by
  refine F.ok scIsSteps (fun vs H Q E h => ?_) (fun cdv A outer s H vs Q E hr h => ?_)
  · obtain ⟨n, rfl, _⟩ := h
    rfl
  · obtain ⟨n, rfl, n0, k⟩ := h
    refine ⟨_, pss_one (ps_ret (pe_chain op_le op_le pe_int (pv 0) (pe_k rfl T.steps))), ?_⟩
    have e0 : Su183.okSteps n.toNat = (decide (1 ≤ n) && decide (n ≤ 6)) := by
      unfold Su183.okSteps Su183.STEPS
      have e1 : decide (0 < n.toNat) = decide (1 ≤ n) := decide_eq_decide.mpr (by omega)
      have e2 : decide (n.toNat ≤ 6) = decide (n ≤ 6) := decide_eq_decide.mpr (by omega)
      rw [e1, e2]
    rw [e0] at k
    refine ⟨_, rfl, _, _, rfl, rfl, _, rfl, ?_⟩
    by_cases c1 : 1 ≤ n
    · refine ifT (decide_eq_true c1) ?_
      rw [decide_eq_true c1, Bool.true_and] at k
      exact ⟨_, _, rfl, rfl, k⟩
    · refine ifF (decide_eq_false c1) ?_
      rw [decide_eq_false c1, Bool.false_and] at k
      exact k
end
end Fl

namespace Fl
open PySem PySem.Spec PyProof.Rows L2
open Su183 (Abs red does)
open Su183Neutral (asked1)
theorem at0 {α : Type} {a : α} {l : List α} : atI (a :: l) 0 = some a := atI_nat (j := 0) rfl
theorem at1 {α : Type} {a b : α} {l : List α} : atI (a :: b :: l) 1 = some b := atI_nat (j := 1) rfl
theorem at2 {α : Type} {a b c : α} {l : List α} : atI (a :: b :: c :: l) 2 = some c := atI_nat (j := 2) rfl
theorem rg_new (n : Nat) : rgV 0 ((n : Int) + 1) = gs (Su183.new n) := by
  unfold rgV gs Su183.new
  have : ((n : Int) + 1 - 0).toNat = n + 1 := by omega
  rw [this]
  refine List.map_congr_left fun i _ => ?_
  congr 1
  omega
theorem some_of {i : Int} {s : Option Abs} (hi : i ≠ 0) (h : i = 0 ∨ s ≠ none) (ok : OkS s) : ∃ g, s = some g ∧ WF g := by
  cases s with
  | none => exact absurd rfl (h.resolve_left hi)
  | some g => exact ⟨g, rfl, ok⟩
/-- what a call's own def is handed, at its end -/
abbrev Wish (C : Addr) (H : Hp) (x d : Addr) (s : Option Abs) (c : List Int) (Q : VK) : Prop :=
  ∀ (H' : Hp) (r d' : Addr), LineAt C H' x d' (Su183Neutral.step s c).1 → (∀ b, Own H' x b → Own H x b ∨ H b = none) → (d' = d ∨ H d' = none) → H r = none → H' r = some (.lst ((Su183Neutral.step s c).2.map V.int)) → (∀ b o, H b = some o → b ≠ x → b ≠ d → H' b = some o) → Q (.ref r) H'
/-- a call that changes nothing: its end -/
theorem still {C : Addr} {H H' : Hp} {Q : VK} {x d r : Addr} {s : Option Abs} {c ans : List Int} (k : Wish C H x d s c Q)
    (L : LineAt C H x d s) (e : Su183Neutral.step s c = (s, ans)) (sm : Same H H') (hr : H r = none) (h : H' r = some (.lst (ans.map V.int))) : Q (.ref r) H' := by
  unfold Wish at k
  rw [e] at k
  exact k H' r d (L.same sm) (fun b o => .inl (own_same L sm o)) (.inl rfl) hr h fun b o z _ _ => sm b o z
/-- a call that makes the line anew: its end -/
theorem anew {C : Addr} {H H1 H2 : Hp} {Q : VK} {x d d' r l : Addr} {s s' : Option Abs} {c ans : List Int} (k : Wish C H x d s c Q)
    (e : Su183Neutral.step s c = (s', ans)) (sm : Same H H1) (hl : H l = none) (L : LineAt C H2 x d' s') (ow : ∀ b, Own H2 x b → b = l) (nd : H1 d' = none) (fr : ∀ b, b ≠ x → b ≠ d' → H2 b = H1 b) (hr : H2 r = none) : Q (.ref r) (upd H2 r (.lst (ans.map V.int))) := by
  unfold Wish at k
  rw [e] at k
  obtain ⟨dx, fs, hx⟩ := L.inst
  obtain ⟨kvs, hd⟩ := L.dict
  have nr1 : r ≠ x := fun z => by rw [z, hx] at hr; cases hr
  have nr2 : r ≠ d' := fun z => by rw [z, hd] at hr; cases hr
  have hr1 : H1 r = none := by rw [← fr r nr1 nr2]; exact hr
  refine k _ r d' (L.same (same_new hr)) (fun b o => .inr (by rw [ow b (own_same L (same_new hr) o)]; exact hl)) (.inr (sm.free nd)) (sm.free hr1) upd_same fun b o z b1 b2 => ?_
  have z1 := sm b o z
  rw [upd_ne (ne_of_none z1 hr1), fr b b1 (ne_of_none z1 nd)]
  exact z1
section
variable {P : Program} {w : World} {K : PySem.W.Frag} {mg : Str → Option Value} {base : Heap} {C : Addr}
theorem scBegin : FnScope ["line", "numbers", "n"] ["line", "numbers"] (defScope sBegin) := ⟨rfl, rfl, rfl, by decide +kernel, rfl, by decide +kernel, by decide +kernel⟩
theorem ok_begin {f : Addr} {fd : FuncData} (F : Fun K "begin" "begin" sBegin f fd) (T : Txt K mg C) (D : Def P w K mg base 1 "renew" (spRenew C)) : FnOk P w K mg base CX0 2 f fd ["line", "numbers"] (spMk K C 0) := by
  refine F.ok scBegin (fun vs H Q E h => ?_) (fun cdv A outer s H vs Q E hr h => ?_)
  · obtain ⟨x, l, a, s, ns, rfl, _⟩ := h
    rfl
  · obtain ⟨x, d, a, s, ns, rfl, L, hS, ok, hi, as, k⟩ := h
    obtain ⟨n, rfl, hn⟩ := asked_one (.inl rfl) as
    refine ⟨_, pss_cons (ps_set (i := 2) scBegin.nd rfl (Or.inl rfl) (pe_ix ix_list (pv 1) pe_int (fun _ _ => rfl)))
      (pss_cons (ps_if (PW.pt (pw_or (pt_cmpR op_lt (pv 2) pe_int (nomark _)) (pw_or1 (pt_cmpR op_gt (pv 2) (pe_k rfl T.pieces) (nomark _))))) (pss_one (ps_ret (pe_lst (pa_cons (pe_k rfl T.c22) pa_nil)))) pss_nil)
      (pss_cons (ps_expr (pe_def D hr (by decide) rfl (pa_cons (pv 0) (pa_cons (pe_listRg rfl rfl T.list (prg_1 rfl T.range (pe_op op_add (pv 2) pe_int))) pa_nil))))
      (pss_one (ps_ret (pe_lst (pa_cons pe_int pa_nil)))))), ?_⟩
    refine ⟨_, rfl, a, _, _, _, rfl, rfl, hS, at0, ?_⟩
    have bad : (n < 1 ∨ 6 < n) → ∀ r, H r = none → Q (.ref r) (upd H r (.lst [.int (-22)])) := fun hb r hr0 => still k L (begin_bad hn hb) (same_new hr0) hr0 upd_same
    refine ⟨_, rfl, _, _, rfl, rfl, _, rfl, ?_⟩
    by_cases c1 : n < 1
    · refine ifT (decide_eq_true c1) ?_
      exact ⟨by decide, fun r hr0 => bad (.inl c1) r hr0⟩
    · refine ifF (decide_eq_false c1) ?_
      refine ⟨_, rfl, _, _, rfl, rfl, _, rfl, ?_⟩
      by_cases c2 : 6 < n
      · refine ifT (decide_eq_true c2) ?_
        exact ⟨by decide, fun r hr0 => bad (.inr c2) r hr0⟩
      · refine ifF (decide_eq_false c2) ?_
        obtain ⟨m, rfl⟩ : ∃ m : Nat, n = (m : Int) := ⟨n.toNat, by omega⟩
        refine ⟨_, rfl, _, rfl, _, _, rfl, rfl, _, rfl, RgOk.of_le (by decide) (by omega) (by decide) (by omega), fun q hq => ?_⟩
        obtain ⟨dx, l, kvs, h1, h2, h3, h4⟩ := id L
        have nxq : x ≠ q := ne_of_none h1 hq
        refine ⟨x, q, dx, l, d, Su183.new m, rfl, (by rw [upd_ne nxq]; exact h1), (by rw [upd_same, rg_new]), fun H2 d' L2 ow nd fr => ?_⟩
        exact ⟨by decide, fun r hr0 => anew k (begin_ok (by omega) (by omega)) (same_new hq) hq L2 ow nd fr hr0⟩
end
end Fl

namespace Fl
open PySem PySem.Spec PyProof.Rows L2
open Su183 (Abs red does)
open Su183Neutral (asked1)
theorem gs_set (g : Abs) (i v : Nat) : gs { g with to := g.to.set i v } = (gs g).set i (.int (v : Int)) := by
  unfold gs
  rw [List.map_set]
theorem gs_row (g : Abs) {ns : List Int} (h : ∀ z ∈ ns, 0 ≤ z) : gs { g with to := ns.map Int.toNat } = ns.map V.int := by
  unfold gs
  rw [List.map_map]
  refine List.map_congr_left fun z hz => ?_
  show V.int (z.toNat : Int) = V.int z
  congr 1
  have := h z hz
  omega
section
variable {P : Program} {w : World} {K : PySem.W.Frag} {mg : Str → Option Value} {base : Heap} {C : Addr}
theorem scSet : FnScope ["line", "numbers", "i", "v", "points", "was"] ["line", "numbers"] (defScope sSet) := ⟨rfl, rfl, rfl, by decide +kernel, rfl, by decide +kernel, by decide +kernel⟩
theorem ok_set {f : Addr} {fd : FuncData} (F : Fun K "set_point" "set_point" sSet f fd) (T : Txt K mg C) (D : Def P w K mg base 1 "last_point" (spLast C)) (D2 : Def P w K mg base 1 "renew" (spRenew C)) : FnOk P w K mg base CX0 2 f fd ["line", "numbers"] (spMk K C 1) := by
  refine F.ok scSet (fun vs H Q E h => ?_) (fun cdv A outer s H vs Q E hr h => ?_)
  · obtain ⟨x, l, a, s, ns, rfl, _⟩ := h
    rfl
  · obtain ⟨x, d, a, s, ns, rfl, L, hS, ok, hi, as, k⟩ := h
    obtain ⟨i, v, rfl, hi32, hv32⟩ := asked_two (.inl rfl) as
    obtain ⟨g, rfl, wf⟩ := some_of (by decide) hi ok
    refine ⟨_, pss_cons (ps_set (i := 2) scSet.nd rfl (Or.inl rfl) (pe_ix ix_list (pv 1) pe_int (fun _ _ => rfl)))
      (pss_cons (ps_set (i := 3) scSet.nd rfl (Or.inl rfl) (pe_ix ix_list (pv 1) pe_int (fun _ _ => rfl)))
      (pss_cons (ps_if (pt_cmpR op_gt (pv 2) (pe_def D hr (by decide) rfl (pa_cons (pv 0) pa_nil)) (nomark _)) (pss_one (ps_ret (pe_lst (pa_cons (pe_k rfl T.c2) pa_nil)))) pss_nil)
      (pss_cons (ps_if (pt_cmpR op_gt (pv 3) (pe_def D hr (by decide) rfl (pa_cons (pv 0) pa_nil)) (nomark _)) (pss_one (ps_ret (pe_lst (pa_cons (pe_k rfl T.c22) pa_nil)))) pss_nil)
      (pss_cons (ps_set (i := 4) scSet.nd rfl (Or.inl rfl) (pe_callTy call_list_of (by rfl) T.list (by decide +kernel) (pa_cons (pe_fld (pv 0) rfl) pa_nil)))
      (pss_cons (ps_asg (pv 3) (pg_sub (pv 4) (pv 2) set_list))
      (pss_cons (ps_set (i := 5) scSet.nd rfl (Or.inl rfl) (pe_ix ix_list (pe_fld (pv 0) rfl) (pv 2) (fun _ _ => rfl)))
      (pss_cons (ps_expr (pe_def D2 hr (by decide) rfl (pa_cons (pv 0) (pa_cons (pv 4) pa_nil))))
      (pss_one (ps_ret (pe_lst (pa_cons (pv 5) pa_nil))))))))))), ?_⟩
    obtain ⟨dx, l, kvs, h1, h2, h3, h4⟩ := L.opens
    have i0 := hi32.1
    have v0 := hv32.1
    refine ⟨_, rfl, a, _, _, _, rfl, rfl, hS, at0, _, rfl, a, _, _, _, rfl, rfl, hS, at1, _, rfl, _, rfl, x, d, g, rfl, L, wf, _, _, rfl, rfl, _, rfl, ?_⟩
    by_cases c1 : (g.n : Int) < i
    · refine ifT (decide_eq_true c1) ?_
      exact ⟨by decide, fun r hr0 => still k L (set_no1 c1) (same_new hr0) hr0 upd_same⟩
    · refine ifF (decide_eq_false c1) ?_
      refine ⟨_, rfl, _, rfl, x, d, g, rfl, L, wf, _, _, rfl, rfl, _, rfl, ?_⟩
      by_cases c2 : (g.n : Int) < v
      · refine ifT (decide_eq_true c2) ?_
        exact ⟨by decide, fun r hr0 => still k L (set_no2 i0 c1 c2) (same_new hr0) hr0 upd_same⟩
      · refine ifF (decide_eq_false c2) ?_
        obtain ⟨m, rfl⟩ : ∃ m : Nat, i = (m : Int) := ⟨i.toNat, by omega⟩
        obtain ⟨u, rfl⟩ : ∃ m : Nat, v = (m : Int) := ⟨v.toNat, by omega⟩
        refine ⟨_, rfl, x, C, dx, _, _, rfl, h1, T.cl, T.nP, pF_lk l d, l, _, rfl, .inl (SqL.of h2), fun q hq => ?_⟩
        have nxq : x ≠ q := ne_of_none h1 hq
        have nlq : l ≠ q := ne_of_none h2 hq
        have hix : ixN (gs g).length (m : Int) = some m := by
          unfold ixN
          rw [if_pos (by omega), gs_len wf, if_pos (by omega)]
          rfl
        refine ⟨_, rfl, _, rfl, _, rfl, q, _, _, m, rfl, rfl, upd_same, hix, ?_⟩
        have hq2 : ∀ b, b ≠ q → upd (upd H q (.lst (gs g))) q (.lst ((gs g).set m (.int (u : Int)))) b = H b := fun b hb => by rw [upd_ne hb, upd_ne hb]
        refine ⟨_, rfl, x, C, dx, _, _, rfl, (by rw [hq2 x nxq]; exact h1), T.cl, T.nP, pF_lk l d, _, rfl, l, _, _, _, rfl, rfl, SqL.of (show _ = some (HO.lst (gs g)) from by rw [hq2 l nlq]; exact h2), atI_nat (gs_get wf (show m ≤ g.n by omega)), ?_⟩
        refine ⟨_, rfl, _, rfl, x, q, dx, l, d, { g with to := g.to.set m u }, rfl, (by rw [hq2 x nxq]; exact h1), (by rw [upd_same, gs_set]), fun H2 d' L2 ow nd fr => ?_⟩
        refine ⟨_, rfl, (by show 1 ≤ sizeLine; decide), fun r hr0 => ?_⟩
        exact anew k (set_ok i0 c1 c2) (fun b o e => by rw [hq2 b (ne_of_none e hq)]; exact e) hq L2 ow nd fr hr0
theorem scRow : FnScope ["line", "points"] ["line", "points"] (defScope sRow) := ⟨rfl, rfl, rfl, by decide +kernel, rfl, by decide +kernel, by decide +kernel⟩
theorem ok_row {f : Addr} {fd : FuncData} (F : Fun K "set_row" "set_row" sRow f fd) (T : Txt K mg C) (D : Def P w K mg base 1 "last_point" (spLast C)) (D2 : Def P w K mg base 1 "renew" (spRenew C)) : FnOk P w K mg base CX0 2 f fd ["line", "points"] (spMk K C 2) := by
  refine F.ok scRow (fun vs H Q E h => ?_) (fun cdv A outer s H vs Q E hr h => ?_)
  · obtain ⟨x, l, a, s, ns, rfl, _⟩ := h
    rfl
  · obtain ⟨x, d, a, s, ns, rfl, L, hS, ok, hi, as, k⟩ := h
    obtain ⟨h10, h32⟩ := asked_row as
    obtain ⟨g, rfl, wf⟩ := some_of (by decide) hi ok
    refine ⟨_, pss_cons (ps_if (PW.pt (pw_or (pt_cmpR op_ne (pe_callB call_len_seq (by rfl) T.len PySem.boot_len (pa_cons (pv 1) pa_nil)) (pe_callB call_len_seq (by rfl) T.len PySem.boot_len (pa_cons (pe_fld (pv 0) rfl) pa_nil)) (nomark _))
        (pw_or1 (pt_cmpR op_gt (pe_callB (cr_max rfl) (by rfl) T.max (by decide +kernel) (pa_cons (pv 1) pa_nil)) (pe_def D hr (by decide) rfl (pa_cons (pv 0) pa_nil)) (nomark _))))) (pss_one (ps_ret (pe_lst (pa_cons (pe_k rfl T.c22) pa_nil)))) pss_nil)
      (pss_cons (ps_expr (pe_def D2 hr (by decide) rfl (pa_cons (pv 0) (pa_cons (pe_callTy call_list_of (by rfl) T.list (by decide +kernel) (pa_cons (pv 1) pa_nil)) pa_nil))))
      (pss_one (ps_ret (pe_lst (pa_cons pe_int pa_nil))))), ?_⟩
    obtain ⟨dx, l, kvs, h1, h2, h3, h4⟩ := L.opens
    refine ⟨_, rfl, a, _, rfl, .inl hS, _, rfl, x, C, dx, _, _, rfl, h1, T.cl, T.nP, pF_lk l d, l, _, rfl, .inl (SqL.of h2), rfl, _, rfl, ?_⟩
    by_cases c1 : ns.length = g.n + 1
    · refine iteNS (by show V.int ((ns.map V.int).length : Int) = V.int ((gs g).length : Int); rw [List.length_map, gs_len wf, c1]) ?_
      refine ⟨_, rfl, a, ns, rfl, hS, by omega, fun m hm hle => ?_⟩
      refine ⟨_, rfl, x, d, g, rfl, L, wf, _, _, rfl, rfl, _, rfl, ?_⟩
      by_cases c2 : (g.n : Int) < m
      · refine ifT (decide_eq_true c2) ?_
        exact ⟨by decide, fun r hr0 => still k L (row_no (.inr ⟨m, hm, c2⟩)) (same_new hr0) hr0 upd_same⟩
      · refine ifF (decide_eq_false c2) ?_
        refine ⟨_, rfl, _, rfl, a, _, rfl, .inl hS, fun q hq => ?_⟩
        have nxq : x ≠ q := ne_of_none h1 hq
        refine ⟨x, q, dx, l, d, { g with to := ns.map Int.toNat }, rfl, (by rw [upd_ne nxq]; exact h1), (by rw [upd_same, gs_row g (fun z hz => (h32 z hz).1)]), fun H2 d' L2 ow nd fr => ?_⟩
        exact ⟨by decide, fun r hr0 => anew k (row_ok c1 (fun z hz => by have := hle z hz; omega)) (same_new hq) hq L2 ow nd fr hr0⟩
    · refine ifT ?_ ⟨by decide, fun r hr0 => still k L (row_no (.inl c1)) (same_new hr0) hr0 upd_same⟩
      show (!decide (V.int ((ns.map V.int).length : Int) = V.int ((gs g).length : Int))) = true
      rw [Bool.not_eq_true', decide_eq_false_iff_not, List.length_map, gs_len wf]
      intro e
      have := V.int.inj e
      omega
end
end Fl

namespace Fl
open PySem PySem.Spec PyProof.Rows L2
open Su183 (Abs red does)
open Su183Neutral (asked1)
section
variable {P : Program} {w : World} {K : PySem.W.Frag} {mg : Str → Option Value} {base : Heap} {C : Addr}
theorem scPut : FnScope ["line", "numbers", "p", "q"] ["line", "numbers"] (defScope sPut) := ⟨rfl, rfl, rfl, by decide +kernel, rfl, by decide +kernel, by decide +kernel⟩
theorem ok_put {f : Addr} {fd : FuncData} (F : Fun K "put" "put" sPut f fd) (T : Txt K mg C) (D1 : Def P w K mg base 2 "is_place" (spIsPlace C)) (D2 : Def P w K mg base 1 "lowest" spLowest) (D3 : Def P w K mg base 1 "put_over" (spPutOver K)) : FnOk P w K mg base CX0 3 f fd ["line", "numbers"] (spMk K C 3) := by
  refine F.ok scPut (fun vs H Q E h => ?_) (fun cdv A outer s H vs Q E hr h => ?_)
  · obtain ⟨x, l, a, s, ns, rfl, _⟩ := h
    rfl
  · obtain ⟨x, l, a, s, ns, rfl, L, hS, ok, hi, as, k⟩ := h
    obtain ⟨p, q, rfl, hp, hq⟩ := asked_two (.inr (.inl rfl)) as
    obtain ⟨g, rfl, wf⟩ := some_of (by decide) hi ok
    refine ⟨_, pss_cons (ps_set (i := 2) scPut.nd rfl (Or.inl rfl) (pe_ix ix_list (pv 1) pe_int (fun _ _ => rfl)))
      (pss_cons (ps_set (i := 3) scPut.nd rfl (Or.inl rfl) (pe_ix ix_list (pv 1) pe_int (fun _ _ => rfl)))
      (pss_cons (ps_if (pt_not (pt_val (pe_def D1 hr (by decide) rfl (pa_cons (pv 0) (pa_cons (pv 2) (pa_cons (pv 3) pa_nil)))))) (pss_one (ps_ret (pe_lst (pa_cons (pe_k rfl T.c22) pa_nil)))) pss_nil)
      (pss_one (ps_ret (pe_op op_cat (pe_lst (pa_cons pe_int pa_nil)) (pe_def D2 hr (by decide) rfl (pa_cons (pe_def D3 hr (by decide) rfl (pa_cons (pe_fld (pv 0) rfl) (pa_cons (pv 2) (pa_cons (pv 3) pa_nil)))) (pa_cons (pv 3) pa_nil)))))))), ?_⟩
    obtain ⟨dx, ll, kvs, h1, h2, h3, h4⟩ := L.opens
    refine ⟨_, rfl, a, _, _, _, rfl, rfl, hS, at0, _, rfl, a, _, _, _, rfl, rfl, hS, at1, _, rfl, _, rfl, _, rfl, x, l, g, p, q, rfl, L, wf, hp.1, hq.1, _, rfl, ?_⟩
    cases c : g.okPlace p.toNat q.toNat with
    | false =>
      refine ifT rfl ?_
      exact ⟨by decide, fun r hr0 => still k L (put_no c) (same_new hr0) hr0 upd_same⟩
    | true =>
      refine ifF rfl ?_
      obtain ⟨a1, a2, a3⟩ := okPlace_on hp.1 hq.1 c
      have q0 := hq.1
      obtain ⟨n, rfl⟩ : ∃ n : Nat, q = (n : Int) := ⟨q.toNat, by omega⟩
      refine ⟨by decide, fun r1 hr1 => ?_⟩
      have s1 : Same H (upd H r1 (.lst [.int 0])) := same_new hr1
      refine ⟨_, rfl, x, C, dx, _, _, rfl, s1 _ _ h1, T.cl, T.nP, pF_lk ll l, _, rfl, _, rfl, ll, g, p, n, rfl, SqL.of (s1 _ _ h2), wf, a1, by omega, a3, _, rfl, ?_⟩
      refine ⟨mv g n p, n, rfl, (mv_on wf a1 p).1, a1, by omega, fun r2 hr2 => ?_⟩
      have s2 := s1.trans (same_new (o := .lst [.int (red (mv g n p) n).1, .int ((red (mv g n p) n).2 : Int)]) hr2)
      refine ⟨r1, r2, _, _, rfl, rfl, (by rw [upd_ne (ne_of_none upd_same hr2), upd_same]), upd_same, (by show 1 + 2 ≤ sizeLine; decide), fun r hr0 => ?_⟩
      exact still k L (put_ok wf hp.1 q0 c) (s2.trans (same_new hr0)) (s2.free hr0) upd_same
theorem scCov : FnScope ["line", "numbers", "i", "j"] ["line", "numbers"] (defScope sCov) := ⟨rfl, rfl, rfl, by decide +kernel, rfl, by decide +kernel, by decide +kernel⟩
theorem ok_cov {f : Addr} {fd : FuncData} (F : Fun K "covers" "covers" sCov f fd) (T : Txt K mg C) (D1 : Def P w K mg base 1 "last_point" (spLast C)) (D2 : Def P w K mg base 1 "covers_piece" (spCovers K)) : FnOk P w K mg base CX0 2 f fd ["line", "numbers"] (spMk K C 6) := by
  refine F.ok scCov (fun vs H Q E h => ?_) (fun cdv A outer s H vs Q E hr h => ?_)
  · obtain ⟨x, l, a, s, ns, rfl, _⟩ := h
    rfl
  · obtain ⟨x, l, a, s, ns, rfl, L, hS, ok, hi, as, k⟩ := h
    obtain ⟨i, j, rfl, hi32, hj32⟩ := asked_two (.inr (.inr (.inr (.inl rfl)))) as
    obtain ⟨g, rfl, wf⟩ := some_of (by decide) hi ok
    refine ⟨_, pss_cons (ps_set (i := 2) scCov.nd rfl (Or.inl rfl) (pe_ix ix_list (pv 1) pe_int (fun _ _ => rfl)))
      (pss_cons (ps_set (i := 3) scCov.nd rfl (Or.inl rfl) (pe_ix ix_list (pv 1) pe_int (fun _ _ => rfl)))
      (pss_cons (ps_if (PW.pt (pw_or (pt_cmpR op_ge (pv 2) (pe_def D1 hr (by decide) rfl (pa_cons (pv 0) pa_nil)) (nomark _)) (pw_or1 (pt_cmpR op_ge (pv 3) (pe_def D1 hr (by decide) rfl (pa_cons (pv 0) pa_nil)) (nomark _))))) (pss_one (ps_ret (pe_lst (pa_cons (pe_k rfl T.c2) pa_nil)))) pss_nil)
      (pss_one (ps_ret (pe_lst (pa_cons (pe_ifExp (pt_val (pe_def D2 hr (by decide) rfl (pa_cons (pe_fld (pv 0) rfl) (pa_cons (pv 2) (pa_cons (pv 3) pa_nil))))) pe_int pe_int) pa_nil)))))), ?_⟩
    obtain ⟨dx, ll, kvs, h1, h2, h3, h4⟩ := L.opens
    have i0 := hi32.1
    have j0 := hj32.1
    refine ⟨_, rfl, a, _, _, _, rfl, rfl, hS, at0, _, rfl, a, _, _, _, rfl, rfl, hS, at1, _, rfl, _, rfl, x, l, g, rfl, L, wf, _, _, rfl, rfl, _, rfl, ?_⟩
    by_cases c1 : (g.n : Int) ≤ i
    · refine ifT (decide_eq_true c1) ?_
      exact ⟨by decide, fun r hr0 => still k L (covers_no (.inl c1)) (same_new hr0) hr0 upd_same⟩
    · refine ifF (decide_eq_false c1) ?_
      refine ⟨_, rfl, _, rfl, x, l, g, rfl, L, wf, _, _, rfl, rfl, _, rfl, ?_⟩
      by_cases c2 : (g.n : Int) ≤ j
      · refine ifT (decide_eq_true c2) ?_
        exact ⟨by decide, fun r hr0 => still k L (covers_no (.inr c2)) (same_new hr0) hr0 upd_same⟩
      · refine ifF (decide_eq_false c2) ?_
        obtain ⟨m, rfl⟩ : ∃ m : Nat, i = (m : Int) := ⟨i.toNat, by omega⟩
        obtain ⟨u, rfl⟩ : ∃ m : Nat, j = (m : Int) := ⟨j.toNat, by omega⟩
        refine ⟨_, rfl, x, C, dx, _, _, rfl, h1, T.cl, T.nP, pF_lk ll l, _, rfl, _, rfl, ll, g, m, u, rfl, SqL.of h2, wf, by omega, _, rfl, ?_⟩
        have ec := covers_ok i0 j0 (show (m : Int) < g.n by omega) (show (u : Int) < g.n by omega)
        cases c : g.covers m u with
        | true =>
          have c' : g.covers ((m : Int).toNat) ((u : Int).toNat) = true := c
          rw [if_pos c'] at ec
          exact ifT rfl ⟨by decide, fun r hr0 => still k L ec (same_new hr0) hr0 upd_same⟩
        | false =>
          have c' : ¬ g.covers ((m : Int).toNat) ((u : Int).toNat) = true := by
            show ¬ g.covers m u = true
            rw [c]
            decide
          rw [if_neg c'] at ec
          exact ifF rfl ⟨by decide, fun r hr0 => still k L ec (same_new hr0) hr0 upd_same⟩
theorem scComes : FnScope ["line", "numbers", "p", "q"] ["line", "numbers"] (defScope sComes) := ⟨rfl, rfl, rfl, by decide +kernel, rfl, by decide +kernel, by decide +kernel⟩
theorem ok_comes {f : Addr} {fd : FuncData} (F : Fun K "comes" "comes" sComes f fd) (T : Txt K mg C) (D1 : Def P w K mg base 2 "is_place" (spIsPlace C)) (D2 : Def P w K mg base 2 "way_into_round" (spWayInto K)) : FnOk P w K mg base CX0 3 f fd ["line", "numbers"] (spMk K C 5) := by
  refine F.ok scComes (fun vs H Q E h => ?_) (fun cdv A outer s H vs Q E hr h => ?_)
  · obtain ⟨x, l, a, s, ns, rfl, _⟩ := h
    rfl
  · obtain ⟨x, l, a, s, ns, rfl, L, hS, ok, hi, as, k⟩ := h
    obtain ⟨p, q, rfl, hp, hq⟩ := asked_two (.inr (.inr (.inl rfl))) as
    obtain ⟨g, rfl, wf⟩ := some_of (by decide) hi ok
    refine ⟨_, pss_cons (ps_set (i := 2) scComes.nd rfl (Or.inl rfl) (pe_ix ix_list (pv 1) pe_int (fun _ _ => rfl)))
      (pss_cons (ps_set (i := 3) scComes.nd rfl (Or.inl rfl) (pe_ix ix_list (pv 1) pe_int (fun _ _ => rfl)))
      (pss_cons (ps_if (pt_not (pt_val (pe_def D1 hr (by decide) rfl (pa_cons (pv 0) (pa_cons (pv 2) (pa_cons (pv 3) pa_nil)))))) (pss_one (ps_ret (pe_lst (pa_cons (pe_k rfl T.c22) pa_nil)))) pss_nil)
      (pss_one (ps_ret (pe_def D2 hr (by decide) rfl (pa_cons (pe_fld (pv 0) rfl) (pa_cons (pv 2) (pa_cons (pv 3) pa_nil)))))))), ?_⟩
    obtain ⟨dx, ll, kvs, h1, h2, h3, h4⟩ := L.opens
    refine ⟨_, rfl, a, _, _, _, rfl, rfl, hS, at0, _, rfl, a, _, _, _, rfl, rfl, hS, at1, _, rfl, _, rfl, _, rfl, x, l, g, p, q, rfl, L, wf, hp.1, hq.1, _, rfl, ?_⟩
    cases c : g.okPlace p.toNat q.toNat with
    | false =>
      refine ifT rfl ?_
      exact ⟨by decide, fun r hr0 => still k L (comes_no c) (same_new hr0) hr0 upd_same⟩
    | true =>
      refine ifF rfl ?_
      obtain ⟨a1, a2, a3⟩ := okPlace_on hp.1 hq.1 c
      have q0 := hq.1
      obtain ⟨n, rfl⟩ : ∃ n : Nat, q = (n : Int) := ⟨q.toNat, by omega⟩
      refine ⟨_, rfl, x, C, dx, _, _, rfl, h1, T.cl, T.nP, pF_lk ll l, _, rfl, _, rfl, ll, g, p, n, rfl, SqL.of h2, wf, a1, by omega, a3, fun H' r j m sm hr0 R hl => ?_⟩
      exact still k L (comes_ok wf hp.1 q0 c R) sm hr0 hl
theorem fracs_snoc (q : Nat) (l : List Int) (p : Int) : fracs q (l ++ [p]) = fracs q l ++ [(red p q).1, ((red p q).2 : Int)] := by
  unfold fracs
  rw [List.flatMap_append]
  rfl
theorem fracs_len (q : Nat) : ∀ l : List Int, (fracs q l).length = 2 * l.length
  | [] => rfl
  | p :: l => by
    have := fracs_len q l
    unfold fracs at this ⊢
    rw [List.flatMap_cons, List.length_append, this]
    show 2 + 2 * l.length = 2 * (l.length + 1)
    omega
theorem take_snoc {α : Type} : ∀ {l : List α} {i : Nat} {x : α}, l[i]? = some x → l.take (i + 1) = l.take i ++ [x]
  | [], i, x, h => by simp at h
  | a :: l, 0, x, h => by
    have e : a = x := Option.some.inj h
    subst e
    rfl
  | a :: l, i + 1, x, h => by
    have ih := take_snoc (l := l) (i := i) (x := x) h
    show a :: l.take (i + 1) = a :: l.take i ++ [x]
    rw [ih]
    rfl
theorem get_ints {ns : List Int} {i : Nat} {y : V} (h : (ns.map V.int)[i]? = some y) : ∃ z, ns[i]? = some z ∧ y = V.int z := by
  rw [List.getElem?_map] at h
  cases e : ns[i]? with
  | none => rw [e] at h; cases h
  | some z => rw [e] at h; exact ⟨z, rfl, (Option.some.inj h).symm⟩
def spFracs (K : PySem.W.Frag) : Sp := fun vs H Q _ => ∃ (a : Addr) (ns : List Int) (q : Nat), vs = [.ref a, .int (q : Int)] ∧ SqL K H a (ns.map V.int) ∧ (∀ z ∈ ns, 0 ≤ z) ∧ 0 < q ∧ q < 1000000 ∧ ns.length ≤ 1000 ∧
  ∀ (H' : Hp) (r : Addr), Same H H' → H r = none → H' r = some (.lst ((fracs q ns).map V.int)) → Q (.ref r) H'
theorem scFracs : FnScope ["places", "q", "told", "place"] ["places", "q"] (defScope sFracs) := ⟨rfl, rfl, rfl, by decide +kernel, rfl, by decide +kernel, by decide +kernel⟩
theorem ok_fracs {f : Addr} {fd : FuncData} (F : Fun K "as_fractions" "as_fractions" sFracs f fd) (D2 : Def P w K mg base 1 "lowest" spLowest) : FnOk P w K mg base CX0 2 f fd ["places", "q"] (spFracs K) := by
  refine F.ok scFracs (fun vs H Q E h => ?_) (fun cdv A outer s H vs Q E hr h => ?_)
  · obtain ⟨a, ns, q, rfl, _⟩ := h
    rfl
  · obtain ⟨a, ns, b, rfl, hS, h0, a1, a2, hl, k⟩ := h
    refine ⟨_, pss_cons (ps_set (i := 2) scFracs.nd rfl (Or.inl rfl) (pe_lst pa_nil))
      (pss_cons (ps_for PassesOwn.never rfl (pi_list (pv 0)) (pg_name (i := 3) scFracs.nd rfl (Or.inl rfl))
        (pss_one (ps_expr (pe_bm PySem.F.plainAttrs_list PySem.F.slot_list_extend PySem.F.type_list_extend mt_extend (pv 2) (pa_cons (pe_def D2 hr (by decide) rfl (pa_cons (pv 3) (pa_cons (pv 1) pa_nil))) pa_nil)))))
      (pss_one (ps_ret (pv 2)))), ?_⟩
    refine ⟨Nat.zero_le _, fun r hr0 => ?_⟩
    have s1 : Same H (upd H r (.lst [])) := same_new hr0
    refine ⟨_, rfl, a, rfl, ⟨_, s1.seq hS⟩, for_list (K := K) (a := a) (xs := ns.map V.int) (fun i σ H' => Same H H' ∧ H' r = some (.lst ((fracs b (ns.take i)).map V.int)) ∧ ∃ v, σ = [some (.ref a), some (.int (b : Int)), some (.ref r), v])
      ⟨s1, upd_same, none, rfl⟩ (fun i σ H' _ ⟨s, _⟩ => s.seq hS) ?_ ?_⟩
    · rintro i y σ H' hy ⟨s3, h4, v, rfl⟩
      obtain ⟨z, hz, rfl⟩ := get_ints hy
      have hi' : i < ns.length := (List.getElem?_eq_some_iff.mp hz).1
      refine ⟨_, rfl, .inl ⟨rfl, _, SqL.of h4⟩, _, rfl, _, rfl, z, b, rfl, h0 z (List.mem_of_getElem? hz), a1, by omega, fun u hu => ?_⟩
      have s4 : Same H' (upd H' u (.lst [.int (red z b).1, .int ((red z b).2 : Int)])) := same_new hu
      refine ⟨r, u, _, _, rfl, rfl, s4 _ _ h4, upd_same, ?_, ?_⟩
      · rw [List.length_map, fracs_len, List.length_take]
        exact Nat.le_trans (show 2 * min i ns.length + 2 ≤ 3000 by omega) (by decide)
      · refine ⟨fun b' o e => ?_, ?_, some (.int z), rfl⟩
        · rw [upd_ne (ne_of_none e hr0)]
          exact s4 _ _ (s3 b' o e)
        · rw [upd_same, take_snoc hz, fracs_snoc, List.map_append]
          rfl
    · rintro σ H' ⟨s3, h4, v, rfl⟩
      refine ⟨_, rfl, ?_⟩
      rw [List.length_map, List.take_length] at h4
      exact k H' r s3 hr0 h4
theorem scWay : FnScope ["line", "numbers", "p", "q", "k"] ["line", "numbers"] (defScope sWay) := ⟨rfl, rfl, rfl, by decide +kernel, rfl, by decide +kernel, by decide +kernel⟩
theorem itns_get {g : Abs} (wf : WF g) {b : Nat} (a1 : 0 < b) {p : Int} (a3 : On g b p) (m : Nat) : ∀ z ∈ (List.range m).map (fun j => itn g b j p), 0 ≤ z := fun z hz => by
  obtain ⟨j, _, rfl⟩ := List.mem_map.mp hz
  exact (itn_on wf a1 a3 j).1
theorem ok_way {f : Addr} {fd : FuncData} (F : Fun K "way" "way" sWay f fd) (T : Txt K mg C) (D1 : Def P w K mg base 2 "is_place" (spIsPlace C)) (D2 : Def P w K mg base 2 "as_fractions" (spFracs K)) (D3 : Def P w K mg base 2 "places_from" (spPlaces K)) : FnOk P w K mg base CX0 3 f fd ["line", "numbers"] (spMk K C 4) := by
  refine F.ok scWay (fun vs H Q E h => ?_) (fun cdv A outer s H vs Q E hr h => ?_)
  · obtain ⟨x, l, a, s, ns, rfl, _⟩ := h
    rfl
  · obtain ⟨x, l, a, s, ns, rfl, L, hS, ok, hi, as, k⟩ := h
    obtain ⟨p, q, n, rfl, hp, hq, hn⟩ := asked_three as
    obtain ⟨g, rfl, wf⟩ := some_of (by decide) hi ok
    refine ⟨_, pss_cons (ps_set (i := 2) scWay.nd rfl (Or.inl rfl) (pe_ix ix_list (pv 1) pe_int (fun _ _ => rfl)))
      (pss_cons (ps_set (i := 3) scWay.nd rfl (Or.inl rfl) (pe_ix ix_list (pv 1) pe_int (fun _ _ => rfl)))
      (pss_cons (ps_set (i := 4) scWay.nd rfl (Or.inl rfl) (pe_ix ix_list (pv 1) pe_int (fun _ _ => rfl)))
      (pss_cons (ps_if (PW.pt (pw_or (pt_not (pt_val (pe_def D1 hr (by decide) rfl (pa_cons (pv 0) (pa_cons (pv 2) (pa_cons (pv 3) pa_nil)))))) (pw_or (pt_cmpR op_lt (pv 4) pe_int (nomark _)) (pw_or1 (pt_cmpR op_gt (pv 4) (pe_k rfl T.places) (nomark _)))))) (pss_one (ps_ret (pe_lst (pa_cons (pe_k rfl T.c22) pa_nil)))) pss_nil)
      (pss_one (ps_ret (pe_op op_cat (pe_lst (pa_cons (pv 4) pa_nil)) (pe_def D2 hr (by decide) rfl (pa_cons (pe_def D3 hr (by decide) rfl (pa_cons (pe_fld (pv 0) rfl) (pa_cons (pv 2) (pa_cons (pv 3) (pa_cons (pv 4) pa_nil))))) (pa_cons (pv 3) pa_nil))))))))), ?_⟩
    obtain ⟨dx, ll, kvs, h1, h2, h3, h4⟩ := L.opens
    refine ⟨_, rfl, a, _, _, _, rfl, rfl, hS, at0, _, rfl, a, _, _, _, rfl, rfl, hS, at1, _, rfl, a, _, _, _, rfl, rfl, hS, at2, _, rfl, _, rfl, _, rfl, x, l, g, p, q, rfl, L, wf, hp.1, hq.1, _, rfl, ?_⟩
    have bad : (g.okPlace p.toNat q.toNat = false ∨ n < 1 ∨ 20 < n) → ∀ r, H r = none → Q (.ref r) (upd H r (.lst [.int (-22)])) := fun hb r hr0 => still k L (way_no hb) (same_new hr0) hr0 upd_same
    cases c : g.okPlace p.toNat q.toNat with
    | false => exact ifT rfl ⟨by decide, fun r hr0 => bad (.inl c) r hr0⟩
    | true =>
      refine ifF rfl ?_
      refine ⟨_, rfl, _, _, rfl, rfl, _, rfl, ?_⟩
      by_cases c1 : n < 1
      · exact ifT (decide_eq_true c1) ⟨by decide, fun r hr0 => bad (.inr (.inl c1)) r hr0⟩
      · refine ifF (decide_eq_false c1) ?_
        refine ⟨_, rfl, _, _, rfl, rfl, _, rfl, ?_⟩
        by_cases c2 : 20 < n
        · exact ifT (decide_eq_true c2) ⟨by decide, fun r hr0 => bad (.inr (.inr c2)) r hr0⟩
        · refine ifF (decide_eq_false c2) ?_
          obtain ⟨a1, a2, a3⟩ := okPlace_on hp.1 hq.1 c
          have q0 := hq.1
          obtain ⟨b, rfl⟩ : ∃ n : Nat, q = (n : Int) := ⟨q.toNat, by omega⟩
          obtain ⟨m, rfl⟩ : ∃ m : Nat, n = (m : Int) := ⟨n.toNat, by omega⟩
          refine ⟨_, rfl, (by show 1 ≤ sizeLine; decide), fun r hr0 => ?_⟩
          have s1 : Same H (upd H r (.lst [.int (m : Int)])) := same_new hr0
          refine ⟨_, rfl, x, C, dx, _, _, rfl, s1 _ _ h1, T.cl, T.nP, pF_lk ll l, _, rfl, _, rfl, _, rfl, ll, g, p, b, m, rfl, SqL.of (s1 _ _ h2), wf, a1, by omega, a3, by omega, fun H2 t s2 ht hl => ?_⟩
          have hl' : H2 t = some (.lst (((List.range m).map fun j => itn g b j p).map V.int)) := by
            rw [List.map_map]
            exact hl
          refine ⟨_, rfl, t, (List.range m).map fun j => itn g b j p, b, rfl, SqL.of hl', itns_get wf a1 a3 m, a1, by omega, (by rw [List.length_map, List.length_range]; omega), fun H3 u s3 hu hf => ?_⟩
          have s4 := (s1.trans s2).trans s3
          refine ⟨r, u, _, _, rfl, rfl, s3 _ _ (s2 _ _ upd_same), hf, ?_, fun v hv => ?_⟩
          · rw [List.length_map, fracs_len, List.length_map, List.length_range]
            exact Nat.le_trans (show 1 + 2 * m ≤ 100 by omega) (by decide)
          · exact still k L (way_ok wf hp.1 q0 c (by omega) (by omega)) (s4.trans (same_new hv)) (s4.free hv) upd_same
end
end Fl

namespace Fl
open PySem PySem.Spec PyProof.Rows L2
open Su183 (Abs red does)
open Su183Neutral (asked1)
/-- how many numbers each call has, in the program's own table -/
def counts : List Int := [1, 2, 0, 2, 3, 2, 2, 1, 0, 1, 2, 2, 2, 1, 0, 0]
theorem counts_cnt {p : Int} (h2 : p ≠ 2) (h0 : 0 ≤ p) (h : p ≤ 15) : counts[p.toNat]? = some (cnt p : Int) := by
  have : p = 0 ∨ p = 1 ∨ p = 3 ∨ p = 4 ∨ p = 5 ∨ p = 6 ∨ p = 7 ∨ p = 8 ∨ p = 9 ∨ p = 10 ∨ p = 11 ∨ p = 12 ∨ p = 13 ∨ p = 14 ∨ p = 15 := by omega
  rcases this with rfl | rfl | rfl | rfl | rfl | rfl | rfl | rfl | rfl | rfl | rfl | rfl | rfl | rfl | rfl <;> rfl
theorem counts_get {p : Int} (h0 : 0 ≤ p) (h : p ≤ 15) : ∃ c : Int, (counts.map V.int)[p.toNat]? = some (.int c) ∧ (p ≠ 2 → c = (cnt p : Int)) := by
  by_cases h2 : p = 2
  · subst h2
    exact ⟨0, rfl, fun z => absurd rfl z⟩
  · refine ⟨cnt p, ?_, fun _ => rfl⟩
    rw [List.getElem?_map, counts_cnt h2 h0 h]
    rfl
/-- the program's own tables -/
structure Tabs (K : PySem.W.Frag) (mg : Str → Option Value) (fs : List Addr) : Prop where
  makers : ∃ m, mg "MAKERS" = some (.ref m) ∧ ∀ H, SqT K H m (fs.map V.ref)
  counts : ∃ m, mg "COUNTS" = some (.ref m) ∧ ∀ H, SqT K H m (counts.map V.int)
def spMake (K : PySem.W.Frag) (C : Addr) : Sp := fun vs H Q _ => ∃ (x d a : Addr) (s : Option Abs) (p : Int) (ns : List Int), vs = [.ref x, .int p, .ref a] ∧ LineAt C H x d s ∧ SqL K H a (ns.map V.int) ∧ OkS s ∧ 0 ≤ p ∧ p ≤ 15 ∧ asked1 (p :: ns) = true ∧ Wish C H x d s (p :: ns) Q
/-- each call's own def keeps its promise -/
def AllMk (P : Program) (w : World) (K : PySem.W.Frag) (mg : Str → Option Value) (base : Heap) (C : Addr) (k : Nat) (fs : List Addr) : Prop := fs.length = 16 ∧ ∀ (i : Nat) (f : Addr), fs[i]? = some f → HeldX P w K mg base k f (spMk K C i)
section
variable {P : Program} {w : World} {K : PySem.W.Frag} {mg : Str → Option Value} {base : Heap} {C : Addr}
theorem scMake : FnScope ["line", "call", "numbers"] ["line", "call", "numbers"] (defScope sMake) := ⟨rfl, rfl, rfl, by decide +kernel, rfl, by decide +kernel, by decide +kernel⟩
theorem ok_make {f : Addr} {fd : FuncData} {k : Nat} {fs : List Addr} (F : Fun K "make" "make" sMake f fd) (T : Txt K mg C) (B : Tabs K mg fs) (M : AllMk P w K mg base C k fs) : FnOk P w K mg base CX0 (k + 1) f fd ["line", "call", "numbers"] (spMake K C) := by
  refine F.ok scMake (fun vs H Q E h => ?_) (fun cdv A outer s H vs Q E hr h => ?_)
  · obtain ⟨x, l, a, s, p, ns, rfl, _⟩ := h
    rfl
  · obtain ⟨x, l, a, s, p, ns, rfl, L, hS, ok, p0, p15, as, kk⟩ := h
    obtain ⟨m, hm, hT⟩ := B.makers
    refine ⟨_, pss_cons (ps_if (PW.pt (pw_and (pt_cmpR op_ne (pv 1) (pe_k rfl T.bgn) (nomark _)) (pw_and1 (pt_cmpR op_eq (pe_callB call_len_seq (by rfl) T.len PySem.boot_len (pa_cons (pe_fld (pv 0) rfl) pa_nil)) pe_int (nomark _))))) (pss_one (ps_ret (pe_lst (pa_cons (pe_k rfl T.c11) pa_nil)))) pss_nil)
      (pss_one (ps_ret (pe_callX (S := fun f sp => ∃ i : Nat, fs[i]? = some f ∧ sp = spMk K C i) (fun f sp ⟨i, h1, h2⟩ => by rw [h2]; exact M.2 i f h1) hr (pe_ix ix_tup (pe_k (v := .ref m) rfl ⟨_, hm, rfl⟩) (pv 1) (fun _ _ => rfl)) (pa_cons (pv 0) (pa_cons (pv 2) pa_nil))))), ?_⟩
    obtain ⟨dx, ll, kvs, h1, h2, h3, h4⟩ := id L
    obtain ⟨i, rfl⟩ : ∃ i : Nat, p = (i : Int) := ⟨p.toNat, by omega⟩
    have go : ((i : Int) = 0 ∨ s ≠ none) → tRet (tCallX (fun f sp => ∃ i : Nat, fs[i]? = some f ∧ sp = spMk K C i) (tOp (rIxT K) (tC (.ref m)) (tVar 1)) (tCons (tVar 0) (tCons (tVar 2) tNil))) { nx := fun _ H' => Q .non H', rt := Q } (L2.start ["line", "call", "numbers"] [.ref x, .int (i : Int), .ref a]) H := fun hb => by
      obtain ⟨f', hf'⟩ : ∃ f', fs[i]? = some f' := ⟨_, List.getElem?_eq_getElem (show i < fs.length by rw [M.1]; omega)⟩
      refine ⟨_, rfl, m, _, _, .ref f', rfl, rfl, hT H, atI_nat (by rw [List.getElem?_map, hf']; rfl), f', _, rfl, ⟨i, hf', rfl⟩, _, rfl, _, rfl, ?_⟩
      exact ⟨x, l, a, s, ns, rfl, L, hS, ok, hb, as, kk⟩
    refine ⟨_, rfl, rfl, _, rfl, ?_⟩
    by_cases c : (i : Int) = 0
    · refine ifF ?_ ?_
      · show (!decide (V.int (i : Int) = V.int 0)) = false
        rw [c]
        rfl
      · exact go (.inl c)
    · refine ifT ?_ ?_
      · show (!decide (V.int (i : Int) = V.int 0)) = true
        rw [Bool.not_eq_true', decide_eq_false_iff_not]
        exact fun z => c (V.int.inj z)
      · refine ⟨_, rfl, x, C, dx, _, _, rfl, h1, T.cl, T.nP, pF_lk ll l, ll, _, rfl, .inl (SqL.of h2), rfl, _, rfl, ?_⟩
        cases s with
        | none =>
          refine ifT rfl ⟨by decide, fun r hr0 => still kk L (step_none c as) (same_new hr0) hr0 upd_same⟩
        | some g =>
          refine ifF ?_ (go (.inr (by intro z; cases z)))
          show decide (V.int ((gs g).length : Int) = V.int 0) = false
          rw [decide_eq_false_iff_not, gs_len ok]
          intro z
          have := V.int.inj z
          omega
end
end Fl

namespace Fl
open PySem PySem.Spec PyProof.Rows L2
open Su183 (Abs red does)
open Su183Neutral (asked1)
theorem okS_step {s : Option Abs} {p : Int} {ns : List Int} (ok : OkS s) (as : asked1 (p :: ns) = true) : OkS (Su183Neutral.step s (p :: ns)).1 := by
  by_cases h0 : p = 0
  · subst h0
    obtain ⟨n, rfl, hn⟩ := asked_one (.inl rfl) as
    by_cases c : n < 1 ∨ 6 < n
    · rw [begin_bad hn c]
      exact ok
    · rw [begin_ok (by omega) (by omega)]
      exact wf_new (by omega) (by omega)
  · cases s with
    | none =>
      rw [step_none h0 as]
      trivial
    | some g =>
      have wf : WF g := ok
      cases hc : Su183Neutral.callOf (p :: ns) with
      | none =>
        unfold Su183Neutral.step
        rw [hc]
        exact ok
      | some x =>
        rw [step_some hc]
        show WF (does g x).1
        cases x with
        | begin_ n =>
          unfold does
          dsimp only
          split
          · exact wf
          · rename_i h
            unfold Su183.PIECES at h
            exact wf_new (by omega) (by omega)
        | set i v =>
          unfold does
          dsimp only
          split
          · exact wf
          · split
            · exact wf
            · exact wf_set wf (by omega)
        | row l =>
          unfold does
          dsimp only
          split
          · exact wf
          · rename_i h
            refine wf_to wf ?_ fun v hv => ?_
            · refine Classical.byContradiction fun z => h (.inl z)
            · refine Classical.byContradiction fun z => h (.inr ?_)
              rw [List.any_eq_true]
              exact ⟨v, hv, decide_eq_true (by omega)⟩
        | put p q => unfold does; dsimp only; split <;> exact wf
        | way p q k => unfold does; dsimp only; split <;> exact wf
        | comes p q => unfold does; dsimp only; split <;> exact wf
        | covers i j => unfold does; dsimp only; split <;> exact wf
        | has k => unfold does; dsimp only; split <;> exact wf
        | which => exact wf
        | rounds k =>
          unfold does
          dsimp only
          split
          · exact wf
          · split <;> exact wf
        | round k j =>
          unfold does
          dsimp only
          split
          · exact wf
          · split
            · exact wf
            · split <;> exact wf
        | type k j =>
          unfold does
          dsimp only
          split
          · exact wf
          · split
            · exact wf
            · split <;> exact wf
        | brings k l => unfold does; dsimp only; split <;> exact wf
        | slope i => unfold does; dsimp only; split <;> exact wf
        | turn => exact wf_turned wf
        | state => exact wf
theorem cut_ints {ns : List Int} {i c : Nat} (h : i + c ≤ ns.length) : cutV (ns.map V.int) (some (i : Int)) (some ((i : Int) + (c : Int))) = ((ns.drop i).take c).map V.int := by
  unfold cutV
  have e : (i : Int) + (c : Int) = ((i + c : Nat) : Int) := by omega
  rw [e, HT.sIx_nat, HT.sIx_nat, List.length_map, List.map_take, List.map_drop]
  have e1 : min i ns.length = i := by omega
  have e2 : min (i + c) ns.length = i + c := by omega
  rw [e1, e2]
  congr 1
  omega
def spAns (K : PySem.W.Frag) : Sp := fun vs H Q _ => ∃ (a : Addr) (ns : List Int), vs = [.ref a] ∧ SqL K H a (ns.map V.int) ∧ ns.length ≤ 4800 ∧ PySu183.answers_asked ns = true ∧
  ∀ (H' : Hp) (p : Addr), H' p = some (.lst ((PySu183.answers ns).map V.int)) → Q (.ref p) H'
/-- ahead of each call -/
structure At (ns : List Int) (i : Nat) (s : Option Abs) (out : List Int) : Prop where
  le : i ≤ ns.length
  ok : OkS s
  ex : ∃ (f : Nat) (cs : List (List (List Int))), PyFlat.calls PySu183.shape f (ns.drop i) = some cs ∧ (∀ c ∈ cs, asked1 ((PySu183.whole c).headD []) = true) ∧ out ++ rest s cs = PySu183.answers ns
theorem at_start {ns : List Int} (h : PySu183.answers_asked ns = true) : At ns 0 none [] ∧ (PySu183.answers ns).length ≤ 10000000 := by
  obtain ⟨cs, h1, h2, h3⟩ := asked_of h
  have e := answers_rest h1
  refine ⟨⟨Nat.zero_le _, trivial, ns.length, cs, h1, h2, ?_⟩, by rw [e]; exact h3⟩
  rw [e]
  rfl
theorem at_end {ns : List Int} {s : Option Abs} {out : List Int} (A : At ns ns.length s out) : out = PySu183.answers ns := by
  obtain ⟨f, cs, h1, h2, h3⟩ := A.ex
  rw [List.drop_length] at h1
  rw [calls_nil f h1, rest_nil, List.append_nil] at h3
  exact h3
/-- one call: read off, answered -/
theorem at_step {ns : List Int} {i : Nat} {s : Option Abs} {out : List Int} (A : At ns i s out) (hi : i < ns.length) :
    ∃ (p : Int) (a : List Int) (first c : Nat), ns[i]? = some p ∧ 0 ≤ p ∧ p ≤ 15 ∧ asked1 (p :: a) = true ∧ first + c ≤ ns.length ∧ i < first ∧ (ns.drop first).take c = a ∧
      (p = 2 → first = i + 2 ∧ ns[i + 1]? = some (c : Int)) ∧ (p ≠ 2 → first = i + 1 ∧ c = cnt p) ∧
      At ns (first + c) (Su183Neutral.step s (p :: a)).1 (out ++ (((Su183Neutral.step s (p :: a)).2.length : Int) :: (Su183Neutral.step s (p :: a)).2)) := by
  obtain ⟨f, cs, h1, h2, h3⟩ := A.ex
  have ed : ns.drop i = ns[i] :: ns.drop (i + 1) := List.drop_eq_getElem_cons hi
  rw [ed] at h1
  cases f with
  | zero => unfold PyFlat.calls at h1; cases h1
  | succ f =>
    obtain ⟨c, a, rs, cs', rfl, R, hw, hc⟩ := calls_step h1
    have as : asked1 (ns[i] :: a) = true := by
      rw [← hw]
      exact h2 c (by simp)
    have hfin : (out ++ (((Su183Neutral.step s (ns[i] :: a)).2.length : Int) :: (Su183Neutral.step s (ns[i] :: a)).2)) ++ rest (Su183Neutral.step s (ns[i] :: a)).1 cs' = PySu183.answers ns := by
      rw [← h3, rest_cons s c cs' hw, List.append_assoc]
    have hok := okS_step A.ok as
    have hget : ns[i]? = some ns[i] := List.getElem?_eq_getElem hi
    generalize ns[i] = p at *
    generalize hr : ns.drop (i + 1) = r at *
    cases R with
    | row h0 hl =>
      rename_i m r
      have hlen : (ns.drop (i + 1)).length = r.length + 1 := by rw [hr]; rfl
      rw [List.length_drop] at hlen
      have e2 : ns.drop (i + 2) = r := by
        have : ns.drop (i + 2) = (ns.drop (i + 1)).drop 1 := by rw [List.drop_drop]
        rw [this, hr]
        rfl
      have em : ns[i + 1]? = some m := by
        have : (ns.drop (i + 1))[0]? = some m := by rw [hr]; rfl
        rw [List.getElem?_drop] at this
        exact this
      have hcm : (m.toNat : Int) = m := by omega
      refine ⟨2, _, i + 2, m.toNat, hget, by decide, by decide, as, by omega, by omega, by rw [e2], fun _ => ⟨rfl, by rw [hcm]; exact em⟩, fun z => absurd rfl z, ⟨by omega, hok, f, cs', ?_, fun c hc => h2 c (by simp [hc]), hfin⟩⟩
      rw [← List.drop_drop, e2]
      exact hc
    | plain hp2 hp0 hp hl =>
      have hlen : (ns.drop (i + 1)).length = r.length := by rw [hr]
      rw [List.length_drop] at hlen
      refine ⟨p, _, i + 1, cnt p, hget, hp0, hp, as, by omega, by omega, by rw [hr], fun z => absurd z hp2, fun _ => ⟨rfl, rfl⟩, ⟨by omega, hok, f, cs', ?_, fun c hc => h2 c (by simp [hc]), hfin⟩⟩
      rw [← List.drop_drop, hr]
      exact hc
theorem at_bound {ns : List Int} {i : Nat} {s : Option Abs} {out : List Int} (A : At ns i s out) (h : (PySu183.answers ns).length ≤ 10000000) : out.length ≤ 10000000 := by
  obtain ⟨f, cs, h1, h2, h3⟩ := A.ex
  rw [← h3, List.length_append] at h
  omega
section
variable {P : Program} {w : World} {K : PySem.W.Frag} {mg : Str → Option Value} {base : Heap} {C : Addr}
theorem scAns : FnScope ["calls", "line", "told", "at", "call", "first", "count", "answer"] ["calls"] (defScope sAns) := ⟨rfl, rfl, rfl, by decide +kernel, rfl, by decide +kernel, by decide +kernel⟩
theorem ok_ans {f fI : Addr} {fd fdI : FuncData} {k : Nat} {fs : List Addr} (hk : 1 ≤ k) (F : Fun K "answers" "answers" sAns f fd) (T : Txt K mg C) (B : Tabs K mg fs) (M : Mk K C fI) (GI : FnOk P w K mg base CX0 1 fI fdI ["self"] (spInit C)) (bI : Binds K fdI ["self"] [])
    (D : Def P w K mg base (k + 1) "make" (spMake K C)) : FnOk P w K mg base CX0 (k + 2) f fd ["calls"] (spAns K) := by
  refine F.ok scAns (fun vs H Q E h => ?_) (fun cdv A outer s H vs Q E hr h => ?_)
  · obtain ⟨a, ns, rfl, _⟩ := h
    rfl
  · obtain ⟨a, ns, rfl, hS, hlen, as, kk⟩ := h
    obtain ⟨mc, hmc, hTc⟩ := B.counts
    have hr2 : Room 2 _ := hr.mono (by omega)
    refine ⟨_, pss_cons (ps_set (i := 1) scAns.nd rfl (Or.inl rfl) (pe_make0 M GI hr2 rfl T.gC bI .nil pass0))
      (pss_cons (ps_set (i := 2) scAns.nd rfl (Or.inl rfl) (pe_lst pa_nil))
      (pss_cons (ps_set (i := 3) scAns.nd rfl (Or.inl rfl) pe_int)
      (pss_cons (ps_while PassesOwn.never (pt_cmpR op_lt (pv 3) (pe_callB call_len_seq (by rfl) T.len PySem.boot_len (pa_cons (pv 0) pa_nil)) (nomark _))
        (pss_cons (ps_set (i := 4) scAns.nd rfl (Or.inl rfl) (pe_ix ix_list (pv 0) (pv 3) (fun _ _ => rfl)))
        (pss_cons (ps_set (i := 5) scAns.nd rfl (Or.inl rfl) (pe_op (opZ0 op_add) (pv 3) pe_int))
        (pss_cons (ps_set (i := 6) scAns.nd rfl (Or.inl rfl) (pe_ix ix_tup (pe_k (v := .ref mc) rfl ⟨_, hmc, rfl⟩) (pv 4) (fun _ _ => rfl)))
        (C8.pss_cut (ps_if (pt_cmpR op_eq (pv 4) (pe_k rfl T.row) (nomark _))
            (pss_cons (ps_set (i := 6) scAns.nd rfl (Or.inl rfl) (pe_ix ix_list (pv 0) (pv 5) (fun _ _ => rfl)))
            (pss_one (ps_set (i := 5) scAns.nd rfl (Or.inl rfl) (pe_op (opZ0 op_add) (pv 5) pe_int)))) pss_nil)
        (pss_cons (ps_set (i := 7) scAns.nd rfl (Or.inl rfl) (pe_def D hr (Nat.le_refl _) rfl (pa_cons (pv 1) (pa_cons (pv 4) (pa_cons (pe_slice sl_list (pv 0) (po_some (pv 5)) (po_some (pe_op op_add (pv 5) (pv 6)))) pa_nil)))))
        (pss_cons (ps_expr (pe_bm PySem.F.plainAttrs_list PySem.F.slot_list_append PySem.F.type_list_append mt_append (pv 2) (pa_cons (pe_callB call_len_seq (by rfl) T.len PySem.boot_len (pa_cons (pv 7) pa_nil)) pa_nil)))
        (pss_cons (ps_expr (pe_bm PySem.F.plainAttrs_list PySem.F.slot_list_extend PySem.F.type_list_extend mt_extend (pv 2) (pa_cons (pv 7) pa_nil)))
        (pss_one (ps_set (i := 3) scAns.nd rfl (Or.inl rfl) (pe_op (opZ0 op_add) (pv 5) (pv 6))))))))))))
      (pss_one (ps_ret (pv 2)))))), ?_⟩
    obtain ⟨A0, hbig⟩ := at_start as
    -- line = Line(); told = []; at = 0
    intro x dx nx ndx nex
    refine ⟨x, dx, rfl, upd_same, fun H1 l0 L0 ow0 nl0 kp => ⟨rfl, ?_⟩⟩
    have s0 : Same H (upd (upd H dx (.own x)) x (.ins C dx [])) := fun b o e => by
      rw [upd_ne (ne_of_none e nx), upd_ne (ne_of_none e ndx)]
      exact e
    have s1 : Same H H1 := fun b o e => kp b o (s0 b o e) (ne_of_none e nx)
    have nl0' : H l0 = none := s0.free nl0
    refine ⟨Nat.zero_le _, fun t ht => ?_⟩
    have s2 : Same H1 (upd H1 t (.lst [])) := same_new ht
    have nt : H t = none := s1.free ht
    refine while_by (fun σ H' => ∃ (i : Nat) (s : Option Abs) (out : List Int) (l : Addr) (v4 v5 v6 v7 : Option V), At ns i s out ∧ Same H H' ∧ LineAt C H' x l s ∧ ¬ Own H' x t ∧ H l = none ∧ t ≠ l ∧ H' t = some (.lst (out.map V.int)) ∧ σ = [some (.ref a), some (.ref x), some (.ref t), some (.int (i : Int)), v4, v5, v6, v7])
      (fun σ _ => match σ with | [_, _, _, some (.int i), _, _, _, _] => ns.length - i.toNat | _ => 0)
      ⟨0, none, [], l0, none, none, none, none, A0, s1.trans s2, L0.same s2, fun o => own_held L0 (own_same L0 s2 o) ht, nl0', fun z => (by obtain ⟨kvs, hk⟩ := L0.dict; rw [z, hk] at ht; cases ht), upd_same, rfl⟩ ?_ ?_
    · rintro σ H2 ⟨i, s, out, l, v4, v5, v6, v7, A1, s3, L, nown, nl, ntl, hout, rfl⟩
      have hS2 : SqL K H2 a (ns.map V.int) := s3.seq hS
      refine ⟨_, rfl, _, rfl, a, _, rfl, .inl hS2, _, _, rfl, rfl, _, rfl, ?_⟩
      by_cases c : i < ns.length
      · refine ifT (by rw [List.length_map]; exact decide_eq_true (by omega)) ?_
        obtain ⟨p, arg, first, cn, hp, p0, p15, asp, hfc, hif, harg, hrow, hplain, A2⟩ := at_step A1 c
        obtain ⟨cc, hcc, hcn⟩ := counts_get p0 p15
        refine ⟨_, rfl, _, rfl, a, _, _, .int p, rfl, rfl, hS2, atI_nat (by rw [List.getElem?_map, hp]; rfl), ?_⟩
        refine ⟨_, rfl, _, _, .int ((i + 1 : Nat) : Int), rfl, rfl, rfl, ?_⟩
        refine ⟨_, rfl, mc, _, _, .int cc, rfl, rfl, hTc H2, at_of (j := p.toNat) (by omega) hcc, ?_⟩
        -- behind the if both ways alike
        refine ⟨fun σ' H' => H' = H2 ∧ σ' = [some (.ref a), some (.ref x), some (.ref t), some (.int (i : Int)), some (.int p), some (.int (first : Int)), some (.int (cn : Int)), v7], ?_, ?_⟩
        · refine ⟨_, rfl, rfl, _, rfl, ?_⟩
          by_cases c2 : p = 2
          · obtain ⟨hf, hm⟩ := hrow c2
            refine ifT (by rw [c2]; rfl) ?_
            refine ⟨_, rfl, _, rfl, a, _, _, .int (cn : Int), rfl, rfl, hS2, atI_nat (j := i + 1) (by rw [List.getElem?_map, hm]; rfl), ?_⟩
            refine ⟨_, rfl, _, _, .int (first : Int), rfl, rfl, ?_, rfl, rfl⟩
            show V.int _ = V.int _
            congr 1
            omega
          · obtain ⟨hf, hc⟩ := hplain c2
            refine ifF ?_ ⟨rfl, ?_⟩
            · show decide (V.int p = V.int 2) = false
              rw [decide_eq_false_iff_not]
              exact fun z => c2 (V.int.inj z)
            · rw [hf, hc, ← hcn c2]
              rfl
        rintro σ H' ⟨eH, rfl⟩
        subst H'
        refine ⟨_, rfl, _, rfl, _, rfl, _, rfl, _, rfl, _, rfl, _, rfl, _, _, rfl, rfl, _, rfl, a, _, rfl, hS2, fun b nb => ?_⟩
        rw [cut_ints hfc, harg]
        have s4 : Same H2 (upd H2 b (.lst (arg.map V.int))) := same_new nb
        refine ⟨x, l, b, s, p, arg, rfl, L.same s4, SqL.of upd_same, A1.ok, p0, p15, asp, fun H3 r l' L3 ow3 hl' nr hr3 kp3 => ?_⟩
        obtain ⟨dy, fs, hx⟩ := L.inst
        have ntx : t ≠ x := ne_of hout hx (by intro q; cases q)
        have hout3 : H3 t = some (.lst (out.map V.int)) := kp3 t _ (s4 _ _ hout) ntx ntl
        have ntr : t ≠ r := ne_of_none (s4 _ _ hout) nr
        have s5 : Same H H3 := fun b' o e => kp3 b' o (s4 _ _ (s3 b' o e)) (ne_of_none e nx) (ne_of_none e nl)
        have nl' : H l' = none := by
          rcases hl' with z | z
          · rw [z]; exact nl
          · exact s3.free (s4.free z)
        have ntl' : t ≠ l' := by
          rcases hl' with z | z
          · rw [z]; exact ntl
          · exact ne_of_none (s4 _ _ hout) z
        have hb2 := at_bound A2 hbig
        rw [List.length_append, List.length_cons] at hb2
        have hsz : (10000000 : Nat) < sizeLine := by decide
        have nown3 : ¬ Own H3 x t := fun o => by
          rcases ow3 t o with o | o
          · exact nown (own_same L s4 o)
          · rw [s4 _ _ hout] at o
            cases o
        generalize (Su183Neutral.step s (p :: arg)).2 = ans at *
        generalize (Su183Neutral.step s (p :: arg)).1 = s' at *
        obtain ⟨L4, no4⟩ := L3.put (o := .lst (out.map V.int ++ [.int ((ans.map V.int).length : Int)])) ntx ntl' nown3
        obtain ⟨L5, no5⟩ := L4.put (o := .lst (out.map V.int ++ [.int ((ans.map V.int).length : Int)] ++ ans.map V.int)) ntx ntl' no4
        refine ⟨_, rfl, .inl ⟨rfl, _, SqL.of hout3⟩, _, rfl, r, _, rfl, .inl (SqL.of hr3), t, _, _, rfl, rfl, hout3, (by rw [List.length_map]; omega), ?_⟩
        refine ⟨_, rfl, .inl ⟨rfl, _, SqL.of upd_same⟩, _, rfl, t, r, _, _, rfl, rfl, upd_same, (by rw [upd_ne ntr.symm]; exact hr3), (by rw [List.length_append, List.length_map, List.length_map]; show out.length + 1 + ans.length ≤ sizeLine; omega), ?_⟩
        refine ⟨_, rfl, _, rfl, _, _, .int ((first + cn : Nat) : Int), rfl, rfl, ?_, ?_⟩
        · show V.int _ = V.int _
          congr 1
        · refine ⟨⟨first + cn, s', out ++ ((ans.length : Int) :: ans), l', _, _, _, _, A2, fun b' o e => ?_, L5, no5, nl', ntl', ?_, rfl⟩, ?_⟩
          · rw [upd_ne (ne_of_none e nt), upd_ne (ne_of_none e nt)]
            exact s5 b' o e
          · rw [upd_same, List.map_append, List.map_cons, List.length_map, List.append_assoc]
            rfl
          · show ns.length - ((first + cn : Nat) : Int).toNat < ns.length - (i : Int).toNat
            omega
      · refine ifF (by rw [List.length_map]; exact decide_eq_false (by omega)) ?_
        have : i = ns.length := by
          have := A1.le
          omega
        subst this
        have e := at_end A1
        rw [e] at hout
        exact ⟨_, rfl, kk H2 t hout⟩
    · intro σ H1' Q1 Q2 m z
      obtain ⟨v, h1, v2, h2, p, xs, e1, h3, i, j, h4, h5, b, h6, h7⟩ := z
      exact ⟨v, h1, v2, h2, p, xs, e1, h3, i, j, h4, h5, b, h6, m _ _ h7⟩
end
end Fl

namespace Fl
open PySem PySem.Spec PyProof.Rows L2
open Su183 (Abs red does)
open Su183Neutral (asked1)
/-- numbers as the program keeps them -/
def nl (l : List Nat) : List V := l.map fun (v : Nat) => V.int (v : Int)
theorem nl_get {l : List Nat} {i : Nat} {y : V} (h : (nl l)[i]? = some y) : ∃ z, l[i]? = some z ∧ y = V.int (z : Int) := by
  unfold nl at h
  rw [List.getElem?_map] at h
  cases e : l[i]? with
  | none => rw [e] at h; cases h
  | some z => rw [e] at h; exact ⟨z, rfl, (Option.some.inj h).symm⟩
theorem nl_len (l : List Nat) : (nl l).length = l.length := by
  unfold nl
  rw [List.length_map]
theorem rg_nl (n : Nat) : rgV 0 (n : Int) = nl (List.range n) := by
  unfold rgV nl
  have : ((n : Int) - 0).toNat = n := by omega
  rw [this]
  refine List.map_congr_left fun i _ => ?_
  congr 1
  omega
theorem nl_snoc (u : List Nat) (i : Nat) : nl (u ++ [i]) = nl u ++ [.int (i : Int)] := by
  unfold nl
  rw [List.map_append]
  rfl
theorem cut_from (l : List Nat) (s : Nat) : cutV (nl l) (some (s : Int)) none = nl (l.drop s) := by
  unfold cutV
  rw [HT.sIx_nat, HT.sIx_none, nl_len]
  unfold nl
  rw [← List.map_drop, ← List.map_take]
  congr 1
  rw [List.take_of_length_le (by rw [List.length_drop]; omega)]
  by_cases c : s ≤ l.length
  · rw [Nat.min_eq_left c]
  · rw [List.drop_of_length_le (by omega), List.drop_of_length_le (by omega)]
theorem filter_step {α : Type} {f : α → Bool} {l : List α} {j : Nat} {z : α} (h : l[j]? = some z) : (l.take (j + 1)).filter f = (l.take j).filter f ++ (if f z = true then [z] else []) := by
  rw [take_snoc h, List.filter_append, List.filter_cons, List.filter_nil]
theorem filter_small {g : Abs} (wf : WF g) {l : List Nat} (hl : l.length ≤ g.n) (f : Nat → Bool) (j : Nat) : (nl ((l.take j).filter f)).length < sizeLine := by
  rw [nl_len]
  have h1 := List.length_filter_le f (l.take j)
  rw [List.length_take] at h1
  have := wf.six
  exact small1000 (by omega)
structure WaysAt (g : Abs) (start : Nat) (H : Hp) (r : Addr) (rs : List Addr) (i : Nat) : Prop where
  lst : H r = some (.lst (rs.map V.ref))
  len : rs.length = i + 1
  at_ : ∀ (m : Nat) (a : Addr), rs[m]? = some a → a ≠ r ∧ H a = some (.lst (nl (wb g start m)))
def spPieces (K : PySem.W.Frag) : Sp := fun vs H Q _ => ∃ (a : Addr) (g : Abs), vs = [.ref a] ∧ SqL K H a (gs g) ∧ WF g ∧ ∀ r, H r = none → Q (.ref r) (upd H r (.lst (nl (List.range g.n))))
def spSome (K : PySem.W.Frag) : Sp := fun vs H Q _ => ∃ (a b : Addr) (g : Abs) (i : Nat) (l : List Nat), vs = [.ref a, .int (i : Int), .ref b] ∧ SqL K H a (gs g) ∧ SqL K H b (nl l) ∧ WF g ∧ i < g.n ∧ Q (.bl (l.any (g.covers i))) H
def spWays (K : PySem.W.Frag) : Sp := fun vs H Q _ => ∃ (a : Addr) (g : Abs) (start k : Nat), vs = [.ref a, .int (start : Int), .int (k : Int)] ∧ SqL K H a (gs g) ∧ WF g ∧ k ≤ 1000 ∧
  ∀ (H' : Hp) (r : Addr) (rs : List Addr), Same H H' → H r = none → WaysAt g start H' r rs k → Q (.ref r) H'
section
variable {P : Program} {w : World} {K : PySem.W.Frag} {mg : Str → Option Value} {base : Heap} {C : Addr}
theorem scPieces : FnScope ["points"] ["points"] (defScope sPieces) := ⟨rfl, rfl, rfl, by decide +kernel, rfl, by decide +kernel, by decide +kernel⟩
theorem ok_pieces {f : Addr} {fd : FuncData} (F : Fun K "all_pieces" "all_pieces" sPieces f fd) (T : Txt K mg C) : FnOk P w K mg base CX0 1 f fd ["points"] (spPieces K) := by
  refine F.ok scPieces (fun vs H Q E h => ?_) (fun cdv A outer s H vs Q E hr h => ?_)
  · obtain ⟨a, g, rfl, _⟩ := h
    rfl
  · obtain ⟨a, g, rfl, hS, wf, k⟩ := h
    refine ⟨_, pss_one (ps_ret (pe_listRg rfl rfl T.list (prg_1 rfl T.range (pe_op (opZ0 op_sub) (pe_callB call_len_seq (by rfl) T.len PySem.boot_len (pa_cons (pv 0) pa_nil)) pe_int)))), ?_⟩
    have hn := wf.six
    refine ⟨_, rfl, a, _, rfl, .inl hS, _, _, .int (g.n : Int), rfl, rfl, ?_, _, rfl, RgOk.of_le (by decide) (by omega) (by decide) (by omega), fun q hq => ?_⟩
    · rw [gs_len wf]
      show V.int _ = V.int _
      congr 1
      omega
    · rw [rg_nl]
      exact k q hq
theorem scSome : FnScope ["points", "i", "goals", "goal"] ["points", "i", "goals"] (defScope sSome) := ⟨rfl, rfl, rfl, by decide +kernel, rfl, by decide +kernel, by decide +kernel⟩
theorem ok_some {f : Addr} {fd : FuncData} (F : Fun K "covers_some" "covers_some" sSome f fd) (D : Def P w K mg base 1 "covers_piece" (spCovers K)) : FnOk P w K mg base CX0 2 f fd ["points", "i", "goals"] (spSome K) := by
  refine F.ok scSome (fun vs H Q E h => ?_) (fun cdv A outer s H vs Q E hr h => ?_)
  · obtain ⟨a, b, g, i, l, rfl, _⟩ := h
    rfl
  · obtain ⟨a, b, g, i, l, rfl, hS, hB, wf, hi, k⟩ := h
    refine ⟨_, pss_cons (ps_for PassesOwn.never rfl (pi_list (pv 2)) (pg_name (i := 3) scSome.nd rfl (Or.inl rfl))
        (pss_one (ps_if (pt_val (pe_def D hr (by decide) rfl (pa_cons (pv 0) (pa_cons (pv 1) (pa_cons (pv 3) pa_nil))))) (pss_one (ps_ret pe_bl)) pss_nil)))
      (pss_one (ps_ret pe_bl)), ?_⟩
    refine ⟨_, rfl, b, rfl, ⟨_, hB⟩, for_list (K := K) (a := b) (xs := nl l) (fun j σ H' => H' = H ∧ (∀ m z, m < j → l[m]? = some z → g.covers i z = false) ∧ ∃ v, σ = [some (.ref a), some (.int (i : Int)), some (.ref b), v])
      ⟨rfl, fun m z h => by omega, none, rfl⟩ (fun j σ H' _ ⟨e, _⟩ => by rw [e]; exact hB) ?_ ?_⟩
    · rintro j y σ H' hy ⟨rfl, hf, v, rfl⟩
      obtain ⟨z, hz, rfl⟩ := nl_get hy
      refine ⟨_, rfl, _, rfl, _, rfl, a, g, i, z, rfl, hS, wf, hi, _, rfl, ?_⟩
      cases c : g.covers i z with
      | true =>
        refine ifT rfl ?_
        have : l.any (g.covers i) = true := List.any_eq_true.mpr ⟨z, List.mem_of_getElem? hz, c⟩
        rw [this] at k
        exact k
      | false =>
        refine ifF rfl ⟨rfl, fun m z' hm hz' => ?_, some (.int (z : Int)), rfl⟩
        by_cases e : m = j
        · subst e
          rw [hz] at hz'
          obtain rfl := Option.some.inj hz'
          exact c
        · exact hf m z' (by omega) hz'
    · rintro σ H' ⟨rfl, hf, v, rfl⟩
      have : l.any (g.covers i) = false := by
        rw [List.any_eq_false]
        intro z hz
        obtain ⟨m, hm⟩ := List.mem_iff_getElem?.mp hz
        have hl : m < l.length := (List.getElem?_eq_some_iff.mp hm).1
        rw [hf m z (by rw [nl_len]; exact hl) hm]
        decide
      rw [this] at k
      exact k
theorem scWays : FnScope ["points", "start", "k", "ways", "step", "goals", "piece"] ["points", "start", "k"] (defScope sWays) := ⟨rfl, rfl, rfl, by decide +kernel, rfl, by decide +kernel, by decide +kernel⟩
theorem ok_ways {f : Addr} {fd : FuncData} (F : Fun K "ways_back" "ways_back" sWays f fd) (T : Txt K mg C) (D1 : Def P w K mg base 1 "all_pieces" (spPieces K)) (D2 : Def P w K mg base 2 "covers_some" (spSome K)) : FnOk P w K mg base CX0 3 f fd ["points", "start", "k"] (spWays K) := by
  refine F.ok scWays (fun vs H Q E h => ?_) (fun cdv A outer s H vs Q E hr h => ?_)
  · obtain ⟨a, g, start, n, rfl, _⟩ := h
    rfl
  · obtain ⟨a, g, start, n, rfl, hS, wf, hn, k⟩ := h
    refine ⟨_, pss_cons (ps_set (i := 3) scWays.nd rfl (Or.inl rfl) (pe_lst (pa_cons (pe_lst (pa_cons (pv 1) pa_nil)) pa_nil)))
      (pss_cons (ps_for PassesOwn.never rfl (pi_range1 rfl T.range (pa_cons (pv 2) pa_nil)) (pg_name (i := 4) scWays.nd rfl (Or.inl rfl))
        (pss_cons (ps_set (i := 5) scWays.nd rfl (Or.inr rfl) (pe_ix ix_list (pv 3) (pv 4) (fun _ _ => rfl)))
        (pss_one (ps_expr (pe_bm PySem.F.plainAttrs_list PySem.F.slot_list_append PySem.F.type_list_append mt_append (pv 3)
          (pa_cons (pe_lc (own := [("piece", 6)]) (g := gName 6) rfl scWays.nd (pi_list (pe_slice sl_list (pe_def D1 hr (by decide) rfl (pa_cons (pv 0) pa_nil)) (po_some (pv 1)) po_none)) (blkOk_by (own := [("piece", 6)]) (N := ["points", "start", "k", "ways", "step", "goals", "piece"]) (sc := defScope sWays) (by decide +kernel))
            (fun _ _ _ _ _ => pg_name (i := 6) scWays.nd rfl (Or.inl rfl)) (fun _ _ _ _ _ => pts_one (pt_val (pe_def D2 hr (by decide) rfl (pa_cons (pv 0) (pa_cons (pv 6) (pa_cons (pv 5) pa_nil)))))) (fun _ _ _ _ _ => pv 6)) pa_nil))))))
      (pss_one (ps_ret (pv 3)))), ?_⟩
    refine ⟨_, rfl, (by show 1 ≤ sizeLine; decide), fun r0 n0 => ?_⟩
    have s0 : Same H (upd H r0 (.lst [.int (start : Int)])) := same_new n0
    refine ⟨(by show 1 ≤ sizeLine; decide), fun r nr => ?_⟩
    have s1 := s0.trans (same_new (o := .lst [.ref r0]) nr)
    have nr' : H r = none := s0.free nr
    have n0r : r0 ≠ r := ne_of_none upd_same nr
    have hlen : ((List.range g.n).drop start).length ≤ g.n := by rw [List.length_drop, List.length_range]; omega
    refine ⟨_, rfl, (n : Int), rfl, by omega, by omega, for_range (n := n) (fun i σ H' => ∃ (rs : List Addr) (v4 v5 : Option V), Same H H' ∧ WaysAt g start H' r rs i ∧ σ = [some (.ref a), some (.int (start : Int)), some (.int (n : Int)), some (.ref r), v4, v5, none])
      ⟨[r0], none, none, s1, ⟨upd_same, rfl, fun m b hb => ?_⟩, rfl⟩ ?_ ?_⟩
    · match m, hb with
      | 0, hb =>
        obtain rfl : r0 = b := Option.some.inj hb
        exact ⟨n0r, by rw [upd_ne n0r, upd_same]; rfl⟩
      | m + 1, hb => simp at hb
    · rintro i σ H' hi ⟨rs, v4, v5, s2, W, rfl⟩
      obtain ⟨b, hb⟩ : ∃ b, rs[i]? = some b := ⟨_, List.getElem?_eq_getElem (show i < rs.length by rw [W.len]; omega)⟩
      obtain ⟨nbr, hbl⟩ := W.at_ i b hb
      refine ⟨_, rfl, _, rfl, r, _, _, .ref b, rfl, rfl, SqL.of W.lst, at_of (j := i) (by omega) (by rw [List.getElem?_map, hb]; rfl), ?_⟩
      refine ⟨_, rfl, .inl ⟨rfl, _, SqL.of W.lst⟩, _, rfl, a, g, rfl, s2.seq hS, wf, fun q0 nq0 => ?_⟩
      have s30 : Same H' (upd H' q0 (.lst (nl (List.range g.n)))) := same_new nq0
      refine ⟨_, rfl, _, rfl, q0, _, rfl, SqL.of upd_same, fun q nq1 => ?_⟩
      rw [cut_from]
      have nq : H' q = none := s30.free nq1
      generalize hL : (List.range g.n).drop start = L at *
      have s3 := s30.trans (same_new (o := .lst (nl L)) nq1)
      refine ⟨q, rfl, ⟨_, SqL.of upd_same⟩, fun D nD => ?_⟩
      have s4 := s3.trans (same_new (o := .lst []) nD)
      have nD' : H' D = none := s3.free nD
      have nqD : q ≠ D := ne_of_none upd_same nD
      refine lc_list (K := K) (a := q) (xs := nl L) (fun j H'' => Same H' H'' ∧ H'' q = some (.lst (nl L)) ∧ H'' D = some (.lst (nl ((L.take j).filter fun i' => (wb g start i).any (g.covers i')))))
        ⟨s4, by rw [upd_ne nqD, upd_same], upd_same⟩ (fun j H'' _ ⟨_, h, _⟩ => SqL.of h) ?_ ?_
      · rintro j y H'' hy ⟨s5, hq, hD⟩
        obtain ⟨z, hz, rfl⟩ := nl_get hy
        have hj : z < g.n := by
          have hm := List.mem_of_getElem? hz
          rw [← hL] at hm
          exact (mem_from.mp hm).2
        have hS5 : SqL K H'' a (gs g) := s5.seq (s2.seq hS)
        refine ⟨rfl, _, rfl, _, rfl, _, rfl, a, b, g, z, wb g start i, rfl, hS5, SqL.of (s5 _ _ hbl), wf, hj, _, rfl, ?_⟩
        cases c : (wb g start i).any (g.covers z) with
        | true =>
          refine ifT rfl ⟨_, rfl, _, hD, filter_small wf hlen _ j, ?_, ?_, ?_⟩
          · intro b' o e
            rw [upd_ne (ne_of_none e nD')]
            exact s5 b' o e
          · rw [upd_ne nqD]
            exact hq
          · rw [upd_same, filter_step hz, if_pos c, nl_snoc]
        | false =>
          refine ifF rfl ⟨s5, hq, ?_⟩
          rw [filter_step hz, if_neg (by rw [c]; decide), List.append_nil]
          exact hD
      · rintro H'' ⟨s5, hq, hD⟩
        rw [nl_len, List.take_length, ← hL] at hD
        have hlst := s5 _ _ W.lst
        refine ⟨r, _, _, rfl, rfl, hlst, (by rw [List.length_map, W.len]; exact small1000 (by omega)), ?_⟩
        have nDr : D ≠ r := fun z => by
          rw [z] at nD'
          rw [W.lst] at nD'
          cases nD'
        refine ⟨rs ++ [D], _, _, fun b' o e => ?_, ⟨?_, ?_, fun m c hc => ?_⟩, rfl⟩
        · rw [upd_ne (ne_of_none e nr')]
          exact s5 _ _ (s2 b' o e)
        · rw [upd_same, List.map_append]
          rfl
        · rw [List.length_append, W.len]
          rfl
        · by_cases hm : m < rs.length
          · rw [List.getElem?_append_left hm] at hc
            obtain ⟨h1, h2⟩ := W.at_ m c hc
            exact ⟨h1, by rw [upd_ne h1]; exact s5 _ _ h2⟩
          · rw [List.getElem?_append_right (by omega)] at hc
            have hm0 : m - rs.length = 0 := by
              have := (List.getElem?_eq_some_iff.mp hc).1
              simp at this
              omega
            rw [hm0] at hc
            obtain rfl : D = c := Option.some.inj hc
            have hmi : m = i + 1 := by
              have := W.len
              omega
            subst hmi
            exact ⟨nDr, by rw [upd_ne nDr]; exact hD⟩
    · rintro σ H' ⟨rs, v4, v5, s2, W, rfl⟩
      exact ⟨_, rfl, k H' r rs s2 nr' W⟩
/-! ### one step more, the place put back -/
def spOneMore (K : PySem.W.Frag) : Sp := fun vs H Q _ => ∃ (a : Addr) (g : Abs) (c : Nat) (s t : Int), vs = [.ref a, .int (c : Int), .int s, .int t] ∧ SqL K H a (gs g) ∧ WF g ∧ c < g.n ∧
  ∀ r, H r = none → Q (.ref r) (upd H r (.lst [.int (kid g c s t).1, .int (kid g c s t).2]))
def spPutBack : Sp := fun vs H Q _ => ∃ (s t : Int), vs = [.int s, .int t] ∧ s ≠ 1 ∧ ∀ r, H r = none → Q (.ref r) (upd H r (.lst [.int (fix s t).1, .int ((fix s t).2 : Int)]))
theorem slope_six {g : Abs} (w : WF g) (i : Nat) : (g.slope i).natAbs ≤ 6 := by
  have h1 := w.point i
  have h2 := w.point (i + 1)
  have h6 := w.six
  unfold Su183.Abs.slope
  omega
theorem scOneMore : FnScope ["points", "piece", "slope", "shift", "steep"] ["points", "piece", "slope", "shift"] (defScope sOneMore) := ⟨rfl, rfl, rfl, by decide +kernel, rfl, by decide +kernel, by decide +kernel⟩
theorem ok_oneMore {f : Addr} {fd : FuncData} (F : Fun K "one_step_more" "one_step_more" sOneMore f fd) : FnOk P w K mg base CX0 1 f fd ["points", "piece", "slope", "shift"] (spOneMore K) := by
  refine F.ok scOneMore (fun vs H Q E h => ?_) (fun cdv A outer s H vs Q E hr h => ?_)
  · obtain ⟨a, g, c, s, t, rfl, _⟩ := h
    rfl
  · obtain ⟨a, g, z, s, t, rfl, hS, wf, hzn, k⟩ := h
    refine ⟨_, pss_cons (ps_set (i := 4) scOneMore.nd rfl (Or.inl rfl) (pe_op (opZ0 op_sub) (pe_ix ix_list (pv 0) (pe_op op_add (pv 1) pe_int) (fun _ _ => rfl)) (pe_ix ix_list (pv 0) (pv 1) (fun _ _ => rfl))))
      (pss_one (ps_ret (pe_lst (pa_cons (pe_op op_mul (pv 4) (pv 2)) (pa_cons (pe_op op_add (pe_op op_mul (pv 4) (pe_op op_sub (pv 3) (pv 1))) (pe_ix ix_list (pv 0) (pv 1) (fun _ _ => rfl))) pa_nil))))), ?_⟩
    have h6 := slope_six wf z
    have hb : -(2 ^ 64) < g.slope z ∧ g.slope z < 2 ^ 64 := by omega
    have g1 := gs_get wf (show z + 1 ≤ g.n by omega)
    have g0 := gs_get wf (show z ≤ g.n by omega)
    refine ⟨_, rfl, _, rfl, _, _, rfl, rfl, a, _, _, _, rfl, rfl, hS, atI_nat g1, _, rfl, _, rfl, a, _, _, _, rfl, rfl, hS, atI_nat g0, _, _, .int (g.slope z), rfl, rfl, rfl, ?_⟩
    refine ⟨_, rfl, _, rfl, _, _, rfl, rfl, .inl hb, ?_⟩
    refine ⟨_, rfl, _, rfl, _, rfl, _, _, rfl, rfl, _, _, rfl, rfl, .inl hb, _, rfl, _, rfl, a, _, _, _, rfl, rfl, hS, atI_nat g0, _, _, rfl, rfl, (by show 2 ≤ sizeLine; decide), ?_⟩
    exact k
theorem scPutBack : FnScope ["slope", "shift"] ["slope", "shift"] (defScope sPutBack) := ⟨rfl, rfl, rfl, by decide +kernel, rfl, by decide +kernel, by decide +kernel⟩
theorem ok_putBack {f : Addr} {fd : FuncData} (F : Fun K "place_put_back" "place_put_back" sPutBack f fd) : FnOk P w K mg base CX0 1 f fd ["slope", "shift"] spPutBack := by
  refine F.ok scPutBack (fun vs H Q E h => ?_) (fun cdv A outer s H vs Q E hr h => ?_)
  · obtain ⟨s, t, rfl, _⟩ := h
    rfl
  · obtain ⟨s, t, rfl, hs, k⟩ := h
    refine ⟨_, pss_cons (ps_if (pt_cmpR op_gt (pv 0) pe_int (nomark _)) (pss_one (ps_ret (pe_lst (pa_cons (pe_un un_neg (pv 1)) (pa_cons (pe_op (opZ0 op_sub) (pv 0) pe_int) pa_nil))))) pss_nil)
      (pss_one (ps_ret (pe_lst (pa_cons (pv 1) (pa_cons (pe_op (opZ0 op_sub) pe_int (pv 0)) pa_nil))))), ?_⟩
    refine ⟨_, rfl, _, _, rfl, rfl, _, rfl, ?_⟩
    by_cases d : 1 < s
    · refine ifT (decide_eq_true d) ?_
      have ep : fix s t = (-t, (s - 1).toNat) := if_pos d
      rw [ep] at k
      refine ⟨_, rfl, _, rfl, _, rfl, _, _, .int ((s - 1).toNat : Int), rfl, rfl, ?_, (by show 2 ≤ sizeLine; decide), k⟩
      show V.int _ = V.int _
      congr 1
      omega
    · refine ifF (decide_eq_false d) ?_
      have ep : fix s t = (t, (1 - s).toNat) := if_neg d
      rw [ep] at k
      refine ⟨_, rfl, _, rfl, _, _, .int ((1 - s).toNat : Int), rfl, rfl, ?_, (by show 2 ≤ sizeLine; decide), k⟩
      show V.int _ = V.int _
      congr 1
      omega
end
end Fl

namespace Fl
open PySem PySem.Spec PyProof.Rows L2
open Su183 (Abs red does)
open Su183Neutral (asked1)
/-! ### how steep a loop can be -/
theorem steep_six {g : Abs} (w : WF g) : ∀ l : List Nat, steep g l ≤ 6 ^ l.length
  | [] => Nat.le_refl _
  | j :: l => by
    show (g.slope j).natAbs * steep g l ≤ 6 ^ (l.length + 1)
    rw [Nat.pow_succ, Nat.mul_comm (6 ^ l.length) 6]
    exact Nat.mul_le_mul (slope_six w j) (steep_six w l)
theorem place_small {g : Abs} (w : WF g) {l : List Nat} (h : l.length ≤ 6) : (place g l).2 < 1000000 := by
  have h1 := steep_six w l
  have h2 : 6 ^ l.length ≤ 6 ^ 6 := Nat.pow_le_pow_right (by decide) h
  have h3 : 6 ^ 6 = 46656 := by decide
  have h4 := steep_eq g l
  unfold place
  split
  · show 3 < 1000000
    decide
  · split
    · show (1 - (g.along l).1).toNat < 1000000
      omega
    · show ((g.along l).1 - 1).toNat < 1000000
      omega
def spPlaceOf (K : PySem.W.Frag) : Sp := fun vs H Q _ => ∃ (a b : Addr) (g : Abs) (l : List Nat), vs = [.ref a, .ref b] ∧ SqL K H a (gs g) ∧ SqL K H b (nl l) ∧ WF g ∧ l ≠ [] ∧ (∀ i ∈ l, i < g.n) ∧
  ∀ (H' : Hp) (r : Addr), Same H H' → H' r = some (.lst [.int (place g l).1, .int ((place g l).2 : Int)]) → Q (.ref r) H'
section
variable {P : Program} {w : World} {K : PySem.W.Frag} {mg : Str → Option Value} {base : Heap} {C : Addr}
theorem scPlaceOf : FnScope ["points", "loop", "along", "piece"] ["points", "loop"] (defScope sPlaceOf) := ⟨rfl, rfl, rfl, by decide +kernel, rfl, by decide +kernel, by decide +kernel⟩
theorem ok_placeOf {f : Addr} {fd : FuncData} (F : Fun K "place_of_loop" "place_of_loop" sPlaceOf f fd) (D1 : Def P w K mg base 1 "one_step_more" (spOneMore K)) (D2 : Def P w K mg base 1 "place_put_back" spPutBack) : FnOk P w K mg base CX0 2 f fd ["points", "loop"] (spPlaceOf K) := by
  refine F.ok scPlaceOf (fun vs H Q E h => ?_) (fun cdv A outer s H vs Q E hr h => ?_)
  · obtain ⟨a, b, g, l, rfl, _⟩ := h
    rfl
  · obtain ⟨a, b, g, l, rfl, hS, hB, wf, hne, hl, k⟩ := h
    refine ⟨_, pss_cons (ps_set (i := 2) scPlaceOf.nd rfl (Or.inl rfl) (pe_lst (pa_cons pe_int (pa_cons pe_int pa_nil))))
      (pss_cons (ps_for PassesOwn.never rfl (pi_list (pv 1)) (pg_name (i := 3) scPlaceOf.nd rfl (Or.inl rfl))
        (pss_one (ps_set (i := 2) scPlaceOf.nd rfl (Or.inl rfl) (pe_def D1 hr (by decide) rfl (pa_cons (pv 0) (pa_cons (pv 3) (pa_cons (pe_ix ix_list (pv 2) pe_int (fun _ _ => rfl)) (pa_cons (pe_ix ix_list (pv 2) pe_int (fun _ _ => rfl)) pa_nil))))))))
      (pss_cons (ps_if (pt_cmpR op_eq (pe_ix ix_list (pv 2) pe_int (fun _ _ => rfl)) pe_int (nomark _)) (pss_one (ps_ret (pe_lst (pa_cons (pe_op op_add (pe_op op_mul pe_int (pe_ix ix_list (pv 1) pe_int (fun _ _ => rfl))) pe_int) (pa_cons pe_int pa_nil))))) pss_nil)
      (pss_one (ps_ret (pe_def D2 hr (by decide) rfl (pa_cons (pe_ix ix_list (pv 2) pe_int (fun _ _ => rfl)) (pa_cons (pe_ix ix_list (pv 2) pe_int (fun _ _ => rfl)) pa_nil))))))), ?_⟩
    refine ⟨(by show 2 ≤ sizeLine; decide), fun r0 n0 => ?_⟩
    have s0 : Same H (upd H r0 (.lst [.int 1, .int 0])) := same_new n0
    refine ⟨_, rfl, b, rfl, ⟨_, s0.seq hB⟩, for_list (K := K) (a := b) (xs := nl l) (fun j σ H' => Same H H' ∧ ∃ r v, H' r = some (.lst [.int (g.along (l.take j)).1, .int (g.along (l.take j)).2]) ∧ σ = [some (.ref a), some (.ref b), some (.ref r), v])
      ⟨s0, r0, none, upd_same, rfl⟩ (fun j σ H' _ ⟨e, _⟩ => e.seq hB) ?_ ?_⟩
    · rintro j y σ H' hy ⟨s1, r, v, hr1, rfl⟩
      obtain ⟨z, hz, rfl⟩ := nl_get hy
      have hzn := hl z (List.mem_of_getElem? hz)
      refine ⟨_, rfl, _, rfl, _, rfl, r, _, _, _, rfl, rfl, SqL.of hr1, at0, _, rfl, r, _, _, _, rfl, rfl, SqL.of hr1, at1, a, g, z, _, _, rfl, s1.seq hS, wf, hzn, fun q nq => ?_⟩
      refine ⟨s1.trans (same_new nq), q, _, ?_, rfl⟩
      rw [upd_same, along_kid, take_snoc hz]
    · rintro σ H' ⟨s1, r, v, hr1, rfl⟩
      rw [nl_len, List.take_length] at hr1
      refine ⟨_, rfl, r, _, _, _, rfl, rfl, SqL.of hr1, at0, rfl, _, rfl, ?_⟩
      by_cases c : (g.along l).1 = 1
      · refine ifT (by rw [c]; rfl) ?_
        have ep : place g l = (3 * ((l.headD 0 : Nat) : Int) + 1, 3) := by
          unfold place
          rw [if_pos c]
        rw [ep] at k
        have hh : atI (nl l) 0 = some (.int ((l.headD 0 : Nat) : Int)) := by
          cases l with
          | nil => exact absurd rfl hne
          | cons i l => exact at0
        refine ⟨_, rfl, b, _, _, _, rfl, rfl, s1.seq hB, hh, _, _, rfl, rfl, .inl ⟨by omega, by omega⟩, _, _, rfl, rfl, (by show 2 ≤ sizeLine; decide), fun u h => ?_⟩
        exact k _ u (s1.trans (same_new h)) upd_same
      · refine ifF ?_ ?_
        · show decide (V.int (g.along l).1 = V.int 1) = false
          rw [decide_eq_false_iff_not]
          exact fun z => c (V.int.inj z)
        · refine ⟨_, rfl, r, _, _, _, rfl, rfl, SqL.of hr1, at0, _, rfl, r, _, _, _, rfl, rfl, SqL.of hr1, at1, _, _, rfl, c, fun u h => ?_⟩
          rw [show fix (g.along l).1 (g.along l).2 = place g l from fix_place rfl c]
          exact k _ u (s1.trans (same_new h)) upd_same
end
end Fl

namespace Fl
open PySem PySem.Spec PyProof.Rows L2
open Su183 (Abs red does)
open Su183Neutral (asked1)
theorem WaysAt.same {g : Abs} {start : Nat} {H H' : Hp} {r : Addr} {rs : List Addr} {i : Nat} (W : WaysAt g start H r rs i) (s : Same H H') : WaysAt g start H' r rs i :=
  ⟨s _ _ W.lst, W.len, fun m a h => ⟨(W.at_ m a h).1, s _ _ (W.at_ m a h).2⟩⟩
/-- what the search is handed: a beginning of a loop that can be led back -/
structure Begun (g : Abs) (k start : Nat) (u : List Nat) (i : Nat) : Prop where
  hd : (u ++ [i]).head? = some start
  ch : Chain g (u ++ [i])
  wb_ : i ∈ wb g start (k - (u ++ [i]).length + 1)
  le : (u ++ [i]).length ≤ k
  six : k ≤ 6
theorem Begun.last {g : Abs} {k start : Nat} {u : List Nat} {i : Nat} (b : Begun g k start u i) : i < g.n := chain_lt b.ch i (by simp)
theorem Begun.full {g : Abs} {k start : Nat} {u : List Nat} {i : Nat} (b : Begun g k start u i) (h : (u ++ [i]).length = k) : Lp g k (u ++ [i]) := by
  have hh : (u ++ [i]).headD 0 = start := by
    have := b.hd
    cases u <;> (obtain rfl := Option.some.inj this; rfl)
  have hw := b.wb_
  rw [h, Nat.sub_self] at hw
  obtain ⟨_, _, j, hj, hc⟩ := mem_wb.mp hw
  obtain rfl := List.mem_singleton.mp hj
  refine ⟨h, ?_, ?_⟩
  · rw [hh]
    exact chain_loop b.ch ⟨i, by simp, hc⟩
  · have hm : (u ++ [i]).headD 0 ∈ u ++ [i] := by
      cases u <;> simp
    exact chain_lt b.ch _ hm
theorem Begun.more {g : Abs} {k start : Nat} {u : List Nat} {i j : Nat} (b : Begun g k start u i) (h : (u ++ [i]).length < k) (hj : j ∈ wb g start (k - (u ++ [i]).length)) (hc : g.covers i j = true) : Begun g k start (u ++ [i]) j := by
  obtain ⟨m, hm⟩ : ∃ m, k - (u ++ [i]).length = m + 1 := ⟨k - (u ++ [i]).length - 1, by omega⟩
  have hjn : j < g.n := by
    rw [hm] at hj
    exact (mem_wb.mp hj).2.1
  refine ⟨?_, chain_snoc hjn b.ch (fun x hx => ?_), ?_, ?_, b.six⟩
  · have := b.hd
    cases u <;> exact this
  · rw [List.getLast?_append] at hx
    obtain rfl : i = x := Option.some.inj hx
    exact hc
  · have e : k - (u ++ [i] ++ [j]).length + 1 = k - (u ++ [i]).length := by
      rw [List.length_append (bs := [j])]
      show k - ((u ++ [i]).length + 1) + 1 = _
      omega
    rw [e]
    exact hj
  · rw [List.length_append (bs := [j])]
    show (u ++ [i]).length + 1 ≤ k
    omega
def spLoop (K : PySem.W.Frag) (d : Nat) : Sp := fun vs H Q _ => ∃ (a b r : Addr) (rs : List Addr) (g : Abs) (start k i : Nat) (u : List Nat), vs = [.ref a, .ref b, .ref r, .int (k : Int)] ∧ SqL K H a (gs g) ∧ H b = some (.lst (nl (u ++ [i]))) ∧ WaysAt g start H r rs k ∧ WF g ∧ Begun g k start u i ∧ k - (u ++ [i]).length ≤ d ∧
  ∀ (H' : Hp) (c : Bool), Same H H' → (c = true ↔ Some1 g k start (u ++ [i])) → Q (.bl c) H'
section
variable {P : Program} {w : World} {K : PySem.W.Frag} {mg : Str → Option Value} {base : Heap} {C : Addr}
theorem scLoop : FnScope ["points", "loop", "ways", "k", "left", "place", "piece"] ["points", "loop", "ways", "k"] (defScope sLoop) := ⟨rfl, rfl, rfl, by decide +kernel, rfl, by decide +kernel, by decide +kernel⟩
theorem ok_loop {f : Addr} {fd : FuncData} (F : Fun K "loop_comes_back" "loop_comes_back" sLoop f fd) (mf : mg "loop_comes_back" = some (.ref f)) (kp : PySem.W.keepIn K (.ref f) = true) (bf : Binds K fd ["points", "loop", "ways", "k"] []) (T : Txt K mg C)
    (D1 : Def P w K mg base 2 "place_of_loop" (spPlaceOf K)) (D2 : Def P w K mg base 2 "comes_back_in" (spBackIn K)) (D3 : Def P w K mg base 1 "covers_piece" (spCovers K)) : ∀ d : Nat, FnOk P w K mg base CX0 (3 + d) f fd ["points", "loop", "ways", "k"] (spLoop K d)
  | 0 => by
    refine F.ok scLoop (fun vs H Q E h => ?_) (fun cdv A outer s H vs Q E hr h => ?_)
    · obtain ⟨a, b, r, rs, g, start, k, i, u, rfl, _⟩ := h
      rfl
    · obtain ⟨a, b, r, rs, g, start, k, i, u, rfl, hS, hB, W, wf, bg, hd, kk⟩ := h
      refine ⟨_, pss_cons (ps_set (i := 4) scLoop.nd rfl (Or.inl rfl) (pe_op (opZ0 op_sub) (pv 3) (pe_callB call_len_seq (by rfl) T.len PySem.boot_len (pa_cons (pv 1) pa_nil))))
        (pss_cons (ps_if (pt_cmpR op_eq (pv 4) pe_int (nomark _))
          (pss_cons (ps_set (i := 5) scLoop.nd rfl (Or.inl rfl) (pe_def D1 hr (by decide) rfl (pa_cons (pv 0) (pa_cons (pv 1) pa_nil))))
          (pss_one (ps_ret (pe_def D2 hr (by decide) rfl (pa_cons (pv 0) (pa_cons (pe_ix ix_list (pv 5) pe_int (fun _ _ => rfl)) (pa_cons (pe_ix ix_list (pv 5) pe_int (fun _ _ => rfl)) (pa_cons (pv 3) pa_nil)))))))) pss_nil)
        pss_never), ?_⟩
      have hle := bg.le
      have hlen : (u ++ [i]).length = k := by omega
      refine ⟨_, rfl, _, rfl, b, _, rfl, .inl (SqL.of hB), _, _, .int 0, rfl, rfl, ?_, ?_⟩
      · rw [nl_len, hlen]
        show V.int _ = V.int _
        congr 1
        omega
      · refine ⟨_, rfl, rfl, _, rfl, ifT rfl ?_⟩
        refine ⟨_, rfl, _, rfl, a, b, g, u ++ [i], rfl, hS, SqL.of hB, wf, by simp, chain_lt bg.ch, fun H1 q s1 hq1 => ?_⟩
        have L := bg.full hlen
        have hkp : 0 < k := by rw [← hlen]; simp
        refine ⟨_, rfl, _, rfl, q, _, _, _, rfl, rfl, SqL.of hq1, at0, _, rfl, q, _, _, _, rfl, rfl, SqL.of hq1, at1, _, rfl, a, g, (place g (u ++ [i])).1, (place g (u ++ [i])).2, k, rfl, s1.seq hS, wf, place_pos g _, place_small wf (by have := bg.six; omega), L.on, hkp, by have := bg.six; omega, fun c hc => ?_⟩
        exact kk _ c s1 (hc.trans (some_full hlen L).symm)
  | d + 1 => by
    have ih := ok_loop F mf kp bf T D1 D2 D3 d
    have D4 : Def P w K mg base (3 + d) "loop_comes_back" (spLoop K d) := ⟨f, fd, _, mf, kp, bf, ih⟩
    refine F.ok scLoop (fun vs H Q E h => ?_) (fun cdv A outer s H vs Q E hr h => ?_)
    · obtain ⟨a, b, r, rs, g, start, k, i, u, rfl, _⟩ := h
      rfl
    · obtain ⟨a, b, r, rs, g, start, k, i, u, rfl, hS, hB, W, wf, bg, hd, kk⟩ := h
      have hr' : Room (3 + d) _ := hr
      refine ⟨_, pss_cons (ps_set (i := 4) scLoop.nd rfl (Or.inl rfl) (pe_op (opZ0 op_sub) (pv 3) (pe_callB call_len_seq (by rfl) T.len PySem.boot_len (pa_cons (pv 1) pa_nil))))
        (pss_cons (ps_if (pt_cmpR op_eq (pv 4) pe_int (nomark _))
          (pss_cons (ps_set (i := 5) scLoop.nd rfl (Or.inl rfl) (pe_def D1 hr' (by omega) rfl (pa_cons (pv 0) (pa_cons (pv 1) pa_nil))))
          (pss_one (ps_ret (pe_def D2 hr' (by omega) rfl (pa_cons (pv 0) (pa_cons (pe_ix ix_list (pv 5) pe_int (fun _ _ => rfl)) (pa_cons (pe_ix ix_list (pv 5) pe_int (fun _ _ => rfl)) (pa_cons (pv 3) pa_nil)))))))) pss_nil)
        (pss_cons (ps_for PassesOwn.never rfl (pi_list (pe_ix ix_list (pv 2) (pv 4) (fun _ _ => rfl))) (pg_name (i := 6) scLoop.nd rfl (Or.inl rfl))
          (pss_one (ps_if (PW.pt (pw_and (pt_val (pe_def D3 hr' (by omega) rfl (pa_cons (pv 0) (pa_cons (pe_ix ix_list (pv 1) (pe_un un_neg pe_int) (fun _ _ => rfl)) (pa_cons (pv 6) pa_nil)))))
            (pw_and1 (pt_val (pe_def D4 hr' (Nat.le_refl _) rfl (pa_cons (pv 0) (pa_cons (pe_op op_cat (pv 1) (pe_lst (pa_cons (pv 6) pa_nil))) (pa_cons (pv 2) (pa_cons (pv 3) pa_nil))))))))) (pss_one (ps_ret pe_bl)) pss_nil)))
        (pss_one (ps_ret pe_bl)))), ?_⟩
      have hle := bg.le
      have h6 := bg.six
      refine ⟨_, rfl, _, rfl, b, _, rfl, .inl (SqL.of hB), _, _, .int ((k - (u ++ [i]).length : Nat) : Int), rfl, rfl, ?_, ?_⟩
      · rw [nl_len]
        show V.int _ = V.int _
        congr 1
        omega
      · refine ⟨_, rfl, rfl, _, rfl, ?_⟩
        by_cases c0 : k - (u ++ [i]).length = 0
        · refine ifT (by rw [c0]; rfl) ?_
          have hlen : (u ++ [i]).length = k := by omega
          refine ⟨_, rfl, _, rfl, a, b, g, u ++ [i], rfl, hS, SqL.of hB, wf, by simp, chain_lt bg.ch, fun H1 q s1 hq1 => ?_⟩
          have L := bg.full hlen
          have hkp : 0 < k := by rw [← hlen]; simp
          refine ⟨_, rfl, _, rfl, q, _, _, _, rfl, rfl, SqL.of hq1, at0, _, rfl, q, _, _, _, rfl, rfl, SqL.of hq1, at1, _, rfl, a, g, (place g (u ++ [i])).1, (place g (u ++ [i])).2, k, rfl, s1.seq hS, wf, place_pos g _, place_small wf (by omega), L.on, hkp, by omega, fun c hc => ?_⟩
          exact kk _ c s1 (hc.trans (some_full hlen L).symm)
        · refine ifF ?_ ?_
          · show decide (V.int _ = V.int 0) = false
            rw [decide_eq_false_iff_not]
            intro z
            have := V.int.inj z
            omega
          · have hlt : (u ++ [i]).length < k := by omega
            generalize hleft : k - (u ++ [i]).length = left at *
            obtain ⟨t, ht⟩ : ∃ t, rs[left]? = some t := ⟨_, List.getElem?_eq_getElem (show left < rs.length by rw [W.len]; omega)⟩
            have hT := (W.at_ left t ht).2
            refine ⟨_, rfl, _, rfl, r, _, _, .ref t, rfl, rfl, SqL.of W.lst, atI_nat (by rw [List.getElem?_map, ht]; rfl), t, rfl, ⟨_, SqL.of hT⟩, for_list (K := K) (a := t) (xs := nl (wb g start left))
              (fun j σ H' => Same H H' ∧ (∀ m z, m < j → (wb g start left)[m]? = some z → ¬ (g.covers i z = true ∧ Some1 g k start ((u ++ [i]) ++ [z]))) ∧ ∃ v, σ = [some (.ref a), some (.ref b), some (.ref r), some (.int (k : Int)), some (.int (left : Int)), none, v])
              ⟨fun b o e => e, fun m z h => by omega, none, rfl⟩ (fun j σ H' _ ⟨s, _⟩ => SqL.of (s _ _ hT)) ?_ ?_⟩
            · rintro j y σ H' hy ⟨s1, hf, v, rfl⟩
              obtain ⟨z, hz, rfl⟩ := nl_get hy
              have hzm := List.mem_of_getElem? hz
              refine ⟨_, rfl, _, rfl, _, rfl, b, _, _, .int (i : Int), rfl, rfl, SqL.of (s1 _ _ hB), by rw [nl_snoc]; exact atI_last _ _, _, rfl, a, g, i, z, rfl, s1.seq hS, wf, bg.last, _, rfl, ?_⟩
              cases c : g.covers i z with
              | true =>
                refine ifT rfl ?_
                refine ⟨_, rfl, _, rfl, _, rfl, (by show 1 ≤ sizeLine; decide), fun q nq => ?_⟩
                have s2 : Same H' (upd H' q (.lst [.int (z : Int)])) := same_new nq
                refine ⟨b, q, _, _, rfl, rfl, s2 _ _ (s1 _ _ hB), upd_same, (by rw [nl_len]; exact Nat.le_trans (show (u ++ [i]).length + 1 ≤ 1000 by omega) (by decide)), fun q2 nq2 => ?_⟩
                have s3 := s2.trans (same_new (o := .lst (nl (u ++ [i]) ++ [.int (z : Int)])) nq2)
                have s4 := s1.trans s3
                refine ⟨_, rfl, _, rfl, a, q2, r, rs, g, start, k, z, u ++ [i], rfl, s4.seq hS, by rw [upd_same, nl_snoc (u ++ [i])], W.same s4, wf, bg.more hlt (by rw [hleft]; exact hzm) c, ?_, fun H5 b5 s5 hb5 => ?_⟩
                · rw [List.length_append (bs := [z])]
                  show k - ((u ++ [i]).length + 1) ≤ d
                  omega
                · refine ⟨_, rfl, ?_⟩
                  cases b5 with
                  | true =>
                    refine ifT rfl ?_
                    refine kk H5 true (s4.trans s5) ⟨fun _ => ?_, fun _ => rfl⟩
                    rw [some_more bg.hd hlt, hleft]
                    exact ⟨z, hzm, c, hb5.mp rfl⟩
                  | false =>
                    refine ifF rfl ⟨s4.trans s5, fun m z' hm hz' => ?_, some (.int (z : Int)), rfl⟩
                    by_cases e : m = j
                    · subst e
                      rw [hz] at hz'
                      obtain rfl := Option.some.inj hz'
                      rintro ⟨_, h⟩
                      exact absurd (hb5.mpr h) (by decide)
                    · exact hf m z' (by omega) hz'
              | false =>
                refine ifF rfl ⟨s1, fun m z' hm hz' => ?_, some (.int (z : Int)), rfl⟩
                by_cases e : m = j
                · subst e
                  rw [hz] at hz'
                  obtain rfl := Option.some.inj hz'
                  rintro ⟨h, _⟩
                  rw [c] at h
                  cases h
                · exact hf m z' (by omega) hz'
            · rintro σ H' ⟨s1, hf, v, rfl⟩
              refine kk H' false s1 ⟨fun z => by (cases z), fun z => ?_⟩
              rw [some_more bg.hd hlt, hleft] at z
              obtain ⟨j, hj, hc, hs⟩ := z
              obtain ⟨m, hm⟩ := List.mem_iff_getElem?.mp hj
              have hml : m < (wb g start left).length := (List.getElem?_eq_some_iff.mp hm).1
              exact absurd ⟨hc, hs⟩ (hf m j (by rw [nl_len]; exact hml) hm)
end
end Fl

namespace Fl
open PySem PySem.Spec PyProof.Rows L2
open Su183 (Abs red does)
open Su183Neutral (asked1)
theorem in_nl (i : Nat) (l : List Nat) : inV (.int (i : Int)) (nl l) = true ↔ i ∈ l := by
  unfold inV nl
  rw [List.any_map, List.any_eq_true]
  constructor
  · rintro ⟨x, hx, e⟩
    have e' : ((x : Int) == (i : Int)) = true := e
    rw [beq_iff_eq] at e'
    have : x = i := by omega
    rw [← this]
    exact hx
  · intro h
    exact ⟨i, h, (by show ((i : Int) == (i : Int)) = true; exact beq_self_eq_true _)⟩
theorem flat_nl (l : List Nat) : (nl l).all flatV = true := by
  rw [List.all_eq_true]
  intro x hx
  obtain ⟨v, _, rfl⟩ := List.mem_map.mp hx
  rfl
def spHasR (K : PySem.W.Frag) : Sp := fun vs H Q _ => ∃ (a : Addr) (g : Abs) (k : Nat), vs = [.ref a, .int (k : Int)] ∧ SqL K H a (gs g) ∧ WF g ∧ 0 < k ∧ k ≤ 6 ∧ ∀ H', Same H H' → Q (.bl (g.has k)) H'
section
variable {P : Program} {w : World} {K : PySem.W.Frag} {mg : Str → Option Value} {base : Heap} {C : Addr}
theorem scHasR : FnScope ["points", "k", "point", "start", "ways"] ["points", "k"] (defScope sHasR) := ⟨rfl, rfl, rfl, by decide +kernel, rfl, by decide +kernel, by decide +kernel⟩
theorem ok_hasR {f : Addr} {fd : FuncData} (F : Fun K "has_round" "has_round" sHasR f fd) (T : Txt K mg C) (D1 : Def P w K mg base 2 "comes_back_in" (spBackIn K)) (D2 : Def P w K mg base 1 "all_pieces" (spPieces K)) (D3 : Def P w K mg base 3 "ways_back" (spWays K))
    (D4 : Def P w K mg base 8 "loop_comes_back" (spLoop K 5)) : FnOk P w K mg base CX0 9 f fd ["points", "k"] (spHasR K) := by
  refine F.ok scHasR (fun vs H Q E h => ?_) (fun cdv A outer s H vs Q E hr h => ?_)
  · obtain ⟨a, g, k, rfl, _⟩ := h
    rfl
  · obtain ⟨a, g, k, rfl, hS, wf, k0, k6, kk⟩ := h
    refine ⟨_, pss_cons (ps_for PassesOwn.never rfl (pi_range1 rfl T.range (pa_cons (pe_callB call_len_seq (by rfl) T.len PySem.boot_len (pa_cons (pv 0) pa_nil)) pa_nil)) (pg_name (i := 2) scHasR.nd rfl (Or.inl rfl))
        (pss_one (ps_if (pt_val (pe_def D1 hr (by decide) rfl (pa_cons (pv 0) (pa_cons (pv 2) (pa_cons pe_int (pa_cons (pv 1) pa_nil)))))) (pss_one (ps_ret pe_bl)) pss_nil)))
      (pss_cons (ps_for PassesOwn.never rfl (pi_list (pe_def D2 hr (by decide) rfl (pa_cons (pv 0) pa_nil))) (pg_name (i := 3) scHasR.nd rfl (Or.inl rfl))
        (pss_cons (ps_set (i := 4) scHasR.nd rfl (Or.inl rfl) (pe_def D3 hr (by decide) rfl (pa_cons (pv 0) (pa_cons (pv 3) (pa_cons (pv 1) pa_nil)))))
        (pss_one (ps_if (PW.pt (pw_and (pt_cmpR op_in_seq (pv 3) (pe_ix ix_list (pv 4) (pv 1) (fun _ _ => rfl)) (by rfl))
          (pw_and1 (pt_val (pe_def D4 hr (by decide) rfl (pa_cons (pv 0) (pa_cons (pe_lst (pa_cons (pv 3) pa_nil)) (pa_cons (pv 4) (pa_cons (pv 1) pa_nil))))))))) (pss_one (ps_ret pe_bl)) pss_nil))))
      (pss_one (ps_ret pe_bl))), ?_⟩
    have hn := wf.six
    have hlen := gs_len wf
    refine ⟨_, rfl, a, _, rfl, .inl hS, _, rfl, by omega, by omega, ?_⟩
    have en : (((gs g).length : Int)).toNat = g.n + 1 := by rw [hlen]; omega
    rw [en]
    refine for_range (n := g.n + 1) (fun j σ H' => H' = H ∧ (∀ m : Nat, m < j → ¬ Ret g 1 (m : Int) k) ∧ ∃ v, σ = [some (.ref a), some (.int (k : Int)), v, none, none]) ⟨rfl, fun m h => by omega, none, rfl⟩ ?_ ?_
    · rintro j σ H' hj ⟨rfl, hf, v, rfl⟩
      have e0 : (0 : Int) + (j : Int) = (j : Int) := by omega
      rw [e0]
      refine ⟨_, rfl, _, rfl, _, rfl, a, g, (j : Int), 1, k, rfl, hS, wf, by decide, by decide, point_on (by omega), k0, by omega, fun b hb => ⟨_, rfl, ?_⟩⟩
      cases b with
      | true =>
        refine ifT rfl ?_
        have : g.has k = true := (has_some wf k0).mpr (.inl ⟨j, by omega, hb.mp rfl⟩)
        rw [this] at kk
        exact kk _ fun b o e => e
      | false =>
        refine ifF rfl ⟨rfl, fun m hm hr => ?_, some (.int (j : Int)), rfl⟩
        by_cases e : m = j
        · subst e
          exact absurd (hb.mpr hr) (by decide)
        · exact hf m (by omega) hr
    · rintro σ H' ⟨rfl, hf, v, rfl⟩
      refine ⟨_, rfl, a, g, rfl, hS, wf, fun t nt => ?_⟩
      have s0 : Same H' (upd H' t (.lst (nl (List.range g.n)))) := same_new nt
      refine ⟨t, rfl, ⟨_, SqL.of upd_same⟩, for_list (K := K) (a := t) (xs := nl (List.range g.n)) (fun j σ H2 => Same (upd H' t (.lst (nl (List.range g.n)))) H2 ∧ (∀ m, m < j → ¬ (m ∈ wb g m k ∧ Some1 g k m [m])) ∧ ∃ v3 v4, σ = [some (.ref a), some (.int (k : Int)), v, v3, v4])
        ⟨fun b o e => e, fun m h => by omega, none, none, rfl⟩ (fun j σ H2 _ ⟨s, _⟩ => SqL.of (s _ _ upd_same)) ?_ ?_⟩
      · rintro j y σ H2 hy ⟨s1, hf2, v3, v4, rfl⟩
        obtain ⟨z, hz, rfl⟩ := nl_get hy
        have hj : j < g.n := by
          have := (List.getElem?_eq_some_iff.mp hz).1
          simpa using this
        obtain rfl : z = j := by
          rw [List.getElem?_range hj] at hz
          exact (Option.some.inj hz).symm
        have s2 := s0.trans s1
        refine ⟨_, rfl, _, rfl, _, rfl, a, g, z, k, rfl, s2.seq hS, wf, by omega, fun H3 r rs s3 nr W => ?_⟩
        obtain ⟨b, hb⟩ : ∃ b, rs[k]? = some b := ⟨_, List.getElem?_eq_getElem (show k < rs.length by rw [W.len]; omega)⟩
        have hbl := (W.at_ k b hb).2
        have s4 := s1.trans s3
        have next : ¬ (z ∈ wb g z k ∧ Some1 g k z [z]) → ∀ m, m < z + 1 → ¬ (m ∈ wb g m k ∧ Some1 g k m [m]) := fun hno m hm => by
          by_cases e : m = z
          · rw [e]; exact hno
          · exact hf2 m (by omega)
        refine ⟨_, rfl, _, rfl, _, rfl, r, _, _, .ref b, rfl, rfl, SqL.of W.lst, atI_nat (by rw [List.getElem?_map, hb]; rfl), b, _, rfl, .inl (SqL.of hbl), rfl, flat_nl _, _, rfl, ?_⟩
        cases c : inV (.int (z : Int)) (nl (wb g z k)) with
        | true =>
          refine ifT rfl ?_
          have hm := (in_nl z _).mp c
          refine ⟨_, rfl, _, rfl, (by show 1 ≤ sizeLine; decide), fun q nq => ?_⟩
          have s5 : Same H3 (upd H3 q (.lst [.int (z : Int)])) := same_new nq
          have bg : Begun g k z [] z := ⟨rfl, hj, (by
            have e : k - ([] ++ [z]).length + 1 = k := by
              show k - 1 + 1 = k
              omega
            rw [e]
            exact hm), k0, k6⟩
          refine ⟨_, rfl, _, rfl, a, q, r, rs, g, z, k, z, [], rfl, (s5.seq (s3.seq (s2.seq hS))), upd_same, W.same s5, wf, bg, (by show k - 1 ≤ 5; omega), fun H5 b5 s6 hb5 => ⟨_, rfl, ?_⟩⟩
          have s7 := (s4.trans s5).trans s6
          cases b5 with
          | true =>
            refine ifT rfl ?_
            have : g.has k = true := (has_some wf k0).mpr (.inr ⟨z, hj, hm, hb5.mp rfl⟩)
            rw [this] at kk
            exact kk _ (s0.trans s7)
          | false =>
            refine ifF rfl ⟨s7, next fun ⟨_, h⟩ => absurd (hb5.mpr h) (by decide), some (.int (z : Int)), some (.ref r), rfl⟩
        | false =>
          refine ifF rfl ⟨s4, next fun ⟨h, _⟩ => ?_, some (.int (z : Int)), some (.ref r), rfl⟩
          rw [(in_nl z _).mpr h] at c
          cases c
      · rintro σ H2 ⟨s1, hf2, v3, v4, rfl⟩
        have : g.has k = false := by
          rw [← Bool.not_eq_true, has_some wf k0]
          rintro (⟨j, hj, r⟩ | ⟨i, hi, h⟩)
          · exact hf j (by omega) r
          · exact hf2 i (by rw [nl_len, List.length_range]; exact hi) h
        rw [this] at kk
        exact kk _ (s0.trans s1)
theorem scHas : FnScope ["line", "numbers", "k"] ["line", "numbers"] (defScope sHas) := ⟨rfl, rfl, rfl, by decide +kernel, rfl, by decide +kernel, by decide +kernel⟩
theorem okSteps_no {n : Int} (h0 : 0 ≤ n) (c : Su183.okSteps n.toNat = false) : n < 1 ∨ 6 < n := by
  unfold Su183.okSteps Su183.STEPS at c
  rw [Bool.and_eq_false_iff, decide_eq_false_iff_not, decide_eq_false_iff_not] at c
  omega
theorem okSteps_yes {n : Int} (h0 : 0 ≤ n) (c : Su183.okSteps n.toNat = true) : 1 ≤ n ∧ n ≤ 6 := by
  unfold Su183.okSteps Su183.STEPS at c
  rw [Bool.and_eq_true, decide_eq_true_eq, decide_eq_true_eq] at c
  omega
theorem ok_has {f : Addr} {fd : FuncData} (F : Fun K "has" "has" sHas f fd) (T : Txt K mg C) (D : Def P w K mg base 9 "has_round" (spHasR K)) (D2 : Def P w K mg base 1 "is_steps" spIsSteps) : FnOk P w K mg base CX0 10 f fd ["line", "numbers"] (spMk K C 7) := by
  refine F.ok scHas (fun vs H Q E h => ?_) (fun cdv A outer s H vs Q E hr h => ?_)
  · obtain ⟨x, l, a, s, ns, rfl, _⟩ := h
    rfl
  · obtain ⟨x, l, a, s, ns, rfl, L, hS, ok, hi, as, k⟩ := h
    obtain ⟨n, rfl, hn⟩ := asked_one (.inr (.inl rfl)) as
    obtain ⟨g, rfl, wf⟩ := some_of (by decide) hi ok
    refine ⟨_, pss_cons (ps_set (i := 2) scHas.nd rfl (Or.inl rfl) (pe_ix ix_list (pv 1) pe_int (fun _ _ => rfl)))
      (pss_cons (ps_if (pt_not (pt_val (pe_def D2 hr (by decide) rfl (pa_cons (pv 2) pa_nil)))) (pss_one (ps_ret (pe_lst (pa_cons (pe_k rfl T.c22) pa_nil)))) pss_nil)
      (pss_one (ps_ret (pe_lst (pa_cons (pe_ifExp (pt_val (pe_def D hr (by decide) rfl (pa_cons (pe_fld (pv 0) rfl) (pa_cons (pv 2) pa_nil)))) pe_int pe_int) pa_nil))))), ?_⟩
    obtain ⟨dx, ll, kvs, h1, h2, h3, h4⟩ := L.opens
    have n0 := hn.1
    refine ⟨_, rfl, a, _, _, _, rfl, rfl, hS, at0, _, rfl, n, rfl, n0, _, rfl, ?_⟩
    cases c : Su183.okSteps n.toNat with
    | false => exact ifT rfl ⟨by decide, fun r hr0 => still k L (has_no n0 (okSteps_no n0 c)) (same_new hr0) hr0 upd_same⟩
    | true =>
      obtain ⟨c1, c2⟩ := okSteps_yes n0 c
      refine ifF rfl ?_
      obtain ⟨m, rfl⟩ : ∃ m : Nat, n = (m : Int) := ⟨n.toNat, by omega⟩
      have ec := has_ok (g := g) c1 c2
      have em : ((m : Int)).toNat = m := by omega
      rw [em] at ec
      refine ⟨_, rfl, x, C, dx, _, _, rfl, h1, T.cl, T.nP, pF_lk ll l, _, rfl, ll, g, m, rfl, SqL.of h2, wf, by omega, by omega, fun H' sm => ⟨_, rfl, ?_⟩⟩
      cases c : g.has m with
      | true =>
        rw [if_pos c] at ec
        exact ifT rfl ⟨by decide, fun r hr0 => still k L ec (sm.trans (same_new hr0)) (sm.free hr0) upd_same⟩
      | false =>
        rw [if_neg (by rw [c]; decide)] at ec
        exact ifF rfl ⟨by decide, fun r hr0 => still k L ec (sm.trans (same_new hr0)) (sm.free hr0) upd_same⟩
/-- of which there is a round, so far -/
def whichN (g : Abs) (i : Nat) : Nat := ((List.range i).map fun j => if g.has (j + 1) = true then 2 ^ j else 0).sum
theorem whichN_succ (g : Abs) (i : Nat) : whichN g (i + 1) = whichN g i + (if g.has (i + 1) = true then 2 ^ i else 0) := by
  unfold whichN
  rw [List.range_succ, List.map_append, List.sum_append]
  simp
theorem scWhich : FnScope ["line", "numbers", "total", "counting", "k"] ["line", "numbers"] (defScope sWhich) := ⟨rfl, rfl, rfl, by decide +kernel, rfl, by decide +kernel, by decide +kernel⟩
theorem ok_which {f : Addr} {fd : FuncData} (F : Fun K "which" "which" sWhich f fd) (T : Txt K mg C) (D : Def P w K mg base 9 "has_round" (spHasR K)) : FnOk P w K mg base CX0 10 f fd ["line", "numbers"] (spMk K C 8) := by
  refine F.ok scWhich (fun vs H Q E h => ?_) (fun cdv A outer s H vs Q E hr h => ?_)
  · obtain ⟨x, l, a, s, ns, rfl, _⟩ := h
    rfl
  · obtain ⟨x, l, a, s, ns, rfl, L, hS, ok, hi, as, k⟩ := h
    obtain rfl := asked_none (.inl rfl) as
    obtain ⟨g, rfl, wf⟩ := some_of (by decide) hi ok
    refine ⟨_, pss_cons (ps_set (i := 2) scWhich.nd rfl (Or.inl rfl) pe_int)
      (pss_cons (ps_set (i := 3) scWhich.nd rfl (Or.inl rfl) pe_int)
      (pss_cons (ps_for PassesOwn.never rfl (pi_range2 (by rfl) T.range (pa_cons pe_int (pa_cons (pe_op op_add (pe_k rfl T.steps) pe_int) pa_nil))) (pg_name (i := 4) scWhich.nd rfl (Or.inl rfl))
        (pss_cons (ps_if (pt_val (pe_def D hr (by decide) rfl (pa_cons (pe_fld (pv 0) rfl) (pa_cons (pv 4) pa_nil)))) (pss_one (ps_set (i := 2) scWhich.nd rfl (Or.inl rfl) (pe_op (opZ0 op_add) (pv 2) (pv 3)))) pss_nil)
        (pss_one (ps_set (i := 3) scWhich.nd rfl (Or.inl rfl) (pe_op (opZ op_mul) pe_int (pv 3))))))
      (pss_one (ps_ret (pe_lst (pa_cons (pv 2) pa_nil)))))), ?_⟩
    obtain ⟨dx, ll, kvs, h1, h2, h3, h4⟩ := L.opens
    refine ⟨_, _, rfl, rfl, 1, 7, rfl, ⟨by decide, by decide, by decide, by decide⟩, ?_⟩
    refine for_range (lo := 1) (n := 6) (fun i σ H' => Same H H' ∧ ∃ v, σ = [some (.ref x), some (.ref a), some (.int (whichN g i : Int)), some (.int ((2 ^ i : Nat) : Int)), v]) ⟨fun b o e => e, none, rfl⟩ ?_ ?_
    · rintro i σ H' hi' ⟨sm, v, rfl⟩
      have e1 : (1 : Int) + (i : Int) = ((i + 1 : Nat) : Int) := by omega
      rw [e1]
      have hp : 2 * ((2 ^ i : Nat) : Int) = ((2 ^ (i + 1) : Nat) : Int) := by
        rw [Nat.pow_succ]
        omega
      refine ⟨_, rfl, x, C, dx, _, _, rfl, sm _ _ h1, T.cl, T.nP, pF_lk ll l, _, rfl, ll, g, i + 1, rfl, SqL.of (sm _ _ h2), wf, by omega, by omega, fun H2 s2 => ⟨_, rfl, ?_⟩⟩
      have s3 := sm.trans s2
      cases c : g.has (i + 1) with
      | true =>
        refine ifT rfl ⟨_, rfl, _, rfl, _, _, .int (whichN g (i + 1) : Int), rfl, rfl, ?_, ?_⟩
        · rw [whichN_succ, if_pos c]
          show V.int _ = V.int _
          congr 1
        · exact ⟨_, rfl, _, _, .int ((2 ^ (i + 1) : Nat) : Int), rfl, rfl, .inl ⟨by decide, by decide⟩, congrArg V.int hp, s3, _, rfl⟩
      | false =>
        refine ifF rfl ?_
        refine ⟨_, rfl, _, _, .int ((2 ^ (i + 1) : Nat) : Int), rfl, rfl, .inl ⟨by decide, by decide⟩, congrArg V.int hp, s3, some (.int ((i + 1 : Nat) : Int)), ?_⟩
        rw [whichN_succ, if_neg (by rw [c]; decide)]
        rfl
    · rintro σ H' ⟨sm, v, rfl⟩
      refine ⟨_, rfl, (by show 1 ≤ sizeLine; decide), fun r hr0 => ?_⟩
      exact still k L which_ok (sm.trans (same_new hr0)) (sm.free hr0) upd_same
end
end Fl

namespace Fl
open PySem PySem.Spec PyProof.Rows L2
open Su183 (Abs red does)
open Su183Neutral (asked1)
def spWhole (K : PySem.W.Frag) : Sp := fun vs H Q _ => ∃ (a : Addr) (g : Abs) (i k : Nat), vs = [.ref a, .int (i : Int), .int (k : Int)] ∧ SqL K H a (gs g) ∧ WF g ∧ i < g.n ∧ 0 < k ∧ k ≤ 1000 ∧ ∀ b : Bool, (b = true ↔ Whole g i k) → Q (.bl b) H
def spEndless (K : PySem.W.Frag) : Sp := fun vs H Q _ => ∃ (a : Addr) (g : Abs) (k : Nat), vs = [.ref a, .int (k : Int)] ∧ SqL K H a (gs g) ∧ WF g ∧ 0 < k ∧ k ≤ 1000 ∧ ∀ H', Same H H' → Q (.bl (g.endless k)) H'
def spLeads (K : PySem.W.Frag) : Sp := fun vs H Q _ => ∃ (a : Addr) (g : Abs) (p : Int) (q k : Nat), vs = [.ref a, .int p, .int (q : Int), .int (k : Int)] ∧ SqL K H a (gs g) ∧ WF g ∧ 0 < q ∧ q < 1000000 ∧ On g q p ∧ 0 < k ∧ k ≤ 1000 ∧ Q (.bl (leadsB g q p k)) H
theorem abs_near {s e : Nat} : (if (e : Int) - (s : Int) < 0 then -((e : Int) - (s : Int)) else (e : Int) - (s : Int)) = 1 ↔ Near s e := by
  unfold Near
  split <;> omega
section
variable {P : Program} {w : World} {K : PySem.W.Frag} {mg : Str → Option Value} {base : Heap} {C : Addr}
theorem scWhole : FnScope ["points", "piece", "k", "start", "end", "step"] ["points", "piece", "k"] (defScope sWhole) := ⟨rfl, rfl, rfl, by decide +kernel, rfl, by decide +kernel, by decide +kernel⟩
theorem ok_whole {f : Addr} {fd : FuncData} (F : Fun K "comes_back_whole" "comes_back_whole" sWhole f fd) (T : Txt K mg C) : FnOk P w K mg base CX0 1 f fd ["points", "piece", "k"] (spWhole K) := by
  refine F.ok scWhole (fun vs H Q E h => ?_) (fun cdv A outer s H vs Q E hr h => ?_)
  · obtain ⟨a, g, i, k, rfl, _⟩ := h
    rfl
  · obtain ⟨a, g, i, n, rfl, hS, wf, hi, n0, n1, k⟩ := h
    refine ⟨_, pss_cons (ps_set (i := 3) scWhole.nd rfl (Or.inl rfl) (pv 1))
      (pss_cons (ps_set (i := 4) scWhole.nd rfl (Or.inl rfl) (pe_op (opZ0 op_add) (pv 1) pe_int))
      (pss_cons (ps_for PassesOwn.never rfl (pi_range2 (by rfl) T.range (pa_cons pe_int (pa_cons (pe_op op_add (pv 2) pe_int) pa_nil))) (pg_name (i := 5) scWhole.nd rfl (Or.inl rfl))
        (pss_cons (ps_set (i := 3) scWhole.nd rfl (Or.inl rfl) (pe_ix ix_list (pv 0) (pv 3) (fun _ _ => rfl)))
        (pss_cons (ps_set (i := 4) scWhole.nd rfl (Or.inl rfl) (pe_ix ix_list (pv 0) (pv 4) (fun _ _ => rfl)))
        (pss_cons (ps_if (pt_cmpR op_ne (pe_callB call_abs (by rfl) T.abs (by decide +kernel) (pa_cons (pe_op op_sub (pv 4) (pv 3)) pa_nil)) pe_int (nomark _)) (pss_one (ps_ret pe_bl)) pss_nil)
        (pss_one (ps_if (PW.pt (pw_and (pt_cmpR op_eq (pv 3) (pv 1) (nomark _)) (pw_and1 (pt_cmpR op_eq (pv 4) (pe_op op_add (pv 1) pe_int) (nomark _))))) (pss_one (ps_ret (pe_cmpR op_eq (pv 5) (pv 2) (nomark _)))) pss_nil))))))
      (pss_one (ps_ret pe_bl)))), ?_⟩
    have h6 := wf.six
    refine ⟨_, rfl, _, rfl, _, _, .int ((i + 1 : Nat) : Int), rfl, rfl, rfl, ?_⟩
    refine ⟨_, rfl, _, _, rfl, rfl, 1, (n : Int) + 1, rfl, ⟨by omega, by omega, by omega, by omega⟩, ?_⟩
    have en : ((n : Int) + 1 - 1).toNat = n := by omega
    rw [en]
    refine for_range (lo := 1) (n := n) (fun j σ H' => H' = H ∧ (∀ m, m ≤ j → Near (pit g m i) (pit g m (i + 1))) ∧ (∀ m, 0 < m → m ≤ j → ¬ (pit g m i = i ∧ pit g m (i + 1) = i + 1)) ∧ ∃ v, σ = [some (.ref a), some (.int (i : Int)), some (.int (n : Int)), some (.int (pit g j i : Int)), some (.int (pit g j (i + 1) : Int)), v])
      ⟨rfl, fun m hm => ?_, fun m h1 h2 => by omega, none, rfl⟩ ?_ ?_
    · obtain rfl : m = 0 := by omega
      exact .inr rfl
    · rintro j σ H' hj ⟨rfl, hn, hf, v, rfl⟩
      have a1 := pit_le wf (show i ≤ g.n by omega) j
      have a2 := pit_le wf (show i + 1 ≤ g.n by omega) j
      refine ⟨_, rfl, _, rfl, a, _, _, .int (pit g (j + 1) i : Int), rfl, rfl, hS, atI_nat (by rw [pit_succ]; exact gs_get wf a1), ?_⟩
      refine ⟨_, rfl, _, rfl, a, _, _, .int (pit g (j + 1) (i + 1) : Int), rfl, rfl, hS, atI_nat (by rw [pit_succ]; exact gs_get wf a2), ?_⟩
      refine ⟨_, rfl, _, rfl, _, _, rfl, rfl, _, rfl, rfl, _, rfl, ?_⟩
      have big : ∀ (h : Whole g i n), Near (pit g (j + 1) i) (pit g (j + 1) (i + 1)) := fun h => h.near (j + 1) (by omega)
      by_cases c : Near (pit g (j + 1) i) (pit g (j + 1) (i + 1))
      · refine iteNS (congrArg V.int (abs_near.mpr c)) ?_
        have hn' : ∀ m, m ≤ j + 1 → Near (pit g m i) (pit g m (i + 1)) := fun m hm => by
          by_cases e : m = j + 1
          · rw [e]; exact c
          · exact hn m (by omega)
        have go : ∀ (no : ¬ (pit g (j + 1) i = i ∧ pit g (j + 1) (i + 1) = i + 1)), ∀ m, 0 < m → m ≤ j + 1 → ¬ (pit g m i = i ∧ pit g m (i + 1) = i + 1) := fun no m h1 h2 => by
          by_cases e : m = j + 1
          · rw [e]; exact no
          · exact hf m h1 (by omega)
        refine ⟨_, rfl, _, rfl, rfl, _, rfl, ?_⟩
        by_cases c1 : pit g (j + 1) i = i
        · refine ifT (decide_eq_true (by rw [c1])) ?_
          refine ⟨_, rfl, _, rfl, _, _, rfl, rfl, rfl, _, rfl, ?_⟩
          by_cases c2 : pit g (j + 1) (i + 1) = i + 1
          · refine ifT (decide_eq_true (by rw [c2]; rfl)) ?_
            refine ⟨_, rfl, _, rfl, rfl, k _ ?_⟩
            rw [decide_eq_true_eq]
            constructor
            · intro e
              have e' : j + 1 = n := by
                have := V.int.inj e
                omega
              subst e'
              exact ⟨n0, hn', ⟨c1, c2⟩, fun m h1 h2 => hf m h1 (by omega)⟩
            · intro h
              refine Classical.byContradiction fun hc => ?_
              have : j + 1 ≠ n := fun z => hc (by rw [← z]; congr 1; omega)
              exact h.first (j + 1) (by omega) (by omega) ⟨c1, c2⟩
          · refine ifF (decide_eq_false (fun z => c2 ?_)) ⟨rfl, hn', go (fun z => c2 z.2), some (.int (1 + (j : Int))), rfl⟩
            have := V.int.inj z
            omega
        · refine ifF (decide_eq_false (fun z => c1 ?_)) ⟨rfl, hn', go (fun z => c1 z.1), some (.int (1 + (j : Int))), rfl⟩
          have := V.int.inj z
          omega
      · refine ifT ?_ (k false ⟨fun z => (by cases z), fun z => absurd (big z) c⟩)
        rw [Bool.not_eq_true', decide_eq_false_iff_not]
        exact fun z => c (abs_near.mp (V.int.inj z))
    · rintro σ H' ⟨rfl, hn, hf, v, rfl⟩
      refine k false ⟨fun z => (by cases z), fun z => ?_⟩
      exact absurd z.back (hf n n0 (Nat.le_refl _))
theorem scEndless : FnScope ["points", "k", "piece"] ["points", "k"] (defScope sEndless) := ⟨rfl, rfl, rfl, by decide +kernel, rfl, by decide +kernel, by decide +kernel⟩
theorem ok_endless {f : Addr} {fd : FuncData} (F : Fun K "has_endless" "has_endless" sEndless f fd) (D1 : Def P w K mg base 1 "all_pieces" (spPieces K)) (D2 : Def P w K mg base 1 "comes_back_whole" (spWhole K)) : FnOk P w K mg base CX0 2 f fd ["points", "k"] (spEndless K) := by
  refine F.ok scEndless (fun vs H Q E h => ?_) (fun cdv A outer s H vs Q E hr h => ?_)
  · obtain ⟨a, g, k, rfl, _⟩ := h
    rfl
  · obtain ⟨a, g, n, rfl, hS, wf, n0, n1, k⟩ := h
    refine ⟨_, pss_cons (ps_for PassesOwn.never rfl (pi_list (pe_def D1 hr (by decide) rfl (pa_cons (pv 0) pa_nil))) (pg_name (i := 2) scEndless.nd rfl (Or.inl rfl))
        (pss_one (ps_if (pt_val (pe_def D2 hr (by decide) rfl (pa_cons (pv 0) (pa_cons (pv 2) (pa_cons (pv 1) pa_nil))))) (pss_one (ps_ret pe_bl)) pss_nil)))
      (pss_one (ps_ret pe_bl)), ?_⟩
    refine ⟨_, rfl, a, g, rfl, hS, wf, fun t nt => ?_⟩
    have s0 : Same H (upd H t (.lst (nl (List.range g.n)))) := same_new nt
    refine ⟨t, rfl, ⟨_, SqL.of upd_same⟩, for_list (K := K) (a := t) (xs := nl (List.range g.n)) (fun j σ H' => H' = upd H t (.lst (nl (List.range g.n))) ∧ (∀ m, m < j → ¬ Whole g m n) ∧ ∃ v, σ = [some (.ref a), some (.int (n : Int)), v])
      ⟨rfl, fun m h => by omega, none, rfl⟩ (fun j σ H' _ ⟨e, _⟩ => by rw [e]; exact SqL.of upd_same) ?_ ?_⟩
    · rintro j y σ H' hy ⟨rfl, hf, v, rfl⟩
      obtain ⟨z, hz, rfl⟩ := nl_get hy
      have hj : j < g.n := by
        have := (List.getElem?_eq_some_iff.mp hz).1
        simpa using this
      obtain rfl : z = j := by
        rw [List.getElem?_range hj] at hz
        exact (Option.some.inj hz).symm
      refine ⟨_, rfl, _, rfl, _, rfl, a, g, z, n, rfl, s0.seq hS, wf, hj, n0, n1, fun b hb => ⟨_, rfl, ?_⟩⟩
      cases b with
      | true =>
        refine ifT rfl ?_
        have : g.endless n = true := (endless_whole wf).mpr ⟨z, hj, hb.mp rfl⟩
        rw [this] at k
        exact k _ s0
      | false =>
        refine ifF rfl ⟨rfl, fun m hm h => ?_, some (.int (z : Int)), rfl⟩
        by_cases e : m = z
        · subst e
          exact absurd (hb.mpr h) (by decide)
        · exact hf m (by omega) h
    · rintro σ H' ⟨rfl, hf, v, rfl⟩
      have : g.endless n = false := by
        rw [← Bool.not_eq_true, endless_whole wf]
        rintro ⟨i, hi, h⟩
        exact hf i (by rw [nl_len, List.length_range]; exact hi) h
      rw [this] at k
      exact k _ s0
theorem scLeads : FnScope ["points", "p", "q", "k", "at", "step"] ["points", "p", "q", "k"] (defScope sLeads) := ⟨rfl, rfl, rfl, by decide +kernel, rfl, by decide +kernel, by decide +kernel⟩
theorem ok_leads {f : Addr} {fd : FuncData} (F : Fun K "leads" "leads" sLeads f fd) (T : Txt K mg C) (D : Def P w K mg base 1 "put_over" (spPutOver K)) : FnOk P w K mg base CX0 2 f fd ["points", "p", "q", "k"] (spLeads K) := by
  refine F.ok scLeads (fun vs H Q E h => ?_) (fun cdv A outer s H vs Q E hr h => ?_)
  · obtain ⟨a, g, p, q, k, rfl, _⟩ := h
    rfl
  · obtain ⟨a, g, p, q, n, rfl, hS, wf, hq, hq2, ho, hn0, hn, k⟩ := h
    refine ⟨_, pss_cons (ps_set (i := 4) scLeads.nd rfl (Or.inl rfl) (pv 1))
      (pss_cons (ps_for PassesOwn.never rfl (pi_range2 (by rfl) T.range (pa_cons pe_int (pa_cons (pv 3) pa_nil))) (pg_name (i := 5) scLeads.nd rfl (Or.inl rfl))
        (pss_cons (ps_set (i := 4) scLeads.nd rfl (Or.inl rfl) (pe_def D hr (by decide) rfl (pa_cons (pv 0) (pa_cons (pv 4) (pa_cons (pv 2) pa_nil)))))
        (pss_one (ps_if (pt_cmpR op_le (pv 4) (pv 1) (nomark _)) (pss_one (ps_ret pe_bl)) pss_nil))))
      (pss_one (ps_ret (pe_cmpR op_eq (pe_def D hr (by decide) rfl (pa_cons (pv 0) (pa_cons (pv 4) (pa_cons (pv 2) pa_nil)))) (pv 1) (nomark _))))), ?_⟩
    obtain ⟨m, rfl⟩ : ∃ m, n = m + 1 := ⟨n - 1, by omega⟩
    refine ⟨_, rfl, _, rfl, 1, ((m + 1 : Nat) : Int), rfl, ⟨by omega, by omega, by omega, by omega⟩, ?_⟩
    have en : (((m + 1 : Nat) : Int) - 1).toNat = m := by omega
    rw [en]
    refine for_range (lo := 1) (n := m) (fun i σ H' => H' = H ∧ (∀ j, 0 < j → j ≤ i → p < itn g q j p) ∧ ∃ v, σ = [some (.ref a), some (.int p), some (.int q), some (.int ((m + 1 : Nat) : Int)), some (.int (itn g q i p)), v])
      ⟨rfl, fun j h1 h2 => by omega, none, rfl⟩ ?_ ?_
    · rintro i σ H' hi ⟨rfl, hf, v, rfl⟩
      refine ⟨_, rfl, _, rfl, _, rfl, a, g, _, q, rfl, hS, wf, hq, hq2, itn_on wf hq ho i, ?_⟩
      have e1 : mv g q (itn g q i p) = itn g q (i + 1) p := (itn_succ g q i p).symm
      rw [e1]
      refine ⟨_, rfl, _, rfl, _, _, rfl, rfl, _, rfl, ?_⟩
      by_cases c : itn g q (i + 1) p ≤ p
      · refine ifT (decide_eq_true c) ?_
        have : leadsB g q p (m + 1) = false := by
          rw [← Bool.not_eq_true, leadsB_iff]
          intro l
          have := l.less (i + 1) (by omega) (by omega)
          omega
        rw [this] at k
        exact k
      · refine ifF (decide_eq_false c) ⟨rfl, fun j h1 h2 => ?_, some (.int (1 + (i : Int))), rfl⟩
        by_cases hj : j = i + 1
        · rw [hj]; omega
        · exact hf j h1 (by omega)
    · rintro σ H' ⟨rfl, hf, v, rfl⟩
      refine ⟨_, rfl, _, rfl, _, rfl, a, g, _, q, rfl, hS, wf, hq, hq2, itn_on wf hq ho m, ?_⟩
      have e1 : mv g q (itn g q m p) = itn g q (m + 1) p := (itn_succ g q m p).symm
      rw [e1]
      refine ⟨_, rfl, rfl, ?_⟩
      have : decide (V.int (itn g q (m + 1) p) = V.int p) = leadsB g q p (m + 1) := by
        rw [Bool.eq_iff_iff, decide_eq_true_eq, leadsB_iff]
        constructor
        · intro e
          exact ⟨by omega, V.int.inj e, fun j h1 h2 => hf j h1 (by omega)⟩
        · intro l
          rw [l.back]
      rw [← this] at k
      exact k
end
end Fl

namespace Fl
open PySem PySem.Spec PyProof.Rows L2
open Su183 (Abs red does)
open Su183Neutral (asked1)
/-- all stays but what is at one address -/
def SB (t : Addr) (H H' : Hp) : Prop := ∀ b o, H b = some o → b ≠ t → H' b = some o
theorem SB.trans {t : Addr} {H H1 H2 : Hp} (h1 : SB t H H1) (h2 : SB t H1 H2) : SB t H H2 := fun b o e n => h2 b o (h1 b o e n) n
theorem SB.of {t : Addr} {H H1 : Hp} (h : Same H H1) : SB t H H1 := fun b o e _ => h b o e
theorem SB.put {t : Addr} {H : Hp} {o : HO} : SB t H (upd H t o) := fun b u e n => by rw [upd_ne n]; exact e
theorem SB.new {t : Addr} {H0 H H1 : Hp} (s : Same H0 H) (nt : H0 t = none) (h : SB t H H1) : Same H0 H1 := fun b o e => h b o (s b o e) (ne_of_none e nt)
/-- paths as they stand in memory: a list of tuples of three numbers -/
structure TupsAt (H : Hp) (a : Addr) (rs : List Addr) (zs : List (Nat × Int × Int)) : Prop where
  lst : H a = some (.lst (rs.map V.ref))
  len : rs.length = zs.length
  at_ : ∀ (i : Nat) (b : Addr) (z : Nat × Int × Int), rs[i]? = some b → zs[i]? = some z → H b = some (.tup [.int (z.1 : Int), .int z.2.1, .int z.2.2])
theorem TupsAt.same {H H' : Hp} {a : Addr} {rs : List Addr} {zs : List (Nat × Int × Int)} (T : TupsAt H a rs zs) (s : Same H H') : TupsAt H' a rs zs :=
  ⟨s _ _ T.lst, T.len, fun i b z h1 h2 => s _ _ (T.at_ i b z h1 h2)⟩
theorem TupsAt.ne {H : Hp} {a : Addr} {rs : List Addr} {zs : List (Nat × Int × Int)} (T : TupsAt H a rs zs) {i : Nat} {b : Addr} {z : Nat × Int × Int} (h1 : rs[i]? = some b) (h2 : zs[i]? = some z) : b ≠ a :=
  ne_of (T.at_ i b z h1 h2) T.lst (by intro q; cases q)
theorem TupsAt.snoc {H : Hp} {a t : Addr} {rs : List Addr} {zs : List (Nat × Int × Int)} {z : Nat × Int × Int} (T : TupsAt H a rs zs) (nt : H t = none) :
    TupsAt (upd (upd H t (.tup [.int (z.1 : Int), .int z.2.1, .int z.2.2])) a (.lst (rs.map V.ref ++ [.ref t]))) a (rs ++ [t]) (zs ++ [z]) := by
  have nta : a ≠ t := ne_of_none T.lst nt
  refine ⟨by rw [upd_same, List.map_append]; rfl, by rw [List.length_append, List.length_append, T.len]; rfl, fun i b y h1 h2 => ?_⟩
  by_cases hi : i < rs.length
  · rw [List.getElem?_append_left hi] at h1
    rw [List.getElem?_append_left (by rw [← T.len]; exact hi)] at h2
    have hb := T.at_ i b y h1 h2
    rw [upd_ne (T.ne h1 h2), upd_ne (ne_of_none hb nt)]
    exact hb
  · rw [List.getElem?_append_right (by omega)] at h1
    rw [List.getElem?_append_right (by rw [← T.len]; omega), ← T.len] at h2
    have h0 : i - rs.length = 0 := by
      have := (List.getElem?_eq_some_iff.mp h1).1
      simp at this
      omega
    rw [h0] at h1 h2
    obtain rfl : t = b := Option.some.inj h1
    obtain rfl : z = y := Option.some.inj h2
    rw [upd_ne nta.symm, upd_same]
structure CovAt (g : Abs) (l : List Nat) (H : Hp) (r : Addr) (rs : List Addr) (i : Nat) : Prop where
  lst : H r = some (.lst (rs.map V.ref))
  len : rs.length = i
  at_ : ∀ (m : Nat) (a : Addr), rs[m]? = some a → a ≠ r ∧ H a = some (.lst (nl (l.filter (g.covers m))))
def spAmong (K : PySem.W.Frag) : Sp := fun vs H Q _ => ∃ (a b : Addr) (g : Abs) (c : Nat) (l : List Nat), vs = [.ref a, .int (c : Int), .ref b] ∧ SqL K H a (gs g) ∧ SqL K H b (nl l) ∧ WF g ∧ c < g.n ∧ l.length ≤ 6 ∧
  ∀ (H' : Hp) (r : Addr), Same H H' → H r = none → H' r = some (.lst (nl (l.filter (g.covers c)))) → Q (.ref r) H'
def spLonger (K : PySem.W.Frag) : Sp := fun vs H Q _ => ∃ (a pa b : Addr) (g : Abs) (prs : List Addr) (ps : List (Nat × Int × Int)) (l : List Nat), vs = [.ref a, .ref pa, .ref b] ∧ SqL K H a (gs g) ∧ TupsAt H pa prs ps ∧ SqL K H b (nl l) ∧ WF g ∧ (∀ x ∈ ps, x.1 < g.n) ∧ l.length ≤ 6 ∧ ps.length ≤ 50000 ∧
  ∀ (H' : Hp) (r : Addr) (rs : List Addr), Same H H' → H r = none → TupsAt H' r rs (ps.flatMap (kids g l)) → Q (.ref r) H'
theorem yes {σ : L2.St} {H : Hp} {A B : Hp → Prop} (h : A H) : tYes σ H (fun b H3 => if b = true then A H3 else B H3) := iteT (A := A H) (B := B H) h
theorem flat_step {α β : Type} {f : α → List β} {l : List α} {j : Nat} {z : α} (h : l[j]? = some z) : (l.take (j + 1)).flatMap f = (l.take j).flatMap f ++ f z := by
  rw [take_snoc h, List.flatMap_append, List.flatMap_cons, List.flatMap_nil, List.append_nil]
section
variable {P : Program} {w : World} {K : PySem.W.Frag} {mg : Str → Option Value} {base : Heap} {C : Addr}
theorem scAmong : FnScope ["points", "piece", "goals", "goal"] ["points", "piece", "goals"] (defScope sAmong) := ⟨rfl, rfl, rfl, by decide +kernel, rfl, by decide +kernel, by decide +kernel⟩
theorem ok_among {f : Addr} {fd : FuncData} (F : Fun K "covered_among" "covered_among" sAmong f fd) (D : Def P w K mg base 1 "covers_piece" (spCovers K)) : FnOk P w K mg base CX0 2 f fd ["points", "piece", "goals"] (spAmong K) := by
  refine F.ok scAmong (fun vs H Q E h => ?_) (fun cdv A outer s H vs Q E hr h => ?_)
  · obtain ⟨a, b, g, c, l, rfl, _⟩ := h
    rfl
  · obtain ⟨a, b, g, c, l, rfl, hS, hB, wf, hc, hl, k⟩ := h
    refine ⟨_, pss_one (ps_ret (pe_lc (own := [("goal", 3)]) (g := gName 3) rfl scAmong.nd (pi_list (pv 2)) (blkOk_by (own := [("goal", 3)]) (N := ["points", "piece", "goals", "goal"]) (sc := defScope sAmong) (by decide +kernel))
      (fun _ _ _ _ _ => pg_name (i := 3) scAmong.nd rfl (Or.inl rfl)) (fun _ _ _ _ _ => pts_one (pt_val (pe_def D hr (by decide) rfl (pa_cons (pv 0) (pa_cons (pv 1) (pa_cons (pv 3) pa_nil)))))) (fun _ _ _ _ _ => pv 3))), ?_⟩
    refine ⟨_, rfl, b, rfl, ⟨_, hB⟩, fun D nD => ?_⟩
    have s1 : Same H (upd H D (.lst [])) := same_new nD
    refine lc_list (K := K) (a := b) (xs := nl l) (fun j H'' => Same H H'' ∧ H'' D = some (.lst (nl ((l.take j).filter (g.covers c)))))
      ⟨s1, upd_same⟩ (fun j H'' _ ⟨s, _⟩ => s.seq hB) ?_ ?_
    · rintro j y H'' hy ⟨s5, hD⟩
      obtain ⟨z, hz, rfl⟩ := nl_get hy
      refine ⟨rfl, _, rfl, _, rfl, _, rfl, a, g, c, z, rfl, s5.seq hS, wf, hc, _, rfl, ?_⟩
      cases e : g.covers c z with
      | true =>
        refine ifT rfl ⟨_, rfl, _, hD, ?_, fun b' o e' => ?_, ?_⟩
        · rw [nl_len]
          have h1 := List.length_filter_le (g.covers c) (l.take j)
          rw [List.length_take] at h1
          exact small1000 (by omega)
        · rw [upd_ne (ne_of_none e' nD)]
          exact s5 b' o e'
        · rw [upd_same, filter_step hz, if_pos e, nl_snoc]
      | false =>
        refine ifF rfl ⟨s5, ?_⟩
        rw [filter_step hz, if_neg (by rw [e]; decide), List.append_nil]
        exact hD
    · rintro H'' ⟨s5, hD⟩
      rw [nl_len, List.take_length] at hD
      exact k H'' D s5 nD hD
theorem scLonger : FnScope ["points", "paths", "goals", "covered", "longer", "path", "along", "reached", "goal", "piece"] ["points", "paths", "goals"] (defScope sLonger) := ⟨rfl, rfl, rfl, by decide +kernel, rfl, by decide +kernel, by decide +kernel⟩
theorem ok_longer {f : Addr} {fd : FuncData} (F : Fun K "longer_paths" "longer_paths" sLonger f fd) (T : Txt K mg C) (D1 : Def P w K mg base 1 "all_pieces" (spPieces K)) (D2 : Def P w K mg base 2 "covered_among" (spAmong K)) (D3 : Def P w K mg base 1 "one_step_more" (spOneMore K)) : FnOk P w K mg base CX0 3 f fd ["points", "paths", "goals"] (spLonger K) := by
  refine F.ok scLonger (fun vs H Q E h => ?_) (fun cdv A outer s H vs Q E hr h => ?_)
  · obtain ⟨a, pa, b, g, prs, ps, l, rfl, _⟩ := h
    rfl
  · obtain ⟨a, pa, b, g, prs, ps, l, rfl, hS, TP, hB, wf, hps, hl, hpl, k⟩ := h
    refine ⟨_, pss_cons (ps_setLc (i := 3) (own := [("piece", 9)]) (g := gName 9) (tt := tYes) rfl scLonger.nd rfl rfl (sw_true rfl rfl rfl (by decide +kernel)) (pi_list (pe_def D1 hr (by decide) rfl (pa_cons (pv 0) pa_nil)))
        (blkOk_by (own := [("piece", 9)]) (N := ["points", "paths", "goals", "covered", "longer", "path", "along", "reached", "goal", "piece"]) (sc := defScope sLonger) (by decide +kernel))
        (fun _ _ _ _ _ => pg_name (i := 9) scLonger.nd rfl (Or.inl rfl)) (fun _ _ _ _ _ => pts_nil) (fun _ _ _ _ _ => pe_def D2 hr (by decide) rfl (pa_cons (pv 0) (pa_cons (pv 9) (pa_cons (pv 2) pa_nil)))))
      (pss_cons (ps_set (i := 4) scLonger.nd rfl (Or.inl rfl) (pe_lst pa_nil))
      (pss_cons (ps_for PassesOwn.never rfl (pi_list (pv 1)) (pg_name (i := 5) scLonger.nd rfl (Or.inl rfl))
        (pss_cons (ps_set (i := 6) scLonger.nd rfl (Or.inl rfl) (pe_def D3 hr (by decide) rfl (pa_cons (pv 0) (pa_cons (pe_ix ix_tup (pv 5) pe_int (fun _ _ => rfl)) (pa_cons (pe_ix ix_tup (pv 5) pe_int (fun _ _ => rfl)) (pa_cons (pe_ix ix_tup (pv 5) pe_int (fun _ _ => rfl)) pa_nil))))))
        (pss_cons (ps_set (i := 7) scLonger.nd rfl (Or.inl rfl) (pe_ix ix_list (pv 3) (pe_ix ix_tup (pv 5) pe_int (fun _ _ => rfl)) (fun _ _ => rfl)))
        (C8.pss_cut (ps_if (pt_cmpR op_lt (pe_ix ix_list (pv 6) pe_int (fun _ _ => rfl)) pe_int (nomark _)) (pss_one (ps_set (i := 7) scLonger.nd rfl (Or.inl rfl) (FlR.pe_listBack rfl rfl T.list rfl T.rev (pv 7)))) pss_nil)
        (pss_one (ps_for PassesOwn.never rfl (pi_list (pv 7)) (pg_name (i := 8) scLonger.nd rfl (Or.inl rfl))
          (pss_one (ps_expr (pe_bm PySem.F.plainAttrs_list PySem.F.slot_list_append PySem.F.type_list_append mt_append (pv 4) (pa_cons (pe_tup (pa_cons (pv 8) (pa_cons (pe_ix ix_list (pv 6) pe_int (fun _ _ => rfl)) (pa_cons (pe_ix ix_list (pv 6) pe_int (fun _ _ => rfl)) pa_nil)))) pa_nil))))))))))
      (pss_one (ps_ret (pv 4))))), ?_⟩
    have h6 := wf.six
    refine ⟨_, rfl, a, g, rfl, hS, wf, fun t nt => ?_⟩
    have s0 : Same H (upd H t (.lst (nl (List.range g.n)))) := same_new nt
    refine ⟨t, rfl, ⟨_, SqL.of upd_same⟩, fun D nD => ?_⟩
    have s1 := s0.trans (same_new (o := .lst []) nD)
    have nD' : H D = none := s0.free nD
    have ntD : t ≠ D := ne_of_none upd_same nD
    refine lc_list (K := K) (a := t) (xs := nl (List.range g.n)) (fun j H'' => Same H H'' ∧ H'' t = some (.lst (nl (List.range g.n))) ∧ ∃ rs, CovAt g l H'' D rs j)
      ⟨s1, by rw [upd_ne ntD, upd_same], [], upd_same, rfl, fun m a h => by simp at h⟩ (fun j H'' _ ⟨_, h, _⟩ => SqL.of h) ?_ ?_
    · rintro j y H'' hy ⟨s2, ht, rs, W⟩
      obtain ⟨z, hz, rfl⟩ := nl_get hy
      have hj : j < g.n := by
        have := (List.getElem?_eq_some_iff.mp hz).1
        simpa using this
      obtain rfl : z = j := by
        rw [List.getElem?_range hj] at hz
        exact (Option.some.inj hz).symm
      refine ⟨rfl, yes ?_⟩
      refine ⟨_, rfl, _, rfl, _, rfl, a, b, g, z, l, rfl, s2.seq hS, s2.seq hB, wf, hj, hl, fun H3 r s3 nr hr3 => ?_⟩
      have nrD : r ≠ D := fun e => by
        rw [e, W.lst] at nr
        cases nr
      refine ⟨_, s3 _ _ W.lst, (by rw [List.length_map, W.len]; exact small1000 (by omega)), fun b' o e => ?_, ?_, rs ++ [r], ?_, ?_, fun m c hc => ?_⟩
      · rw [upd_ne (ne_of_none e nD')]
        exact s3 _ _ (s2 b' o e)
      · rw [upd_ne ntD]
        exact s3 _ _ ht
      · rw [upd_same, List.map_append]
        rfl
      · rw [List.length_append, W.len]
        rfl
      · by_cases hm : m < rs.length
        · rw [List.getElem?_append_left hm] at hc
          obtain ⟨h1, h2⟩ := W.at_ m c hc
          exact ⟨h1, by rw [upd_ne h1]; exact s3 _ _ h2⟩
        · rw [List.getElem?_append_right (by omega)] at hc
          have hm0 : m - rs.length = 0 := by
            have := (List.getElem?_eq_some_iff.mp hc).1
            simp at this
            omega
          rw [hm0] at hc
          obtain rfl : r = c := Option.some.inj hc
          have hmi : m = z := by
            have := W.len
            omega
          subst hmi
          exact ⟨nrD, by rw [upd_ne nrD]; exact hr3⟩
    · rintro H2 ⟨s2, ht, cs, W⟩
      rw [nl_len, List.length_range] at W
      -- longer = []
      refine ⟨Nat.zero_le _, fun lg nlg => ?_⟩
      have s3 : Same H2 (upd H2 lg (.lst [])) := same_new nlg
      have TP2 := TP.same s2
      have nlgH : H lg = none := s2.free nlg
      refine ⟨_, rfl, pa, rfl, ⟨_, SqL.of (s3 _ _ TP2.lst)⟩, for_list (K := K) (a := pa) (xs := prs.map V.ref) (fun j σ H' => Same H2 H' ∧ (∃ rs, TupsAt H' lg rs ((ps.take j).flatMap (kids g l))) ∧ ∃ v5 v6 v7 v8, σ = [some (.ref a), some (.ref pa), some (.ref b), some (.ref D), some (.ref lg), v5, v6, v7, v8, none])
        ⟨s3, ⟨[], upd_same, rfl, fun i b z h => by simp at h⟩, none, none, none, none, rfl⟩ (fun j σ H' _ ⟨s, _⟩ => SqL.of (s _ _ TP2.lst)) ?_ ?_⟩
      · rintro j y σ H' hy ⟨s4, ⟨rs, TL⟩, v5, v6, v7, v8, rfl⟩
        rw [List.getElem?_map] at hy
        obtain ⟨tb, htb, rfl⟩ : ∃ tb, prs[j]? = some tb ∧ y = V.ref tb := by
          cases e : prs[j]? with
          | none => rw [e] at hy; cases hy
          | some tb => rw [e] at hy; exact ⟨tb, rfl, (Option.some.inj hy).symm⟩
        have hjp : j < ps.length := by
          rw [← TP.len]
          exact (List.getElem?_eq_some_iff.mp htb).1
        obtain ⟨x, hx⟩ : ∃ x, ps[j]? = some x := ⟨_, List.getElem?_eq_getElem hjp⟩
        have hxn := hps x (List.mem_of_getElem? hx)
        have htup := s4 _ _ (TP2.at_ j tb x htb hx)
        obtain ⟨cb, hcb⟩ : ∃ cb, cs[x.1]? = some cb := ⟨_, List.getElem?_eq_getElem (show x.1 < cs.length by rw [W.len]; exact hxn)⟩
        have hcl := (W.at_ x.1 cb hcb).2
        have hsq : SqT K H' tb [.int (x.1 : Int), .int x.2.1, .int x.2.2] := SqT.of htup
        refine ⟨_, rfl, _, rfl, tb, _, _, _, rfl, rfl, hsq, at0, _, rfl, tb, _, _, _, rfl, rfl, hsq, at1, _, rfl, tb, _, _, _, rfl, rfl, hsq, at2, a, g, x.1, x.2.1, x.2.2, rfl, s4.seq (s2.seq hS), wf, hxn, fun al nal => ?_⟩
        have s5 : Same H' (upd H' al (.lst [.int (kid g x.1 x.2.1 x.2.2).1, .int (kid g x.1 x.2.1 x.2.2).2])) := same_new nal
        have nal2 : al ≠ lg := fun e => by
          rw [e, TL.lst] at nal
          cases nal
        refine ⟨_, rfl, _, rfl, tb, _, _, _, rfl, rfl, SqT.of (s5 _ _ htup), at0, D, _, _, .ref cb, rfl, rfl, SqL.of (s5 _ _ (s4 _ _ W.lst)), atI_nat (by rw [List.getElem?_map, hcb]; rfl), ?_⟩
        generalize hz : kid g x.1 x.2.1 x.2.2 = zz at *
        -- behind the if both ways alike
        refine ⟨fun σ' H5 => Same H' H5 ∧ H5 al = some (.lst [.int zz.1, .int zz.2]) ∧ ∃ rc, rc ≠ lg ∧ H5 rc = some (.lst (nl (goesTo g l x.1 zz.1))) ∧ σ' = [some (.ref a), some (.ref pa), some (.ref b), some (.ref D), some (.ref lg), some (.ref tb), some (.ref al), some (.ref rc), v8, none], ?_, ?_⟩
        · refine ⟨_, rfl, al, _, _, _, rfl, rfl, SqL.of upd_same, at0, _, _, rfl, rfl, _, rfl, ?_⟩
          have hcl5 := s5 _ _ (s4 _ _ hcl)
          by_cases c : zz.1 < 0
          · refine ifT (decide_eq_true c) ⟨_, rfl, cb, _, rfl, SqL.of hcl5, fun q nq => ?_⟩
            refine ⟨s5.trans (same_new nq), by rw [upd_ne (ne_of_none upd_same nq), upd_same], q, fun e => ?_, ?_, rfl⟩
            · rw [e, s5 _ _ TL.lst] at nq
              cases nq
            · rw [upd_same]
              unfold goesTo nl
              rw [if_pos c, List.map_reverse]
          · refine ifF (decide_eq_false c) ⟨s5, upd_same, cb, ne_of_none hcl nlg, ?_, rfl⟩
            rw [hcl5]
            unfold goesTo
            rw [if_neg c]
        · rintro σ' H5 ⟨s6, hal, rc, nrc, hrc, rfl⟩
          have T5 : TupsAt H5 lg rs ((ps.take j).flatMap (kids g l)) := TL.same s6
          have ek : kids g l x = (goesTo g l x.1 zz.1).map fun m => (m, zz.1, zz.2) := by
            unfold kids
            rw [hz]
          have hgl : (goesTo g l x.1 zz.1).length ≤ 6 := by
            have := kids_len (g := g) (goals := l) x
            rw [ek, List.length_map] at this
            omega
          generalize goesTo g l x.1 zz.1 = gl at *
          refine ⟨_, rfl, rc, rfl, ⟨_, SqL.of hrc⟩, for_list (K := K) (a := rc) (xs := nl gl) (fun i σ6 H6 => SB lg H5 H6 ∧ (∃ rs', TupsAt H6 lg rs' ((ps.take j).flatMap (kids g l) ++ (gl.take i).map fun m => (m, zz.1, zz.2))) ∧ ∃ v8, σ6 = [some (.ref a), some (.ref pa), some (.ref b), some (.ref D), some (.ref lg), some (.ref tb), some (.ref al), some (.ref rc), v8, none])
            ⟨fun b' o e _ => e, ⟨rs, by rw [List.take_zero, List.map_nil, List.append_nil]; exact T5⟩, v8, rfl⟩ (fun i σ6 H6 _ ⟨s, _⟩ => SqL.of (s _ _ hrc nrc)) ?_ ?_⟩
          · rintro i y σ6 H6 hy ⟨s7, ⟨rs', T6⟩, v8, rfl⟩
            obtain ⟨m, hm, rfl⟩ := nl_get hy
            have hal6 := s7 _ _ hal nal2
            have hi6 : i < gl.length := (List.getElem?_eq_some_iff.mp hm).1
            have hsz := T6.len
            rw [List.length_append, List.length_map, List.length_take] at hsz
            have hfl := flat_len (kids g l) 6 (ps.take j) fun x _ => Nat.le_trans (kids_len x) hl
            rw [List.length_take] at hfl
            refine ⟨_, rfl, .inl ⟨rfl, _, SqL.of T6.lst⟩, _, rfl, _, rfl, al, _, _, _, rfl, rfl, SqL.of hal6, at0, _, rfl, al, _, _, _, rfl, rfl, SqL.of hal6, at1, (by show 3 ≤ sizeLine; decide), fun tp ntp => ?_⟩
            refine ⟨lg, _, _, rfl, rfl, (by rw [upd_ne (ne_of_none T6.lst ntp)]; exact T6.lst), ?_, ?_⟩
            · rw [List.length_map, hsz]
              exact Nat.lt_of_le_of_lt (show _ ≤ 400000 by omega) (by decide)
            · refine ⟨(s7.trans (SB.of (same_new ntp))).trans SB.put, ⟨rs' ++ [tp], ?_⟩, some (.int (m : Int)), rfl⟩
              have := T6.snoc (z := (m, zz.1, zz.2)) ntp
              rw [take_snoc hm, List.map_append, ← List.append_assoc]
              exact this
          · rintro σ6 H6 ⟨s7, ⟨rs', T6⟩, v8, rfl⟩
            refine ⟨SB.new (s4.trans s6) nlg s7, ⟨rs', ?_⟩, _, _, _, _, rfl⟩
            rw [nl_len, List.take_length, ← ek, ← flat_step hx] at T6
            exact T6
      · rintro σ H' ⟨s4, ⟨rs, TL⟩, v5, v6, v7, v8, rfl⟩
        refine ⟨_, rfl, ?_⟩
        rw [List.length_map, TP.len, List.take_length] at TL
        exact k H' lg rs (s2.trans s4) nlgH TL
end
end Fl

namespace Fl
open PySem PySem.Spec PyProof.Rows L2
open Su183 (Abs red does)
open Su183Neutral (asked1)
/-- places in a new list, each a new list of two numbers -/
structure PairsAt (H0 H : Hp) (a : Addr) (rs : List Addr) (zs : List (Int × Nat)) : Prop where
  lst : H a = some (.lst (rs.map V.ref))
  len : rs.length = zs.length
  at_ : ∀ (i : Nat) (b : Addr) (z : Int × Nat), rs[i]? = some b → zs[i]? = some z → H b = some (.lst [.int z.1, .int (z.2 : Int)])
  new : H0 a = none
  fresh : ∀ b ∈ rs, H0 b = none
  ne : ∀ b ∈ rs, b ≠ a
theorem PairsAt.same {H0 H H' : Hp} {a : Addr} {rs : List Addr} {zs : List (Int × Nat)} (T : PairsAt H0 H a rs zs) (s : Same H H') : PairsAt H0 H' a rs zs :=
  ⟨s _ _ T.lst, T.len, fun i b z h1 h2 => s _ _ (T.at_ i b z h1 h2), T.new, T.fresh, T.ne⟩
theorem PairsAt.from {H0 H1 H : Hp} {a : Addr} {rs : List Addr} {zs : List (Int × Nat)} (T : PairsAt H1 H a rs zs) (s : Same H0 H1) : PairsAt H0 H a rs zs :=
  ⟨T.lst, T.len, T.at_, s.free T.new, fun b h => s.free (T.fresh b h), T.ne⟩
theorem PairsAt.lead {H0 H : Hp} {a : Addr} {rs : List Addr} {zs : List (Int × Nat)} (T : PairsAt H0 H a rs zs) : LeadAt H a zs := ⟨rs, T.len, T.lst, T.at_⟩
theorem PairsAt.grow {H0 H1 H2 : Hp} {a : Addr} {rs rs2 : List Addr} {zs zs2 : List (Int × Nat)} (T : PairsAt H0 H1 a rs zs) (fr : SB a H1 H2) (hl : H2 a = some (.lst (rs.map V.ref ++ rs2.map V.ref))) (len : rs2.length = zs2.length)
    (new : ∀ (i : Nat) (b : Addr) (z : Int × Nat), rs2[i]? = some b → zs2[i]? = some z → H2 b = some (.lst [.int z.1, .int (z.2 : Int)])) (fresh : ∀ b ∈ rs2, H0 b = none) (ne : ∀ b ∈ rs2, b ≠ a) : PairsAt H0 H2 a (rs ++ rs2) (zs ++ zs2) := by
  refine ⟨by rw [hl, List.map_append], by rw [List.length_append, List.length_append, T.len, len], fun i b z h1 h2 => ?_, T.new, fun b hb => ?_, fun b hb => ?_⟩
  · by_cases hi : i < rs.length
    · rw [List.getElem?_append_left hi] at h1
      rw [List.getElem?_append_left (by rw [← T.len]; exact hi)] at h2
      exact fr _ _ (T.at_ i b z h1 h2) (T.ne b (List.mem_of_getElem? h1))
    · rw [List.getElem?_append_right (by omega)] at h1
      rw [List.getElem?_append_right (by rw [← T.len]; omega), ← T.len] at h2
      exact new _ b z h1 h2
  · rcases List.mem_append.mp hb with h | h
    · exact T.fresh b h
    · exact fresh b h
  · rcases List.mem_append.mp hb with h | h
    · exact T.ne b h
    · exact ne b h
theorem get_refs {rs : List Addr} {i : Nat} {y : V} (h : (rs.map V.ref)[i]? = some y) : ∃ b, rs[i]? = some b ∧ y = V.ref b := by
  rw [List.getElem?_map] at h
  cases e : rs[i]? with
  | none => rw [e] at h; cases h
  | some b => rw [e] at h; exact ⟨b, rfl, (Option.some.inj h).symm⟩
theorem one_pair {H : Hp} {b : Addr} {z : Int × Nat} (h : H b = some (.lst [.int z.1, .int (z.2 : Int)])) : ∀ (i : Nat) (c : Addr) (y : Int × Nat), [b][i]? = some c → [z][i]? = some y → H c = some (.lst [.int y.1, .int (y.2 : Int)]) := fun i c y h1 h2 => by
  have h0 : i = 0 := by
    have := (List.getElem?_eq_some_iff.mp h1).1
    simp at this
    omega
  subst h0
  obtain rfl : b = c := Option.some.inj h1
  obtain rfl : z = y := Option.some.inj h2
  exact h
def spPlacesL (K : PySem.W.Frag) : Sp := fun vs H Q _ => ∃ (a : Addr) (g : Abs) (start k : Nat), vs = [.ref a, .int (start : Int), .int (k : Int)] ∧ SqL K H a (gs g) ∧ WF g ∧ start < g.n ∧ 0 < k ∧ k ≤ 6 ∧
  ∀ (H' : Hp) (r : Addr) (rs : List Addr), Same H H' → PairsAt H H' r rs (ends g start k) → Q (.ref r) H'
def spWithin (K : PySem.W.Frag) : Sp := fun vs H Q _ => ∃ (a : Addr) (g : Abs) (start k : Nat), vs = [.ref a, .int (start : Int), .int (k : Int)] ∧ SqL K H a (gs g) ∧ WF g ∧ start < g.n ∧ 0 < k ∧ k ≤ 6 ∧
  ∀ (H' : Hp) (r : Addr) (rs : List Addr), Same H H' → PairsAt H H' r rs (inner g start k) → Q (.ref r) H'
def spAllL (K : PySem.W.Frag) : Sp := fun vs H Q _ => ∃ (a : Addr) (g : Abs) (k : Nat), vs = [.ref a, .int (k : Int)] ∧ SqL K H a (gs g) ∧ WF g ∧ 0 < k ∧ k ≤ 6 ∧
  ∀ (H' : Hp) (r : Addr) (rs : List Addr), Same H H' → PairsAt H H' r rs (leaders g k) → Q (.ref r) H'
theorem six_pow {k : Nat} (h : k ≤ 6) : 6 ^ k ≤ 46656 := Nat.le_trans (Nat.pow_le_pow_right (by decide) h) (by decide)
theorem ends_small {g : Abs} (wf : WF g) {start k : Nat} (hs : start < g.n) (k0 : 0 < k) (k6 : k ≤ 6) {z : Int × Nat} (h : z ∈ ends g start k) : z.2 < 1000000 := by
  obtain ⟨w, L, rfl, _⟩ := mem_ends hs k0 h
  exact place_small wf (by rw [L.len]; exact k6)
theorem ends_len {g : Abs} (wf : WF g) {start k : Nat} (k6 : k ≤ 6) : (ends g start k).length ≤ 46656 := by
  unfold ends
  rw [List.length_map]
  exact Nat.le_trans (List.length_filter_le _ _) (Nat.le_trans (paths_len wf start k k) (six_pow k6))
section
variable {P : Program} {w : World} {K : PySem.W.Frag} {mg : Str → Option Value} {base : Heap} {C : Addr}
theorem scPlacesL : FnScope ["points", "start", "k", "ways", "paths", "step", "path"] ["points", "start", "k"] (defScope sPlacesL) := ⟨rfl, rfl, rfl, by decide +kernel, rfl, by decide +kernel, by decide +kernel⟩
theorem ok_placesL {f : Addr} {fd : FuncData} (F : Fun K "places_of_loops" "places_of_loops" sPlacesL f fd) (T : Txt K mg C) (D1 : Def P w K mg base 3 "ways_back" (spWays K)) (D2 : Def P w K mg base 3 "longer_paths" (spLonger K)) (D3 : Def P w K mg base 1 "place_put_back" spPutBack) : FnOk P w K mg base CX0 4 f fd ["points", "start", "k"] (spPlacesL K) := by
  refine F.ok scPlacesL (fun vs H Q E h => ?_) (fun cdv A outer s H vs Q E hr h => ?_)
  · obtain ⟨a, g, start, k, rfl, _⟩ := h
    rfl
  · obtain ⟨a, g, start, n, rfl, hS, wf, hs, n0, n6, k⟩ := h
    refine ⟨_, pss_cons (ps_set (i := 3) scPlacesL.nd rfl (Or.inl rfl) (pe_def D1 hr (by decide) rfl (pa_cons (pv 0) (pa_cons (pv 1) (pa_cons (pv 2) pa_nil)))))
      (pss_cons (ps_set (i := 4) scPlacesL.nd rfl (Or.inl rfl) (pe_lst (pa_cons (pe_tup (pa_cons (pv 1) (pa_cons pe_int (pa_cons pe_int pa_nil)))) pa_nil)))
      (pss_cons (ps_for PassesOwn.never rfl (pi_range2 (by rfl) T.range (pa_cons pe_int (pa_cons (pe_op op_add (pv 2) pe_int) pa_nil))) (pg_name (i := 5) scPlacesL.nd rfl (Or.inl rfl))
        (pss_one (ps_set (i := 4) scPlacesL.nd rfl (Or.inl rfl) (pe_def D2 hr (by decide) rfl (pa_cons (pv 0) (pa_cons (pv 4) (pa_cons (pe_ix ix_list (pv 3) (pe_op (opZ0 op_sub) (pv 2) (pv 5)) (fun _ _ => rfl)) pa_nil)))))))
      (pss_one (ps_ret (pe_lc (own := [("path", 6)]) (g := gName 6) rfl scPlacesL.nd (pi_list (pv 4)) (blkOk_by (own := [("path", 6)]) (N := ["points", "start", "k", "ways", "paths", "step", "path"]) (sc := defScope sPlacesL) (by decide +kernel))
        (fun _ _ _ _ _ => pg_name (i := 6) scPlacesL.nd rfl (Or.inl rfl)) (fun _ _ _ _ _ => pts_one (pt_cmpR op_ne (pe_ix (show IxR _ (rIxT K) from ix_tup) (pv 6) pe_int (fun _ _ => rfl)) pe_int (nomark _)))
        (fun _ _ _ _ _ => pe_def D3 hr (by decide) rfl (pa_cons (pe_ix (show IxR _ (rIxT K) from ix_tup) (pv 6) pe_int (fun _ _ => rfl)) (pa_cons (pe_ix (show IxR _ (rIxT K) from ix_tup) (pv 6) pe_int (fun _ _ => rfl)) pa_nil)))))))), ?_⟩
    have h6 := wf.six
    refine ⟨_, rfl, _, rfl, _, rfl, a, g, start, n, rfl, hS, wf, by omega, fun H1 wy ws s1 nwy W => ?_⟩
    refine ⟨_, rfl, (by show 3 ≤ sizeLine; decide), fun t0 nt0 => ?_⟩
    have s2 := s1.trans (same_new (o := .tup [.int (start : Int), .int 1, .int 0]) nt0)
    refine ⟨(by show 1 ≤ sizeLine; decide), fun p0 np0 => ?_⟩
    have s3 := s2.trans (same_new (o := .lst [.ref t0]) np0)
    have W3 := (W.same (same_new (o := .tup [.int (start : Int), .int 1, .int 0]) nt0)).same (same_new (o := .lst [.ref t0]) np0)
    have s23 : Same (upd H1 t0 (.tup [.int (start : Int), .int 1, .int 0])) (upd (upd H1 t0 (.tup [.int (start : Int), .int 1, .int 0])) p0 (.lst [.ref t0])) := same_new np0
    refine ⟨_, rfl, _, _, rfl, rfl, 1, (n : Int) + 1, rfl, ⟨by omega, by omega, by omega, by omega⟩, ?_⟩
    have en : ((n : Int) + 1 - 1).toNat = n := by omega
    rw [en]
    refine for_range (lo := 1) (n := n) (fun j σ H' => Same (upd (upd H1 t0 (.tup [.int (start : Int), .int 1, .int 0])) p0 (.lst [.ref t0])) H' ∧ ∃ pa prs v5, TupsAt H' pa prs (paths g start n j) ∧ σ = [some (.ref a), some (.int (start : Int)), some (.int (n : Int)), some (.ref wy), some (.ref pa), v5, none])
      ⟨fun b o e => e, p0, [t0], none, ⟨upd_same, rfl, fun i b z e1 e2 => ?_⟩, rfl⟩ ?_ ?_
    · have h0 : i = 0 := by
        have := (List.getElem?_eq_some_iff.mp e1).1
        simp at this
        omega
      subst h0
      obtain rfl : t0 = b := Option.some.inj e1
      obtain rfl : ((start, 1, 0) : Nat × Int × Int) = z := Option.some.inj e2
      exact s23 _ _ upd_same
    · rintro j σ H' hj ⟨s4, pa, prs, v5, TP, rfl⟩
      have W4 := W3.same s4
      obtain ⟨b, hb⟩ : ∃ b, ws[n - (j + 1)]? = some b := ⟨_, List.getElem?_eq_getElem (show n - (j + 1) < ws.length by rw [W.len]; omega)⟩
      have hbl := (W4.at_ _ b hb).2
      have hlen : (paths g start n j).length ≤ 46656 := Nat.le_trans (paths_len wf start n j) (six_pow (by omega))
      refine ⟨_, rfl, _, rfl, _, rfl, _, rfl, _, rfl, _, _, .int ((n - (j + 1) : Nat) : Int), rfl, rfl, ?_, wy, _, _, .ref b, rfl, rfl, SqL.of W4.lst, atI_nat (by rw [List.getElem?_map, hb]; rfl), ?_⟩
      · show V.int _ = V.int _
        congr 1
        omega
      · refine ⟨a, pa, b, g, prs, _, wb g start (n - (j + 1)), rfl, (s3.trans s4).seq hS, TP, SqL.of hbl, wf, fun x hx => ?_, Nat.le_trans (wb_len g wf start _) h6, by omega, fun H5 r rs s5 nr TR => ?_⟩
        · obtain ⟨w, _, hc, _⟩ := paths_sound hs hx
          exact chain_lt hc x.1 (by simp)
        · exact ⟨s4.trans s5, r, rs, _, TR, rfl⟩
    · rintro σ H' ⟨s4, pa, prs, v5, TP, rfl⟩
      have hlen : (paths g start n n).length ≤ 46656 := Nat.le_trans (paths_len wf start n n) (six_pow n6)
      have s5 : Same H H' := s3.trans s4
      refine ⟨_, rfl, pa, rfl, ⟨_, SqL.of TP.lst⟩, fun D nD => ?_⟩
      have nDH : H D = none := s5.free nD
      refine lc_list (K := K) (a := pa) (xs := prs.map V.ref) (fun j H'' => Same H' H'' ∧ ∃ rs, PairsAt H H'' D rs ((((paths g start n n).take j).filter fun (x : Nat × Int × Int) => decide (x.2.1 ≠ 1)).map fun (x : Nat × Int × Int) => fix x.2.1 x.2.2))
        ⟨same_new nD, [], upd_same, rfl, fun i b z e => (by simp at e), nDH, fun b h => (by cases h), fun b h => (by cases h)⟩ (fun j H'' _ ⟨s, _⟩ => SqL.of (s _ _ TP.lst)) ?_ ?_
      · rintro j y H'' hy ⟨s6, rs, PR⟩
        obtain ⟨tb, htb, rfl⟩ := get_refs hy
        have hjp : j < (paths g start n n).length := by
          rw [← TP.len]
          exact (List.getElem?_eq_some_iff.mp htb).1
        obtain ⟨x, hx⟩ : ∃ x, (paths g start n n)[j]? = some x := ⟨_, List.getElem?_eq_getElem hjp⟩
        have htup := s6 _ _ (TP.at_ j tb x htb hx)
        have hsq : SqT K H'' tb [.int (x.1 : Int), .int x.2.1, .int x.2.2] := SqT.of htup
        refine ⟨rfl, _, rfl, tb, _, _, _, rfl, rfl, hsq, at1, rfl, _, rfl, ?_⟩
        by_cases c : x.2.1 = 1
        · refine iteNS (congrArg V.int c) ⟨s6, rs, ?_⟩
          rw [filter_step hx, if_neg (by simp [c]), List.append_nil]
          exact PR
        · refine ifT ?_ ?_
          · rw [Bool.not_eq_true', decide_eq_false_iff_not]
            exact fun z => c (V.int.inj z)
          · refine ⟨_, rfl, tb, _, _, _, rfl, rfl, hsq, at1, _, rfl, tb, _, _, _, rfl, rfl, hsq, at2, x.2.1, x.2.2, rfl, c, fun r nr => ?_⟩
            have nrD : r ≠ D := fun e => by
              rw [e, PR.lst] at nr
              cases nr
            refine ⟨_, (by rw [upd_ne nrD.symm]; exact PR.lst), ?_, fun b o e => ?_, rs ++ [r], ?_⟩
            · rw [List.length_map, PR.len, List.length_map]
              have h1 := List.length_filter_le (fun x : Nat × Int × Int => decide (x.2.1 ≠ 1)) ((paths g start n n).take j)
              rw [List.length_take] at h1
              exact Nat.lt_of_le_of_lt (show _ ≤ 46656 by omega) (by decide)
            · have e1 := s6 b o e
              rw [upd_ne (ne_of_none e nD), upd_ne (ne_of_none e1 nr)]
              exact e1
            · rw [filter_step hx, if_pos (by simp [c]), List.map_append]
              refine PR.grow (rs2 := [r]) (fun b o e nb => ?_) upd_same rfl (one_pair ?_) (fun b hb => ?_) (fun b hb => ?_)
              · rw [upd_ne nb, upd_ne (ne_of_none e nr)]
                exact e
              · rw [upd_ne nrD, upd_same]
              · obtain rfl := List.mem_singleton.mp hb
                exact s5.free (s6.free nr)
              · obtain rfl := List.mem_singleton.mp hb
                exact nrD
      · rintro H'' ⟨s6, rs, PR⟩
        rw [List.length_map, TP.len, List.take_length] at PR
        exact k H'' D rs (s5.trans s6) PR
end
end Fl

namespace Fl
open PySem PySem.Spec PyProof.Rows L2
open Su183 (Abs red does)
open Su183Neutral (asked1)
section
variable {P : Program} {w : World} {K : PySem.W.Frag} {mg : Str → Option Value} {base : Heap} {C : Addr}
theorem scWithin : FnScope ["points", "piece", "k", "leaders", "place", "p", "q"] ["points", "piece", "k"] (defScope sWithin) := ⟨rfl, rfl, rfl, by decide +kernel, rfl, by decide +kernel, by decide +kernel⟩
theorem ok_within {f : Addr} {fd : FuncData} (F : Fun K "leaders_within" "leaders_within" sWithin f fd) (D1 : Def P w K mg base 4 "places_of_loops" (spPlacesL K)) (D2 : Def P w K mg base 2 "leads" (spLeads K)) : FnOk P w K mg base CX0 5 f fd ["points", "piece", "k"] (spWithin K) := by
  refine F.ok scWithin (fun vs H Q E h => ?_) (fun cdv A outer s H vs Q E hr h => ?_)
  · obtain ⟨a, g, start, k, rfl, _⟩ := h
    rfl
  · obtain ⟨a, g, start, n, rfl, hS, wf, hs, n0, n6, k⟩ := h
    refine ⟨_, pss_cons (ps_set (i := 3) scWithin.nd rfl (Or.inl rfl) (pe_lst pa_nil))
      (pss_cons (ps_for PassesOwn.never rfl (pi_list (pe_def D1 hr (by decide) rfl (pa_cons (pv 0) (pa_cons (pv 1) (pa_cons (pv 2) pa_nil))))) (pg_name (i := 4) scWithin.nd rfl (Or.inl rfl))
        (pss_cons (ps_set (i := 5) scWithin.nd rfl (Or.inl rfl) (pe_ix ix_list (pv 4) pe_int (fun _ _ => rfl)))
        (pss_cons (ps_set (i := 6) scWithin.nd rfl (Or.inl rfl) (pe_ix ix_list (pv 4) pe_int (fun _ _ => rfl)))
        (pss_one (ps_if (PW.pt (pw_and (pt_cmpR op_ne (pe_op (opZ op_mod) (pv 5) (pv 6)) pe_int (nomark _)) (pw_and1 (pt_val (pe_def D2 hr (by decide) rfl (pa_cons (pv 0) (pa_cons (pv 5) (pa_cons (pv 6) (pa_cons (pv 2) pa_nil)))))))))
          (pss_one (ps_expr (pe_bm PySem.F.plainAttrs_list PySem.F.slot_list_append PySem.F.type_list_append mt_append (pv 3) (pa_cons (pv 4) pa_nil)))) pss_nil)))))
      (pss_one (ps_ret (pv 3)))), ?_⟩
    refine ⟨Nat.zero_le _, fun lw nlw => ?_⟩
    have s0 : Same H (upd H lw (.lst [])) := same_new nlw
    refine ⟨_, rfl, _, rfl, _, rfl, a, g, start, n, rfl, s0.seq hS, wf, hs, n0, n6, fun H2 r rs s2 PR => ?_⟩
    have hlen := ends_len wf (start := start) n6
    have nrw : r ≠ lw := fun e => by
      have := PR.new
      rw [e, upd_same] at this
      cases this
    have nbw : ∀ b ∈ rs, b ≠ lw := fun b hb e => by
      have := PR.fresh b hb
      rw [e, upd_same] at this
      cases this
    have frH : ∀ b ∈ rs, H b = none := fun b hb => s0.free (PR.fresh b hb)
    refine ⟨r, rfl, ⟨_, SqL.of PR.lst⟩, for_list (K := K) (a := r) (xs := rs.map V.ref) (fun j σ H' => SB lw H2 H' ∧ (∃ rs', PairsAt H H' lw rs' (((ends g start n).take j).filter fun (z : Int × Nat) => decide (z.1 % (z.2 : Int) ≠ 0) && leadsB g z.2 z.1 n)) ∧ ∃ v4 v5 v6, σ = [some (.ref a), some (.int (start : Int)), some (.int (n : Int)), some (.ref lw), v4, v5, v6])
      ⟨fun b o e _ => e, ⟨[], s2 _ _ upd_same, rfl, fun i b z e => (by simp at e), nlw, fun b h => (by cases h), fun b h => (by cases h)⟩, none, none, none, rfl⟩ (fun j σ H' _ ⟨s, _⟩ => SqL.of (s _ _ PR.lst nrw)) ?_ ?_⟩
    · rintro j y σ H' hy ⟨s3, ⟨rs', P3⟩, v4, v5, v6, rfl⟩
      obtain ⟨b, hb, rfl⟩ := get_refs hy
      have hbm := List.mem_of_getElem? hb
      have hjp : j < (ends g start n).length := by
        rw [← PR.len]
        exact (List.getElem?_eq_some_iff.mp hb).1
      obtain ⟨z, hz⟩ : ∃ z, (ends g start n)[j]? = some z := ⟨_, List.getElem?_eq_getElem hjp⟩
      have hzm := List.mem_of_getElem? hz
      obtain ⟨z1, z2, _⟩ := ends_on hs n0 hzm
      have z3 := ends_small wf hs n0 n6 hzm
      have hbl := s3 _ _ (PR.at_ j b z hb hz) (nbw b hbm)
      have hS3 : SqL K H' a (gs g) := (SB.new (s0.trans s2) nlw s3).seq hS
      refine ⟨_, rfl, b, _, _, _, rfl, rfl, SqL.of hbl, at0, _, rfl, b, _, _, _, rfl, rfl, SqL.of hbl, at1, ?_⟩
      refine ⟨_, rfl, _, rfl, _, _, .int (z.1 % (z.2 : Int)), rfl, rfl, (by show (0 : Int) < (z.2 : Int); omega), rfl, rfl, _, rfl, ?_⟩
      have no : ((decide (z.1 % (z.2 : Int) ≠ 0) && leadsB g z.2 z.1 n) = false) → ∃ rs', PairsAt H H' lw rs' (((ends g start n).take (j + 1)).filter fun (z : Int × Nat) => decide (z.1 % (z.2 : Int) ≠ 0) && leadsB g z.2 z.1 n) := fun e => ⟨rs', by
        rw [filter_step hz, if_neg (by rw [e]; decide), List.append_nil]
        exact P3⟩
      by_cases c : z.1 % (z.2 : Int) = 0
      · refine iteNS (congrArg V.int c) ⟨s3, no ?_, _, _, _, rfl⟩
        simp [c]
      · refine ifT ?_ ?_
        · rw [Bool.not_eq_true', decide_eq_false_iff_not]
          exact fun e => c (V.int.inj e)
        · refine ⟨_, rfl, _, rfl, _, rfl, _, rfl, a, g, z.1, z.2, n, rfl, hS3, wf, z1, z3, z2, n0, by omega, _, rfl, ?_⟩
          cases d : leadsB g z.2 z.1 n with
          | false =>
            refine ifF rfl ⟨s3, no (by rw [d, Bool.and_false]), _, _, _, rfl⟩
          | true =>
            refine ifT rfl ⟨_, rfl, .inl ⟨rfl, _, SqL.of P3.lst⟩, _, rfl, lw, _, _, rfl, rfl, P3.lst, ?_, ?_⟩
            · rw [List.length_map, P3.len]
              have h1 := List.length_filter_le (fun (z : Int × Nat) => decide (z.1 % (z.2 : Int) ≠ 0) && leadsB g z.2 z.1 n) ((ends g start n).take j)
              rw [List.length_take] at h1
              exact Nat.lt_of_le_of_lt (show _ ≤ 46656 by omega) (by decide)
            · refine ⟨s3.trans SB.put, ⟨rs' ++ [b], ?_⟩, _, _, _, rfl⟩
              rw [filter_step hz, if_pos (by rw [d, Bool.and_true]; exact decide_eq_true c)]
              refine P3.grow (rs2 := [b]) SB.put upd_same rfl (one_pair ?_) (fun b' hb' => ?_) (fun b' hb' => ?_)
              · rw [upd_ne (nbw b hbm)]
                exact hbl
              · obtain rfl := List.mem_singleton.mp hb'
                exact frH _ hbm
              · obtain rfl := List.mem_singleton.mp hb'
                exact nbw _ hbm
    · rintro σ H' ⟨s3, ⟨rs', P3⟩, v4, v5, v6, rfl⟩
      refine ⟨_, rfl, ?_⟩
      rw [List.length_map, PR.len, List.take_length] at P3
      exact k H' lw rs' (SB.new (s0.trans s2) nlw s3) P3
theorem scAllL : FnScope ["points", "k", "leaders", "point"] ["points", "k"] (defScope sAllL) := ⟨rfl, rfl, rfl, by decide +kernel, rfl, by decide +kernel, by decide +kernel⟩
theorem ok_allL {f : Addr} {fd : FuncData} (F : Fun K "all_leaders" "all_leaders" sAllL f fd) (T : Txt K mg C) (D1 : Def P w K mg base 2 "leads" (spLeads K)) (D2 : Def P w K mg base 5 "leaders_within" (spWithin K)) : FnOk P w K mg base CX0 6 f fd ["points", "k"] (spAllL K) := by
  refine F.ok scAllL (fun vs H Q E h => ?_) (fun cdv A outer s H vs Q E hr h => ?_)
  · obtain ⟨a, g, k, rfl, _⟩ := h
    rfl
  · obtain ⟨a, g, n, rfl, hS, wf, n0, n6, k⟩ := h
    refine ⟨_, pss_cons (ps_set (i := 2) scAllL.nd rfl (Or.inl rfl) (pe_lst pa_nil))
      (pss_cons (ps_for PassesOwn.never rfl (pi_range1 rfl T.range (pa_cons (pe_callB call_len_seq (by rfl) T.len PySem.boot_len (pa_cons (pv 0) pa_nil)) pa_nil)) (pg_name (i := 3) scAllL.nd rfl (Or.inl rfl))
        (C8.pss_cut (ps_if (pt_val (pe_def D1 hr (by decide) rfl (pa_cons (pv 0) (pa_cons (pv 3) (pa_cons pe_int (pa_cons (pv 1) pa_nil)))))) (pss_one (ps_expr (pe_bm PySem.F.plainAttrs_list PySem.F.slot_list_append PySem.F.type_list_append mt_append (pv 2) (pa_cons (pe_lst (pa_cons (pv 3) (pa_cons pe_int pa_nil))) pa_nil)))) pss_nil)
        (pss_one (ps_if (pt_cmpR op_lt (pv 3) (pe_op (opZ0 op_sub) (pe_callB call_len_seq (by rfl) T.len PySem.boot_len (pa_cons (pv 0) pa_nil)) pe_int) (nomark _))
          (pss_one (ps_expr (pe_bm PySem.F.plainAttrs_list PySem.F.slot_list_extend PySem.F.type_list_extend mt_extend (pv 2) (pa_cons (pe_def D2 hr (by decide) rfl (pa_cons (pv 0) (pa_cons (pv 3) (pa_cons (pv 1) pa_nil)))) pa_nil)))) pss_nil))))
      (pss_one (ps_ret (pv 2)))), ?_⟩
    have h6 := wf.six
    have hlen := gs_len wf
    refine ⟨Nat.zero_le _, fun la nla => ?_⟩
    have s0 : Same H (upd H la (.lst [])) := same_new nla
    refine ⟨_, rfl, a, _, rfl, .inl (s0.seq hS), _, rfl, by omega, by omega, ?_⟩
    have en : (((gs g).length : Int)).toNat = g.n + 1 := by rw [hlen]; omega
    rw [en]
    have bl : ∀ j, ((List.range j).flatMap (block g n)).length ≤ j * 46657 := fun j => by
      have := flat_len (block g n) 46657 (List.range j) fun i _ => Nat.le_trans (block_len wf n i) (by have := six_pow n6; omega)
      rw [List.length_range] at this
      exact this
    have rsucc : ∀ j, (List.range (j + 1)).flatMap (block g n) = (List.range j).flatMap (block g n) ++ block g n j := fun j => by
      rw [List.range_succ, List.flatMap_append, List.flatMap_cons, List.flatMap_nil, List.append_nil]
    refine for_range (n := g.n + 1) (fun j σ H' => Same H H' ∧ (∃ rs, PairsAt H H' la rs ((List.range j).flatMap (block g n))) ∧ ∃ v, σ = [some (.ref a), some (.int (n : Int)), some (.ref la), v])
      ⟨s0, ⟨[], upd_same, rfl, fun i b z e => (by simp at e), nla, fun b h => (by cases h), fun b h => (by cases h)⟩, none, rfl⟩ ?_ ?_
    · rintro j σ H' hj ⟨s1, ⟨rs, PR⟩, v, rfl⟩
      have e0 : (0 : Int) + (j : Int) = (j : Int) := by omega
      rw [e0]
      have hb := bl j
      refine ⟨fun σ' H2 => Same H H2 ∧ (∃ rs, PairsAt H H2 la rs ((List.range j).flatMap (block g n) ++ (if leadsB g 1 (j : Int) n = true then [((j : Int), 1)] else []))) ∧ σ' = [some (.ref a), some (.int (n : Int)), some (.ref la), some (.int (j : Int))], ?_, ?_⟩
      · refine ⟨_, rfl, _, rfl, _, rfl, a, g, (j : Int), 1, n, rfl, s1.seq hS, wf, by decide, by decide, point_on (by omega), n0, by omega, _, rfl, ?_⟩
        cases c : leadsB g 1 (j : Int) n with
        | false =>
          refine ifF rfl ⟨s1, ⟨rs, ?_⟩, rfl⟩
          rw [if_neg (by decide), List.append_nil]
          exact PR
        | true =>
          refine ifT rfl ⟨_, rfl, .inl ⟨rfl, _, SqL.of PR.lst⟩, _, rfl, (by show 2 ≤ sizeLine; decide), fun r nr => ?_⟩
          have nra : r ≠ la := fun e => by
            rw [e, PR.lst] at nr
            cases nr
          refine ⟨la, _, _, rfl, rfl, (by rw [upd_ne nra.symm]; exact PR.lst), ?_, ?_⟩
          · rw [List.length_map, PR.len]
            exact Nat.lt_of_le_of_lt (show _ ≤ 326599 by omega) (by decide)
          · refine ⟨fun b o e => ?_, ⟨rs ++ [r], ?_⟩, rfl⟩
            · rw [upd_ne (ne_of_none e nla), upd_ne (ne_of_none (s1 b o e) nr)]
              exact s1 b o e
            · rw [if_pos rfl]
              refine PR.grow (rs2 := [r]) ((SB.of (same_new nr)).trans SB.put) upd_same rfl (one_pair ?_) (fun b hb => ?_) (fun b hb => ?_)
              · rw [upd_ne nra, upd_same]
                rfl
              · obtain rfl := List.mem_singleton.mp hb
                exact s1.free nr
              · obtain rfl := List.mem_singleton.mp hb
                exact nra
      · rintro σ' H2 ⟨s2, ⟨rs2, P2⟩, rfl⟩
        have eb : (List.range (j + 1)).flatMap (block g n) = ((List.range j).flatMap (block g n) ++ (if leadsB g 1 (j : Int) n = true then [((j : Int), 1)] else [])) ++ (if j < g.n then inner g j n else []) := by
          rw [rsucc, List.append_assoc]
          rfl
        have hb2 := bl (j + 1)
        rw [eb, List.length_append] at hb2
        generalize (List.range j).flatMap (block g n) ++ (if leadsB g 1 (j : Int) n = true then [((j : Int), 1)] else []) = zs at *
        refine ⟨_, rfl, _, rfl, a, _, rfl, .inl (s2.seq hS), _, _, .int (g.n : Int), rfl, rfl, ?_, _, _, rfl, rfl, _, rfl, ?_⟩
        · rw [hlen]
          show V.int _ = V.int _
          congr 1
          omega
        · by_cases c : j < g.n
          · refine ifT (decide_eq_true (by omega)) ?_
            rw [if_pos c] at eb hb2
            refine ⟨_, rfl, .inl ⟨rfl, _, SqL.of P2.lst⟩, _, rfl, _, rfl, _, rfl, a, g, j, n, rfl, s2.seq hS, wf, c, n0, n6, fun H3 r rs3 s3 P3 => ?_⟩
            have hsz : rs2.length + rs3.length ≤ 326599 := by
              rw [P2.len, P3.len]
              omega
            have hsz2 : (326599 : Nat) ≤ sizeLine := by decide
            refine ⟨la, r, _, _, rfl, rfl, s3 _ _ P2.lst, P3.lst, ?_, ?_⟩
            · rw [List.length_map, List.length_map]
              exact Nat.le_trans hsz hsz2
            · have nbl : ∀ b ∈ rs3, b ≠ la := fun b hb e => by
                have := P3.fresh b hb
                rw [e, P2.lst] at this
                cases this
              refine ⟨fun b o e => ?_, ⟨rs2 ++ rs3, ?_⟩, _, rfl⟩
              · rw [upd_ne (ne_of_none e nla)]
                exact s3 _ _ (s2 b o e)
              · rw [eb]
                refine P2.grow ((SB.of s3).trans SB.put) upd_same P3.len (fun i b z e1 e2 => ?_) (fun b hb => s2.free (P3.fresh b hb)) nbl
                rw [upd_ne (nbl b (List.mem_of_getElem? e1))]
                exact P3.at_ i b z e1 e2
          · refine ifF (decide_eq_false (by omega)) ⟨s2, ⟨rs2, ?_⟩, _, rfl⟩
            rw [eb, if_neg c, List.append_nil]
            exact P2
    · rintro σ H' ⟨s1, ⟨rs, PR⟩, v, rfl⟩
      exact ⟨_, rfl, k H' la rs s1 PR⟩
end
end Fl

namespace Fl
open PySem PySem.Spec PyProof.Rows L2
open Su183 (Abs red does)
open Su183Neutral (asked1)
theorem valV_mem {kvs : List (Key × V)} {k : Key} {v : V} (h : valV kvs k = some v) : (k, v) ∈ kvs := by
  induction kvs with
  | nil => cases h
  | cons a l ih =>
    by_cases e : a.1 = k
    · rw [valV_pos e] at h
      have : a = (k, v) := Prod.ext e (Option.some.inj h)
      rw [this]
      exact List.mem_cons_self
    · rw [valV_neg e] at h
      exact List.mem_cons_of_mem _ (ih h)
theorem valV_none {kvs : List (Key × V)} {k : Key} (h : valV kvs k = none) : k ∉ kvs.map Prod.fst := by
  induction kvs with
  | nil => intro z; cases z
  | cons a l ih =>
    by_cases e : a.1 = k
    · rw [valV_pos e] at h
      cases h
    · rw [valV_neg e] at h
      intro z
      rcases List.mem_cons.mp z with z | z
      · exact e z.symm
      · exact ih h z
theorem int_key {a b : Int} (h : (Sum.inl a : Key) = Sum.inl b) : a = b := Sum.inl.inj h
def OwnStep (H H' : Hp) (x : Addr) : Prop := ∀ b, Own H' x b → Own H x b ∨ H b = none
def spLeadersOf (C : Addr) : Sp := fun vs H Q _ => ∃ (x d : Addr) (g : Abs) (k : Nat), vs = [.ref x, .int (k : Int)] ∧ LineAt C H x d (some g) ∧ WF g ∧ 1 ≤ k ∧ k ≤ 6 ∧
  ∀ (H' : Hp) (a : Addr), LineAt C H' x d (some g) → OwnStep H H' x → LeadAt H' a (leaders g k) → SB d H H' → Q (.ref a) H'
/-- a call that keeps the line but for what it keeps of rounds: its end -/
theorem kept {C : Addr} {H H1 H2 : Hp} {Q : VK} {x d r : Addr} {s : Option Abs} {c ans : List Int} (k : Wish C H x d s c Q) (e : Su183Neutral.step s c = (s, ans))
    (L : LineAt C H1 x d s) (ow : OwnStep H H1 x) (sb : SB d H H1) (sm : Same H1 H2) (hr : H1 r = none) (h : H2 r = some (.lst (ans.map V.int))) : Q (.ref r) H2 := by
  unfold Wish at k
  rw [e] at k
  obtain ⟨kvs, hd⟩ := L.dict
  have nrd : r ≠ d := fun z => by rw [z, hd] at hr; cases hr
  have hr0 : H r = none := by
    cases z : H r with
    | none => rfl
    | some o =>
      rw [sb r o z nrd] at hr
      cases hr
  exact k H2 r d (L.same sm) (fun b o => ow b (own_same L sm o)) (.inl rfl) hr0 h fun b o z _ n => sm _ _ (sb b o z n)
section
variable {P : Program} {w : World} {K : PySem.W.Frag} {mg : Str → Option Value} {base : Heap} {C : Addr}
theorem scLeadersOf : FnScope ["line", "k"] ["line", "k"] (defScope sLeadersOf) := ⟨rfl, rfl, rfl, by decide +kernel, rfl, by decide +kernel, by decide +kernel⟩
theorem ok_leadersOf {f : Addr} {fd : FuncData} (F : Fun K "leaders_of" "leaders_of" sLeadersOf f fd) (T : Txt K mg C) (D : Def P w K mg base 6 "all_leaders" (spAllL K)) : FnOk P w K mg base CX0 7 f fd ["line", "k"] (spLeadersOf C) := by
  refine F.ok scLeadersOf (fun vs H Q E h => ?_) (fun cdv A outer s H vs Q E hr h => ?_)
  · obtain ⟨x, d, g, k, rfl, _⟩ := h
    rfl
  · obtain ⟨x, d, g, n, rfl, L, wf, n1, n6, k⟩ := h
    have hu := hu_of hr
    refine ⟨_, pss_cons (ps_if (pt_cmp (pc_dnotin hu (pv 1) (pe_fld (pv 0) rfl))) (pss_one (ps_dput hu (pe_fld (pv 0) rfl) (pv 1) (pe_def D hr (by decide) rfl (pa_cons (pe_fld (pv 0) rfl) (pa_cons (pv 1) pa_nil))) rfl)) pss_nil)
      (pss_one (ps_ret (pe_dget hu (pe_fld (pv 0) rfl) (pv 1) (fun _ _ => rfl)))), ?_⟩
    obtain ⟨dx, l, kvs, h1, h2, h3, h4⟩ := L.opens
    have nxd : x ≠ d := ne_of h1 h3 (by intro q; cases q)
    have nld : l ≠ d := ne_of h2 h3 (by intro q; cases q)
    refine ⟨_, rfl, _, rfl, x, C, dx, _, _, rfl, h1, T.cl, T.nL, pF_lkD l d, d, _, rfl, DGet.k (k := Sum.inl (n : Int)) h3, _, rfl, ?_⟩
    cases hv : valV kvs (Sum.inl (n : Int) : Key) with
    | some v =>
      refine iteF ?_
      obtain ⟨m, a, g', eg, ea, m1, m6, LA⟩ := h4.keys _ (valV_mem hv)
      obtain ⟨e1, rfl⟩ := Prod.mk.inj ea
      have emn : n = m := by
        have := int_key e1
        omega
      subst emn
      obtain rfl := Option.some.inj eg
      have DG : DGet H d (.int (n : Int)) (some (.ref a)) := by
        have := DGet.k (k := (Sum.inl (n : Int) : Key)) h3
        rw [hv] at this
        exact this
      refine ⟨_, rfl, x, C, dx, _, _, rfl, h1, T.cl, T.nL, pF_lkD l d, _, rfl, d, _, rfl, DG, ?_⟩
      exact k H a L (fun b o => .inl o) LA (fun b o e _ => e)
    | none =>
      refine iteT ?_
      refine ⟨_, rfl, x, C, dx, _, _, rfl, h1, T.cl, T.nP, pF_lk l d, _, rfl, l, g, n, rfl, SqL.of h2, wf, n1, n6, fun H1 r rs s1 PR => ?_⟩
      refine ⟨_, rfl, x, C, dx, _, _, rfl, s1 _ _ h1, T.cl, T.nL, pF_lkD l d, _, rfl, d, _, rfl, DPut.k (k := Sum.inl (n : Int)) (s1 _ _ h3) (Nat.lt_of_le_of_lt h4.len (by decide)), ?_⟩
      rw [putK_new _ hv]
      have hx2 : upd H1 d (.dK (kvs ++ [((Sum.inl (n : Int) : Key), V.ref r)])) x = some (.ins C dx (pF l d)) := by
        rw [upd_ne nxd]
        exact s1 _ _ h1
      have DG : DGet (upd H1 d (.dK (kvs ++ [((Sum.inl (n : Int) : Key), V.ref r)]))) d (.int (n : Int)) (some (.ref r)) := by
        have := DGet.k (k := (Sum.inl (n : Int) : Key)) (H := upd H1 d (.dK (kvs ++ [((Sum.inl (n : Int) : Key), V.ref r)]))) upd_same
        rw [valV_snoc _ _ _ _ hv, if_pos rfl] at this
        exact this
      have lists : ∀ b xs, H1 b = some (.lst xs) → upd H1 d (.dK (kvs ++ [((Sum.inl (n : Int) : Key), V.ref r)])) b = some (.lst xs) := fun b xs e => by
        rw [upd_ne (ne_of e (s1 _ _ h3) (by intro q; cases q))]
        exact e
      have LA2 : LeadAt (upd H1 d (.dK (kvs ++ [((Sum.inl (n : Int) : Key), V.ref r)]))) r (leaders g n) := PR.lead.mono lists
      refine ⟨_, rfl, x, C, dx, _, _, rfl, hx2, T.cl, T.nL, pF_lkD l d, _, rfl, d, _, rfl, DG, ?_⟩
      refine k _ r ⟨dx, l, _, hx2, ?_, upd_same, ?_, fun kv hkv => ?_⟩ (fun b o => ?_) LA2 (fun b o e nb => ?_)
      · rw [upd_ne nld]
        exact s1 _ _ h2
      · rw [List.map_append, List.nodup_append]
        refine ⟨h4.nd, List.pairwise_singleton _ _, fun a ha b hb => ?_⟩
        obtain rfl := List.mem_singleton.mp hb
        intro z
        have z' : a = (Sum.inl (n : Int) : Key) := z
        rw [z'] at ha
        exact valV_none hv ha
      · rcases List.mem_append.mp hkv with h | h
        · obtain ⟨m, a, g', e1, e2, e3, e4, e5⟩ := h4.keys kv h
          exact ⟨m, a, g', e1, e2, e3, e4, (e5.mono fun b xs e => s1 _ _ e).mono lists⟩
        · obtain rfl := List.mem_singleton.mp h
          exact ⟨n, r, g, rfl, rfl, n1, n6, LA2⟩
      · obtain ⟨C', dx', l', d', e1, e2⟩ := o
        obtain ⟨rfl, rfl⟩ := ins_inj hx2 e1
        rcases e2 with e2 | ⟨kvs', e3, key, a, hm, e4⟩
        · exact .inl ⟨C, dx, l, d, h1, .inl e2⟩
        · rw [upd_same] at e3
          obtain rfl := HO.dK.inj (Option.some.inj e3)
          rcases List.mem_append.mp hm with hm | hm
          · left
            refine ⟨C, dx, l, d, h1, .inr ⟨kvs, h3, key, a, hm, ?_⟩⟩
            rcases e4 with e4 | ⟨rs', e5, e6⟩
            · exact .inl e4
            · obtain ⟨m, a', g', _, ea, _, _, rs2, _, e7, _⟩ := h4.keys _ hm
              obtain rfl := V.ref.inj (Prod.mk.inj ea).2
              rw [lists _ _ (s1 _ _ e7)] at e5
              obtain rfl := refs_inj (HO.lst.inj (Option.some.inj e5))
              exact .inr ⟨rs2, e7, e6⟩
          · right
            obtain rfl := V.ref.inj (Prod.mk.inj (List.mem_singleton.mp hm)).2
            rcases e4 with e4 | ⟨rs', e5, e6⟩
            · rw [e4]
              exact PR.new
            · rw [lists _ _ PR.lst] at e5
              obtain rfl := refs_inj (HO.lst.inj (Option.some.inj e5))
              exact PR.fresh b e6
      · rw [upd_ne nb]
        exact s1 _ _ e
/-! ### why rounds can't be told -/
def refN (g : Abs) (k : Int) : Int := if Su183.okSteps k.toNat = false then -22 else if g.endless k.toNat = true then -75 else 0
def spStepsRef (C : Addr) : Sp := fun vs H Q _ => ∃ (x d : Addr) (g : Abs) (k : Int), vs = [.ref x, .int k] ∧ LineAt C H x d (some g) ∧ WF g ∧ 0 ≤ k ∧ ∀ H', Same H H' → Q (.int (refN g k)) H'
theorem scStepsRef : FnScope ["line", "k"] ["line", "k"] (defScope sStepsRef) := ⟨rfl, rfl, rfl, by decide +kernel, rfl, by decide +kernel, by decide +kernel⟩
theorem ok_stepsRef {f : Addr} {fd : FuncData} (F : Fun K "steps_refused" "steps_refused" sStepsRef f fd) (T : Txt K mg C) (D1 : Def P w K mg base 1 "is_steps" spIsSteps) (D2 : Def P w K mg base 2 "has_endless" (spEndless K)) : FnOk P w K mg base CX0 3 f fd ["line", "k"] (spStepsRef C) := by
  refine F.ok scStepsRef (fun vs H Q E h => ?_) (fun cdv A outer s H vs Q E hr h => ?_)
  · obtain ⟨x, d, g, k, rfl, _⟩ := h
    rfl
  · obtain ⟨x, d, g, n, rfl, L, wf, n0, k⟩ := h
    refine ⟨_, pss_cons (ps_if (pt_not (pt_val (pe_def D1 hr (by decide) rfl (pa_cons (pv 1) pa_nil)))) (pss_one (ps_ret (pe_k rfl T.c22))) pss_nil)
      (pss_cons (ps_if (pt_val (pe_def D2 hr (by decide) rfl (pa_cons (pe_fld (pv 0) rfl) (pa_cons (pv 1) pa_nil)))) (pss_one (ps_ret (pe_k rfl T.c75))) pss_nil)
      (pss_one (ps_ret pe_int))), ?_⟩
    obtain ⟨dx, l, kvs, h1, h2, h3, h4⟩ := L.opens
    unfold refN at k
    refine ⟨_, rfl, n, rfl, n0, _, rfl, ?_⟩
    cases c : Su183.okSteps n.toNat with
    | false =>
      rw [if_pos c] at k
      exact ifT rfl (k H fun b o e => e)
    | true =>
      rw [if_neg (by rw [c]; decide)] at k
      obtain ⟨c1, c2⟩ := okSteps_yes n0 c
      refine ifF rfl ?_
      obtain ⟨m, rfl⟩ : ∃ m : Nat, n = (m : Int) := ⟨n.toNat, by omega⟩
      have em : ((m : Int)).toNat = m := by omega
      rw [em] at k
      refine ⟨_, rfl, x, C, dx, _, _, rfl, h1, T.cl, T.nP, pF_lk l d, _, rfl, l, g, m, rfl, SqL.of h2, wf, by omega, by omega, fun H' sm => ⟨_, rfl, ?_⟩⟩
      cases e : g.endless m with
      | true =>
        rw [if_pos e] at k
        exact ifT rfl (k H' sm)
      | false =>
        rw [if_neg (by rw [e]; decide)] at k
        exact ifF rfl (k H' sm)
theorem refN_zero {g : Abs} {k : Int} (k0 : 0 ≤ k) (h : refN g k = 0) : 1 ≤ k ∧ k ≤ 6 ∧ g.endless k.toNat = false := by
  unfold refN at h
  split at h
  · cases h
  · rename_i c
    have c' : Su183.okSteps k.toNat = true := by
      cases e : Su183.okSteps k.toNat with
      | true => rfl
      | false => exact absurd e c
    obtain ⟨c1, c2⟩ := okSteps_yes k0 c'
    split at h
    · cases h
    · rename_i d
      exact ⟨c1, c2, by rw [← Bool.not_eq_true]; exact d⟩
theorem refN_not {g : Abs} {k : Int} (k0 : 0 ≤ k) (h : refN g k ≠ 0) : refN g k < 0 ∧ ((refN g k = -22 ∧ (k < 1 ∨ 6 < k)) ∨ (refN g k = -75 ∧ 1 ≤ k ∧ k ≤ 6 ∧ g.endless k.toNat = true)) := by
  unfold refN at h ⊢
  by_cases c : Su183.okSteps k.toNat = false
  · rw [if_pos c]
    exact ⟨by decide, .inl ⟨rfl, okSteps_no k0 c⟩⟩
  · rw [if_neg c] at h ⊢
    have c' : Su183.okSteps k.toNat = true := by
      cases e : Su183.okSteps k.toNat with
      | true => rfl
      | false => exact absurd e c
    obtain ⟨c1, c2⟩ := okSteps_yes k0 c'
    by_cases d : g.endless k.toNat = true
    · rw [if_pos d]
      exact ⟨by decide, .inr ⟨rfl, c1, c2, d⟩⟩
    · rw [if_neg d] at h
      exact absurd rfl h
def refR (g : Abs) (k j : Int) : Int := if refN g k = 0 ∧ ((leaders g k.toNat).length : Int) ≤ j then -33 else refN g k
def spRoundRef (C : Addr) : Sp := fun vs H Q _ => ∃ (x d : Addr) (g : Abs) (k j : Int), vs = [.ref x, .int k, .int j] ∧ LineAt C H x d (some g) ∧ WF g ∧ 0 ≤ k ∧ 0 ≤ j ∧
  ∀ H', LineAt C H' x d (some g) → OwnStep H H' x → SB d H H' → Q (.int (refR g k j)) H'
theorem scRoundRef : FnScope ["line", "k", "j", "refusal"] ["line", "k", "j"] (defScope sRoundRef) := ⟨rfl, rfl, rfl, by decide +kernel, rfl, by decide +kernel, by decide +kernel⟩
theorem OwnStep.same {C : Addr} {H H' : Hp} {x d : Addr} {s : Option Abs} (L : LineAt C H x d s) (sm : Same H H') : OwnStep H H' x := fun b o => .inl (own_same L sm o)
theorem OwnStep.trans {C : Addr} {H H1 H2 : Hp} {x d : Addr} {s : Option Abs} (L : LineAt C H1 x d s) (sb : SB d H H1) (o1 : OwnStep H H1 x) (o2 : OwnStep H1 H2 x) : OwnStep H H2 x := fun b o => by
  rcases o2 b o with h | h
  · exact o1 b h
  · right
    obtain ⟨kvs, hd⟩ := L.dict
    cases z : H b with
    | none => rfl
    | some u =>
      have nb : b ≠ d := fun e => by rw [e, hd] at h; cases h
      rw [sb b u z nb] at h
      cases h
theorem LeadAt.len {H : Hp} {a : Addr} {zs : List (Int × Nat)} (L : LeadAt H a zs) : ∃ xs : List V, xs.length = zs.length ∧ H a = some (.lst xs) := by
  obtain ⟨rs, h1, h2, _⟩ := L
  exact ⟨_, by rw [List.length_map]; exact h1, h2⟩
theorem ok_roundRef {f : Addr} {fd : FuncData} (F : Fun K "round_refused" "round_refused" sRoundRef f fd) (T : Txt K mg C) (D1 : Def P w K mg base 3 "steps_refused" (spStepsRef C)) (D2 : Def P w K mg base 7 "leaders_of" (spLeadersOf C)) : FnOk P w K mg base CX0 8 f fd ["line", "k", "j"] (spRoundRef C) := by
  refine F.ok scRoundRef (fun vs H Q E h => ?_) (fun cdv A outer s H vs Q E hr h => ?_)
  · obtain ⟨x, d, g, k, j, rfl, _⟩ := h
    rfl
  · obtain ⟨x, d, g, n, j, rfl, L, wf, n0, j0, k⟩ := h
    refine ⟨_, pss_cons (ps_set (i := 3) scRoundRef.nd rfl (Or.inl rfl) (pe_def D1 hr (by decide) rfl (pa_cons (pv 0) (pa_cons (pv 1) pa_nil))))
      (pss_cons (ps_if (PW.pt (pw_and (pt_cmpR op_eq (pv 3) pe_int (nomark _)) (pw_and1 (pt_cmpR op_ge (pv 2) (pe_callB call_len_seq (by rfl) T.len PySem.boot_len (pa_cons (pe_def D2 hr (by decide) rfl (pa_cons (pv 0) (pa_cons (pv 1) pa_nil))) pa_nil)) (nomark _))))) (pss_one (ps_ret (pe_k rfl T.c33))) pss_nil)
      (pss_one (ps_ret (pv 3)))), ?_⟩
    refine ⟨_, rfl, _, rfl, x, d, g, n, rfl, L, wf, n0, fun H1 s1 => ?_⟩
    have L1 := L.same s1
    refine ⟨_, rfl, rfl, _, rfl, ?_⟩
    unfold refR at k
    by_cases c : refN g n = 0
    · refine ifT (decide_eq_true (congrArg V.int c)) ?_
      obtain ⟨c1, c2, c3⟩ := refN_zero n0 c
      obtain ⟨m, rfl⟩ : ∃ m : Nat, n = (m : Int) := ⟨n.toNat, by omega⟩
      have em : ((m : Int)).toNat = m := by omega
      rw [em] at k c3
      refine ⟨_, rfl, _, rfl, _, rfl, x, d, g, m, rfl, L1, wf, by omega, by omega, fun H2 a L2 o2 LA sb => ?_⟩
      obtain ⟨xs, hxl, hxs⟩ := LA.len
      have sb' : SB d H H2 := (SB.of s1).trans sb
      have ow' : OwnStep H H2 x := OwnStep.trans L1 (SB.of s1) (OwnStep.same L s1) o2
      refine ⟨a, _, rfl, .inl (SqL.of hxs), _, _, rfl, rfl, _, rfl, ?_⟩
      by_cases e : ((leaders g m).length : Int) ≤ j
      · rw [if_pos ⟨c, e⟩] at k
        exact ifT (decide_eq_true (by rw [hxl]; exact e)) (k H2 L2 ow' sb')
      · rw [if_neg (fun z => e z.2)] at k
        exact ifF (decide_eq_false (by rw [hxl]; exact e)) ⟨_, rfl, k H2 L2 ow' sb'⟩
    · rw [if_neg (fun z => c z.1)] at k
      exact ifF (decide_eq_false (fun z => c (V.int.inj z))) ⟨_, rfl, k H1 L1 (OwnStep.same L s1) (SB.of s1)⟩
theorem scCount : FnScope ["line", "numbers", "k", "refusal"] ["line", "numbers"] (defScope sCount) := ⟨rfl, rfl, rfl, by decide +kernel, rfl, by decide +kernel, by decide +kernel⟩
theorem ok_count {f : Addr} {fd : FuncData} (F : Fun K "count_rounds" "count_rounds" sCount f fd) (T : Txt K mg C) (D1 : Def P w K mg base 3 "steps_refused" (spStepsRef C)) (D2 : Def P w K mg base 7 "leaders_of" (spLeadersOf C)) : FnOk P w K mg base CX0 8 f fd ["line", "numbers"] (spMk K C 9) := by
  refine F.ok scCount (fun vs H Q E h => ?_) (fun cdv A outer s H vs Q E hr h => ?_)
  · obtain ⟨x, l, a, s, ns, rfl, _⟩ := h
    rfl
  · obtain ⟨x, d, a, s, ns, rfl, L, hS, ok, hi, as, k⟩ := h
    obtain ⟨n, rfl, hn⟩ := asked_one (.inr (.inr (.inl rfl))) as
    obtain ⟨g, rfl, wf⟩ := some_of (by decide) hi ok
    refine ⟨_, pss_cons (ps_set (i := 2) scCount.nd rfl (Or.inl rfl) (pe_ix ix_list (pv 1) pe_int (fun _ _ => rfl)))
      (pss_cons (ps_set (i := 3) scCount.nd rfl (Or.inl rfl) (pe_def D1 hr (by decide) rfl (pa_cons (pv 0) (pa_cons (pv 2) pa_nil))))
      (pss_cons (ps_if (pt_cmpR op_lt (pv 3) pe_int (nomark _)) (pss_one (ps_ret (pe_lst (pa_cons (pv 3) pa_nil)))) pss_nil)
      (pss_one (ps_ret (pe_lst (pa_cons (pe_callB call_len_seq (by rfl) T.len PySem.boot_len (pa_cons (pe_def D2 hr (by decide) rfl (pa_cons (pv 0) (pa_cons (pv 2) pa_nil))) pa_nil)) pa_nil)))))), ?_⟩
    have n0 := hn.1
    refine ⟨_, rfl, a, _, _, _, rfl, rfl, hS, at0, _, rfl, _, rfl, x, d, g, n, rfl, L, wf, n0, fun H1 s1 => ?_⟩
    refine ⟨_, rfl, _, _, rfl, rfl, _, rfl, ?_⟩
    by_cases c : refN g n = 0
    · refine ifF (decide_eq_false (by omega)) ?_
      obtain ⟨c1, c2, c3⟩ := refN_zero n0 c
      obtain ⟨m, rfl⟩ : ∃ m : Nat, n = (m : Int) := ⟨n.toNat, by omega⟩
      have em : ((m : Int)).toNat = m := by omega
      have ec := rounds_ok c1 c2 c3
      rw [em] at ec c3
      rw [rounds_leaders wf (by omega) c3, List.length_map] at ec
      have L1 := L.same s1
      refine ⟨_, rfl, _, rfl, x, d, g, m, rfl, L1, wf, by omega, by omega, fun H2 b L2 o2 LA sb => ?_⟩
      obtain ⟨xs, hxl, hxs⟩ := LA.len
      refine ⟨b, _, rfl, .inl (SqL.of hxs), (by show 1 ≤ sizeLine; decide), fun r hr0 => ?_⟩
      refine kept k ec L2 (OwnStep.trans L1 (SB.of s1) (OwnStep.same L s1) o2) ((SB.of s1).trans sb) (same_new hr0) hr0 ?_
      rw [upd_same, hxl]
      rfl
    · obtain ⟨cn, cc⟩ := refN_not n0 c
      refine ifT (decide_eq_true cn) ⟨_, rfl, (by show 1 ≤ sizeLine; decide), fun r hr0 => ?_⟩
      rcases cc with ⟨e, h⟩ | ⟨e, c1, c2, c3⟩
      · rw [e]
        exact still k L (rounds_no n0 h) (s1.trans (same_new hr0)) (s1.free hr0) upd_same
      · rw [e]
        exact still k L (rounds_endless c1 c2 c3) (s1.trans (same_new hr0)) (s1.free hr0) upd_same
end
end Fl

namespace Fl
open PySem PySem.Spec PyProof.Rows L2
open Su183 (Abs red does)
open Su183Neutral (asked1)
theorem leaders_small {g : Abs} (wf : WF g) {k : Nat} (k0 : 0 < k) (k6 : k ≤ 6) {z : Int × Nat} (h : z ∈ leaders g k) : z.2 < 1000000 := by
  obtain ⟨i, hi, h⟩ := List.mem_flatMap.mp h
  unfold block at h
  rcases List.mem_append.mp h with h | h
  · split at h
    · obtain rfl := List.mem_singleton.mp h
      show 1 < 1000000
      decide
    · cases h
  · split at h
    · rename_i c
      exact ends_small wf c k0 k6 (List.mem_filter.mp h).1
    · cases h
theorem rounds_get {g : Abs} (wf : WF g) {k : Nat} (k0 : 0 < k) (ne : g.endless k = false) {j : Nat} {z : Int × Nat} (h : (leaders g k)[j]? = some z) : (g.rounds k)[j]? = some (red z.1 z.2) := by
  rw [rounds_leaders wf k0 ne, List.getElem?_map, h]
  rfl
theorem rounds_none {g : Abs} (wf : WF g) {k : Nat} (k0 : 0 < k) (ne : g.endless k = false) {j : Nat} (h : (leaders g k).length ≤ j) : (g.rounds k)[j]? = none := by
  rw [rounds_leaders wf k0 ne, List.getElem?_map, List.getElem?_eq_none h]
  rfl
/-- the kinds of refusals of a round -/
theorem refR_not {g : Abs} (wf : WF g) {k j : Int} (k0 : 0 ≤ k) (j0 : 0 ≤ j) (h : refR g k j < 0) :
    (refR g k j = -22 ∧ (k < 1 ∨ 6 < k)) ∨ (refR g k j = -75 ∧ 1 ≤ k ∧ k ≤ 6 ∧ g.endless k.toNat = true) ∨ (refR g k j = -33 ∧ 1 ≤ k ∧ k ≤ 6 ∧ g.endless k.toNat = false ∧ (g.rounds k.toNat)[j.toNat]? = none) := by
  unfold refR at h ⊢
  by_cases c : refN g k = 0 ∧ ((leaders g k.toNat).length : Int) ≤ j
  · rw [if_pos c] at h ⊢
    obtain ⟨c1, c2, c3⟩ := refN_zero k0 c.1
    exact .inr (.inr ⟨rfl, c1, c2, c3, rounds_none wf (by omega) c3 (by omega)⟩)
  · rw [if_neg c] at h ⊢
    obtain ⟨_, h | h⟩ := refN_not k0 (show refN g k ≠ 0 by omega)
    · exact .inl h
    · exact .inr (.inl h)
theorem refR_ok {g : Abs} {k j : Int} (k0 : 0 ≤ k) (j0 : 0 ≤ j) (h : ¬ refR g k j < 0) : 1 ≤ k ∧ k ≤ 6 ∧ g.endless k.toNat = false ∧ ∃ z, (leaders g k.toNat)[j.toNat]? = some z := by
  unfold refR at h
  by_cases c : refN g k = 0 ∧ ((leaders g k.toNat).length : Int) ≤ j
  · rw [if_pos c] at h
    exact absurd (by decide) h
  · rw [if_neg c] at h
    by_cases d : refN g k = 0
    · obtain ⟨c1, c2, c3⟩ := refN_zero k0 d
      refine ⟨c1, c2, c3, _, List.getElem?_eq_getElem (show j.toNat < (leaders g k.toNat).length from ?_)⟩
      refine Classical.byContradiction fun e => c ⟨d, by omega⟩
    · exact absurd (refN_not k0 d).1 h
/-- a leader read off -/
theorem LeadAt.get {H : Hp} {a : Addr} {zs : List (Int × Nat)} (L : LeadAt H a zs) {j : Nat} {z : Int × Nat} (h : zs[j]? = some z) : ∃ (xs : List V) (b : Addr), H a = some (.lst xs) ∧ xs[j]? = some (.ref b) ∧ H b = some (.lst [.int z.1, .int (z.2 : Int)]) := by
  obtain ⟨rs, h1, h2, h3⟩ := L
  have hj : j < rs.length := by
    rw [h1]
    exact (List.getElem?_eq_some_iff.mp h).1
  have e : rs[j]? = some rs[j] := List.getElem?_eq_getElem hj
  exact ⟨_, rs[j], h2, by rw [List.getElem?_map, e]; rfl, h3 j _ z e h⟩
section
variable {P : Program} {w : World} {K : PySem.W.Frag} {mg : Str → Option Value} {base : Heap} {C : Addr}
theorem scTellR : FnScope ["line", "numbers", "k", "j", "refusal", "leader"] ["line", "numbers"] (defScope sTellR) := ⟨rfl, rfl, rfl, by decide +kernel, rfl, by decide +kernel, by decide +kernel⟩
theorem ok_tellR {f : Addr} {fd : FuncData} (F : Fun K "tell_round" "tell_round" sTellR f fd) (T : Txt K mg C) (D1 : Def P w K mg base 8 "round_refused" (spRoundRef C)) (D2 : Def P w K mg base 7 "leaders_of" (spLeadersOf C)) (D3 : Def P w K mg base 2 "as_fractions" (spFracs K)) (D4 : Def P w K mg base 2 "places_from" (spPlaces K)) : FnOk P w K mg base CX0 9 f fd ["line", "numbers"] (spMk K C 10) := by
  refine F.ok scTellR (fun vs H Q E h => ?_) (fun cdv A outer s H vs Q E hr h => ?_)
  · obtain ⟨x, l, a, s, ns, rfl, _⟩ := h
    rfl
  · obtain ⟨x, d, a, s, ns, rfl, L, hS, ok, hi, as, k⟩ := h
    obtain ⟨n, j, rfl, hn, hj⟩ := asked_two (.inr (.inr (.inr (.inr (.inl rfl))))) as
    obtain ⟨g, rfl, wf⟩ := some_of (by decide) hi ok
    refine ⟨_, pss_cons (ps_set (i := 2) scTellR.nd rfl (Or.inl rfl) (pe_ix ix_list (pv 1) pe_int (fun _ _ => rfl)))
      (pss_cons (ps_set (i := 3) scTellR.nd rfl (Or.inl rfl) (pe_ix ix_list (pv 1) pe_int (fun _ _ => rfl)))
      (pss_cons (ps_set (i := 4) scTellR.nd rfl (Or.inl rfl) (pe_def D1 hr (by decide) rfl (pa_cons (pv 0) (pa_cons (pv 2) (pa_cons (pv 3) pa_nil)))))
      (pss_cons (ps_if (pt_cmpR op_lt (pv 4) pe_int (nomark _)) (pss_one (ps_ret (pe_lst (pa_cons (pv 4) pa_nil)))) pss_nil)
      (pss_cons (ps_set (i := 5) scTellR.nd rfl (Or.inl rfl) (pe_ix ix_list (pe_def D2 hr (by decide) rfl (pa_cons (pv 0) (pa_cons (pv 2) pa_nil))) (pv 3) (fun _ _ => rfl)))
      (pss_one (ps_ret (pe_op op_cat (pe_lst (pa_cons (pv 2) pa_nil)) (pe_def D3 hr (by decide) rfl (pa_cons (pe_def D4 hr (by decide) rfl (pa_cons (pe_fld (pv 0) rfl) (pa_cons (pe_ix ix_list (pv 5) pe_int (fun _ _ => rfl)) (pa_cons (pe_ix ix_list (pv 5) pe_int (fun _ _ => rfl)) (pa_cons (pv 2) pa_nil))))) (pa_cons (pe_ix ix_list (pv 5) pe_int (fun _ _ => rfl)) pa_nil)))))))))), ?_⟩
    have n0 := hn.1
    have j0 := hj.1
    refine ⟨_, rfl, a, _, _, _, rfl, rfl, hS, at0, _, rfl, a, _, _, _, rfl, rfl, hS, at1, _, rfl, _, rfl, _, rfl, x, d, g, n, j, rfl, L, wf, n0, j0, fun H1 L1 o1 b1 => ?_⟩
    refine ⟨_, rfl, _, _, rfl, rfl, _, rfl, ?_⟩
    by_cases c : refR g n j < 0
    · refine ifT (decide_eq_true c) ⟨_, rfl, (by show 1 ≤ sizeLine; decide), fun r hr0 => ?_⟩
      have fin : ∀ v : Int, refR g n j = v → Su183Neutral.step (some g) [10, n, j] = (some g, [v]) → Q (.ref r) (upd H1 r (.lst [.int (refR g n j)])) := fun v ev es => by
        rw [ev]
        exact kept k es L1 o1 b1 (same_new hr0) hr0 upd_same
      rcases refR_not wf n0 j0 c with ⟨e, h⟩ | ⟨e, c1, c2, c3⟩ | ⟨e, c1, c2, c3, c4⟩
      · exact fin _ e (round_no n0 h)
      · exact fin _ e (round_endless c1 c2 c3)
      · exact fin _ e (round_more c1 c2 c3 c4)
    · refine ifF (decide_eq_false c) ?_
      obtain ⟨c1, c2, c3, z, hz⟩ := refR_ok n0 j0 c
      obtain ⟨m, rfl⟩ : ∃ m : Nat, n = (m : Int) := ⟨n.toNat, by omega⟩
      obtain ⟨i, rfl⟩ : ∃ m : Nat, j = (m : Int) := ⟨j.toNat, by omega⟩
      have em : ((m : Int)).toNat = m := by omega
      have ei : ((i : Int)).toNat = i := by omega
      rw [em] at c3 hz
      rw [ei] at hz
      have hzm := List.mem_of_getElem? hz
      obtain ⟨z1, z2, z3⟩ := leaders_mem (by omega) hzm
      have z4 := leaders_small wf (by omega) (by omega) hzm
      have ec := round_ok (g := g) (k := (m : Int)) (j := (i : Int)) (x := red z.1 z.2) c1 c2 (by rw [em]; exact c3) (by rw [em, ei]; exact rounds_get wf (by omega) c3 hz)
      rw [em, way_fracs wf z1 z2] at ec
      refine ⟨_, rfl, _, rfl, x, d, g, m, rfl, L1, wf, by omega, by omega, fun H2 b L2 o2 LA b2 => ?_⟩
      have o12 := OwnStep.trans L1 b1 o1 o2
      have b12 := b1.trans b2
      obtain ⟨xs, pb, e1, e2, e3⟩ := LA.get hz
      refine ⟨_, rfl, b, _, _, .ref pb, rfl, rfl, SqL.of e1, atI_nat e2, ?_⟩
      obtain ⟨dx, ll, kvs, h1, h2, h3, h4⟩ := L2.opens
      refine ⟨_, rfl, (by show 1 ≤ sizeLine; decide), fun r nr => ?_⟩
      have s3 : Same H2 (upd H2 r (.lst [.int (m : Int)])) := same_new nr
      refine ⟨_, rfl, x, C, dx, _, _, rfl, s3 _ _ h1, T.cl, T.nP, pF_lk ll d, _, rfl, pb, _, _, _, rfl, rfl, SqL.of (s3 _ _ e3), at0, _, rfl, pb, _, _, _, rfl, rfl, SqL.of (s3 _ _ e3), at1, _, rfl, ll, g, z.1, z.2, m, rfl, SqL.of (s3 _ _ h2), wf, z1, z4, z2, by omega, fun H4 t s4 ht hl => ?_⟩
      have hl' : H4 t = some (.lst (((List.range m).map fun j => itn g z.2 j z.1).map V.int)) := by
        rw [List.map_map]
        exact hl
      refine ⟨_, rfl, pb, _, _, _, rfl, rfl, SqL.of (s4 _ _ (s3 _ _ e3)), at1, t, (List.range m).map fun j => itn g z.2 j z.1, z.2, rfl, SqL.of hl', itns_get wf z1 z2 m, z1, z4, (by rw [List.length_map, List.length_range]; omega), fun H5 u s5 hu hf => ?_⟩
      have s6 := (s3.trans s4).trans s5
      refine ⟨r, u, _, _, rfl, rfl, s5 _ _ (s4 _ _ upd_same), hf, ?_, fun v hv => ?_⟩
      · rw [List.length_map, fracs_len, List.length_map, List.length_range]
        exact Nat.le_trans (show 1 + 2 * m ≤ 100 by omega) (by decide)
      · exact kept k ec L2 o12 b12 (s6.trans (same_new hv)) (s6.free hv) upd_same
/-! ### how many are less -/
def spLess (K : PySem.W.Frag) : Sp := fun vs H Q _ => ∃ (a : Addr) (ns : List Int) (z : Int), vs = [.ref a, .int z] ∧ SqL K H a (ns.map V.int) ∧ ns.length ≤ 1000 ∧ ∀ H', Same H H' → Q (.int ((ns.filter fun y => decide (y < z)).length : Int)) H'
theorem scLess : FnScope ["places", "place", "other"] ["places", "place"] (defScope sLess) := ⟨rfl, rfl, rfl, by decide +kernel, rfl, by decide +kernel, by decide +kernel⟩
theorem ok_less {f : Addr} {fd : FuncData} (F : Fun K "count_less" "count_less" sLess f fd) (T : Txt K mg C) : FnOk P w K mg base CX0 1 f fd ["places", "place"] (spLess K) := by
  refine F.ok scLess (fun vs H Q E h => ?_) (fun cdv A outer s H vs Q E hr h => ?_)
  · obtain ⟨a, ns, z, rfl, _⟩ := h
    rfl
  · obtain ⟨a, ns, z, rfl, hS, hl, k⟩ := h
    refine ⟨_, pss_one (ps_ret (pe_callB call_len_seq (by rfl) T.len PySem.boot_len (pa_cons (pe_lc (own := [("other", 2)]) (g := gName 2) rfl scLess.nd (pi_list (pv 0)) (blkOk_by (own := [("other", 2)]) (N := ["places", "place", "other"]) (sc := defScope sLess) (by decide +kernel))
      (fun _ _ _ _ _ => pg_name (i := 2) scLess.nd rfl (Or.inl rfl)) (fun _ _ _ _ _ => pts_one (pt_cmpR op_lt (pv 2) (pv 1) (nomark _))) (fun _ _ _ _ _ => pv 2)) pa_nil))), ?_⟩
    refine ⟨_, rfl, a, rfl, ⟨_, hS⟩, fun D nD => ?_⟩
    refine lc_list (K := K) (a := a) (xs := ns.map V.int) (fun j H'' => Same H H'' ∧ H'' D = some (.lst (((ns.take j).filter fun y => decide (y < z)).map V.int)))
      ⟨same_new nD, upd_same⟩ (fun j H'' _ ⟨s, _⟩ => s.seq hS) ?_ ?_
    · rintro j y H'' hy ⟨s5, hD⟩
      obtain ⟨u, hu, rfl⟩ := get_ints hy
      refine ⟨rfl, _, rfl, _, rfl, _, _, rfl, rfl, _, rfl, ?_⟩
      by_cases c : u < z
      · refine ifT (decide_eq_true c) ⟨_, rfl, _, hD, ?_, fun b' o e' => ?_, ?_⟩
        · rw [List.length_map]
          have h1 := List.length_filter_le (fun y => decide (y < z)) (ns.take j)
          rw [List.length_take] at h1
          exact small1000 (by omega)
        · rw [upd_ne (ne_of_none e' nD)]
          exact s5 b' o e'
        · rw [upd_same, filter_step hu, if_pos (decide_eq_true c), List.map_append]
          rfl
      · refine ifF (decide_eq_false c) ⟨s5, ?_⟩
        rw [filter_step hu, if_neg (by rw [decide_eq_false c]; decide), List.append_nil]
        exact hD
    · rintro H'' ⟨s5, hD⟩
      rw [List.length_map, List.take_length] at hD
      refine ⟨D, _, rfl, .inl (SqL.of hD), ?_⟩
      rw [List.length_map]
      exact k H'' s5
theorem scRanks : FnScope ["line", "numbers", "k", "j", "refusal", "leader", "places", "place"] ["line", "numbers"] (defScope sRanks) := ⟨rfl, rfl, rfl, by decide +kernel, rfl, by decide +kernel, by decide +kernel⟩
theorem map_step {α β : Type} {f : α → β} {l : List α} {j : Nat} {z : α} (h : l[j]? = some z) : (l.take (j + 1)).map f = (l.take j).map f ++ [f z] := by
  rw [take_snoc h, List.map_append]
  rfl
theorem ok_ranks {f : Addr} {fd : FuncData} (F : Fun K "tell_ranks" "tell_ranks" sRanks f fd) (T : Txt K mg C) (D1 : Def P w K mg base 8 "round_refused" (spRoundRef C)) (D2 : Def P w K mg base 7 "leaders_of" (spLeadersOf C)) (D3 : Def P w K mg base 1 "count_less" (spLess K)) (D4 : Def P w K mg base 2 "places_from" (spPlaces K)) : FnOk P w K mg base CX0 9 f fd ["line", "numbers"] (spMk K C 11) := by
  refine F.ok scRanks (fun vs H Q E h => ?_) (fun cdv A outer s H vs Q E hr h => ?_)
  · obtain ⟨x, l, a, s, ns, rfl, _⟩ := h
    rfl
  · obtain ⟨x, d, a, s, ns, rfl, L, hS, ok, hi, as, k⟩ := h
    obtain ⟨n, j, rfl, hn, hj⟩ := asked_two (.inr (.inr (.inr (.inr (.inr (.inl rfl)))))) as
    obtain ⟨g, rfl, wf⟩ := some_of (by decide) hi ok
    refine ⟨_, pss_cons (ps_set (i := 2) scRanks.nd rfl (Or.inl rfl) (pe_ix ix_list (pv 1) pe_int (fun _ _ => rfl)))
      (pss_cons (ps_set (i := 3) scRanks.nd rfl (Or.inl rfl) (pe_ix ix_list (pv 1) pe_int (fun _ _ => rfl)))
      (pss_cons (ps_set (i := 4) scRanks.nd rfl (Or.inl rfl) (pe_def D1 hr (by decide) rfl (pa_cons (pv 0) (pa_cons (pv 2) (pa_cons (pv 3) pa_nil)))))
      (pss_cons (ps_if (pt_cmpR op_lt (pv 4) pe_int (nomark _)) (pss_one (ps_ret (pe_lst (pa_cons (pv 4) pa_nil)))) pss_nil)
      (pss_cons (ps_set (i := 5) scRanks.nd rfl (Or.inl rfl) (pe_ix ix_list (pe_def D2 hr (by decide) rfl (pa_cons (pv 0) (pa_cons (pv 2) pa_nil))) (pv 3) (fun _ _ => rfl)))
      (pss_cons (ps_set (i := 6) scRanks.nd rfl (Or.inr rfl) (pe_def D4 hr (by decide) rfl (pa_cons (pe_fld (pv 0) rfl) (pa_cons (pe_ix ix_list (pv 5) pe_int (fun _ _ => rfl)) (pa_cons (pe_ix ix_list (pv 5) pe_int (fun _ _ => rfl)) (pa_cons (pv 2) pa_nil))))))
      (pss_one (ps_ret (pe_op op_cat (pe_lst (pa_cons (pv 2) pa_nil)) (pe_lc (own := [("place", 7)]) (g := gName 7) (tt := tYes) rfl scRanks.nd (pi_list (pv 6)) (blkOk_by (own := [("place", 7)]) (N := ["line", "numbers", "k", "j", "refusal", "leader", "places", "place"]) (sc := defScope sRanks) (by decide +kernel))
        (fun _ _ _ _ _ => pg_name (i := 7) scRanks.nd rfl (Or.inl rfl)) (fun _ _ _ _ _ => pts_nil) (fun _ _ _ _ _ => pe_def D3 hr (by decide) rfl (pa_cons (pv 6) (pa_cons (pv 7) pa_nil)))))))))))), ?_⟩
    have n0 := hn.1
    have j0 := hj.1
    refine ⟨_, rfl, a, _, _, _, rfl, rfl, hS, at0, _, rfl, a, _, _, _, rfl, rfl, hS, at1, _, rfl, _, rfl, _, rfl, x, d, g, n, j, rfl, L, wf, n0, j0, fun H1 L1 o1 b1 => ?_⟩
    refine ⟨_, rfl, _, _, rfl, rfl, _, rfl, ?_⟩
    by_cases c : refR g n j < 0
    · refine ifT (decide_eq_true c) ⟨_, rfl, (by show 1 ≤ sizeLine; decide), fun r hr0 => ?_⟩
      have fin : ∀ v : Int, refR g n j = v → Su183Neutral.step (some g) [11, n, j] = (some g, [v]) → Q (.ref r) (upd H1 r (.lst [.int (refR g n j)])) := fun v ev es => by
        rw [ev]
        exact kept k es L1 o1 b1 (same_new hr0) hr0 upd_same
      rcases refR_not wf n0 j0 c with ⟨e, h⟩ | ⟨e, c1, c2, c3⟩ | ⟨e, c1, c2, c3, c4⟩
      · exact fin _ e (type_no n0 h)
      · exact fin _ e (type_endless c1 c2 c3)
      · exact fin _ e (type_more c1 c2 c3 c4)
    · refine ifF (decide_eq_false c) ?_
      obtain ⟨c1, c2, c3, z, hz⟩ := refR_ok n0 j0 c
      obtain ⟨m, rfl⟩ : ∃ m : Nat, n = (m : Int) := ⟨n.toNat, by omega⟩
      obtain ⟨i, rfl⟩ : ∃ m : Nat, j = (m : Int) := ⟨j.toNat, by omega⟩
      have em : ((m : Int)).toNat = m := by omega
      have ei : ((i : Int)).toNat = i := by omega
      rw [em] at c3 hz
      rw [ei] at hz
      have hzm := List.mem_of_getElem? hz
      obtain ⟨z1, z2, z3⟩ := leaders_mem (by omega) hzm
      have z4 := leaders_small wf (by omega) (by omega) hzm
      have ec := type_ok (g := g) (k := (m : Int)) (j := (i : Int)) (x := red z.1 z.2) c1 c2 (by rw [em]; exact c3) (by rw [em, ei]; exact rounds_get wf (by omega) c3 hz)
      rw [em, type_red wf z1 z2] at ec
      refine ⟨_, rfl, _, rfl, x, d, g, m, rfl, L1, wf, by omega, by omega, fun H2 b L2 o2 LA b2 => ?_⟩
      have o12 := OwnStep.trans L1 b1 o1 o2
      have b12 := b1.trans b2
      obtain ⟨xs, pb, e1, e2, e3⟩ := LA.get hz
      refine ⟨_, rfl, b, _, _, .ref pb, rfl, rfl, SqL.of e1, atI_nat e2, ?_⟩
      obtain ⟨dx, ll, kvs, h1, h2, h3, h4⟩ := L2.opens
      refine ⟨_, rfl, x, C, dx, _, _, rfl, h1, T.cl, T.nP, pF_lk ll d, _, rfl, pb, _, _, _, rfl, rfl, SqL.of e3, at0, _, rfl, pb, _, _, _, rfl, rfl, SqL.of e3, at1, _, rfl, ll, g, z.1, z.2, m, rfl, SqL.of h2, wf, z1, z4, z2, by omega, fun H4 t s4 ht hl => ?_⟩
      have hl' : H4 t = some (.lst (((List.range m).map fun j => itn g z.2 j z.1).map V.int)) := by
        rw [List.map_map]
        exact hl
      have hln : ((List.range m).map fun j => itn g z.2 j z.1).length = m := by rw [List.length_map, List.length_range]
      have ety : ((List.range m).map fun j => ((List.range m).filter fun i => decide (itn g z.2 i z.1 < itn g z.2 j z.1)).length) = ((List.range m).map fun j => itn g z.2 j z.1).map fun y => ((((List.range m).map fun j => itn g z.2 j z.1).filter fun u => decide (u < y)).length) := by
        rw [List.map_map]
        refine List.map_congr_left fun j _ => ?_
        show _ = (((List.range m).map fun j => itn g z.2 j z.1).filter fun u => decide (u < itn g z.2 j z.1)).length
        rw [List.filter_map, List.length_map]
        rfl
      rw [ety] at ec
      generalize ((List.range m).map fun j => itn g z.2 j z.1) = ps at *
      refine ⟨_, rfl, (by show 1 ≤ sizeLine; decide), fun r nr => ?_⟩
      have s5 : Same H4 (upd H4 r (.lst [.int (m : Int)])) := same_new nr
      refine ⟨_, rfl, t, rfl, ⟨_, SqL.of (s5 _ _ hl')⟩, fun D nD => ?_⟩
      have nDH := s5.free nD
      have s6 := s5.trans (same_new (o := .lst []) nD)
      refine lc_list (K := K) (a := t) (xs := ps.map V.int) (fun j H'' => Same (upd H4 r (.lst [.int (m : Int)])) H'' ∧ H'' D = some (.lst (((ps.take j).map fun y => (((ps.filter fun u => decide (u < y)).length : Nat) : Int)).map V.int)))
        ⟨same_new nD, upd_same⟩ (fun j H'' _ ⟨s, _⟩ => SqL.of (s _ _ (s5 _ _ hl'))) ?_ ?_
      · rintro j y H'' hy ⟨s7, hD⟩
        obtain ⟨u, hu, rfl⟩ := get_ints hy
        have hju := (List.getElem?_eq_some_iff.mp hu).1
        refine ⟨rfl, yes ?_⟩
        refine ⟨_, rfl, _, rfl, t, ps, u, rfl, SqL.of (s7 _ _ (s5 _ _ hl')), by omega, fun H8 s8 => ?_⟩
        refine ⟨_, s8 _ _ hD, ?_, fun b' o e' => ?_, ?_⟩
        · rw [List.length_map, List.length_map, List.length_take]
          exact small1000 (by omega)
        · rw [upd_ne (ne_of_none e' nD)]
          exact s8 _ _ (s7 b' o e')
        · rw [upd_same, map_step hu, List.map_append]
          rfl
      · rintro H'' ⟨s7, hD⟩
        rw [List.length_map, List.take_length] at hD
        have s9 : Same H2 H'' := (s4.trans s5).trans s7
        refine ⟨r, D, _, _, rfl, rfl, s7 _ _ upd_same, hD, ?_, fun v hv => ?_⟩
        · rw [List.length_map, List.length_map, hln]
          exact Nat.le_trans (show 1 + m ≤ 100 by omega) (by decide)
        · refine kept k ec L2 o12 b12 (s9.trans (same_new hv)) (s9.free hv) ?_
          rw [upd_same]
          unfold Su183.ints
          rw [List.map_cons, List.map_map, List.map_map, List.map_map]
          rfl
end
end Fl

namespace Fl
open PySem PySem.Spec PyProof.Rows L2
open Su183 (Abs red does)
open Su183Neutral (asked1)
/-! ### the order of all numbers -/
def spPow : Sp := fun vs H Q _ => ∃ (t o : Nat), vs = [.int ((2 ^ t * o : Nat) : Int)] ∧ o % 2 = 1 ∧ 2 ^ t * o ≤ 1000 ∧ Q (.int ((2 ^ t : Nat) : Int)) H
def spBringsN : Sp := fun vs H Q _ => ∃ (k l : Nat), vs = [.int (k : Int), .int (l : Int)] ∧ 1 ≤ k ∧ k ≤ 1000 ∧ 1 ≤ l ∧ l ≤ 1000 ∧ Q (.bl (Su183.brings k l)) H
theorem pow_dvd {t o i : Nat} (ho : o % 2 = 1) (hi : i ≤ t) : ((2 ^ t * o : Nat) : Int) % (2 * ((2 ^ i : Nat) : Int)) = 0 ↔ i < t := by
  have e1 : (2 * ((2 ^ i : Nat) : Int)) = ((2 ^ (i + 1) : Nat) : Int) := by
    rw [Nat.pow_succ]
    omega
  rw [e1]
  have e2 : ((2 ^ t * o : Nat) : Int) % ((2 ^ (i + 1) : Nat) : Int) = ((2 ^ t * o % 2 ^ (i + 1) : Nat) : Int) := (Int.natCast_emod _ _).symm
  rw [e2]
  constructor
  · intro h
    refine Classical.byContradiction fun c => ?_
    have : i = t := by omega
    subst this
    have h' : 2 ^ i * o % 2 ^ (i + 1) = 0 := by omega
    rw [Nat.pow_succ, Nat.mul_mod_mul_left, ho, Nat.mul_one] at h'
    have := Nat.pow_pos (n := i) (show 0 < 2 by decide)
    omega
  · intro h
    obtain ⟨d, rfl⟩ : ∃ d, t = i + 1 + d := ⟨t - (i + 1), by omega⟩
    have : 2 ^ (i + 1 + d) * o % 2 ^ (i + 1) = 0 := by
      rw [Nat.pow_add, Nat.mul_assoc]
      exact Nat.mul_mod_right _ _
    rw [this]
    rfl
section
variable {P : Program} {w : World} {K : PySem.W.Frag} {mg : Str → Option Value} {base : Heap} {C : Addr}
theorem scPow : FnScope ["number", "power"] ["number"] (defScope sPow) := ⟨rfl, rfl, rfl, by decide +kernel, rfl, by decide +kernel, by decide +kernel⟩
theorem ok_pow {f : Addr} {fd : FuncData} (F : Fun K "power_of_two_in" "power_of_two_in" sPow f fd) : FnOk P w K mg base CX0 1 f fd ["number"] spPow := by
  refine F.ok scPow (fun vs H Q E h => ?_) (fun cdv A outer s H vs Q E hr h => ?_)
  · obtain ⟨t, o, rfl, _⟩ := h
    rfl
  · obtain ⟨t, o, rfl, ho, hle, k⟩ := h
    refine ⟨_, pss_cons (ps_set (i := 1) scPow.nd rfl (Or.inl rfl) pe_int)
      (pss_cons (ps_while PassesOwn.never (pt_cmpR op_eq (pe_op (opZ op_mod) (pv 0) (pe_op op_mul pe_int (pv 1))) pe_int (nomark _))
        (pss_one (ps_set (i := 1) scPow.nd rfl (Or.inl rfl) (pe_op (opZ op_mul) pe_int (pv 1)))))
      (pss_one (ps_ret (pv 1)))), ?_⟩
    have hpos : ∀ i : Nat, (0 : Int) < 2 * ((2 ^ i : Nat) : Int) := fun i => by
      have := Nat.pow_pos (n := i) (show 0 < 2 by decide)
      omega
    refine while_by (fun σ H' => H' = H ∧ ∃ i : Nat, i ≤ t ∧ σ = [some (.int ((2 ^ t * o : Nat) : Int)), some (.int ((2 ^ i : Nat) : Int))])
      (fun σ _ => match σ with | [_, some (.int r)] => 2 ^ t - r.toNat | _ => 0) ⟨rfl, 0, Nat.zero_le _, rfl⟩ ?_ ?_
    · rintro σ H' ⟨rfl, i, hi, rfl⟩
      refine ⟨_, rfl, _, rfl, _, _, rfl, rfl, .inl ⟨by decide, by decide⟩, _, _, .int (((2 ^ t * o : Nat) : Int) % (2 * ((2 ^ i : Nat) : Int))), rfl, rfl, hpos i, rfl, rfl, _, rfl, ?_⟩
      by_cases c : i < t
      · refine ifT (decide_eq_true (congrArg V.int ((pow_dvd ho hi).mpr c))) ?_
        refine ⟨_, rfl, _, _, .int ((2 ^ (i + 1) : Nat) : Int), rfl, rfl, .inl ⟨by decide, by decide⟩, ?_, ⟨rfl, i + 1, c, rfl⟩, ?_⟩
        · show V.int _ = V.int _
          congr 1
          rw [Nat.pow_succ]
          omega
        · show 2 ^ t - ((2 ^ (i + 1) : Nat) : Int).toNat < 2 ^ t - ((2 ^ i : Nat) : Int).toNat
          have h1 : 2 ^ (i + 1) ≤ 2 ^ t := Nat.pow_le_pow_right (by decide) c
          have h2 := Nat.pow_pos (n := i) (show 0 < 2 by decide)
          rw [Int.toNat_natCast, Int.toNat_natCast]
          rw [Nat.pow_succ] at h1 ⊢
          omega
      · refine ifF (decide_eq_false fun z => c ((pow_dvd ho hi).mp (V.int.inj z))) ?_
        have : i = t := by omega
        subst this
        exact ⟨_, rfl, k⟩
    · intro σ H1 Q1 Q2 m z
      obtain ⟨v, h1, v2, h2, i, j, h3, h4, h5, i2, j2, u, h6, h7, h8, h9, h10, b, h11, h12⟩ := z
      exact ⟨v, h1, v2, h2, i, j, h3, h4, h5, i2, j2, u, h6, h7, h8, h9, h10, b, h11, m _ _ h12⟩
theorem scBringsN : FnScope ["k", "l", "k_power", "l_power", "k_odd", "l_odd"] ["k", "l"] (defScope sBringsN) := ⟨rfl, rfl, rfl, by decide +kernel, rfl, by decide +kernel, by decide +kernel⟩
theorem odd_of (t o : Nat) : ((2 ^ t * o : Nat) : Int) / ((2 ^ t : Nat) : Int) = (o : Int) := by
  rw [← Int.natCast_ediv, Nat.mul_div_cancel_left _ (Nat.pow_pos (by decide))]
theorem pow_lt_iff {a b : Nat} : ((2 ^ a : Nat) : Int) < ((2 ^ b : Nat) : Int) ↔ a < b := by
  rw [Int.ofNat_lt]
  exact Nat.pow_lt_pow_iff_right (by decide)
theorem pow_eq_iff {a b : Nat} : ((2 ^ a : Nat) : Int) = ((2 ^ b : Nat) : Int) ↔ a = b := by
  constructor
  · intro h
    have h1 := mt (pow_lt_iff (a := a) (b := b)).mpr (by omega)
    have h2 := mt (pow_lt_iff (a := b) (b := a)).mpr (by omega)
    omega
  · rintro rfl
    rfl
theorem ok_bringsN {f : Addr} {fd : FuncData} (F : Fun K "brings_number" "brings_number" sBringsN f fd) (D : Def P w K mg base 1 "power_of_two_in" spPow) : FnOk P w K mg base CX0 2 f fd ["k", "l"] spBringsN := by
  refine F.ok scBringsN (fun vs H Q E h => ?_) (fun cdv A outer s H vs Q E hr h => ?_)
  · obtain ⟨k, l, rfl, _⟩ := h
    rfl
  · obtain ⟨k, l, rfl, k1, k2, l1, l2, kk⟩ := h
    refine ⟨_, pss_cons (ps_set (i := 2) scBringsN.nd rfl (Or.inl rfl) (pe_def D hr (by decide) rfl (pa_cons (pv 0) pa_nil)))
      (pss_cons (ps_set (i := 3) scBringsN.nd rfl (Or.inl rfl) (pe_def D hr (by decide) rfl (pa_cons (pv 1) pa_nil)))
      (pss_cons (ps_set (i := 4) scBringsN.nd rfl (Or.inl rfl) (pe_op (opZ op_fdiv) (pv 0) (pv 2)))
      (pss_cons (ps_set (i := 5) scBringsN.nd rfl (Or.inl rfl) (pe_op (opZ op_fdiv) (pv 1) (pv 3)))
      (pss_cons (ps_if (pt_cmpR op_eq (pv 0) (pv 1) (nomark _)) (pss_one (ps_ret pe_bl)) pss_nil)
      (pss_cons (ps_if (pt_cmpR op_eq (pv 4) pe_int (nomark _)) (pss_one (ps_ret (pe_and (pe_cmpR op_eq (pv 5) pe_int (nomark _)) (pe_one (pe_cmp (pc_lt (pv 1) (pv 0)) rfl))))) pss_nil)
      (pss_cons (ps_if (PW.pt (pw_or (pt_cmpR op_eq (pv 5) pe_int (nomark _)) (pw_or1 (pt_cmpR op_lt (pv 2) (pv 3) (nomark _))))) (pss_one (ps_ret pe_bl)) pss_nil)
      (pss_one (ps_ret (pe_and (pe_cmpR op_eq (pv 2) (pv 3) (nomark _)) (pe_one (pe_cmp (pc_lt (pv 4) (pv 5)) rfl))))))))))), ?_⟩
    obtain ⟨a, b, hb, rfl⟩ := split_two k (by omega)
    obtain ⟨c, e, he, rfl⟩ := split_two l (by omega)
    have hB := brings_is (a := a) (b := b) (c := c) (e := e) hb he
    have pa := Nat.pow_pos (n := a) (show 0 < 2 by decide)
    have pc := Nat.pow_pos (n := c) (show 0 < 2 by decide)
    have la : 2 ^ a ≤ 1000 := Nat.le_trans (by have := Nat.mul_le_mul_left (2 ^ a) (show 1 ≤ b by omega); omega) k2
    have lc : 2 ^ c ≤ 1000 := Nat.le_trans (by have := Nat.mul_le_mul_left (2 ^ c) (show 1 ≤ e by omega); omega) l2
    refine ⟨_, rfl, a, b, rfl, hb, k2, _, rfl, c, e, rfl, he, l2, ?_⟩
    refine ⟨_, rfl, _, rfl, _, _, .int (b : Int), rfl, rfl, ⟨by omega, by omega⟩, congrArg V.int (odd_of a b), ?_⟩
    refine ⟨_, rfl, _, rfl, _, _, .int (e : Int), rfl, rfl, ⟨by omega, by omega⟩, congrArg V.int (odd_of c e), ?_⟩
    refine ⟨_, rfl, _, rfl, rfl, _, rfl, ?_⟩
    have fin : ∀ v : Bool, (v = true ↔ Su183.brings (2 ^ a * b) (2 ^ c * e) = true) → Q (.bl v) H := fun v hv => by
      have : v = Su183.brings (2 ^ a * b) (2 ^ c * e) := Bool.eq_iff_iff.mpr hv
      rw [this]
      exact kk
    by_cases c1 : 2 ^ a * b = 2 ^ c * e
    · refine ifT (decide_eq_true (by rw [c1])) (fin true ⟨fun _ => hB.mpr (.inl c1), fun _ => rfl⟩)
    · refine ifF (decide_eq_false fun z => c1 (by have := V.int.inj z; omega)) ?_
      refine ⟨_, rfl, rfl, _, rfl, ?_⟩
      by_cases c2 : b = 1
      · refine ifT (decide_eq_true (by rw [c2]; rfl)) ?_
        rw [if_pos c2] at hB
        refine ⟨_, rfl, rfl, _, rfl, ?_⟩
        by_cases c3 : e = 1
        · refine ifT (decide_eq_true (by rw [c3]; rfl)) ⟨_, rfl, _, rfl, _, _, rfl, rfl, fin _ ?_⟩
          subst c2 c3
          rw [Nat.mul_one, Nat.mul_one] at c1
          rw [decide_eq_true_eq, hB, Nat.mul_one, Nat.mul_one, pow_lt_iff]
          constructor
          · exact fun h => .inr ⟨rfl, h⟩
          · rintro (h | h)
            · exact absurd h c1
            · exact h.2
        · refine ifF (decide_eq_false fun z => c3 (by have := V.int.inj z; omega)) (fin false ⟨fun z => (by cases z), fun z => ?_⟩)
          rcases hB.mp z with h | h
          · exact absurd h c1
          · exact absurd h.1 c3
      · refine ifF (decide_eq_false fun z => c2 (by have := V.int.inj z; omega)) ?_
        rw [if_neg c2] at hB
        refine ⟨_, rfl, rfl, _, rfl, ?_⟩
        by_cases c3 : e = 1
        · exact ifT (decide_eq_true (by rw [c3]; rfl)) (fin true ⟨fun _ => hB.mpr (.inr (.inl c3)), fun _ => rfl⟩)
        · refine ifF (decide_eq_false fun z => c3 (by have := V.int.inj z; omega)) ?_
          refine ⟨_, rfl, _, rfl, _, _, rfl, rfl, _, rfl, ?_⟩
          by_cases c4 : a < c
          · exact ifT (decide_eq_true (pow_lt_iff.mpr c4)) (fin true ⟨fun _ => hB.mpr (.inr (.inr (.inl c4))), fun _ => rfl⟩)
          · refine ifF (decide_eq_false fun z => c4 (pow_lt_iff.mp z)) ?_
            refine ⟨_, rfl, _, rfl, rfl, _, rfl, ?_⟩
            by_cases c5 : a = c
            · refine ifT (decide_eq_true (by rw [c5])) ⟨_, rfl, _, rfl, _, _, rfl, rfl, fin _ ?_⟩
              rw [decide_eq_true_eq, hB, Int.ofNat_lt]
              constructor
              · exact fun h => .inr (.inr (.inr ⟨c5, h⟩))
              · rintro (h | h | h | h)
                · exact absurd h c1
                · exact absurd h c3
                · exact absurd h c4
                · exact h.2
            · refine ifF (decide_eq_false fun z => c5 (pow_eq_iff.mp (V.int.inj z))) (fin false ⟨fun z => (by cases z), fun z => ?_⟩)
              rcases hB.mp z with h | h | h | h
              · exact absurd h c1
              · exact absurd h c3
              · exact absurd h c4
              · exact absurd h.1 c5
theorem scBrings : FnScope ["line", "numbers", "k", "l"] ["line", "numbers"] (defScope sBrings) := ⟨rfl, rfl, rfl, by decide +kernel, rfl, by decide +kernel, by decide +kernel⟩
theorem ok_brings {f : Addr} {fd : FuncData} (F : Fun K "brings" "brings" sBrings f fd) (T : Txt K mg C) (D : Def P w K mg base 2 "brings_number" spBringsN) : FnOk P w K mg base CX0 3 f fd ["line", "numbers"] (spMk K C 12) := by
  refine F.ok scBrings (fun vs H Q E h => ?_) (fun cdv A outer s H vs Q E hr h => ?_)
  · obtain ⟨x, l, a, s, ns, rfl, _⟩ := h
    rfl
  · obtain ⟨x, d, a, s, ns, rfl, L, hS, ok, hi, as, k⟩ := h
    obtain ⟨n, m, rfl, hn, hm⟩ := asked_two (.inr (.inr (.inr (.inr (.inr (.inr rfl)))))) as
    obtain ⟨g, rfl, wf⟩ := some_of (by decide) hi ok
    refine ⟨_, pss_cons (ps_set (i := 2) scBrings.nd rfl (Or.inl rfl) (pe_ix ix_list (pv 1) pe_int (fun _ _ => rfl)))
      (pss_cons (ps_set (i := 3) scBrings.nd rfl (Or.inl rfl) (pe_ix ix_list (pv 1) pe_int (fun _ _ => rfl)))
      (pss_cons (ps_if (PW.pt (pw_or (pt_cmpR op_lt (pe_callB (call_min2 rfl) (by rfl) T.min (by decide +kernel) (pa_cons (pv 2) (pa_cons (pv 3) pa_nil))) pe_int (nomark _)) (pw_or1 (pt_cmpR op_gt (pe_callB (call_max2 rfl) (by rfl) T.max (by decide +kernel) (pa_cons (pv 2) (pa_cons (pv 3) pa_nil))) (pe_k rfl T.brought) (nomark _))))) (pss_one (ps_ret (pe_lst (pa_cons (pe_k rfl T.c22) pa_nil)))) pss_nil)
      (pss_one (ps_ret (pe_lst (pa_cons (pe_ifExp (pt_val (pe_def D hr (by decide) rfl (pa_cons (pv 2) (pa_cons (pv 3) pa_nil)))) pe_int pe_int) pa_nil)))))), ?_⟩
    have n0 := hn.1
    have m0 := hm.1
    refine ⟨_, rfl, a, _, _, _, rfl, rfl, hS, at0, _, rfl, a, _, _, _, rfl, rfl, hS, at1, ?_⟩
    have bad : (n < 1 ∨ 1000 < n ∨ m < 1 ∨ 1000 < m) → ∀ r, H r = none → Q (.ref r) (upd H r (.lst [.int (-22)])) := fun hb r hr0 => still k L (brings_no n0 m0 hb) (same_new hr0) hr0 upd_same
    refine ⟨_, rfl, _, rfl, _, _, rfl, _, _, rfl, rfl, _, rfl, ?_⟩
    by_cases c1 : n < 1 ∨ m < 1
    · refine ifT (decide_eq_true (by split <;> omega)) ⟨by decide, fun r hr0 => bad (by omega) r hr0⟩
    · refine ifF (decide_eq_false (by split <;> omega)) ?_
      refine ⟨_, rfl, _, rfl, _, _, rfl, _, _, rfl, rfl, _, rfl, ?_⟩
      by_cases c2 : 1000 < n ∨ 1000 < m
      · refine ifT (decide_eq_true (by split <;> omega)) ⟨by decide, fun r hr0 => bad (by omega) r hr0⟩
      · refine ifF (decide_eq_false (by split <;> omega)) ?_
        obtain ⟨u, rfl⟩ : ∃ m : Nat, n = (m : Int) := ⟨n.toNat, by omega⟩
        obtain ⟨v, rfl⟩ : ∃ n : Nat, m = (n : Int) := ⟨m.toNat, by omega⟩
        have ec := brings_ok (g := g) (k := (u : Int)) (l := (v : Int)) (by omega) (by omega) (by omega) (by omega)
        rw [Int.toNat_natCast, Int.toNat_natCast] at ec
        refine ⟨_, rfl, _, rfl, u, v, rfl, by omega, by omega, by omega, by omega, _, rfl, ?_⟩
        cases c : Su183.brings u v with
        | true =>
          rw [if_pos c] at ec
          exact ifT rfl ⟨by decide, fun r hr0 => still k L ec (same_new hr0) hr0 upd_same⟩
        | false =>
          rw [if_neg (by rw [c]; decide)] at ec
          exact ifF rfl ⟨by decide, fun r hr0 => still k L ec (same_new hr0) hr0 upd_same⟩
/-! ### slope, turn, state -/
theorem scSlope : FnScope ["line", "numbers", "i"] ["line", "numbers"] (defScope sSlope) := ⟨rfl, rfl, rfl, by decide +kernel, rfl, by decide +kernel, by decide +kernel⟩
theorem ok_slope {f : Addr} {fd : FuncData} (F : Fun K "slope" "slope" sSlope f fd) (T : Txt K mg C) (D : Def P w K mg base 1 "last_point" (spLast C)) : FnOk P w K mg base CX0 2 f fd ["line", "numbers"] (spMk K C 13) := by
  refine F.ok scSlope (fun vs H Q E h => ?_) (fun cdv A outer s H vs Q E hr h => ?_)
  · obtain ⟨x, l, a, s, ns, rfl, _⟩ := h
    rfl
  · obtain ⟨x, d, a, s, ns, rfl, L, hS, ok, hi, as, k⟩ := h
    obtain ⟨i, rfl, hi32⟩ := asked_one (.inr (.inr (.inr rfl))) as
    obtain ⟨g, rfl, wf⟩ := some_of (by decide) hi ok
    refine ⟨_, pss_cons (ps_set (i := 2) scSlope.nd rfl (Or.inl rfl) (pe_ix ix_list (pv 1) pe_int (fun _ _ => rfl)))
      (pss_cons (ps_if (pt_cmpR op_ge (pv 2) (pe_def D hr (by decide) rfl (pa_cons (pv 0) pa_nil)) (nomark _)) (pss_one (ps_ret (pe_lst (pa_cons (pe_k rfl T.c2) pa_nil)))) pss_nil)
      (pss_one (ps_ret (pe_lst (pa_cons pe_int (pa_cons (pe_op op_sub (pe_ix ix_list (pe_fld (pv 0) rfl) (pe_op op_add (pv 2) pe_int) (fun _ _ => rfl)) (pe_ix ix_list (pe_fld (pv 0) rfl) (pv 2) (fun _ _ => rfl))) pa_nil)))))), ?_⟩
    obtain ⟨dx, l, kvs, h1, h2, h3, h4⟩ := L.opens
    have i0 := hi32.1
    refine ⟨_, rfl, a, _, _, _, rfl, rfl, hS, at0, _, rfl, _, rfl, x, d, g, rfl, L, wf, _, _, rfl, rfl, _, rfl, ?_⟩
    by_cases c : (g.n : Int) ≤ i
    · exact ifT (decide_eq_true c) ⟨by decide, fun r hr0 => still k L (slope_no c) (same_new hr0) hr0 upd_same⟩
    · refine ifF (decide_eq_false c) ?_
      obtain ⟨m, rfl⟩ : ∃ m : Nat, i = (m : Int) := ⟨i.toNat, by omega⟩
      have ec := slope_ok (g := g) (i := (m : Int)) i0 (by omega)
      rw [Int.toNat_natCast] at ec
      refine ⟨_, rfl, x, C, dx, _, _, rfl, h1, T.cl, T.nP, pF_lk l d, _, rfl, _, _, rfl, rfl, l, _, _, _, rfl, rfl, SqL.of h2, atI_nat (gs_get wf (show m + 1 ≤ g.n by omega)), _, rfl, x, C, dx, _, _, rfl, h1, T.cl, T.nP, pF_lk l d, _, rfl, l, _, _, _, rfl, rfl, SqL.of h2, atI_nat (gs_get wf (show m ≤ g.n by omega)), _, _, rfl, rfl, (by show 2 ≤ sizeLine; decide), fun r hr0 => ?_⟩
      exact still k L ec (same_new hr0) hr0 upd_same
theorem scTurn : FnScope ["line", "numbers", "last", "point"] ["line", "numbers"] (defScope sTurn) := ⟨rfl, rfl, rfl, by decide +kernel, rfl, by decide +kernel, by decide +kernel⟩
/-- a comprehension over reversed(a list) -/
theorem lc_back {K : PySem.W.Frag} {a D : Addr} {xs : List V} {g : TG} {tt : TT} {te : TE} {vs : List Nat} {σ : L2.St} {H1 : Hp} {Qd : Hp → Prop} (Pv : Nat → Hp → Prop) (h0 : Pv 0 (upd H1 D (.lst []))) (hl : ∀ i H, Pv i H → SqL K H a xs)
    (hs : ∀ i x H, xs.reverse[i]? = some x → Pv i H → g x (wipe σ vs) H fun s2 H2 => wipe s2 vs = wipe σ vs ∧ tt s2 H2 fun b H3 =>
      if b = true then te s2 H3 fun y H4 => ∃ acc, H4 D = some (.lst acc) ∧ acc.length < sizeLine ∧ Pv (i + 1) (upd H4 D (.lst (acc ++ [y]))) else Pv (i + 1) H3) (hd : ∀ H, Pv xs.length H → Qd H) :
    ∃ W : Nat → Nat → Hp → Prop, (∃ m, W 0 m (upd H1 D (.lst []))) ∧ ∀ i m H, W i m H →
      ((Itv K a xs.length).stop i H ∧ Qd H) ∨ ((Itv K a xs.length).go i H ∧ ∃ Nx : Hp → Prop, (∀ H', Nx H' → ∃ m', m' < m ∧ W (i + 1) m' H') ∧ ∀ x H', (Itv K a xs.length).yld i H x H' → g x (wipe σ vs) H' fun s2 H2 => wipe s2 vs = wipe σ vs ∧ tt s2 H2 fun b H3 =>
        if b = true then te s2 H3 fun y H4 => ∃ acc, H4 D = some (.lst acc) ∧ acc.length < sizeLine ∧ Nx (upd H4 D (.lst (acc ++ [y]))) else Nx H3) := by
  refine ⟨fun i m H => m + i = xs.length ∧ Pv i H, ⟨xs.length, by simp, h0⟩, ?_⟩
  rintro i m H ⟨e, p⟩
  by_cases c : m = 0
  · obtain rfl : i = xs.length := by omega
    exact .inl ⟨Nat.le_refl _, hd H p⟩
  · have hlt : i < xs.length := by omega
    have hx : xs[xs.length - 1 - i]? = some xs[xs.length - 1 - i] := List.getElem?_eq_getElem (by omega)
    refine .inr ⟨⟨hlt, xs, _, hl i H p, hx⟩, Pv (i + 1), fun H' p' => ⟨m - 1, by omega, by omega, p'⟩, ?_⟩
    rintro x H' ⟨rfl, y⟩
    exact hs i x _ (by rw [List.getElem?_reverse hlt]; exact y xs (hl i _ p)) p
theorem gs_turned {g : Abs} (wf : WF g) : gs g.turned = (gs g).reverse.map fun v => match v with | .int z => V.int ((g.n : Int) - z) | v => v := by
  unfold gs
  rw [turned_to g wf, ← List.map_reverse, List.map_map, List.map_map]
  refine List.map_congr_left fun v hv => ?_
  have := wf.all v (List.mem_reverse.mp hv)
  show V.int (((g.n - v : Nat) : Nat) : Int) = V.int ((g.n : Int) - (v : Int))
  congr 1
  omega
theorem ok_turn {f : Addr} {fd : FuncData} (F : Fun K "turn" "turn" sTurn f fd) (T : Txt K mg C) (D1 : Def P w K mg base 1 "last_point" (spLast C)) (D2 : Def P w K mg base 1 "renew" (spRenew C)) : FnOk P w K mg base CX0 2 f fd ["line", "numbers"] (spMk K C 14) := by
  refine F.ok scTurn (fun vs H Q E h => ?_) (fun cdv A outer s H vs Q E hr h => ?_)
  · obtain ⟨x, l, a, s, ns, rfl, _⟩ := h
    rfl
  · obtain ⟨x, d, a, s, ns, rfl, L, hS, ok, hi, as, k⟩ := h
    obtain rfl := asked_none (.inr (.inl rfl)) as
    obtain ⟨g, rfl, wf⟩ := some_of (by decide) hi ok
    refine ⟨_, pss_cons (ps_set (i := 2) scTurn.nd rfl (Or.inr rfl) (pe_def D1 hr (by decide) rfl (pa_cons (pv 0) pa_nil)))
      (pss_cons (ps_expr (pe_def D2 hr (by decide) rfl (pa_cons (pv 0) (pa_cons (pe_lc (own := [("point", 3)]) (g := gName 3) (tt := tYes) rfl scTurn.nd (pi_reversed (by rfl) T.rev (pa_cons (pe_fld (pv 0) rfl) pa_nil)) (blkOk_by (own := [("point", 3)]) (N := ["line", "numbers", "last", "point"]) (sc := defScope sTurn) (by decide +kernel))
        (fun _ _ _ _ _ => pg_name (i := 3) scTurn.nd rfl (Or.inl rfl)) (fun _ _ _ _ _ => pts_nil) (fun _ _ _ _ _ => pe_op op_sub (pv 2) (pv 3))) pa_nil))))
      (pss_one (ps_ret (pe_lst (pa_cons pe_int pa_nil))))), ?_⟩
    obtain ⟨dx, l, kvs, h1, h2, h3, h4⟩ := L.opens
    have h6 := wf.six
    have hlen := gs_len wf
    refine ⟨_, rfl, x, d, g, rfl, L, wf, _, rfl, _, rfl, x, C, dx, _, _, rfl, h1, T.cl, T.nP, pF_lk l d, l, _, rfl, SqL.of h2, fun D nD => ?_⟩
    refine lc_back (K := K) (a := l) (xs := gs g) (fun j H'' => Same H H'' ∧ H'' D = some (.lst (((gs g).reverse.take j).map fun v => match v with | .int z => V.int ((g.n : Int) - z) | v => v)))
      ⟨same_new nD, upd_same⟩ (fun j H'' ⟨s, _⟩ => SqL.of (s _ _ h2)) ?_ ?_
    · rintro j y H'' hy ⟨s5, hD⟩
      obtain ⟨v, rfl⟩ : ∃ v : Nat, y = V.int (v : Int) := by
        have hm := List.mem_reverse.mp (List.mem_of_getElem? hy)
        obtain ⟨v, _, rfl⟩ := List.mem_map.mp hm
        exact ⟨v, rfl⟩
      have hju := (List.getElem?_eq_some_iff.mp hy).1
      rw [List.length_reverse, hlen] at hju
      refine ⟨rfl, yes ?_⟩
      refine ⟨_, rfl, _, rfl, _, _, rfl, rfl, _, hD, ?_, fun b' o e' => ?_, ?_⟩
      · rw [List.length_map, List.length_take]
        exact small1000 (by omega)
      · rw [upd_ne (ne_of_none e' nD)]
        exact s5 b' o e'
      · rw [upd_same, map_step hy]
    · rintro H'' ⟨s5, hD⟩
      rw [← List.length_reverse, List.take_length, ← gs_turned wf] at hD
      refine ⟨x, D, dx, l, d, g.turned, rfl, s5 _ _ h1, hD, fun H2 d' L2 ow nd fr => ?_⟩
      exact ⟨by decide, fun r hr0 => anew k turn_ok s5 nD L2 ow nd fr hr0⟩
theorem scState : FnScope ["line", "numbers"] ["line", "numbers"] (defScope sState) := ⟨rfl, rfl, rfl, by decide +kernel, rfl, by decide +kernel, by decide +kernel⟩
theorem ok_state {f : Addr} {fd : FuncData} (F : Fun K "state" "state" sState f fd) (T : Txt K mg C) (D : Def P w K mg base 1 "last_point" (spLast C)) : FnOk P w K mg base CX0 2 f fd ["line", "numbers"] (spMk K C 15) := by
  refine F.ok scState (fun vs H Q E h => ?_) (fun cdv A outer s H vs Q E hr h => ?_)
  · obtain ⟨x, l, a, s, ns, rfl, _⟩ := h
    rfl
  · obtain ⟨x, d, a, s, ns, rfl, L, hS, ok, hi, as, k⟩ := h
    obtain rfl := asked_none (.inr (.inr rfl)) as
    obtain ⟨g, rfl, wf⟩ := some_of (by decide) hi ok
    refine ⟨_, pss_one (ps_ret (pe_op op_cat (pe_lst (pa_cons (pe_def D hr (by decide) rfl (pa_cons (pv 0) pa_nil)) pa_nil)) (pe_fld (pv 0) rfl))), ?_⟩
    obtain ⟨dx, l, kvs, h1, h2, h3, h4⟩ := L.opens
    refine ⟨_, rfl, x, d, g, rfl, L, wf, (by show 1 ≤ sizeLine; decide), fun r hr0 => ?_⟩
    have s1 : Same H (upd H r (.lst [.int (g.n : Int)])) := same_new hr0
    refine ⟨_, rfl, x, C, dx, _, _, rfl, s1 _ _ h1, T.cl, T.nP, pF_lk l d, r, l, _, _, rfl, rfl, upd_same, s1 _ _ h2, ?_, fun v hv => ?_⟩
    · rw [gs_len wf]
      have := wf.six
      exact Nat.le_trans (show 1 + (g.n + 1) ≤ 100 by omega) (by decide)
    · refine still k L state_ok (s1.trans (same_new hv)) (s1.free hv) ?_
      rw [upd_same]
      unfold gs
      rw [List.map_cons, List.map_map]
      rfl
end
end Fl

namespace Fl
open PySem PySem.Spec PyProof.Rows L2
open PySem.W (Codec)
theorem all_mk {P : Program} {w : World} {K : PySem.W.Frag} {h : Heap} {mg : Str → Option Value} {fa f_lowest f_put_over f_places_from f_way_into_round f_comes_back_in f_covers_piece f_covers_some f_all_pieces f_ways_back f_one_step_more f_place_put_back f_place_of_loop f_loop_comes_back f_has_round f_comes_back_whole f_has_endless f_leads f_covered_among f_longer_paths f_places_of_loops f_leaders_within f_all_leaders f_power_of_two_in f_brings_number f_renew f_leaders_of f_last_point f_is_place f_is_steps f_as_fractions f_begin f_set_point f_set_row f_put f_way f_comes f_covers f_has f_which f_steps_refused f_round_refused f_count_rounds f_tell_round f_count_less f_tell_ranks f_brings f_slope f_turn f_state f_make f_answers C f_init m_MAKERS m_COUNTS : Addr} (X : K.In h) (G : h.Ns mainGlobals mg) (hfa : mg "answers" = some (.ref fa))
    {od_lowest an_lowest : Option Addr} {sl_lowest : Array (Option Value)} {oc_lowest kV_lowest dc_lowest pm_lowest cd_lowest ct_lowest : Value} {od_put_over an_put_over : Option Addr} {sl_put_over : Array (Option Value)} {oc_put_over kV_put_over dc_put_over pm_put_over cd_put_over ct_put_over : Value} {od_places_from an_places_from : Option Addr} {sl_places_from : Array (Option Value)} {oc_places_from kV_places_from dc_places_from pm_places_from cd_places_from ct_places_from : Value} {od_way_into_round an_way_into_round : Option Addr} {sl_way_into_round : Array (Option Value)} {oc_way_into_round kV_way_into_round dc_way_into_round pm_way_into_round cd_way_into_round ct_way_into_round : Value} {od_comes_back_in an_comes_back_in : Option Addr} {sl_comes_back_in : Array (Option Value)} {oc_comes_back_in kV_comes_back_in dc_comes_back_in pm_comes_back_in cd_comes_back_in ct_comes_back_in : Value} {od_covers_piece an_covers_piece : Option Addr} {sl_covers_piece : Array (Option Value)} {oc_covers_piece kV_covers_piece dc_covers_piece pm_covers_piece cd_covers_piece ct_covers_piece : Value} {od_covers_some an_covers_some : Option Addr} {sl_covers_some : Array (Option Value)} {oc_covers_some kV_covers_some dc_covers_some pm_covers_some cd_covers_some ct_covers_some : Value} {od_all_pieces an_all_pieces : Option Addr} {sl_all_pieces : Array (Option Value)} {oc_all_pieces kV_all_pieces dc_all_pieces pm_all_pieces cd_all_pieces ct_all_pieces : Value} {od_ways_back an_ways_back : Option Addr} {sl_ways_back : Array (Option Value)} {oc_ways_back kV_ways_back dc_ways_back pm_ways_back cd_ways_back ct_ways_back : Value} {od_one_step_more an_one_step_more : Option Addr} {sl_one_step_more : Array (Option Value)} {oc_one_step_more kV_one_step_more dc_one_step_more pm_one_step_more cd_one_step_more ct_one_step_more : Value} {od_place_put_back an_place_put_back : Option Addr} {sl_place_put_back : Array (Option Value)} {oc_place_put_back kV_place_put_back dc_place_put_back pm_place_put_back cd_place_put_back ct_place_put_back : Value} {od_place_of_loop an_place_of_loop : Option Addr} {sl_place_of_loop : Array (Option Value)} {oc_place_of_loop kV_place_of_loop dc_place_of_loop pm_place_of_loop cd_place_of_loop ct_place_of_loop : Value} {od_loop_comes_back an_loop_comes_back : Option Addr} {sl_loop_comes_back : Array (Option Value)} {oc_loop_comes_back kV_loop_comes_back dc_loop_comes_back pm_loop_comes_back cd_loop_comes_back ct_loop_comes_back : Value} {od_has_round an_has_round : Option Addr} {sl_has_round : Array (Option Value)} {oc_has_round kV_has_round dc_has_round pm_has_round cd_has_round ct_has_round : Value} {od_comes_back_whole an_comes_back_whole : Option Addr} {sl_comes_back_whole : Array (Option Value)} {oc_comes_back_whole kV_comes_back_whole dc_comes_back_whole pm_comes_back_whole cd_comes_back_whole ct_comes_back_whole : Value} {od_has_endless an_has_endless : Option Addr} {sl_has_endless : Array (Option Value)} {oc_has_endless kV_has_endless dc_has_endless pm_has_endless cd_has_endless ct_has_endless : Value} {od_leads an_leads : Option Addr} {sl_leads : Array (Option Value)} {oc_leads kV_leads dc_leads pm_leads cd_leads ct_leads : Value} {od_covered_among an_covered_among : Option Addr} {sl_covered_among : Array (Option Value)} {oc_covered_among kV_covered_among dc_covered_among pm_covered_among cd_covered_among ct_covered_among : Value} {od_longer_paths an_longer_paths : Option Addr} {sl_longer_paths : Array (Option Value)} {oc_longer_paths kV_longer_paths dc_longer_paths pm_longer_paths cd_longer_paths ct_longer_paths : Value} {od_places_of_loops an_places_of_loops : Option Addr} {sl_places_of_loops : Array (Option Value)} {oc_places_of_loops kV_places_of_loops dc_places_of_loops pm_places_of_loops cd_places_of_loops ct_places_of_loops : Value} {od_leaders_within an_leaders_within : Option Addr} {sl_leaders_within : Array (Option Value)} {oc_leaders_within kV_leaders_within dc_leaders_within pm_leaders_within cd_leaders_within ct_leaders_within : Value} {od_all_leaders an_all_leaders : Option Addr} {sl_all_leaders : Array (Option Value)} {oc_all_leaders kV_all_leaders dc_all_leaders pm_all_leaders cd_all_leaders ct_all_leaders : Value} {od_power_of_two_in an_power_of_two_in : Option Addr} {sl_power_of_two_in : Array (Option Value)} {oc_power_of_two_in kV_power_of_two_in dc_power_of_two_in pm_power_of_two_in cd_power_of_two_in ct_power_of_two_in : Value} {od_brings_number an_brings_number : Option Addr} {sl_brings_number : Array (Option Value)} {oc_brings_number kV_brings_number dc_brings_number pm_brings_number cd_brings_number ct_brings_number : Value} {od_renew an_renew : Option Addr} {sl_renew : Array (Option Value)} {oc_renew kV_renew dc_renew pm_renew cd_renew ct_renew : Value} {od_leaders_of an_leaders_of : Option Addr} {sl_leaders_of : Array (Option Value)} {oc_leaders_of kV_leaders_of dc_leaders_of pm_leaders_of cd_leaders_of ct_leaders_of : Value} {od_last_point an_last_point : Option Addr} {sl_last_point : Array (Option Value)} {oc_last_point kV_last_point dc_last_point pm_last_point cd_last_point ct_last_point : Value} {od_is_place an_is_place : Option Addr} {sl_is_place : Array (Option Value)} {oc_is_place kV_is_place dc_is_place pm_is_place cd_is_place ct_is_place : Value} {od_is_steps an_is_steps : Option Addr} {sl_is_steps : Array (Option Value)} {oc_is_steps kV_is_steps dc_is_steps pm_is_steps cd_is_steps ct_is_steps : Value} {od_as_fractions an_as_fractions : Option Addr} {sl_as_fractions : Array (Option Value)} {oc_as_fractions kV_as_fractions dc_as_fractions pm_as_fractions cd_as_fractions ct_as_fractions : Value} {od_begin an_begin : Option Addr} {sl_begin : Array (Option Value)} {oc_begin kV_begin dc_begin pm_begin cd_begin ct_begin : Value} {od_set_point an_set_point : Option Addr} {sl_set_point : Array (Option Value)} {oc_set_point kV_set_point dc_set_point pm_set_point cd_set_point ct_set_point : Value} {od_set_row an_set_row : Option Addr} {sl_set_row : Array (Option Value)} {oc_set_row kV_set_row dc_set_row pm_set_row cd_set_row ct_set_row : Value} {od_put an_put : Option Addr} {sl_put : Array (Option Value)} {oc_put kV_put dc_put pm_put cd_put ct_put : Value} {od_way an_way : Option Addr} {sl_way : Array (Option Value)} {oc_way kV_way dc_way pm_way cd_way ct_way : Value} {od_comes an_comes : Option Addr} {sl_comes : Array (Option Value)} {oc_comes kV_comes dc_comes pm_comes cd_comes ct_comes : Value} {od_covers an_covers : Option Addr} {sl_covers : Array (Option Value)} {oc_covers kV_covers dc_covers pm_covers cd_covers ct_covers : Value} {od_has an_has : Option Addr} {sl_has : Array (Option Value)} {oc_has kV_has dc_has pm_has cd_has ct_has : Value} {od_which an_which : Option Addr} {sl_which : Array (Option Value)} {oc_which kV_which dc_which pm_which cd_which ct_which : Value} {od_steps_refused an_steps_refused : Option Addr} {sl_steps_refused : Array (Option Value)} {oc_steps_refused kV_steps_refused dc_steps_refused pm_steps_refused cd_steps_refused ct_steps_refused : Value} {od_round_refused an_round_refused : Option Addr} {sl_round_refused : Array (Option Value)} {oc_round_refused kV_round_refused dc_round_refused pm_round_refused cd_round_refused ct_round_refused : Value} {od_count_rounds an_count_rounds : Option Addr} {sl_count_rounds : Array (Option Value)} {oc_count_rounds kV_count_rounds dc_count_rounds pm_count_rounds cd_count_rounds ct_count_rounds : Value} {od_tell_round an_tell_round : Option Addr} {sl_tell_round : Array (Option Value)} {oc_tell_round kV_tell_round dc_tell_round pm_tell_round cd_tell_round ct_tell_round : Value} {od_count_less an_count_less : Option Addr} {sl_count_less : Array (Option Value)} {oc_count_less kV_count_less dc_count_less pm_count_less cd_count_less ct_count_less : Value} {od_tell_ranks an_tell_ranks : Option Addr} {sl_tell_ranks : Array (Option Value)} {oc_tell_ranks kV_tell_ranks dc_tell_ranks pm_tell_ranks cd_tell_ranks ct_tell_ranks : Value} {od_brings an_brings : Option Addr} {sl_brings : Array (Option Value)} {oc_brings kV_brings dc_brings pm_brings cd_brings ct_brings : Value} {od_slope an_slope : Option Addr} {sl_slope : Array (Option Value)} {oc_slope kV_slope dc_slope pm_slope cd_slope ct_slope : Value} {od_turn an_turn : Option Addr} {sl_turn : Array (Option Value)} {oc_turn kV_turn dc_turn pm_turn cd_turn ct_turn : Value} {od_state an_state : Option Addr} {sl_state : Array (Option Value)} {oc_state kV_state dc_state pm_state cd_state ct_state : Value} {od_make an_make : Option Addr} {sl_make : Array (Option Value)} {oc_make kV_make dc_make pm_make cd_make ct_make : Value} {od_answers an_answers : Option Addr} {sl_answers : Array (Option Value)} {oc_answers kV_answers dc_answers pm_answers cd_answers ct_answers : Value} {od_init an_init : Option Addr} {sl_init : Array (Option Value)} {oc_init kV_init dc_init pm_init cd_init ct_init : Value} {t_NONE_SUCH : Nat} {t_NOT_BEGUN : Nat} {t_NOT_AS_TOLD : Nat} {t_NO_MORE : Nat} {t_ENDLESS : Nat} {t_MOST_PIECES : Nat} {t_MOST_PARTS : Nat} {t_MOST_PLACES : Nat} {t_MOST_STEPS : Nat} {t_MOST_BROUGHT : Nat} {t_BEGIN : Nat} {t_ROW : Nat} {od_MAKERS : Option Addr} {sl_MAKERS : Array (Option Value)} {n_MAKERS : Nat} {od_COUNTS : Option Addr} {sl_COUNTS : Array (Option Value)} {n_COUNTS : Nat} {t_COUNTS_0 t_COUNTS_1 t_COUNTS_2 t_COUNTS_3 t_COUNTS_4 t_COUNTS_5 t_COUNTS_6 t_COUNTS_7 t_COUNTS_8 t_COUNTS_9 t_COUNTS_10 t_COUNTS_11 t_COUNTS_12 t_COUNTS_13 t_COUNTS_14 t_COUNTS_15 : Nat}
    (a_lowest : PySem.W.nsIn K mainGlobals "lowest" = some (some (.ref f_lowest)))
    (l_lowest : K.lookup f_lowest = some ⟨oc_lowest, od_lowest, .func (PySem.W.fnOf "lowest" "lowest" (defArgs (top 1)) (defBody (top 1)) (defScope (top 1)) .none kV_lowest dc_lowest pm_lowest an_lowest cd_lowest ct_lowest), sl_lowest⟩)
    (c_lowest : PySem.W.codeIn K cd_lowest "lowest" = true)
    (k_lowest : PySem.W.keepIn K (.ref f_lowest) = true)
    (a_put_over : PySem.W.nsIn K mainGlobals "put_over" = some (some (.ref f_put_over)))
    (l_put_over : K.lookup f_put_over = some ⟨oc_put_over, od_put_over, .func (PySem.W.fnOf "put_over" "put_over" (defArgs (top 2)) (defBody (top 2)) (defScope (top 2)) .none kV_put_over dc_put_over pm_put_over an_put_over cd_put_over ct_put_over), sl_put_over⟩)
    (c_put_over : PySem.W.codeIn K cd_put_over "put_over" = true)
    (k_put_over : PySem.W.keepIn K (.ref f_put_over) = true)
    (a_places_from : PySem.W.nsIn K mainGlobals "places_from" = some (some (.ref f_places_from)))
    (l_places_from : K.lookup f_places_from = some ⟨oc_places_from, od_places_from, .func (PySem.W.fnOf "places_from" "places_from" (defArgs (top 3)) (defBody (top 3)) (defScope (top 3)) .none kV_places_from dc_places_from pm_places_from an_places_from cd_places_from ct_places_from), sl_places_from⟩)
    (c_places_from : PySem.W.codeIn K cd_places_from "places_from" = true)
    (k_places_from : PySem.W.keepIn K (.ref f_places_from) = true)
    (a_way_into_round : PySem.W.nsIn K mainGlobals "way_into_round" = some (some (.ref f_way_into_round)))
    (l_way_into_round : K.lookup f_way_into_round = some ⟨oc_way_into_round, od_way_into_round, .func (PySem.W.fnOf "way_into_round" "way_into_round" (defArgs (top 4)) (defBody (top 4)) (defScope (top 4)) .none kV_way_into_round dc_way_into_round pm_way_into_round an_way_into_round cd_way_into_round ct_way_into_round), sl_way_into_round⟩)
    (c_way_into_round : PySem.W.codeIn K cd_way_into_round "way_into_round" = true)
    (k_way_into_round : PySem.W.keepIn K (.ref f_way_into_round) = true)
    (a_comes_back_in : PySem.W.nsIn K mainGlobals "comes_back_in" = some (some (.ref f_comes_back_in)))
    (l_comes_back_in : K.lookup f_comes_back_in = some ⟨oc_comes_back_in, od_comes_back_in, .func (PySem.W.fnOf "comes_back_in" "comes_back_in" (defArgs (top 5)) (defBody (top 5)) (defScope (top 5)) .none kV_comes_back_in dc_comes_back_in pm_comes_back_in an_comes_back_in cd_comes_back_in ct_comes_back_in), sl_comes_back_in⟩)
    (c_comes_back_in : PySem.W.codeIn K cd_comes_back_in "comes_back_in" = true)
    (k_comes_back_in : PySem.W.keepIn K (.ref f_comes_back_in) = true)
    (a_covers_piece : PySem.W.nsIn K mainGlobals "covers_piece" = some (some (.ref f_covers_piece)))
    (l_covers_piece : K.lookup f_covers_piece = some ⟨oc_covers_piece, od_covers_piece, .func (PySem.W.fnOf "covers_piece" "covers_piece" (defArgs (top 6)) (defBody (top 6)) (defScope (top 6)) .none kV_covers_piece dc_covers_piece pm_covers_piece an_covers_piece cd_covers_piece ct_covers_piece), sl_covers_piece⟩)
    (c_covers_piece : PySem.W.codeIn K cd_covers_piece "covers_piece" = true)
    (k_covers_piece : PySem.W.keepIn K (.ref f_covers_piece) = true)
    (a_covers_some : PySem.W.nsIn K mainGlobals "covers_some" = some (some (.ref f_covers_some)))
    (l_covers_some : K.lookup f_covers_some = some ⟨oc_covers_some, od_covers_some, .func (PySem.W.fnOf "covers_some" "covers_some" (defArgs (top 7)) (defBody (top 7)) (defScope (top 7)) .none kV_covers_some dc_covers_some pm_covers_some an_covers_some cd_covers_some ct_covers_some), sl_covers_some⟩)
    (c_covers_some : PySem.W.codeIn K cd_covers_some "covers_some" = true)
    (k_covers_some : PySem.W.keepIn K (.ref f_covers_some) = true)
    (a_all_pieces : PySem.W.nsIn K mainGlobals "all_pieces" = some (some (.ref f_all_pieces)))
    (l_all_pieces : K.lookup f_all_pieces = some ⟨oc_all_pieces, od_all_pieces, .func (PySem.W.fnOf "all_pieces" "all_pieces" (defArgs (top 8)) (defBody (top 8)) (defScope (top 8)) .none kV_all_pieces dc_all_pieces pm_all_pieces an_all_pieces cd_all_pieces ct_all_pieces), sl_all_pieces⟩)
    (c_all_pieces : PySem.W.codeIn K cd_all_pieces "all_pieces" = true)
    (k_all_pieces : PySem.W.keepIn K (.ref f_all_pieces) = true)
    (a_ways_back : PySem.W.nsIn K mainGlobals "ways_back" = some (some (.ref f_ways_back)))
    (l_ways_back : K.lookup f_ways_back = some ⟨oc_ways_back, od_ways_back, .func (PySem.W.fnOf "ways_back" "ways_back" (defArgs (top 9)) (defBody (top 9)) (defScope (top 9)) .none kV_ways_back dc_ways_back pm_ways_back an_ways_back cd_ways_back ct_ways_back), sl_ways_back⟩)
    (c_ways_back : PySem.W.codeIn K cd_ways_back "ways_back" = true)
    (k_ways_back : PySem.W.keepIn K (.ref f_ways_back) = true)
    (a_one_step_more : PySem.W.nsIn K mainGlobals "one_step_more" = some (some (.ref f_one_step_more)))
    (l_one_step_more : K.lookup f_one_step_more = some ⟨oc_one_step_more, od_one_step_more, .func (PySem.W.fnOf "one_step_more" "one_step_more" (defArgs (top 10)) (defBody (top 10)) (defScope (top 10)) .none kV_one_step_more dc_one_step_more pm_one_step_more an_one_step_more cd_one_step_more ct_one_step_more), sl_one_step_more⟩)
    (c_one_step_more : PySem.W.codeIn K cd_one_step_more "one_step_more" = true)
    (k_one_step_more : PySem.W.keepIn K (.ref f_one_step_more) = true)
    (a_place_put_back : PySem.W.nsIn K mainGlobals "place_put_back" = some (some (.ref f_place_put_back)))
    (l_place_put_back : K.lookup f_place_put_back = some ⟨oc_place_put_back, od_place_put_back, .func (PySem.W.fnOf "place_put_back" "place_put_back" (defArgs (top 11)) (defBody (top 11)) (defScope (top 11)) .none kV_place_put_back dc_place_put_back pm_place_put_back an_place_put_back cd_place_put_back ct_place_put_back), sl_place_put_back⟩)
    (c_place_put_back : PySem.W.codeIn K cd_place_put_back "place_put_back" = true)
    (k_place_put_back : PySem.W.keepIn K (.ref f_place_put_back) = true)
    (a_place_of_loop : PySem.W.nsIn K mainGlobals "place_of_loop" = some (some (.ref f_place_of_loop)))
    (l_place_of_loop : K.lookup f_place_of_loop = some ⟨oc_place_of_loop, od_place_of_loop, .func (PySem.W.fnOf "place_of_loop" "place_of_loop" (defArgs (top 12)) (defBody (top 12)) (defScope (top 12)) .none kV_place_of_loop dc_place_of_loop pm_place_of_loop an_place_of_loop cd_place_of_loop ct_place_of_loop), sl_place_of_loop⟩)
    (c_place_of_loop : PySem.W.codeIn K cd_place_of_loop "place_of_loop" = true)
    (k_place_of_loop : PySem.W.keepIn K (.ref f_place_of_loop) = true)
    (a_loop_comes_back : PySem.W.nsIn K mainGlobals "loop_comes_back" = some (some (.ref f_loop_comes_back)))
    (l_loop_comes_back : K.lookup f_loop_comes_back = some ⟨oc_loop_comes_back, od_loop_comes_back, .func (PySem.W.fnOf "loop_comes_back" "loop_comes_back" (defArgs (top 13)) (defBody (top 13)) (defScope (top 13)) .none kV_loop_comes_back dc_loop_comes_back pm_loop_comes_back an_loop_comes_back cd_loop_comes_back ct_loop_comes_back), sl_loop_comes_back⟩)
    (c_loop_comes_back : PySem.W.codeIn K cd_loop_comes_back "loop_comes_back" = true)
    (k_loop_comes_back : PySem.W.keepIn K (.ref f_loop_comes_back) = true)
    (a_has_round : PySem.W.nsIn K mainGlobals "has_round" = some (some (.ref f_has_round)))
    (l_has_round : K.lookup f_has_round = some ⟨oc_has_round, od_has_round, .func (PySem.W.fnOf "has_round" "has_round" (defArgs (top 14)) (defBody (top 14)) (defScope (top 14)) .none kV_has_round dc_has_round pm_has_round an_has_round cd_has_round ct_has_round), sl_has_round⟩)
    (c_has_round : PySem.W.codeIn K cd_has_round "has_round" = true)
    (k_has_round : PySem.W.keepIn K (.ref f_has_round) = true)
    (a_comes_back_whole : PySem.W.nsIn K mainGlobals "comes_back_whole" = some (some (.ref f_comes_back_whole)))
    (l_comes_back_whole : K.lookup f_comes_back_whole = some ⟨oc_comes_back_whole, od_comes_back_whole, .func (PySem.W.fnOf "comes_back_whole" "comes_back_whole" (defArgs (top 16)) (defBody (top 16)) (defScope (top 16)) .none kV_comes_back_whole dc_comes_back_whole pm_comes_back_whole an_comes_back_whole cd_comes_back_whole ct_comes_back_whole), sl_comes_back_whole⟩)
    (c_comes_back_whole : PySem.W.codeIn K cd_comes_back_whole "comes_back_whole" = true)
    (k_comes_back_whole : PySem.W.keepIn K (.ref f_comes_back_whole) = true)
    (a_has_endless : PySem.W.nsIn K mainGlobals "has_endless" = some (some (.ref f_has_endless)))
    (l_has_endless : K.lookup f_has_endless = some ⟨oc_has_endless, od_has_endless, .func (PySem.W.fnOf "has_endless" "has_endless" (defArgs (top 17)) (defBody (top 17)) (defScope (top 17)) .none kV_has_endless dc_has_endless pm_has_endless an_has_endless cd_has_endless ct_has_endless), sl_has_endless⟩)
    (c_has_endless : PySem.W.codeIn K cd_has_endless "has_endless" = true)
    (k_has_endless : PySem.W.keepIn K (.ref f_has_endless) = true)
    (a_leads : PySem.W.nsIn K mainGlobals "leads" = some (some (.ref f_leads)))
    (l_leads : K.lookup f_leads = some ⟨oc_leads, od_leads, .func (PySem.W.fnOf "leads" "leads" (defArgs (top 18)) (defBody (top 18)) (defScope (top 18)) .none kV_leads dc_leads pm_leads an_leads cd_leads ct_leads), sl_leads⟩)
    (c_leads : PySem.W.codeIn K cd_leads "leads" = true)
    (k_leads : PySem.W.keepIn K (.ref f_leads) = true)
    (a_covered_among : PySem.W.nsIn K mainGlobals "covered_among" = some (some (.ref f_covered_among)))
    (l_covered_among : K.lookup f_covered_among = some ⟨oc_covered_among, od_covered_among, .func (PySem.W.fnOf "covered_among" "covered_among" (defArgs (top 19)) (defBody (top 19)) (defScope (top 19)) .none kV_covered_among dc_covered_among pm_covered_among an_covered_among cd_covered_among ct_covered_among), sl_covered_among⟩)
    (c_covered_among : PySem.W.codeIn K cd_covered_among "covered_among" = true)
    (k_covered_among : PySem.W.keepIn K (.ref f_covered_among) = true)
    (a_longer_paths : PySem.W.nsIn K mainGlobals "longer_paths" = some (some (.ref f_longer_paths)))
    (l_longer_paths : K.lookup f_longer_paths = some ⟨oc_longer_paths, od_longer_paths, .func (PySem.W.fnOf "longer_paths" "longer_paths" (defArgs (top 20)) (defBody (top 20)) (defScope (top 20)) .none kV_longer_paths dc_longer_paths pm_longer_paths an_longer_paths cd_longer_paths ct_longer_paths), sl_longer_paths⟩)
    (c_longer_paths : PySem.W.codeIn K cd_longer_paths "longer_paths" = true)
    (k_longer_paths : PySem.W.keepIn K (.ref f_longer_paths) = true)
    (a_places_of_loops : PySem.W.nsIn K mainGlobals "places_of_loops" = some (some (.ref f_places_of_loops)))
    (l_places_of_loops : K.lookup f_places_of_loops = some ⟨oc_places_of_loops, od_places_of_loops, .func (PySem.W.fnOf "places_of_loops" "places_of_loops" (defArgs (top 21)) (defBody (top 21)) (defScope (top 21)) .none kV_places_of_loops dc_places_of_loops pm_places_of_loops an_places_of_loops cd_places_of_loops ct_places_of_loops), sl_places_of_loops⟩)
    (c_places_of_loops : PySem.W.codeIn K cd_places_of_loops "places_of_loops" = true)
    (k_places_of_loops : PySem.W.keepIn K (.ref f_places_of_loops) = true)
    (a_leaders_within : PySem.W.nsIn K mainGlobals "leaders_within" = some (some (.ref f_leaders_within)))
    (l_leaders_within : K.lookup f_leaders_within = some ⟨oc_leaders_within, od_leaders_within, .func (PySem.W.fnOf "leaders_within" "leaders_within" (defArgs (top 22)) (defBody (top 22)) (defScope (top 22)) .none kV_leaders_within dc_leaders_within pm_leaders_within an_leaders_within cd_leaders_within ct_leaders_within), sl_leaders_within⟩)
    (c_leaders_within : PySem.W.codeIn K cd_leaders_within "leaders_within" = true)
    (k_leaders_within : PySem.W.keepIn K (.ref f_leaders_within) = true)
    (a_all_leaders : PySem.W.nsIn K mainGlobals "all_leaders" = some (some (.ref f_all_leaders)))
    (l_all_leaders : K.lookup f_all_leaders = some ⟨oc_all_leaders, od_all_leaders, .func (PySem.W.fnOf "all_leaders" "all_leaders" (defArgs (top 23)) (defBody (top 23)) (defScope (top 23)) .none kV_all_leaders dc_all_leaders pm_all_leaders an_all_leaders cd_all_leaders ct_all_leaders), sl_all_leaders⟩)
    (c_all_leaders : PySem.W.codeIn K cd_all_leaders "all_leaders" = true)
    (k_all_leaders : PySem.W.keepIn K (.ref f_all_leaders) = true)
    (a_power_of_two_in : PySem.W.nsIn K mainGlobals "power_of_two_in" = some (some (.ref f_power_of_two_in)))
    (l_power_of_two_in : K.lookup f_power_of_two_in = some ⟨oc_power_of_two_in, od_power_of_two_in, .func (PySem.W.fnOf "power_of_two_in" "power_of_two_in" (defArgs (top 25)) (defBody (top 25)) (defScope (top 25)) .none kV_power_of_two_in dc_power_of_two_in pm_power_of_two_in an_power_of_two_in cd_power_of_two_in ct_power_of_two_in), sl_power_of_two_in⟩)
    (c_power_of_two_in : PySem.W.codeIn K cd_power_of_two_in "power_of_two_in" = true)
    (k_power_of_two_in : PySem.W.keepIn K (.ref f_power_of_two_in) = true)
    (a_brings_number : PySem.W.nsIn K mainGlobals "brings_number" = some (some (.ref f_brings_number)))
    (l_brings_number : K.lookup f_brings_number = some ⟨oc_brings_number, od_brings_number, .func (PySem.W.fnOf "brings_number" "brings_number" (defArgs (top 26)) (defBody (top 26)) (defScope (top 26)) .none kV_brings_number dc_brings_number pm_brings_number an_brings_number cd_brings_number ct_brings_number), sl_brings_number⟩)
    (c_brings_number : PySem.W.codeIn K cd_brings_number "brings_number" = true)
    (k_brings_number : PySem.W.keepIn K (.ref f_brings_number) = true)
    (a_renew : PySem.W.nsIn K mainGlobals "renew" = some (some (.ref f_renew)))
    (l_renew : K.lookup f_renew = some ⟨oc_renew, od_renew, .func (PySem.W.fnOf "renew" "renew" (defArgs (top 39)) (defBody (top 39)) (defScope (top 39)) .none kV_renew dc_renew pm_renew an_renew cd_renew ct_renew), sl_renew⟩)
    (c_renew : PySem.W.codeIn K cd_renew "renew" = true)
    (k_renew : PySem.W.keepIn K (.ref f_renew) = true)
    (a_leaders_of : PySem.W.nsIn K mainGlobals "leaders_of" = some (some (.ref f_leaders_of)))
    (l_leaders_of : K.lookup f_leaders_of = some ⟨oc_leaders_of, od_leaders_of, .func (PySem.W.fnOf "leaders_of" "leaders_of" (defArgs (top 40)) (defBody (top 40)) (defScope (top 40)) .none kV_leaders_of dc_leaders_of pm_leaders_of an_leaders_of cd_leaders_of ct_leaders_of), sl_leaders_of⟩)
    (c_leaders_of : PySem.W.codeIn K cd_leaders_of "leaders_of" = true)
    (k_leaders_of : PySem.W.keepIn K (.ref f_leaders_of) = true)
    (a_last_point : PySem.W.nsIn K mainGlobals "last_point" = some (some (.ref f_last_point)))
    (l_last_point : K.lookup f_last_point = some ⟨oc_last_point, od_last_point, .func (PySem.W.fnOf "last_point" "last_point" (defArgs (top 41)) (defBody (top 41)) (defScope (top 41)) .none kV_last_point dc_last_point pm_last_point an_last_point cd_last_point ct_last_point), sl_last_point⟩)
    (c_last_point : PySem.W.codeIn K cd_last_point "last_point" = true)
    (k_last_point : PySem.W.keepIn K (.ref f_last_point) = true)
    (a_is_place : PySem.W.nsIn K mainGlobals "is_place" = some (some (.ref f_is_place)))
    (l_is_place : K.lookup f_is_place = some ⟨oc_is_place, od_is_place, .func (PySem.W.fnOf "is_place" "is_place" (defArgs (top 42)) (defBody (top 42)) (defScope (top 42)) .none kV_is_place dc_is_place pm_is_place an_is_place cd_is_place ct_is_place), sl_is_place⟩)
    (c_is_place : PySem.W.codeIn K cd_is_place "is_place" = true)
    (k_is_place : PySem.W.keepIn K (.ref f_is_place) = true)
    (a_is_steps : PySem.W.nsIn K mainGlobals "is_steps" = some (some (.ref f_is_steps)))
    (l_is_steps : K.lookup f_is_steps = some ⟨oc_is_steps, od_is_steps, .func (PySem.W.fnOf "is_steps" "is_steps" (defArgs (top 43)) (defBody (top 43)) (defScope (top 43)) .none kV_is_steps dc_is_steps pm_is_steps an_is_steps cd_is_steps ct_is_steps), sl_is_steps⟩)
    (c_is_steps : PySem.W.codeIn K cd_is_steps "is_steps" = true)
    (k_is_steps : PySem.W.keepIn K (.ref f_is_steps) = true)
    (a_as_fractions : PySem.W.nsIn K mainGlobals "as_fractions" = some (some (.ref f_as_fractions)))
    (l_as_fractions : K.lookup f_as_fractions = some ⟨oc_as_fractions, od_as_fractions, .func (PySem.W.fnOf "as_fractions" "as_fractions" (defArgs (top 44)) (defBody (top 44)) (defScope (top 44)) .none kV_as_fractions dc_as_fractions pm_as_fractions an_as_fractions cd_as_fractions ct_as_fractions), sl_as_fractions⟩)
    (c_as_fractions : PySem.W.codeIn K cd_as_fractions "as_fractions" = true)
    (k_as_fractions : PySem.W.keepIn K (.ref f_as_fractions) = true)
    (a_begin : PySem.W.nsIn K mainGlobals "begin" = some (some (.ref f_begin)))
    (l_begin : K.lookup f_begin = some ⟨oc_begin, od_begin, .func (PySem.W.fnOf "begin" "begin" (defArgs (top 45)) (defBody (top 45)) (defScope (top 45)) .none kV_begin dc_begin pm_begin an_begin cd_begin ct_begin), sl_begin⟩)
    (c_begin : PySem.W.codeIn K cd_begin "begin" = true)
    (k_begin : PySem.W.keepIn K (.ref f_begin) = true)
    (a_set_point : PySem.W.nsIn K mainGlobals "set_point" = some (some (.ref f_set_point)))
    (l_set_point : K.lookup f_set_point = some ⟨oc_set_point, od_set_point, .func (PySem.W.fnOf "set_point" "set_point" (defArgs (top 46)) (defBody (top 46)) (defScope (top 46)) .none kV_set_point dc_set_point pm_set_point an_set_point cd_set_point ct_set_point), sl_set_point⟩)
    (c_set_point : PySem.W.codeIn K cd_set_point "set_point" = true)
    (k_set_point : PySem.W.keepIn K (.ref f_set_point) = true)
    (a_set_row : PySem.W.nsIn K mainGlobals "set_row" = some (some (.ref f_set_row)))
    (l_set_row : K.lookup f_set_row = some ⟨oc_set_row, od_set_row, .func (PySem.W.fnOf "set_row" "set_row" (defArgs (top 47)) (defBody (top 47)) (defScope (top 47)) .none kV_set_row dc_set_row pm_set_row an_set_row cd_set_row ct_set_row), sl_set_row⟩)
    (c_set_row : PySem.W.codeIn K cd_set_row "set_row" = true)
    (k_set_row : PySem.W.keepIn K (.ref f_set_row) = true)
    (a_put : PySem.W.nsIn K mainGlobals "put" = some (some (.ref f_put)))
    (l_put : K.lookup f_put = some ⟨oc_put, od_put, .func (PySem.W.fnOf "put" "put" (defArgs (top 48)) (defBody (top 48)) (defScope (top 48)) .none kV_put dc_put pm_put an_put cd_put ct_put), sl_put⟩)
    (c_put : PySem.W.codeIn K cd_put "put" = true)
    (k_put : PySem.W.keepIn K (.ref f_put) = true)
    (a_way : PySem.W.nsIn K mainGlobals "way" = some (some (.ref f_way)))
    (l_way : K.lookup f_way = some ⟨oc_way, od_way, .func (PySem.W.fnOf "way" "way" (defArgs (top 49)) (defBody (top 49)) (defScope (top 49)) .none kV_way dc_way pm_way an_way cd_way ct_way), sl_way⟩)
    (c_way : PySem.W.codeIn K cd_way "way" = true)
    (k_way : PySem.W.keepIn K (.ref f_way) = true)
    (a_comes : PySem.W.nsIn K mainGlobals "comes" = some (some (.ref f_comes)))
    (l_comes : K.lookup f_comes = some ⟨oc_comes, od_comes, .func (PySem.W.fnOf "comes" "comes" (defArgs (top 50)) (defBody (top 50)) (defScope (top 50)) .none kV_comes dc_comes pm_comes an_comes cd_comes ct_comes), sl_comes⟩)
    (c_comes : PySem.W.codeIn K cd_comes "comes" = true)
    (k_comes : PySem.W.keepIn K (.ref f_comes) = true)
    (a_covers : PySem.W.nsIn K mainGlobals "covers" = some (some (.ref f_covers)))
    (l_covers : K.lookup f_covers = some ⟨oc_covers, od_covers, .func (PySem.W.fnOf "covers" "covers" (defArgs (top 51)) (defBody (top 51)) (defScope (top 51)) .none kV_covers dc_covers pm_covers an_covers cd_covers ct_covers), sl_covers⟩)
    (c_covers : PySem.W.codeIn K cd_covers "covers" = true)
    (k_covers : PySem.W.keepIn K (.ref f_covers) = true)
    (a_has : PySem.W.nsIn K mainGlobals "has" = some (some (.ref f_has)))
    (l_has : K.lookup f_has = some ⟨oc_has, od_has, .func (PySem.W.fnOf "has" "has" (defArgs (top 52)) (defBody (top 52)) (defScope (top 52)) .none kV_has dc_has pm_has an_has cd_has ct_has), sl_has⟩)
    (c_has : PySem.W.codeIn K cd_has "has" = true)
    (k_has : PySem.W.keepIn K (.ref f_has) = true)
    (a_which : PySem.W.nsIn K mainGlobals "which" = some (some (.ref f_which)))
    (l_which : K.lookup f_which = some ⟨oc_which, od_which, .func (PySem.W.fnOf "which" "which" (defArgs (top 53)) (defBody (top 53)) (defScope (top 53)) .none kV_which dc_which pm_which an_which cd_which ct_which), sl_which⟩)
    (c_which : PySem.W.codeIn K cd_which "which" = true)
    (k_which : PySem.W.keepIn K (.ref f_which) = true)
    (a_steps_refused : PySem.W.nsIn K mainGlobals "steps_refused" = some (some (.ref f_steps_refused)))
    (l_steps_refused : K.lookup f_steps_refused = some ⟨oc_steps_refused, od_steps_refused, .func (PySem.W.fnOf "steps_refused" "steps_refused" (defArgs (top 54)) (defBody (top 54)) (defScope (top 54)) .none kV_steps_refused dc_steps_refused pm_steps_refused an_steps_refused cd_steps_refused ct_steps_refused), sl_steps_refused⟩)
    (c_steps_refused : PySem.W.codeIn K cd_steps_refused "steps_refused" = true)
    (k_steps_refused : PySem.W.keepIn K (.ref f_steps_refused) = true)
    (a_round_refused : PySem.W.nsIn K mainGlobals "round_refused" = some (some (.ref f_round_refused)))
    (l_round_refused : K.lookup f_round_refused = some ⟨oc_round_refused, od_round_refused, .func (PySem.W.fnOf "round_refused" "round_refused" (defArgs (top 55)) (defBody (top 55)) (defScope (top 55)) .none kV_round_refused dc_round_refused pm_round_refused an_round_refused cd_round_refused ct_round_refused), sl_round_refused⟩)
    (c_round_refused : PySem.W.codeIn K cd_round_refused "round_refused" = true)
    (k_round_refused : PySem.W.keepIn K (.ref f_round_refused) = true)
    (a_count_rounds : PySem.W.nsIn K mainGlobals "count_rounds" = some (some (.ref f_count_rounds)))
    (l_count_rounds : K.lookup f_count_rounds = some ⟨oc_count_rounds, od_count_rounds, .func (PySem.W.fnOf "count_rounds" "count_rounds" (defArgs (top 56)) (defBody (top 56)) (defScope (top 56)) .none kV_count_rounds dc_count_rounds pm_count_rounds an_count_rounds cd_count_rounds ct_count_rounds), sl_count_rounds⟩)
    (c_count_rounds : PySem.W.codeIn K cd_count_rounds "count_rounds" = true)
    (k_count_rounds : PySem.W.keepIn K (.ref f_count_rounds) = true)
    (a_tell_round : PySem.W.nsIn K mainGlobals "tell_round" = some (some (.ref f_tell_round)))
    (l_tell_round : K.lookup f_tell_round = some ⟨oc_tell_round, od_tell_round, .func (PySem.W.fnOf "tell_round" "tell_round" (defArgs (top 57)) (defBody (top 57)) (defScope (top 57)) .none kV_tell_round dc_tell_round pm_tell_round an_tell_round cd_tell_round ct_tell_round), sl_tell_round⟩)
    (c_tell_round : PySem.W.codeIn K cd_tell_round "tell_round" = true)
    (k_tell_round : PySem.W.keepIn K (.ref f_tell_round) = true)
    (a_count_less : PySem.W.nsIn K mainGlobals "count_less" = some (some (.ref f_count_less)))
    (l_count_less : K.lookup f_count_less = some ⟨oc_count_less, od_count_less, .func (PySem.W.fnOf "count_less" "count_less" (defArgs (top 58)) (defBody (top 58)) (defScope (top 58)) .none kV_count_less dc_count_less pm_count_less an_count_less cd_count_less ct_count_less), sl_count_less⟩)
    (c_count_less : PySem.W.codeIn K cd_count_less "count_less" = true)
    (k_count_less : PySem.W.keepIn K (.ref f_count_less) = true)
    (a_tell_ranks : PySem.W.nsIn K mainGlobals "tell_ranks" = some (some (.ref f_tell_ranks)))
    (l_tell_ranks : K.lookup f_tell_ranks = some ⟨oc_tell_ranks, od_tell_ranks, .func (PySem.W.fnOf "tell_ranks" "tell_ranks" (defArgs (top 59)) (defBody (top 59)) (defScope (top 59)) .none kV_tell_ranks dc_tell_ranks pm_tell_ranks an_tell_ranks cd_tell_ranks ct_tell_ranks), sl_tell_ranks⟩)
    (c_tell_ranks : PySem.W.codeIn K cd_tell_ranks "tell_ranks" = true)
    (k_tell_ranks : PySem.W.keepIn K (.ref f_tell_ranks) = true)
    (a_brings : PySem.W.nsIn K mainGlobals "brings" = some (some (.ref f_brings)))
    (l_brings : K.lookup f_brings = some ⟨oc_brings, od_brings, .func (PySem.W.fnOf "brings" "brings" (defArgs (top 60)) (defBody (top 60)) (defScope (top 60)) .none kV_brings dc_brings pm_brings an_brings cd_brings ct_brings), sl_brings⟩)
    (c_brings : PySem.W.codeIn K cd_brings "brings" = true)
    (k_brings : PySem.W.keepIn K (.ref f_brings) = true)
    (a_slope : PySem.W.nsIn K mainGlobals "slope" = some (some (.ref f_slope)))
    (l_slope : K.lookup f_slope = some ⟨oc_slope, od_slope, .func (PySem.W.fnOf "slope" "slope" (defArgs (top 61)) (defBody (top 61)) (defScope (top 61)) .none kV_slope dc_slope pm_slope an_slope cd_slope ct_slope), sl_slope⟩)
    (c_slope : PySem.W.codeIn K cd_slope "slope" = true)
    (k_slope : PySem.W.keepIn K (.ref f_slope) = true)
    (a_turn : PySem.W.nsIn K mainGlobals "turn" = some (some (.ref f_turn)))
    (l_turn : K.lookup f_turn = some ⟨oc_turn, od_turn, .func (PySem.W.fnOf "turn" "turn" (defArgs (top 62)) (defBody (top 62)) (defScope (top 62)) .none kV_turn dc_turn pm_turn an_turn cd_turn ct_turn), sl_turn⟩)
    (c_turn : PySem.W.codeIn K cd_turn "turn" = true)
    (k_turn : PySem.W.keepIn K (.ref f_turn) = true)
    (a_state : PySem.W.nsIn K mainGlobals "state" = some (some (.ref f_state)))
    (l_state : K.lookup f_state = some ⟨oc_state, od_state, .func (PySem.W.fnOf "state" "state" (defArgs (top 63)) (defBody (top 63)) (defScope (top 63)) .none kV_state dc_state pm_state an_state cd_state ct_state), sl_state⟩)
    (c_state : PySem.W.codeIn K cd_state "state" = true)
    (k_state : PySem.W.keepIn K (.ref f_state) = true)
    (a_make : PySem.W.nsIn K mainGlobals "make" = some (some (.ref f_make)))
    (l_make : K.lookup f_make = some ⟨oc_make, od_make, .func (PySem.W.fnOf "make" "make" (defArgs (top 68)) (defBody (top 68)) (defScope (top 68)) .none kV_make dc_make pm_make an_make cd_make ct_make), sl_make⟩)
    (c_make : PySem.W.codeIn K cd_make "make" = true)
    (k_make : PySem.W.keepIn K (.ref f_make) = true)
    (a_answers : PySem.W.nsIn K mainGlobals "answers" = some (some (.ref f_answers)))
    (l_answers : K.lookup f_answers = some ⟨oc_answers, od_answers, .func (PySem.W.fnOf "answers" "answers" (defArgs (top 69)) (defBody (top 69)) (defScope (top 69)) .none kV_answers dc_answers pm_answers an_answers cd_answers ct_answers), sl_answers⟩)
    (c_answers : PySem.W.codeIn K cd_answers "answers" = true)
    (k_answers : PySem.W.keepIn K (.ref f_answers) = true)
    (aC : PySem.W.nsIn K mainGlobals "Line" = some (some (.ref C)))
    (a_init : PySem.W.findIn K (.ref C) "__init__" = some (some (.ref f_init)))
    (i_init : PySem.W.isFn K (.ref f_init) = true)
    (l_init : K.lookup f_init = some ⟨oc_init, od_init, .func (PySem.W.fnOf "__init__" "Line.__init__" (defArgs (inClass (top 38) 0)) (defBody (inClass (top 38) 0)) (defScope (inClass (top 38) 0)) .none kV_init dc_init pm_init an_init cd_init ct_init), sl_init⟩)
    (c_init : PySem.W.codeIn K cd_init "Line.__init__" = true)
    (k_init : PySem.W.keepIn K (.ref f_init) = true)
    (pg : PySem.W.plainGet K C Str.empty = true)
    (hd : PySem.W.hasDictIn K C = true)
    (po : PySem.W.plainOver K C = true)
    (sa : PySem.W.findIn K (.ref C) "__setattr__" = some (some (.builtin "object.__setattr__")))
    (mk : PySem.W.makesIn K C = true)
    (kc : PySem.W.keepIn K (.ref C) = true)
    (n_leaders : PySem.W.findIn K (.ref C) "leaders" = some none)
    (n_points : PySem.W.findIn K (.ref C) "points" = some none)
    (v_NONE_SUCH : PySem.W.nsIn K mainGlobals "NONE_SUCH" = some (some (.int (-2) t_NONE_SUCH)))
    (v_NOT_BEGUN : PySem.W.nsIn K mainGlobals "NOT_BEGUN" = some (some (.int (-11) t_NOT_BEGUN)))
    (v_NOT_AS_TOLD : PySem.W.nsIn K mainGlobals "NOT_AS_TOLD" = some (some (.int (-22) t_NOT_AS_TOLD)))
    (v_NO_MORE : PySem.W.nsIn K mainGlobals "NO_MORE" = some (some (.int (-33) t_NO_MORE)))
    (v_ENDLESS : PySem.W.nsIn K mainGlobals "ENDLESS" = some (some (.int (-75) t_ENDLESS)))
    (v_MOST_PIECES : PySem.W.nsIn K mainGlobals "MOST_PIECES" = some (some (.int (6) t_MOST_PIECES)))
    (v_MOST_PARTS : PySem.W.nsIn K mainGlobals "MOST_PARTS" = some (some (.int (40) t_MOST_PARTS)))
    (v_MOST_PLACES : PySem.W.nsIn K mainGlobals "MOST_PLACES" = some (some (.int (20) t_MOST_PLACES)))
    (v_MOST_STEPS : PySem.W.nsIn K mainGlobals "MOST_STEPS" = some (some (.int (6) t_MOST_STEPS)))
    (v_MOST_BROUGHT : PySem.W.nsIn K mainGlobals "MOST_BROUGHT" = some (some (.int (1000) t_MOST_BROUGHT)))
    (v_BEGIN : PySem.W.nsIn K mainGlobals "BEGIN" = some (some (.int (0) t_BEGIN)))
    (v_ROW : PySem.W.nsIn K mainGlobals "ROW" = some (some (.int (2) t_ROW)))
    (a_MAKERS : PySem.W.nsIn K mainGlobals "MAKERS" = some (some (.ref m_MAKERS)))
    (l_MAKERS : K.lookup m_MAKERS = some ⟨.type "tuple", od_MAKERS, .seq #[.ref f_begin, .ref f_set_point, .ref f_set_row, .ref f_put, .ref f_way, .ref f_comes, .ref f_covers, .ref f_has, .ref f_which, .ref f_count_rounds, .ref f_tell_round, .ref f_tell_ranks, .ref f_brings, .ref f_slope, .ref f_turn, .ref f_state] n_MAKERS, sl_MAKERS⟩)
    (a_COUNTS : PySem.W.nsIn K mainGlobals "COUNTS" = some (some (.ref m_COUNTS)))
    (l_COUNTS : K.lookup m_COUNTS = some ⟨.type "tuple", od_COUNTS, .seq #[.int 1 t_COUNTS_0, .int 2 t_COUNTS_1, .int 0 t_COUNTS_2, .int 2 t_COUNTS_3, .int 3 t_COUNTS_4, .int 2 t_COUNTS_5, .int 2 t_COUNTS_6, .int 1 t_COUNTS_7, .int 0 t_COUNTS_8, .int 1 t_COUNTS_9, .int 2 t_COUNTS_10, .int 2 t_COUNTS_11, .int 2 t_COUNTS_12, .int 1 t_COUNTS_13, .int 0 t_COUNTS_14, .int 0 t_COUNTS_15] n_COUNTS, sl_COUNTS⟩)
    (z_len : PySem.W.nsIn K mainGlobals "len" = some none)
    (z_range : PySem.W.nsIn K mainGlobals "range" = some none)
    (z_list : PySem.W.nsIn K mainGlobals "list" = some none)
    (z_max : PySem.W.nsIn K mainGlobals "max" = some none)
    (z_min : PySem.W.nsIn K mainGlobals "min" = some none)
    (z_abs : PySem.W.nsIn K mainGlobals "abs" = some none)
    (z_reversed : PySem.W.nsIn K mainGlobals "reversed" = some none) :
    ∃ fd : FuncData, (∀ (s : Shared) (us : List Value), us.length = (["calls"] : List Str).length → BindsTo s fd ⟨us, []⟩ ((["calls"] : List Str).zip us)) ∧ ∀ base : Heap, K.In base → base.Ns mainGlobals mg → FnOk P w K mg base CX0 12 fa fd ["calls"] (spAns K) := by
  have e := hfa.symm.trans (PySem.W.mg_of X G a_answers)
  cases e
  have T : Txt K mg C := ⟨⟨pg, hd, po, sa⟩, n_points, n_leaders, PySem.W.mg_of X G aC, PySem.W.mg_none_of X G z_len, PySem.W.mg_none_of X G z_range, PySem.W.mg_none_of X G z_list, PySem.W.mg_none_of X G z_max, PySem.W.mg_none_of X G z_min, PySem.W.mg_none_of X G z_abs, PySem.W.mg_none_of X G z_reversed, ⟨_, PySem.W.mg_of X G v_NONE_SUCH, _, rfl⟩, ⟨_, PySem.W.mg_of X G v_NOT_BEGUN, _, rfl⟩, ⟨_, PySem.W.mg_of X G v_NOT_AS_TOLD, _, rfl⟩, ⟨_, PySem.W.mg_of X G v_NO_MORE, _, rfl⟩, ⟨_, PySem.W.mg_of X G v_ENDLESS, _, rfl⟩, ⟨_, PySem.W.mg_of X G v_MOST_PIECES, _, rfl⟩, ⟨_, PySem.W.mg_of X G v_MOST_PARTS, _, rfl⟩, ⟨_, PySem.W.mg_of X G v_MOST_PLACES, _, rfl⟩, ⟨_, PySem.W.mg_of X G v_MOST_STEPS, _, rfl⟩, ⟨_, PySem.W.mg_of X G v_MOST_BROUGHT, _, rfl⟩, ⟨_, PySem.W.mg_of X G v_BEGIN, _, rfl⟩, ⟨_, PySem.W.mg_of X G v_ROW, _, rfl⟩⟩
  have F_lowest := fun_mk (st := sLowest) l_lowest c_lowest k_lowest
  have F_put_over := fun_mk (st := sPutOver) l_put_over c_put_over k_put_over
  have F_places_from := fun_mk (st := sPlaces) l_places_from c_places_from k_places_from
  have F_way_into_round := fun_mk (st := sWayInto) l_way_into_round c_way_into_round k_way_into_round
  have F_comes_back_in := fun_mk (st := sBackIn) l_comes_back_in c_comes_back_in k_comes_back_in
  have F_covers_piece := fun_mk (st := sCovers) l_covers_piece c_covers_piece k_covers_piece
  have F_covers_some := fun_mk (st := sSome) l_covers_some c_covers_some k_covers_some
  have F_all_pieces := fun_mk (st := sPieces) l_all_pieces c_all_pieces k_all_pieces
  have F_ways_back := fun_mk (st := sWays) l_ways_back c_ways_back k_ways_back
  have F_one_step_more := fun_mk (st := sOneMore) l_one_step_more c_one_step_more k_one_step_more
  have F_place_put_back := fun_mk (st := sPutBack) l_place_put_back c_place_put_back k_place_put_back
  have F_place_of_loop := fun_mk (st := sPlaceOf) l_place_of_loop c_place_of_loop k_place_of_loop
  have F_loop_comes_back := fun_mk (st := sLoop) l_loop_comes_back c_loop_comes_back k_loop_comes_back
  have F_has_round := fun_mk (st := sHasR) l_has_round c_has_round k_has_round
  have F_comes_back_whole := fun_mk (st := sWhole) l_comes_back_whole c_comes_back_whole k_comes_back_whole
  have F_has_endless := fun_mk (st := sEndless) l_has_endless c_has_endless k_has_endless
  have F_leads := fun_mk (st := sLeads) l_leads c_leads k_leads
  have F_covered_among := fun_mk (st := sAmong) l_covered_among c_covered_among k_covered_among
  have F_longer_paths := fun_mk (st := sLonger) l_longer_paths c_longer_paths k_longer_paths
  have F_places_of_loops := fun_mk (st := sPlacesL) l_places_of_loops c_places_of_loops k_places_of_loops
  have F_leaders_within := fun_mk (st := sWithin) l_leaders_within c_leaders_within k_leaders_within
  have F_all_leaders := fun_mk (st := sAllL) l_all_leaders c_all_leaders k_all_leaders
  have F_power_of_two_in := fun_mk (st := sPow) l_power_of_two_in c_power_of_two_in k_power_of_two_in
  have F_brings_number := fun_mk (st := sBringsN) l_brings_number c_brings_number k_brings_number
  have F_renew := fun_mk (st := sRenew) l_renew c_renew k_renew
  have F_leaders_of := fun_mk (st := sLeadersOf) l_leaders_of c_leaders_of k_leaders_of
  have F_last_point := fun_mk (st := sLast) l_last_point c_last_point k_last_point
  have F_is_place := fun_mk (st := sIsPlace) l_is_place c_is_place k_is_place
  have F_is_steps := fun_mk (st := sIsSteps) l_is_steps c_is_steps k_is_steps
  have F_as_fractions := fun_mk (st := sFracs) l_as_fractions c_as_fractions k_as_fractions
  have F_steps_refused := fun_mk (st := sStepsRef) l_steps_refused c_steps_refused k_steps_refused
  have F_round_refused := fun_mk (st := sRoundRef) l_round_refused c_round_refused k_round_refused
  have F_count_less := fun_mk (st := sLess) l_count_less c_count_less k_count_less
  have F_begin := fun_mk (st := sBegin) l_begin c_begin k_begin
  have F_set_point := fun_mk (st := sSet) l_set_point c_set_point k_set_point
  have F_set_row := fun_mk (st := sRow) l_set_row c_set_row k_set_row
  have F_put := fun_mk (st := sPut) l_put c_put k_put
  have F_way := fun_mk (st := sWay) l_way c_way k_way
  have F_comes := fun_mk (st := sComes) l_comes c_comes k_comes
  have F_covers := fun_mk (st := sCov) l_covers c_covers k_covers
  have F_has := fun_mk (st := sHas) l_has c_has k_has
  have F_which := fun_mk (st := sWhich) l_which c_which k_which
  have F_count_rounds := fun_mk (st := sCount) l_count_rounds c_count_rounds k_count_rounds
  have F_tell_round := fun_mk (st := sTellR) l_tell_round c_tell_round k_tell_round
  have F_tell_ranks := fun_mk (st := sRanks) l_tell_ranks c_tell_ranks k_tell_ranks
  have F_brings := fun_mk (st := sBrings) l_brings c_brings k_brings
  have F_slope := fun_mk (st := sSlope) l_slope c_slope k_slope
  have F_turn := fun_mk (st := sTurn) l_turn c_turn k_turn
  have F_state := fun_mk (st := sState) l_state c_state k_state
  have F_make := fun_mk (st := sMake) l_make c_make k_make
  have F_answers := fun_mk (st := sAns) l_answers c_answers k_answers
  have F_init := fun_mk (st := sInit) l_init c_init k_init
  have b_lowest := F_lowest.binds (ps := ["p", "q"]) fun _ _ _ _ _ _ us hl => match us, hl with | [_, _], _ => rfl
  have b_put_over := F_put_over.binds (ps := ["points", "p", "q"]) fun _ _ _ _ _ _ us hl => match us, hl with | [_, _, _], _ => rfl
  have b_places_from := F_places_from.binds (ps := ["points", "p", "q", "k"]) fun _ _ _ _ _ _ us hl => match us, hl with | [_, _, _, _], _ => rfl
  have b_way_into_round := F_way_into_round.binds (ps := ["points", "p", "q"]) fun _ _ _ _ _ _ us hl => match us, hl with | [_, _, _], _ => rfl
  have b_comes_back_in := F_comes_back_in.binds (ps := ["points", "p", "q", "k"]) fun _ _ _ _ _ _ us hl => match us, hl with | [_, _, _, _], _ => rfl
  have b_covers_piece := F_covers_piece.binds (ps := ["points", "i", "j"]) fun _ _ _ _ _ _ us hl => match us, hl with | [_, _, _], _ => rfl
  have b_covers_some := F_covers_some.binds (ps := ["points", "i", "goals"]) fun _ _ _ _ _ _ us hl => match us, hl with | [_, _, _], _ => rfl
  have b_all_pieces := F_all_pieces.binds (ps := ["points"]) fun _ _ _ _ _ _ us hl => match us, hl with | [_], _ => rfl
  have b_ways_back := F_ways_back.binds (ps := ["points", "start", "k"]) fun _ _ _ _ _ _ us hl => match us, hl with | [_, _, _], _ => rfl
  have b_one_step_more := F_one_step_more.binds (ps := ["points", "piece", "slope", "shift"]) fun _ _ _ _ _ _ us hl => match us, hl with | [_, _, _, _], _ => rfl
  have b_place_put_back := F_place_put_back.binds (ps := ["slope", "shift"]) fun _ _ _ _ _ _ us hl => match us, hl with | [_, _], _ => rfl
  have b_place_of_loop := F_place_of_loop.binds (ps := ["points", "loop"]) fun _ _ _ _ _ _ us hl => match us, hl with | [_, _], _ => rfl
  have b_loop_comes_back := F_loop_comes_back.binds (ps := ["points", "loop", "ways", "k"]) fun _ _ _ _ _ _ us hl => match us, hl with | [_, _, _, _], _ => rfl
  have b_has_round := F_has_round.binds (ps := ["points", "k"]) fun _ _ _ _ _ _ us hl => match us, hl with | [_, _], _ => rfl
  have b_comes_back_whole := F_comes_back_whole.binds (ps := ["points", "piece", "k"]) fun _ _ _ _ _ _ us hl => match us, hl with | [_, _, _], _ => rfl
  have b_has_endless := F_has_endless.binds (ps := ["points", "k"]) fun _ _ _ _ _ _ us hl => match us, hl with | [_, _], _ => rfl
  have b_leads := F_leads.binds (ps := ["points", "p", "q", "k"]) fun _ _ _ _ _ _ us hl => match us, hl with | [_, _, _, _], _ => rfl
  have b_covered_among := F_covered_among.binds (ps := ["points", "piece", "goals"]) fun _ _ _ _ _ _ us hl => match us, hl with | [_, _, _], _ => rfl
  have b_longer_paths := F_longer_paths.binds (ps := ["points", "paths", "goals"]) fun _ _ _ _ _ _ us hl => match us, hl with | [_, _, _], _ => rfl
  have b_places_of_loops := F_places_of_loops.binds (ps := ["points", "start", "k"]) fun _ _ _ _ _ _ us hl => match us, hl with | [_, _, _], _ => rfl
  have b_leaders_within := F_leaders_within.binds (ps := ["points", "piece", "k"]) fun _ _ _ _ _ _ us hl => match us, hl with | [_, _, _], _ => rfl
  have b_all_leaders := F_all_leaders.binds (ps := ["points", "k"]) fun _ _ _ _ _ _ us hl => match us, hl with | [_, _], _ => rfl
  have b_power_of_two_in := F_power_of_two_in.binds (ps := ["number"]) fun _ _ _ _ _ _ us hl => match us, hl with | [_], _ => rfl
  have b_brings_number := F_brings_number.binds (ps := ["k", "l"]) fun _ _ _ _ _ _ us hl => match us, hl with | [_, _], _ => rfl
  have b_renew := F_renew.binds (ps := ["line", "points"]) fun _ _ _ _ _ _ us hl => match us, hl with | [_, _], _ => rfl
  have b_leaders_of := F_leaders_of.binds (ps := ["line", "k"]) fun _ _ _ _ _ _ us hl => match us, hl with | [_, _], _ => rfl
  have b_last_point := F_last_point.binds (ps := ["line"]) fun _ _ _ _ _ _ us hl => match us, hl with | [_], _ => rfl
  have b_is_place := F_is_place.binds (ps := ["line", "p", "q"]) fun _ _ _ _ _ _ us hl => match us, hl with | [_, _, _], _ => rfl
  have b_is_steps := F_is_steps.binds (ps := ["k"]) fun _ _ _ _ _ _ us hl => match us, hl with | [_], _ => rfl
  have b_as_fractions := F_as_fractions.binds (ps := ["places", "q"]) fun _ _ _ _ _ _ us hl => match us, hl with | [_, _], _ => rfl
  have b_steps_refused := F_steps_refused.binds (ps := ["line", "k"]) fun _ _ _ _ _ _ us hl => match us, hl with | [_, _], _ => rfl
  have b_round_refused := F_round_refused.binds (ps := ["line", "k", "j"]) fun _ _ _ _ _ _ us hl => match us, hl with | [_, _, _], _ => rfl
  have b_count_less := F_count_less.binds (ps := ["places", "place"]) fun _ _ _ _ _ _ us hl => match us, hl with | [_, _], _ => rfl
  have b_begin := F_begin.binds (ps := ["line", "numbers"]) fun _ _ _ _ _ _ us hl => match us, hl with | [_, _], _ => rfl
  have b_set_point := F_set_point.binds (ps := ["line", "numbers"]) fun _ _ _ _ _ _ us hl => match us, hl with | [_, _], _ => rfl
  have b_set_row := F_set_row.binds (ps := ["line", "points"]) fun _ _ _ _ _ _ us hl => match us, hl with | [_, _], _ => rfl
  have b_put := F_put.binds (ps := ["line", "numbers"]) fun _ _ _ _ _ _ us hl => match us, hl with | [_, _], _ => rfl
  have b_way := F_way.binds (ps := ["line", "numbers"]) fun _ _ _ _ _ _ us hl => match us, hl with | [_, _], _ => rfl
  have b_comes := F_comes.binds (ps := ["line", "numbers"]) fun _ _ _ _ _ _ us hl => match us, hl with | [_, _], _ => rfl
  have b_covers := F_covers.binds (ps := ["line", "numbers"]) fun _ _ _ _ _ _ us hl => match us, hl with | [_, _], _ => rfl
  have b_has := F_has.binds (ps := ["line", "numbers"]) fun _ _ _ _ _ _ us hl => match us, hl with | [_, _], _ => rfl
  have b_which := F_which.binds (ps := ["line", "numbers"]) fun _ _ _ _ _ _ us hl => match us, hl with | [_, _], _ => rfl
  have b_count_rounds := F_count_rounds.binds (ps := ["line", "numbers"]) fun _ _ _ _ _ _ us hl => match us, hl with | [_, _], _ => rfl
  have b_tell_round := F_tell_round.binds (ps := ["line", "numbers"]) fun _ _ _ _ _ _ us hl => match us, hl with | [_, _], _ => rfl
  have b_tell_ranks := F_tell_ranks.binds (ps := ["line", "numbers"]) fun _ _ _ _ _ _ us hl => match us, hl with | [_, _], _ => rfl
  have b_brings := F_brings.binds (ps := ["line", "numbers"]) fun _ _ _ _ _ _ us hl => match us, hl with | [_, _], _ => rfl
  have b_slope := F_slope.binds (ps := ["line", "numbers"]) fun _ _ _ _ _ _ us hl => match us, hl with | [_, _], _ => rfl
  have b_turn := F_turn.binds (ps := ["line", "numbers"]) fun _ _ _ _ _ _ us hl => match us, hl with | [_, _], _ => rfl
  have b_state := F_state.binds (ps := ["line", "numbers"]) fun _ _ _ _ _ _ us hl => match us, hl with | [_, _], _ => rfl
  have b_init := F_init.binds (ps := ["self"]) fun _ _ _ _ _ _ us hl => match us, hl with | [_], _ => rfl
  have b_make := F_make.binds (ps := ["line", "call", "numbers"]) fun _ _ _ _ _ _ us hl => match us, hl with | [_, _, _], _ => rfl
  refine ⟨PySem.W.fnOf "answers" "answers" (defArgs sAns) (defBody sAns) (defScope sAns) .none kV_answers dc_answers pm_answers an_answers cd_answers ct_answers, fun s us hu => match us, hu with | [_], _ => .of_eq rfl, fun base _ _ => ?_⟩
  have d_lowest : Def P w K mg base 1 "lowest" spLowest := ⟨f_lowest, _, _, PySem.W.mg_of X G a_lowest, k_lowest, b_lowest, ok_lowest F_lowest ⟩
  have d_put_over : Def P w K mg base 1 "put_over" (spPutOver K) := ⟨f_put_over, _, _, PySem.W.mg_of X G a_put_over, k_put_over, b_put_over, ok_putOver F_put_over ⟩
  have d_places_from : Def P w K mg base 2 "places_from" (spPlaces K) := ⟨f_places_from, _, _, PySem.W.mg_of X G a_places_from, k_places_from, b_places_from, ok_places F_places_from d_put_over T.range⟩
  have d_way_into_round : Def P w K mg base 2 "way_into_round" (spWayInto K) := ⟨f_way_into_round, _, _, PySem.W.mg_of X G a_way_into_round, k_way_into_round, b_way_into_round, ok_wayInto F_way_into_round d_put_over T.len⟩
  have d_comes_back_in : Def P w K mg base 2 "comes_back_in" (spBackIn K) := ⟨f_comes_back_in, _, _, PySem.W.mg_of X G a_comes_back_in, k_comes_back_in, b_comes_back_in, ok_backIn F_comes_back_in d_put_over T.range⟩
  have d_covers_piece : Def P w K mg base 1 "covers_piece" (spCovers K) := ⟨f_covers_piece, _, _, PySem.W.mg_of X G a_covers_piece, k_covers_piece, b_covers_piece, ok_coversP F_covers_piece T.min T.max⟩
  have d_covers_some : Def P w K mg base 2 "covers_some" (spSome K) := ⟨f_covers_some, _, _, PySem.W.mg_of X G a_covers_some, k_covers_some, b_covers_some, ok_some F_covers_some d_covers_piece⟩
  have d_all_pieces : Def P w K mg base 1 "all_pieces" (spPieces K) := ⟨f_all_pieces, _, _, PySem.W.mg_of X G a_all_pieces, k_all_pieces, b_all_pieces, ok_pieces F_all_pieces T⟩
  have d_ways_back : Def P w K mg base 3 "ways_back" (spWays K) := ⟨f_ways_back, _, _, PySem.W.mg_of X G a_ways_back, k_ways_back, b_ways_back, ok_ways F_ways_back T d_all_pieces d_covers_some⟩
  have d_one_step_more : Def P w K mg base 1 "one_step_more" (spOneMore K) := ⟨f_one_step_more, _, _, PySem.W.mg_of X G a_one_step_more, k_one_step_more, b_one_step_more, ok_oneMore F_one_step_more ⟩
  have d_place_put_back : Def P w K mg base 1 "place_put_back" spPutBack := ⟨f_place_put_back, _, _, PySem.W.mg_of X G a_place_put_back, k_place_put_back, b_place_put_back, ok_putBack F_place_put_back ⟩
  have d_place_of_loop : Def P w K mg base 2 "place_of_loop" (spPlaceOf K) := ⟨f_place_of_loop, _, _, PySem.W.mg_of X G a_place_of_loop, k_place_of_loop, b_place_of_loop, ok_placeOf F_place_of_loop d_one_step_more d_place_put_back⟩
  have d_loop_comes_back : Def P w K mg base 8 "loop_comes_back" (spLoop K 5) := ⟨f_loop_comes_back, _, _, PySem.W.mg_of X G a_loop_comes_back, k_loop_comes_back, b_loop_comes_back, ok_loop F_loop_comes_back (PySem.W.mg_of X G a_loop_comes_back) k_loop_comes_back b_loop_comes_back T d_place_of_loop d_comes_back_in d_covers_piece 5⟩
  have d_has_round : Def P w K mg base 9 "has_round" (spHasR K) := ⟨f_has_round, _, _, PySem.W.mg_of X G a_has_round, k_has_round, b_has_round, ok_hasR F_has_round T d_comes_back_in d_all_pieces d_ways_back d_loop_comes_back⟩
  have d_comes_back_whole : Def P w K mg base 1 "comes_back_whole" (spWhole K) := ⟨f_comes_back_whole, _, _, PySem.W.mg_of X G a_comes_back_whole, k_comes_back_whole, b_comes_back_whole, ok_whole F_comes_back_whole T⟩
  have d_has_endless : Def P w K mg base 2 "has_endless" (spEndless K) := ⟨f_has_endless, _, _, PySem.W.mg_of X G a_has_endless, k_has_endless, b_has_endless, ok_endless F_has_endless d_all_pieces d_comes_back_whole⟩
  have d_leads : Def P w K mg base 2 "leads" (spLeads K) := ⟨f_leads, _, _, PySem.W.mg_of X G a_leads, k_leads, b_leads, ok_leads F_leads T d_put_over⟩
  have d_covered_among : Def P w K mg base 2 "covered_among" (spAmong K) := ⟨f_covered_among, _, _, PySem.W.mg_of X G a_covered_among, k_covered_among, b_covered_among, ok_among F_covered_among d_covers_piece⟩
  have d_longer_paths : Def P w K mg base 3 "longer_paths" (spLonger K) := ⟨f_longer_paths, _, _, PySem.W.mg_of X G a_longer_paths, k_longer_paths, b_longer_paths, ok_longer F_longer_paths T d_all_pieces d_covered_among d_one_step_more⟩
  have d_places_of_loops : Def P w K mg base 4 "places_of_loops" (spPlacesL K) := ⟨f_places_of_loops, _, _, PySem.W.mg_of X G a_places_of_loops, k_places_of_loops, b_places_of_loops, ok_placesL F_places_of_loops T d_ways_back d_longer_paths d_place_put_back⟩
  have d_leaders_within : Def P w K mg base 5 "leaders_within" (spWithin K) := ⟨f_leaders_within, _, _, PySem.W.mg_of X G a_leaders_within, k_leaders_within, b_leaders_within, ok_within F_leaders_within d_places_of_loops d_leads⟩
  have d_all_leaders : Def P w K mg base 6 "all_leaders" (spAllL K) := ⟨f_all_leaders, _, _, PySem.W.mg_of X G a_all_leaders, k_all_leaders, b_all_leaders, ok_allL F_all_leaders T d_leads d_leaders_within⟩
  have d_power_of_two_in : Def P w K mg base 1 "power_of_two_in" spPow := ⟨f_power_of_two_in, _, _, PySem.W.mg_of X G a_power_of_two_in, k_power_of_two_in, b_power_of_two_in, ok_pow F_power_of_two_in ⟩
  have d_brings_number : Def P w K mg base 2 "brings_number" spBringsN := ⟨f_brings_number, _, _, PySem.W.mg_of X G a_brings_number, k_brings_number, b_brings_number, ok_bringsN F_brings_number d_power_of_two_in⟩
  have d_renew : Def P w K mg base 1 "renew" (spRenew C) := ⟨f_renew, _, _, PySem.W.mg_of X G a_renew, k_renew, b_renew, ok_renew F_renew T⟩
  have d_leaders_of : Def P w K mg base 7 "leaders_of" (spLeadersOf C) := ⟨f_leaders_of, _, _, PySem.W.mg_of X G a_leaders_of, k_leaders_of, b_leaders_of, ok_leadersOf F_leaders_of T d_all_leaders⟩
  have d_last_point : Def P w K mg base 1 "last_point" (spLast C) := ⟨f_last_point, _, _, PySem.W.mg_of X G a_last_point, k_last_point, b_last_point, ok_last F_last_point T⟩
  have d_is_place : Def P w K mg base 2 "is_place" (spIsPlace C) := ⟨f_is_place, _, _, PySem.W.mg_of X G a_is_place, k_is_place, b_is_place, ok_isPlace F_is_place T d_last_point⟩
  have d_is_steps : Def P w K mg base 1 "is_steps" spIsSteps := ⟨f_is_steps, _, _, PySem.W.mg_of X G a_is_steps, k_is_steps, b_is_steps, ok_isSteps F_is_steps T⟩
  have d_as_fractions : Def P w K mg base 2 "as_fractions" (spFracs K) := ⟨f_as_fractions, _, _, PySem.W.mg_of X G a_as_fractions, k_as_fractions, b_as_fractions, ok_fracs F_as_fractions d_lowest⟩
  have d_steps_refused : Def P w K mg base 3 "steps_refused" (spStepsRef C) := ⟨f_steps_refused, _, _, PySem.W.mg_of X G a_steps_refused, k_steps_refused, b_steps_refused, ok_stepsRef F_steps_refused T d_is_steps d_has_endless⟩
  have d_round_refused : Def P w K mg base 8 "round_refused" (spRoundRef C) := ⟨f_round_refused, _, _, PySem.W.mg_of X G a_round_refused, k_round_refused, b_round_refused, ok_roundRef F_round_refused T d_steps_refused d_leaders_of⟩
  have d_count_less : Def P w K mg base 1 "count_less" (spLess K) := ⟨f_count_less, _, _, PySem.W.mg_of X G a_count_less, k_count_less, b_count_less, ok_less F_count_less T⟩
  have B : Tabs K mg [f_begin, f_set_point, f_set_row, f_put, f_way, f_comes, f_covers, f_has, f_which, f_count_rounds, f_tell_round, f_tell_ranks, f_brings, f_slope, f_turn, f_state] := by
    refine ⟨⟨m_MAKERS, PySem.W.mg_of X G a_MAKERS, fun H => .inr ⟨_, _, _, l_MAKERS, rfl, rfl, (by show 16 ≤ sizeLine; decide), ?_⟩⟩, ⟨m_COUNTS, PySem.W.mg_of X G a_COUNTS, fun H => .inr ⟨_, _, _, l_COUNTS, rfl, rfl, (by show 16 ≤ sizeLine; decide), ?_⟩⟩⟩
    · exact .cons rfl (.cons rfl (.cons rfl (.cons rfl (.cons rfl (.cons rfl (.cons rfl (.cons rfl (.cons rfl (.cons rfl (.cons rfl (.cons rfl (.cons rfl (.cons rfl (.cons rfl (.cons rfl (.nil))))))))))))))))
    · exact .cons ⟨_, rfl⟩ (.cons ⟨_, rfl⟩ (.cons ⟨_, rfl⟩ (.cons ⟨_, rfl⟩ (.cons ⟨_, rfl⟩ (.cons ⟨_, rfl⟩ (.cons ⟨_, rfl⟩ (.cons ⟨_, rfl⟩ (.cons ⟨_, rfl⟩ (.cons ⟨_, rfl⟩ (.cons ⟨_, rfl⟩ (.cons ⟨_, rfl⟩ (.cons ⟨_, rfl⟩ (.cons ⟨_, rfl⟩ (.cons ⟨_, rfl⟩ (.cons ⟨_, rfl⟩ (.nil))))))))))))))))
  have A : AllMk P w K mg base C 10 [f_begin, f_set_point, f_set_row, f_put, f_way, f_comes, f_covers, f_has, f_which, f_count_rounds, f_tell_round, f_tell_ranks, f_brings, f_slope, f_turn, f_state] := by
    refine ⟨rfl, fun i f h => ?_⟩
    match i, h with
    | 0, h => obtain rfl : f_begin = f := Option.some.inj h; exact ⟨_, _, (ok_begin F_begin T d_renew).mono (by decide), k_begin, b_begin⟩
    | 1, h => obtain rfl : f_set_point = f := Option.some.inj h; exact ⟨_, _, (ok_set F_set_point T d_last_point d_renew).mono (by decide), k_set_point, b_set_point⟩
    | 2, h => obtain rfl : f_set_row = f := Option.some.inj h; exact ⟨_, _, (ok_row F_set_row T d_last_point d_renew).mono (by decide), k_set_row, b_set_row⟩
    | 3, h => obtain rfl : f_put = f := Option.some.inj h; exact ⟨_, _, (ok_put F_put T d_is_place d_lowest d_put_over).mono (by decide), k_put, b_put⟩
    | 4, h => obtain rfl : f_way = f := Option.some.inj h; exact ⟨_, _, (ok_way F_way T d_is_place d_as_fractions d_places_from).mono (by decide), k_way, b_way⟩
    | 5, h => obtain rfl : f_comes = f := Option.some.inj h; exact ⟨_, _, (ok_comes F_comes T d_is_place d_way_into_round).mono (by decide), k_comes, b_comes⟩
    | 6, h => obtain rfl : f_covers = f := Option.some.inj h; exact ⟨_, _, (ok_cov F_covers T d_last_point d_covers_piece).mono (by decide), k_covers, b_covers⟩
    | 7, h => obtain rfl : f_has = f := Option.some.inj h; exact ⟨_, _, (ok_has F_has T d_has_round d_is_steps).mono (by decide), k_has, b_has⟩
    | 8, h => obtain rfl : f_which = f := Option.some.inj h; exact ⟨_, _, (ok_which F_which T d_has_round).mono (by decide), k_which, b_which⟩
    | 9, h => obtain rfl : f_count_rounds = f := Option.some.inj h; exact ⟨_, _, (ok_count F_count_rounds T d_steps_refused d_leaders_of).mono (by decide), k_count_rounds, b_count_rounds⟩
    | 10, h => obtain rfl : f_tell_round = f := Option.some.inj h; exact ⟨_, _, (ok_tellR F_tell_round T d_round_refused d_leaders_of d_as_fractions d_places_from).mono (by decide), k_tell_round, b_tell_round⟩
    | 11, h => obtain rfl : f_tell_ranks = f := Option.some.inj h; exact ⟨_, _, (ok_ranks F_tell_ranks T d_round_refused d_leaders_of d_count_less d_places_from).mono (by decide), k_tell_ranks, b_tell_ranks⟩
    | 12, h => obtain rfl : f_brings = f := Option.some.inj h; exact ⟨_, _, (ok_brings F_brings T d_brings_number).mono (by decide), k_brings, b_brings⟩
    | 13, h => obtain rfl : f_slope = f := Option.some.inj h; exact ⟨_, _, (ok_slope F_slope T d_last_point).mono (by decide), k_slope, b_slope⟩
    | 14, h => obtain rfl : f_turn = f := Option.some.inj h; exact ⟨_, _, (ok_turn F_turn T d_last_point d_renew).mono (by decide), k_turn, b_turn⟩
    | 15, h => obtain rfl : f_state = f := Option.some.inj h; exact ⟨_, _, (ok_state F_state T d_last_point).mono (by decide), k_state, b_state⟩
    | i + 16, h => simp at h
  have d_make : Def P w K mg base 11 "make" (spMake K C) := ⟨f_make, _, _, PySem.W.mg_of X G a_make, k_make, b_make, ok_make F_make T B A⟩
  exact ok_ans (by decide) F_answers T B ⟨mk, a_init, i_init, kc⟩ (ok_init F_init T) b_init d_make
end Fl
open PySem PySem.W PyProof.Rows
set_option maxRecDepth 100000 in
set_option maxHeartbeats 0 in
theorem PySem.Challenge.cw_foldedline_s01_answers_holds : PySem.Challenge.rw_foldedline_s01_answers.Holds := by
  w_on; k_headS; (case hw => exact ⟨[.list [.int 0, .int 1]], by decide +kernel, by decide +kernel⟩)
  k_fillS
  refine L2.walk_specK (r := PySem.Challenge.rw_foldedline_s01_answers) (k := 12) (CX := L2.CX0) (ps := ["calls"]) (sp := Fl.spAns) (by decide +kernel) rfl rfl ⟨rfl, by decide, by decide⟩ (fun w h Y => PySem.W.kIn_of Y) ?F ?S (fun _ _ _ _ z => z)
  case F =>
    intro w mg fa h Y KX G hmg
    refine' Fl.all_mk KX G hmg ?a_lowest ?l_lowest ?c_lowest ?k_lowest ?a_put_over ?l_put_over ?c_put_over ?k_put_over ?a_places_from ?l_places_from ?c_places_from ?k_places_from ?a_way_into_round ?l_way_into_round ?c_way_into_round ?k_way_into_round ?a_comes_back_in ?l_comes_back_in ?c_comes_back_in ?k_comes_back_in ?a_covers_piece ?l_covers_piece ?c_covers_piece ?k_covers_piece ?a_covers_some ?l_covers_some ?c_covers_some ?k_covers_some ?a_all_pieces ?l_all_pieces ?c_all_pieces ?k_all_pieces ?a_ways_back ?l_ways_back ?c_ways_back ?k_ways_back ?a_one_step_more ?l_one_step_more ?c_one_step_more ?k_one_step_more ?a_place_put_back ?l_place_put_back ?c_place_put_back ?k_place_put_back ?a_place_of_loop ?l_place_of_loop ?c_place_of_loop ?k_place_of_loop ?a_loop_comes_back ?l_loop_comes_back ?c_loop_comes_back ?k_loop_comes_back ?a_has_round ?l_has_round ?c_has_round ?k_has_round ?a_comes_back_whole ?l_comes_back_whole ?c_comes_back_whole ?k_comes_back_whole ?a_has_endless ?l_has_endless ?c_has_endless ?k_has_endless ?a_leads ?l_leads ?c_leads ?k_leads ?a_covered_among ?l_covered_among ?c_covered_among ?k_covered_among ?a_longer_paths ?l_longer_paths ?c_longer_paths ?k_longer_paths ?a_places_of_loops ?l_places_of_loops ?c_places_of_loops ?k_places_of_loops ?a_leaders_within ?l_leaders_within ?c_leaders_within ?k_leaders_within ?a_all_leaders ?l_all_leaders ?c_all_leaders ?k_all_leaders ?a_power_of_two_in ?l_power_of_two_in ?c_power_of_two_in ?k_power_of_two_in ?a_brings_number ?l_brings_number ?c_brings_number ?k_brings_number ?a_renew ?l_renew ?c_renew ?k_renew ?a_leaders_of ?l_leaders_of ?c_leaders_of ?k_leaders_of ?a_last_point ?l_last_point ?c_last_point ?k_last_point ?a_is_place ?l_is_place ?c_is_place ?k_is_place ?a_is_steps ?l_is_steps ?c_is_steps ?k_is_steps ?a_as_fractions ?l_as_fractions ?c_as_fractions ?k_as_fractions ?a_begin ?l_begin ?c_begin ?k_begin ?a_set_point ?l_set_point ?c_set_point ?k_set_point ?a_set_row ?l_set_row ?c_set_row ?k_set_row ?a_put ?l_put ?c_put ?k_put ?a_way ?l_way ?c_way ?k_way ?a_comes ?l_comes ?c_comes ?k_comes ?a_covers ?l_covers ?c_covers ?k_covers ?a_has ?l_has ?c_has ?k_has ?a_which ?l_which ?c_which ?k_which ?a_steps_refused ?l_steps_refused ?c_steps_refused ?k_steps_refused ?a_round_refused ?l_round_refused ?c_round_refused ?k_round_refused ?a_count_rounds ?l_count_rounds ?c_count_rounds ?k_count_rounds ?a_tell_round ?l_tell_round ?c_tell_round ?k_tell_round ?a_count_less ?l_count_less ?c_count_less ?k_count_less ?a_tell_ranks ?l_tell_ranks ?c_tell_ranks ?k_tell_ranks ?a_brings ?l_brings ?c_brings ?k_brings ?a_slope ?l_slope ?c_slope ?k_slope ?a_turn ?l_turn ?c_turn ?k_turn ?a_state ?l_state ?c_state ?k_state ?a_make ?l_make ?c_make ?k_make ?a_answers ?l_answers ?c_answers ?k_answers ?aC ?a_init ?i_init ?l_init ?c_init ?k_init ?pg ?hd ?po ?sa ?mk ?kc ?n_leaders ?n_points ?v_NONE_SUCH ?v_NOT_BEGUN ?v_NOT_AS_TOLD ?v_NO_MORE ?v_ENDLESS ?v_MOST_PIECES ?v_MOST_PARTS ?v_MOST_PLACES ?v_MOST_STEPS ?v_MOST_BROUGHT ?v_BEGIN ?v_ROW ?a_MAKERS ?l_MAKERS ?a_COUNTS ?l_COUNTS ?z_len ?z_range ?z_list ?z_max ?z_min ?z_abs ?z_reversed
    (case a_lowest => k_is)
    (case l_lowest => k_is)
    (case c_lowest => k_is)
    (case k_lowest => k_is)
    (case a_put_over => k_is)
    (case l_put_over => k_is)
    (case c_put_over => k_is)
    (case k_put_over => k_is)
    (case a_places_from => k_is)
    (case l_places_from => k_is)
    (case c_places_from => k_is)
    (case k_places_from => k_is)
    (case a_way_into_round => k_is)
    (case l_way_into_round => k_is)
    (case c_way_into_round => k_is)
    (case k_way_into_round => k_is)
    (case a_comes_back_in => k_is)
    (case l_comes_back_in => k_is)
    (case c_comes_back_in => k_is)
    (case k_comes_back_in => k_is)
    (case a_covers_piece => k_is)
    (case l_covers_piece => k_is)
    (case c_covers_piece => k_is)
    (case k_covers_piece => k_is)
    (case a_covers_some => k_is)
    (case l_covers_some => k_is)
    (case c_covers_some => k_is)
    (case k_covers_some => k_is)
    (case a_all_pieces => k_is)
    (case l_all_pieces => k_is)
    (case c_all_pieces => k_is)
    (case k_all_pieces => k_is)
    (case a_ways_back => k_is)
    (case l_ways_back => k_is)
    (case c_ways_back => k_is)
    (case k_ways_back => k_is)
    (case a_one_step_more => k_is)
    (case l_one_step_more => k_is)
    (case c_one_step_more => k_is)
    (case k_one_step_more => k_is)
    (case a_place_put_back => k_is)
    (case l_place_put_back => k_is)
    (case c_place_put_back => k_is)
    (case k_place_put_back => k_is)
    (case a_place_of_loop => k_is)
    (case l_place_of_loop => k_is)
    (case c_place_of_loop => k_is)
    (case k_place_of_loop => k_is)
    (case a_loop_comes_back => k_is)
    (case l_loop_comes_back => k_is)
    (case c_loop_comes_back => k_is)
    (case k_loop_comes_back => k_is)
    (case a_has_round => k_is)
    (case l_has_round => k_is)
    (case c_has_round => k_is)
    (case k_has_round => k_is)
    (case a_comes_back_whole => k_is)
    (case l_comes_back_whole => k_is)
    (case c_comes_back_whole => k_is)
    (case k_comes_back_whole => k_is)
    (case a_has_endless => k_is)
    (case l_has_endless => k_is)
    (case c_has_endless => k_is)
    (case k_has_endless => k_is)
    (case a_leads => k_is)
    (case l_leads => k_is)
    (case c_leads => k_is)
    (case k_leads => k_is)
    (case a_covered_among => k_is)
    (case l_covered_among => k_is)
    (case c_covered_among => k_is)
    (case k_covered_among => k_is)
    (case a_longer_paths => k_is)
    (case l_longer_paths => k_is)
    (case c_longer_paths => k_is)
    (case k_longer_paths => k_is)
    (case a_places_of_loops => k_is)
    (case l_places_of_loops => k_is)
    (case c_places_of_loops => k_is)
    (case k_places_of_loops => k_is)
    (case a_leaders_within => k_is)
    (case l_leaders_within => k_is)
    (case c_leaders_within => k_is)
    (case k_leaders_within => k_is)
    (case a_all_leaders => k_is)
    (case l_all_leaders => k_is)
    (case c_all_leaders => k_is)
    (case k_all_leaders => k_is)
    (case a_power_of_two_in => k_is)
    (case l_power_of_two_in => k_is)
    (case c_power_of_two_in => k_is)
    (case k_power_of_two_in => k_is)
    (case a_brings_number => k_is)
    (case l_brings_number => k_is)
    (case c_brings_number => k_is)
    (case k_brings_number => k_is)
    (case a_renew => k_is)
    (case l_renew => k_is)
    (case c_renew => k_is)
    (case k_renew => k_is)
    (case a_leaders_of => k_is)
    (case l_leaders_of => k_is)
    (case c_leaders_of => k_is)
    (case k_leaders_of => k_is)
    (case a_last_point => k_is)
    (case l_last_point => k_is)
    (case c_last_point => k_is)
    (case k_last_point => k_is)
    (case a_is_place => k_is)
    (case l_is_place => k_is)
    (case c_is_place => k_is)
    (case k_is_place => k_is)
    (case a_is_steps => k_is)
    (case l_is_steps => k_is)
    (case c_is_steps => k_is)
    (case k_is_steps => k_is)
    (case a_as_fractions => k_is)
    (case l_as_fractions => k_is)
    (case c_as_fractions => k_is)
    (case k_as_fractions => k_is)
    (case a_begin => k_is)
    (case l_begin => k_is)
    (case c_begin => k_is)
    (case k_begin => k_is)
    (case a_set_point => k_is)
    (case l_set_point => k_is)
    (case c_set_point => k_is)
    (case k_set_point => k_is)
    (case a_set_row => k_is)
    (case l_set_row => k_is)
    (case c_set_row => k_is)
    (case k_set_row => k_is)
    (case a_put => k_is)
    (case l_put => k_is)
    (case c_put => k_is)
    (case k_put => k_is)
    (case a_way => k_is)
    (case l_way => k_is)
    (case c_way => k_is)
    (case k_way => k_is)
    (case a_comes => k_is)
    (case l_comes => k_is)
    (case c_comes => k_is)
    (case k_comes => k_is)
    (case a_covers => k_is)
    (case l_covers => k_is)
    (case c_covers => k_is)
    (case k_covers => k_is)
    (case a_has => k_is)
    (case l_has => k_is)
    (case c_has => k_is)
    (case k_has => k_is)
    (case a_which => k_is)
    (case l_which => k_is)
    (case c_which => k_is)
    (case k_which => k_is)
    (case a_steps_refused => k_is)
    (case l_steps_refused => k_is)
    (case c_steps_refused => k_is)
    (case k_steps_refused => k_is)
    (case a_round_refused => k_is)
    (case l_round_refused => k_is)
    (case c_round_refused => k_is)
    (case k_round_refused => k_is)
    (case a_count_rounds => k_is)
    (case l_count_rounds => k_is)
    (case c_count_rounds => k_is)
    (case k_count_rounds => k_is)
    (case a_tell_round => k_is)
    (case l_tell_round => k_is)
    (case c_tell_round => k_is)
    (case k_tell_round => k_is)
    (case a_count_less => k_is)
    (case l_count_less => k_is)
    (case c_count_less => k_is)
    (case k_count_less => k_is)
    (case a_tell_ranks => k_is)
    (case l_tell_ranks => k_is)
    (case c_tell_ranks => k_is)
    (case k_tell_ranks => k_is)
    (case a_brings => k_is)
    (case l_brings => k_is)
    (case c_brings => k_is)
    (case k_brings => k_is)
    (case a_slope => k_is)
    (case l_slope => k_is)
    (case c_slope => k_is)
    (case k_slope => k_is)
    (case a_turn => k_is)
    (case l_turn => k_is)
    (case c_turn => k_is)
    (case k_turn => k_is)
    (case a_state => k_is)
    (case l_state => k_is)
    (case c_state => k_is)
    (case k_state => k_is)
    (case a_make => k_is)
    (case l_make => k_is)
    (case c_make => k_is)
    (case k_make => k_is)
    (case a_answers => k_is)
    (case l_answers => k_is)
    (case c_answers => k_is)
    (case k_answers => k_is)
    (case aC => k_is)
    (case a_init => k_is)
    (case i_init => k_is)
    (case l_init => k_is)
    (case c_init => k_is)
    (case k_init => k_is)
    (case pg => k_is)
    (case hd => k_is)
    (case po => k_is)
    (case sa => k_is)
    (case mk => k_is)
    (case kc => k_is)
    (case n_leaders => k_is)
    (case n_points => k_is)
    (case v_NONE_SUCH => k_is)
    (case v_NOT_BEGUN => k_is)
    (case v_NOT_AS_TOLD => k_is)
    (case v_NO_MORE => k_is)
    (case v_ENDLESS => k_is)
    (case v_MOST_PIECES => k_is)
    (case v_MOST_PARTS => k_is)
    (case v_MOST_PLACES => k_is)
    (case v_MOST_STEPS => k_is)
    (case v_MOST_BROUGHT => k_is)
    (case v_BEGIN => k_is)
    (case v_ROW => k_is)
    (case a_MAKERS => k_is)
    (case l_MAKERS => k_is)
    (case a_COUNTS => k_is)
    (case l_COUNTS => k_is)
    (case z_len => k_is)
    (case z_range => k_is)
    (case z_list => k_is)
    (case z_max => k_is)
    (case z_min => k_is)
    (case z_abs => k_is)
    (case z_reversed => k_is)
  case S =>
    intro K H xs a hO hwi hask hx
    cases hx with
    | cons h1 h2 =>
      cases h2
      cases h1 with
      | lst hs ha =>
        have e := L2.ints_dw a.1 _ ha
        subst e
        have q : ((Codec.inLen 0 4800 a.1 && a.1.all (Codec.inInt 0 4294967295)) && true) = true := hwi
        rw [Bool.and_eq_true, Bool.and_eq_true] at q
        exact ⟨_, a.1, rfl, hs, (Codec.inNat_iff.mp q.1.1).2, hask, fun H' p hp => .lst (L2.SqL.of hp) (L2.dw_ints _)⟩

