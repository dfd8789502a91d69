import PyProof.Rows.All
import Wide.All
import OpenK.AllK
import Wide.FinOn
import Open.SpecLaws
import KE.OsGo
import HandS.ForSpec
import HandS.Base
import HandS.Call
import HandS.List
import HandS.Ends
import HandS.Exc
import HandS.More
import HandS.Wide
import HandS.Comp
import PySem.Challenge.RW_movingclocks_s01_answers
set_option Elab.async false
set_option linter.all false
set_option maxRecDepth 100000
set_option maxHeartbeats 8000000
/-! Fractions: the Spec's Q by its value n by d. Core Lean and the Spec alone. -/
namespace MC
open Kv414
/-- above by below with nothing in common: what lowest gives -/
def lowN (n d : Int) : Int := n / (Int.gcd n d : Int)
def lowD (n d : Int) : Int := d / (Int.gcd n d : Int)
/-- q is n by d -/
def Is (q : Q) (n d : Int) : Prop := 0 < q.d ∧ 0 < d ∧ q.n * d = n * (q.d : Int)
theorem gcd_pos {n d : Int} (h : 0 < d) : 0 < (Int.gcd n d : Int) := by
  have : 0 < Int.gcd n d := Int.gcd_pos_of_ne_zero_right n (by omega)
  omega
theorem low_mulN (n d : Int) : lowN n d * (Int.gcd n d : Int) = n := Int.ediv_mul_cancel (Int.gcd_dvd_left n d)
theorem low_mulD (n d : Int) : lowD n d * (Int.gcd n d : Int) = d := Int.ediv_mul_cancel (Int.gcd_dvd_right n d)
theorem lowD_pos {n d : Int} (h : 0 < d) : 0 < lowD n d := by
  have g := gcd_pos (n := n) h
  have e := low_mulD n d
  rcases Int.lt_trichotomy (lowD n d) 0 with c | c | c
  · exfalso
    have := Int.mul_neg_of_neg_of_pos c g
    omega
  · exfalso
    rw [c] at e
    omega
  · exact c
theorem low_cross {n d : Int} (h : 0 < d) : lowN n d * d = n * lowD n d := by
  have a := low_mulN n d
  have b := low_mulD n d
  calc lowN n d * d = lowN n d * (lowD n d * (Int.gcd n d : Int)) := by rw [b]
    _ = (lowN n d * (Int.gcd n d : Int)) * lowD n d := by grind
    _ = n * lowD n d := by rw [a]
theorem low_coprime {n d : Int} (h : 0 < d) : Int.gcd (lowN n d) (lowD n d) = 1 := by
  have g : 0 < Int.gcd n d := Int.gcd_pos_of_ne_zero_right n (by omega)
  exact Int.gcd_ediv_gcd_ediv_gcd g
theorem dvd_cop {a b c : Int} (h : Int.gcd a b = 1) (k : a ∣ b * c) : a ∣ c := by
  rw [← Int.natAbs_dvd_natAbs] at k ⊢
  rw [Int.natAbs_mul] at k
  exact Nat.Coprime.dvd_of_dvd_mul_left h k
theorem uniq {a b c e : Int} (hb : 0 < b) (he : 0 < e) (h1 : Int.gcd a b = 1) (h2 : Int.gcd c e = 1) (h : a * e = c * b) : a = c ∧ b = e := by
  have d1 : b ∣ e := by
    refine dvd_cop (b := a) (by rw [Int.gcd_comm]; exact h1) ⟨c, ?_⟩
    rw [h, Int.mul_comm]
  have d2 : e ∣ b := by
    refine dvd_cop (b := c) (by rw [Int.gcd_comm]; exact h2) ⟨a, ?_⟩
    rw [← h, Int.mul_comm]
  have eb : b = e := Int.dvd_antisymm (by omega) (by omega) d1 d2
  subst eb
  exact ⟨Int.eq_of_mul_eq_mul_right (by omega) h, rfl⟩
theorem low_eq {n d m e : Int} (hd : 0 < d) (he : 0 < e) (h : n * e = m * d) : lowN n d = lowN m e ∧ lowD n d = lowD m e := by
  refine uniq (lowD_pos hd) (lowD_pos he) (low_coprime hd) (low_coprime he) ?_
  have c1 := low_cross (n := n) hd
  have c2 := low_cross (n := m) he
  have : (lowN n d * lowD m e) * (d * e) = (lowN m e * lowD n d) * (d * e) := by
    calc (lowN n d * lowD m e) * (d * e) = (lowN n d * d) * (lowD m e * e) := by grind
      _ = (n * e) * (lowD n d * lowD m e) := by rw [c1]; grind
      _ = (m * lowD m e) * (lowD n d * d) := by rw [h]; grind
      _ = (lowN m e * lowD n d) * (d * e) := by rw [← c2]; grind
  exact Int.eq_of_mul_eq_mul_right (by have := Int.mul_pos hd he; omega) this
theorem red_low {q : Q} (h : 0 < q.d) : q.red.n = lowN q.n q.d ∧ (q.red.d : Int) = lowD q.n q.d := by
  have g : gcd' q.n q.d = Int.gcd q.n (q.d : Int) := rfl
  have gp : 0 < Int.gcd q.n (q.d : Int) := Int.gcd_pos_of_ne_zero_right _ (by omega)
  unfold Q.red
  simp only [g]
  rw [if_neg (by omega)]
  exact ⟨rfl, by show ((q.d / Int.gcd q.n q.d : Nat) : Int) = (q.d : Int) / (Int.gcd q.n q.d : Int); exact Int.natCast_ediv _ _⟩
theorem is_red {q : Q} {n d : Int} (h : Is q n d) : Is q.red n d := by
  obtain ⟨h1, h2, h3⟩ := h
  obtain ⟨e1, e2⟩ := red_low h1
  have hp : 0 < lowD q.n (q.d : Int) := lowD_pos (by omega)
  refine ⟨by omega, h2, ?_⟩
  rw [e1, e2]
  have c := low_cross (n := q.n) (d := (q.d : Int)) (by omega)
  have : (lowN q.n (q.d : Int) * d) * (q.d : Int) = (n * lowD q.n (q.d : Int)) * (q.d : Int) := by
    calc (lowN q.n (q.d : Int) * d) * (q.d : Int) = (lowN q.n (q.d : Int) * (q.d : Int)) * d := by grind
      _ = (q.n * d) * lowD q.n (q.d : Int) := by rw [c]; grind
      _ = (n * lowD q.n (q.d : Int)) * (q.d : Int) := by rw [h3]; grind
  exact Int.eq_of_mul_eq_mul_right (by omega) this
theorem is_mk {n : Int} {d : Nat} (h : 0 < d) : Is ⟨n, d⟩ n d := ⟨h, by omega, rfl⟩
theorem is_of (z : Int) : Is (Q.of z) z 1 := ⟨Nat.one_pos, by decide, rfl⟩
theorem is_conv {q : Q} {n d m e : Int} (h : Is q n d) (he : 0 < e) (c : n * e = m * d) : Is q m e := by
  obtain ⟨h1, h2, h3⟩ := h
  refine ⟨h1, he, ?_⟩
  have : (q.n * e) * d = (m * (q.d : Int)) * d := by
    calc (q.n * e) * d = (q.n * d) * e := by grind
      _ = (n * e) * (q.d : Int) := by rw [h3]; grind
      _ = (m * (q.d : Int)) * d := by rw [c]; grind
  exact Int.eq_of_mul_eq_mul_right (by omega) this
theorem is_add {a b : Q} {n d m e : Int} (ha : Is a n d) (hb : Is b m e) : Is (a.add b) (n * e + m * d) (d * e) := by
  refine is_red ⟨Nat.mul_pos ha.1 hb.1, Int.mul_pos ha.2.1 hb.2.1, ?_⟩
  obtain ⟨_, _, h1⟩ := ha
  obtain ⟨_, _, h2⟩ := hb
  show (a.n * (b.d : Int) + b.n * (a.d : Int)) * (d * e) = (n * e + m * d) * ((a.d * b.d : Nat) : Int)
  rw [Int.natCast_mul]
  calc (a.n * (b.d : Int) + b.n * (a.d : Int)) * (d * e) = (a.n * d) * ((b.d : Int) * e) + (b.n * e) * ((a.d : Int) * d) := by grind
    _ = (n * e + m * d) * ((a.d : Int) * (b.d : Int)) := by rw [h1, h2]; grind
theorem is_sub {a b : Q} {n d m e : Int} (ha : Is a n d) (hb : Is b m e) : Is (a.sub b) (n * e - m * d) (d * e) := by
  refine is_red ⟨Nat.mul_pos ha.1 hb.1, Int.mul_pos ha.2.1 hb.2.1, ?_⟩
  obtain ⟨_, _, h1⟩ := ha
  obtain ⟨_, _, h2⟩ := hb
  show (a.n * (b.d : Int) - b.n * (a.d : Int)) * (d * e) = (n * e - m * d) * ((a.d * b.d : Nat) : Int)
  rw [Int.natCast_mul]
  calc (a.n * (b.d : Int) - b.n * (a.d : Int)) * (d * e) = (a.n * d) * ((b.d : Int) * e) - (b.n * e) * ((a.d : Int) * d) := by grind
    _ = (n * e - m * d) * ((a.d : Int) * (b.d : Int)) := by rw [h1, h2]; grind
theorem is_mul {a b : Q} {n d m e : Int} (ha : Is a n d) (hb : Is b m e) : Is (a.mul b) (n * m) (d * e) := by
  refine is_red ⟨Nat.mul_pos ha.1 hb.1, Int.mul_pos ha.2.1 hb.2.1, ?_⟩
  obtain ⟨_, _, h1⟩ := ha
  obtain ⟨_, _, h2⟩ := hb
  show (a.n * b.n) * (d * e) = (n * m) * ((a.d * b.d : Nat) : Int)
  rw [Int.natCast_mul]
  calc (a.n * b.n) * (d * e) = (a.n * d) * (b.n * e) := by grind
    _ = (n * m) * ((a.d : Int) * (b.d : Int)) := by rw [h1, h2]; grind
/-- what is told of a fraction -/
theorem is_told {q : Q} {n d : Int} (h : Is q n d) : q.told = [lowN n d, lowD n d] := by
  obtain ⟨e1, e2⟩ := red_low h.1
  obtain ⟨c1, c2⟩ := low_eq (n := q.n) (d := (q.d : Int)) (by have := h.1; omega) h.2.1 h.2.2
  show [q.red.n, (q.red.d : Int)] = _
  rw [e1, e2, c1, c2]
theorem is_eq {a b : Q} {n d m e : Int} (ha : Is a n d) (hb : Is b m e) : a.eq b = decide (n * e = m * d) := by
  obtain ⟨p1, p2, h1⟩ := ha
  obtain ⟨p3, p4, h2⟩ := hb
  unfold Q.eq
  have hde : d * e ≠ 0 := by have := Int.mul_pos p2 p4; omega
  have hab : ((a.d : Int) * (b.d : Int)) ≠ 0 := by have := Int.mul_pos (show (0 : Int) < a.d by omega) (show (0 : Int) < b.d by omega); omega
  have k1 : (a.n * (b.d : Int)) * (d * e) = (n * e) * ((a.d : Int) * (b.d : Int)) := by
    calc (a.n * (b.d : Int)) * (d * e) = (a.n * d) * ((b.d : Int) * e) := by grind
      _ = _ := by rw [h1]; grind
  have k2 : (b.n * (a.d : Int)) * (d * e) = (m * d) * ((a.d : Int) * (b.d : Int)) := by
    calc (b.n * (a.d : Int)) * (d * e) = (b.n * e) * ((a.d : Int) * d) := by grind
      _ = _ := by rw [h2]; grind
  by_cases c : n * e = m * d
  · rw [decide_eq_true c]
    refine decide_eq_true (Int.eq_of_mul_eq_mul_right hde ?_)
    rw [k1, k2, c]
  · rw [decide_eq_false c]
    refine decide_eq_false fun z => c (Int.eq_of_mul_eq_mul_right hab ?_)
    rw [← k1, ← k2, z]
theorem is_le {a b : Q} {n d m e : Int} (ha : Is a n d) (hb : Is b m e) : a.le b = decide (n * e ≤ m * d) := by
  obtain ⟨p1, p2, h1⟩ := ha
  obtain ⟨p3, p4, h2⟩ := hb
  unfold Q.le
  have hde : 0 < d * e := Int.mul_pos p2 p4
  have hab : 0 < ((a.d : Int) * (b.d : Int)) := Int.mul_pos (show (0 : Int) < a.d by omega) (show (0 : Int) < b.d by omega)
  have k1 : (a.n * (b.d : Int)) * (d * e) = (n * e) * ((a.d : Int) * (b.d : Int)) := by
    calc (a.n * (b.d : Int)) * (d * e) = (a.n * d) * ((b.d : Int) * e) := by grind
      _ = _ := by rw [h1]; grind
  have k2 : (b.n * (a.d : Int)) * (d * e) = (m * d) * ((a.d : Int) * (b.d : Int)) := by
    calc (b.n * (a.d : Int)) * (d * e) = (b.n * e) * ((a.d : Int) * d) := by grind
      _ = _ := by rw [h2]; grind
  by_cases c : n * e ≤ m * d
  · rw [decide_eq_true c]
    refine decide_eq_true (Int.le_of_mul_le_mul_right (a := d * e) ?_ hde)
    rw [k1, k2]
    exact Int.mul_le_mul_of_nonneg_right c (by omega)
  · rw [decide_eq_false c]
    refine decide_eq_false fun z => c (Int.le_of_mul_le_mul_right (a := (a.d : Int) * (b.d : Int)) ?_ hab)
    rw [← k1, ← k2]
    exact Int.mul_le_mul_of_nonneg_right z (by omega)
/-- the sign of a difference -/
theorem is_sign {q : Q} {n d : Int} (h : Is q n d) : (q.n = 0 ↔ n = 0) ∧ (0 ≤ q.n ↔ 0 ≤ n) ∧ (q.n ≤ 0 ↔ n ≤ 0) := by
  obtain ⟨h1, h2, h3⟩ := h
  have hd : (0 : Int) < q.d := by omega
  have s1 : 0 < q.n → 0 < n := fun z => Int.pos_of_mul_pos_left (a := n) (by rw [← h3]; exact Int.mul_pos z h2) hd
  have s2 : 0 < n → 0 < q.n := fun z => Int.pos_of_mul_pos_left (a := q.n) (by rw [h3]; exact Int.mul_pos z hd) h2
  have s3 : q.n < 0 → n < 0 := fun z => by
    have : 0 < -n := Int.pos_of_mul_pos_left (a := -n) (b := (q.d : Int)) (by rw [Int.neg_mul, ← h3, ← Int.neg_mul]; exact Int.mul_pos (by omega) h2) hd
    omega
  have s4 : n < 0 → q.n < 0 := fun z => by
    have : 0 < -q.n := Int.pos_of_mul_pos_left (a := -q.n) (b := d) (by rw [Int.neg_mul, h3, ← Int.neg_mul]; exact Int.mul_pos (by omega) hd) h2
    omega
  omega
end MC
/-! The Spec's own functions by their values. -/
namespace MC
open Kv414
open Kv413 (Event)
theorem is_up {k : Factor} (h : 0 < k.q) : Is k.up k.p k.q := is_mk h
theorem is_down {k : Factor} (h : 0 < k.p) : Is k.down k.q k.p := is_mk h
theorem mul_pos2 {a b : Int} (ha : 0 < a) (hb : 0 < b) : 0 < 2 * a * b := Int.mul_pos (Int.mul_pos (by decide) ha) hb
theorem is_time {k : Factor} (hp : 0 < k.p) (hq : 0 < k.q) (e : Event) : Is (time k e) ((e.t + e.x) * k.q * k.q + (e.t - e.x) * k.p * k.p) (2 * k.p * k.q) := by
  have h := is_mul (is_add (is_mul (is_up hq) (is_of e.u)) (is_mul (is_down hp) (is_of e.v))) (is_mk (n := 1) (d := 2) (by decide))
  refine is_conv h (mul_pos2 (by omega) (by omega)) ?_
  show _ = _
  unfold Event.u Event.v
  grind
theorem is_place {k : Factor} (hp : 0 < k.p) (hq : 0 < k.q) (e : Event) : Is (place k e) ((e.t + e.x) * k.q * k.q - (e.t - e.x) * k.p * k.p) (2 * k.p * k.q) := by
  have h := is_mul (is_sub (is_mul (is_down hp) (is_of e.v)) (is_mul (is_up hq) (is_of e.u))) (is_mk (n := 1) (d := 2) (by decide))
  refine is_conv h (mul_pos2 (by omega) (by omega)) ?_
  show _ = _
  unfold Event.u Event.v
  grind
theorem is_speed {k : Factor} (hp : 0 < k.p) (hq : 0 < k.q) : Is k.speed ((k.p : Int) * k.p - (k.q : Int) * k.q) ((k.p : Int) * k.p + (k.q : Int) * k.q) := by
  refine is_red ?_
  have h : 0 < k.p * k.p + k.q * k.q := Nat.add_pos_left (Nat.mul_pos hp hp) _
  have h2 : (0 : Int) < (k.p : Int) * k.p + (k.q : Int) * k.q := by
    have := Int.mul_pos (show (0 : Int) < k.p by omega) (show (0 : Int) < k.p by omega)
    have := Int.mul_pos (show (0 : Int) < k.q by omega) (show (0 : Int) < k.q by omega)
    omega
  refine ⟨h, h2, ?_⟩
  show ((k.p * k.p : Nat) - (k.q * k.q : Nat) : Int) * ((k.p : Int) * k.p + (k.q : Int) * k.q) = ((k.p : Int) * k.p - (k.q : Int) * k.q) * ((k.p * k.p + k.q * k.q : Nat) : Int)
  simp only [Int.natCast_mul, Int.natCast_add]
/-- of a difference -/
theorem is_subs {a b : Q} {n m d : Int} (ha : Is a n d) (hb : Is b m d) : Is (a.sub b) (n - m) d := by
  refine is_conv (is_sub ha hb) ha.2.1 ?_
  grind
theorem is_eqs {a b : Q} {n m d : Int} (ha : Is a n d) (hb : Is b m d) : a.eq b = decide (n = m) := by
  rw [is_eq ha hb]
  have hd := ha.2.1
  by_cases c : n = m
  · subst c; simp
  · rw [decide_eq_false c]
    exact decide_eq_false fun z => c (Int.eq_of_mul_eq_mul_right (by omega) z)
theorem is_les {a b : Q} {n m d : Int} (ha : Is a n d) (hb : Is b m d) : a.le b = decide (n ≤ m) := by
  rw [is_le ha hb]
  have hd := ha.2.1
  by_cases c : n ≤ m
  · rw [decide_eq_true c]
    exact decide_eq_true (Int.mul_le_mul_of_nonneg_right c (by omega))
  · rw [decide_eq_false c]
    exact decide_eq_false fun z => c (Int.le_of_mul_le_mul_right z hd)
/-- a factor with nothing in common -/
theorem facred {k : Factor} : ((Factor.red k).p : Int) = lowN k.p k.q ∧ ((Factor.red k).q : Int) = lowD k.p k.q := by
  have e : Int.gcd (k.p : Int) (k.q : Int) = Nat.gcd k.p k.q := rfl
  unfold lowN lowD Factor.red
  rw [e]
  exact ⟨Int.natCast_ediv _ _, Int.natCast_ediv _ _⟩
theorem low_nat {p q : Nat} (hq : 0 < q) : ((p / Nat.gcd p q : Nat) : Int) = lowN p q ∧ ((q / Nat.gcd p q : Nat) : Int) = lowD p q := facred (k := ⟨p, q⟩)
theorem lowN_pos {n d : Int} (hn : 0 < n) (hd : 0 < d) : 0 < lowN n d := by
  have g := gcd_pos (n := n) hd
  have e := low_mulN n d
  exact Int.pos_of_mul_pos_left (a := lowN n d) (by rw [e]; exact hn) g
theorem low_le {n d : Int} (hn : 0 ≤ n) (hd : 0 < d) : lowN n d ≤ n ∧ lowD n d ≤ d := by
  unfold lowN lowD
  exact ⟨Int.ediv_le_self _ hn, Int.ediv_le_self _ (by omega)⟩
end MC
/-! The line of calls: the Spec's walk over the flat list, one call at a time. -/
namespace MC
open Kv414
def argL : List Nat := [0, 2, 1, 2, 2, 4, 1, 0, 0, 0, 1, 2, 2, 2, 2, 4, 4, 1, 1, 1, 1, 0, 0, 0, 0]
def argN (p : Int) : Nat := argL.getD p.toNat 0
theorem int_cases {P : Int → Prop} {p : Int} (h0 : 0 ≤ p) (h1 : p ≤ 24) (h : ∀ n : Nat, n ≤ 24 → P (n : Int)) : P p := by
  obtain ⟨n, rfl⟩ := Int.eq_ofNat_of_zero_le h0
  exact h n (by omega)
theorem shape_in {p : Int} (h0 : 0 ≤ p) (h1 : p ≤ 24) : PyKv414.shape p = some (argN p, 0) := by
  refine int_cases (P := fun p => PyKv414.shape p = some (argN p, 0)) h0 h1 ?_
  decide
theorem shape_out {p : Int} (h : ¬ (0 ≤ p ∧ p ≤ 24)) : PyKv414.shape p = none := by
  unfold PyKv414.shape
  repeat rw [if_neg (by omega)]
theorem shape_some {p : Int} {x : Nat × Nat} (h : PyKv414.shape p = some x) : 0 ≤ p ∧ p ≤ 24 ∧ x = (argN p, 0) := by
  by_cases c : 0 ≤ p ∧ p ≤ 24
  · rw [shape_in c.1 c.2] at h
    exact ⟨c.1, c.2, (Option.some.inj h).symm⟩
  · rw [shape_out c] at h
    cases h
theorem calls_cons {f : Nat} {p : Int} {r : List Int} {cs : List (List (List Int))} (h : PyFlat.calls PyKv414.shape f (p :: r) = some cs) :
    0 ≤ p ∧ p ≤ 24 ∧ argN p ≤ r.length ∧ ∃ f' cs', cs = [p :: r.take (argN p)] :: cs' ∧ PyFlat.calls PyKv414.shape f' (r.drop (argN p)) = some cs' := by
  cases f with
  | zero => cases h
  | succ f =>
    unfold PyFlat.calls at h
    unfold PyFlat.call at h
    dsimp only at h
    cases e : PyKv414.shape p with
    | none => rw [e] at h; cases h
    | some x =>
      obtain ⟨h0, h1, rfl⟩ := shape_some e
      rw [e] at h
      dsimp only at h
      by_cases c : r.length < argN p
      · rw [if_pos c] at h; cases h
      · rw [if_neg c] at h
        unfold PyFlat.rows at h
        dsimp only at h
        cases e2 : PyFlat.calls PyKv414.shape f (r.drop (argN p)) with
        | none => rw [e2] at h; cases h
        | some ds =>
          rw [e2] at h
          exact ⟨h0, h1, by omega, f, ds, (Option.some.inj h).symm, e2⟩
theorem whole_id (c : List (List Int)) : PyKv414.whole c = c := by
  unfold PyKv414.whole
  split <;> rfl
theorem whole_map (cs : List (List (List Int))) : cs.map PyKv414.whole = cs := by
  rw [show PyKv414.whole = id from funext whole_id]
  exact List.map_id cs
/-- one call of the Spec -/
def call1 (p : Int) (as : List Int) : Option Call := Kv414Neutral.callOf [p :: as]
theorem told_cons (s : State) (c : List (List Int)) (cs : List (List (List Int))) :
    PyFlat.told (PyFlat.played Kv414Neutral.step s (c :: cs)) = ((Kv414Neutral.step s c).2.length : Int) :: (Kv414Neutral.step s c).2 ++ PyFlat.told (PyFlat.played Kv414Neutral.step (Kv414Neutral.step s c).1 cs) := rfl
theorem told_nil (s : State) : PyFlat.told (PyFlat.played Kv414Neutral.step s []) = [] := rfl
/-- what a call's numbers are -/
def inB (p : Int) (as : List Int) : Prop := as.length = argN p ∧ if p = 1 then ∀ z ∈ as, -2147483648 ≤ z ∧ z ≤ 2147483647 else ∀ z ∈ as, 0 ≤ z ∧ z ≤ 4294967295
theorem each_all {lo hi : Int} : ∀ (n : Nat) (as : List Int), PyInside.each (List.replicate n (lo, hi)) as = true → as.length ≤ n → ∀ z ∈ as, lo ≤ z ∧ z ≤ hi
  | _, [], _, _, z, hz => by cases hz
  | 0, _ :: _, _, h, _, _ => by simp at h
  | n + 1, a :: as, h, hl, z, hz => by
    have h' : (PyInside.within lo hi a && PyInside.each (List.replicate n (lo, hi)) as) = true := h
    rw [Bool.and_eq_true] at h'
    unfold PyInside.within at h'
    rw [Bool.and_eq_true, decide_eq_true_eq, decide_eq_true_eq] at h'
    cases hz with
    | head => exact h'.1
    | tail _ hz => exact each_all n as h'.2 (by simpa using hl) z hz
theorem bound_rep {p : Int} (h0 : 0 ≤ p) (h1 : p ≤ 24) : (PyKv414.bound p).1 = List.replicate (argN p) (if p = 1 then (-2147483648, 2147483647) else (0, 4294967295)) := by
  refine int_cases (P := fun p => (PyKv414.bound p).1 = List.replicate (argN p) (if p = 1 then (-2147483648, 2147483647) else (0, 4294967295))) h0 h1 ?_
  decide
theorem inside {p : Int} {as : List Int} (h0 : 0 ≤ p) (h1 : p ≤ 24) (hl : as.length = argN p) (h : PyInside.call PyKv414.bound [p :: as] = true) : inB p as := by
  refine ⟨hl, ?_⟩
  have h' : (PyInside.each (PyKv414.bound p).1 as && PyInside.lists (PyKv414.bound p).2 []) = true := h
  rw [Bool.and_eq_true, bound_rep h0 h1] at h'
  by_cases c : p = 1
  · rw [if_pos c] at h' ⊢
    exact each_all _ as h'.1 (by omega)
  · rw [if_neg c] at h' ⊢
    exact each_all _ as h'.1 (by omega)
/-- where the walk stands: out is answered, rest is ahead -/
structure Stand (ns out rest : List Int) (s : State) : Prop where
  ex : ∃ f cs, PyFlat.calls PyKv414.shape f rest = some cs ∧ (cs.all (PyInside.call PyKv414.bound)) = true ∧ PyKv414.answers ns = out ++ PyFlat.told (PyFlat.played Kv414Neutral.step s cs)
theorem stand_start {ns : List Int} (h : PyKv414.answers_asked ns = true) : Stand ns [] ns Kv414Neutral.start ∧ (PyKv414.answers ns).length ≤ 10000000 := by
  unfold PyKv414.answers_asked at h
  cases e : PyFlat.calls PyKv414.shape ns.length ns with
  | none => rw [e] at h; cases h
  | some raw =>
    rw [e] at h
    dsimp only at h
    rw [Bool.and_eq_true, Bool.and_eq_true, Bool.and_eq_true, Bool.and_eq_true] at h
    obtain ⟨⟨⟨⟨_, _⟩, h3⟩, _⟩, h5⟩ := h
    refine ⟨⟨_, raw, e, h3, ?_⟩, of_decide_eq_true h5⟩
    unfold PyKv414.answers PyKv414.calls
    rw [e]
    dsimp only
    rw [whole_map]
    rfl
theorem stand_end {ns out : List Int} {s : State} (h : Stand ns out [] s) : PyKv414.answers ns = out := by
  obtain ⟨f, cs, h1, _, h3⟩ := h.ex
  have : cs = [] := by cases f <;> exact (Option.some.inj h1).symm
  subst this
  rw [h3]
  exact List.append_nil out
theorem stand_turn {ns out r : List Int} {p : Int} {s : State} (h : Stand ns out (p :: r) s) :
    0 ≤ p ∧ p ≤ 24 ∧ argN p ≤ r.length ∧ inB p (r.take (argN p)) ∧
    Stand ns (out ++ ((Kv414Neutral.step s [p :: r.take (argN p)]).2.length : Int) :: (Kv414Neutral.step s [p :: r.take (argN p)]).2) (r.drop (argN p)) (Kv414Neutral.step s [p :: r.take (argN p)]).1 := by
  obtain ⟨f, cs, h1, h2, h3⟩ := h.ex
  obtain ⟨a0, a1, a2, f', cs', rfl, a3⟩ := calls_cons h1
  rw [List.all_cons, Bool.and_eq_true] at h2
  refine ⟨a0, a1, a2, inside a0 a1 (by rw [List.length_take]; omega) h2.1, ⟨f', cs', a3, h2.2, ?_⟩⟩
  rw [h3, told_cons, List.append_assoc]
theorem stand_len {ns out rest : List Int} {s : State} (h : Stand ns out rest s) : out.length ≤ (PyKv414.answers ns).length := by
  obtain ⟨f, cs, _, _, h3⟩ := h.ex
  rw [h3, List.length_append]
  omega
end MC
/-! What the Spec answers, by the numbers that the program reckons with. -/
namespace MC
open Kv414
open Kv413 (Event)
structure LegOk (g : Leg) : Prop where
  p0 : 1 ≤ g.k.p
  p1 : g.k.p ≤ 9
  q0 : 1 ≤ g.k.q
  q1 : g.k.q ≤ 9
  s0 : 1 ≤ g.s
  s1 : g.s ≤ 99
structure NowOk (n : Now) : Prop where
  ev : ∀ e ∈ n.l, -99 ≤ e.t ∧ e.t ≤ 99 ∧ -99 ≤ e.x ∧ e.x ≤ 99
  le : n.l.length ≤ 8
  p0 : 0 < n.k.p
  p1 : n.k.p ≤ 999
  q0 : 0 < n.k.q
  q1 : n.k.q ≤ 999
  ga : ∀ g ∈ n.a, LegOk g
  gb : ∀ g ∈ n.b, LegOk g
  la : n.a.length ≤ 6
  lb : n.b.length ≤ 6
def cOf (num : Int) (as : List Int) : Call := (Kv414Neutral.callOf [num :: as]).getD .begin_
def ans (n : Now) (c : Call) : List Int := Kv414Neutral.row (Abs.does ⟨n, []⟩ c).2
def nxt (n : Now) (c : Call) : Now := (Abs.does ⟨n, []⟩ c).1.now
/-- looks -/
def isLook : Call → Bool
  | .events | .factor | .speed | .tells _ | .apart _ _ | .square _ _ | .sooner _ _ | .ever _ _ | .sameat _ _ _ _ | .faster _ _ _ _ | .way _ | .end_ _ | .shows _ | .straight _ | .older | .meet => true
  | _ => false
def isChg : Call → Bool
  | .put _ _ | .drop _ | .move _ _ | .more _ _ | .leg _ _ _ _ | .unleg _ => true
  | _ => false
theorem look_does (s : Abs) {c : Call} (h : isLook c = true) : Abs.does s c = (s, (Abs.does ⟨s.now, []⟩ c).2) := by
  cases c <;> first | (cases h; done) | skip
  all_goals ((unfold Abs.does; dsimp only) <;> first | rfl | ((repeat' split) <;> rfl))
theorem chg_does (s : Abs) {c : Call} (h : isChg c = true) :
    (0 ≤ (Abs.does ⟨s.now, []⟩ c).2.ret ∧ Abs.does s c = (⟨nxt s.now c, (s.now :: s.past).take 10⟩, (Abs.does ⟨s.now, []⟩ c).2)) ∨
    ((Abs.does ⟨s.now, []⟩ c).2.ret < 0 ∧ nxt s.now c = s.now ∧ Abs.does s c = (s, (Abs.does ⟨s.now, []⟩ c).2)) := by
  unfold nxt
  cases c <;> first | (cases h; done) | skip
  all_goals (unfold Abs.does; dsimp only)
  all_goals (repeat' split)
  all_goals first
    | (refine .inr ⟨?_, rfl, rfl⟩; first | exact (show (-22 : Int) < 0 by decide) | exact (show (-28 : Int) < 0 by decide) | exact (show (-2 : Int) < 0 by decide) | exact (show (-75 : Int) < 0 by decide) | exact (show (-6 : Int) < 0 by decide))
    | (refine .inl ⟨?_, rfl⟩; first | exact Int.le_refl _ | exact Int.natCast_nonneg _)
/-! ### fractions -/
theorem low_sign {n d : Int} (h : 0 < d) : (lowN n d = 0 ↔ n = 0) ∧ (0 < lowN n d ↔ 0 < n) := by
  have g := gcd_pos (n := n) h
  have e := low_mulN n d
  refine ⟨⟨fun hz => ?_, fun hn => ?_⟩, ⟨fun hz => ?_, fun hn => ?_⟩⟩
  · rw [← e, hz, Int.zero_mul]
  · subst hn
    unfold lowN
    exact Int.zero_ediv _
  · rw [← e]
    exact Int.mul_pos hz g
  · exact Int.pos_of_mul_pos_left (a := lowN n d) (by rw [e]; exact hn) g
theorem is_low {q : Q} {n d : Int} (h : Is q n d) : Is q (lowN n d) (lowD n d) := is_conv h (lowD_pos h.2.1) (low_cross h.2.1).symm
/-! ### events -/
def tN (p q t x : Int) : Int := (t + x) * q * q + (t - x) * p * p
def xN (p q t x : Int) : Int := (t + x) * q * q - (t - x) * p * p
def told4 (p q t x : Int) : List Int := [lowN (tN p q t x) (2 * p * q), lowD (tN p q t x) (2 * p * q), lowN (xN p q t x) (2 * p * q), lowD (xN p q t x) (2 * p * q)]
theorem told_is {k : Factor} (hp : 0 < k.p) (hq : 0 < k.q) (e : Event) : (time k e).told ++ (place k e).told = told4 k.p k.q e.t e.x := by
  rw [is_told (is_time hp hq e), is_told (is_place hp hq e)]
  rfl
theorem apart_is {k : Factor} (hp : 0 < k.p) (hq : 0 < k.q) (a b : Event) : ((time k b).sub (time k a)).told ++ ((place k b).sub (place k a)).told = told4 k.p k.q (b.t - a.t) (b.x - a.x) := by
  rw [is_told (is_subs (is_time hp hq b) (is_time hp hq a)), is_told (is_subs (is_place hp hq b) (is_place hp hq a))]
  unfold told4
  have e1 : ((b.t + b.x) * k.q * k.q + (b.t - b.x) * k.p * k.p) - ((a.t + a.x) * k.q * k.q + (a.t - a.x) * k.p * k.p) = tN k.p k.q (b.t - a.t) (b.x - a.x) := by unfold tN; grind
  have e2 : ((b.t + b.x) * k.q * k.q - (b.t - b.x) * k.p * k.p) - ((a.t + a.x) * k.q * k.q - (a.t - a.x) * k.p * k.p) = xN k.p k.q (b.t - a.t) (b.x - a.x) := by unfold xN; grind
  rw [e1, e2]
  rfl
theorem square_is (a b : Event) : Kv413.square a b = (b.t - a.t) * (b.t - a.t) - (b.x - a.x) * (b.x - a.x) := by
  unfold Kv413.square Event.u Event.v
  grind
def leadI (z : Int) : Int := if 0 < z then 0 else if z = 0 then 1 else 2
def hearI (l b : Int) : Int := if l = 0 ∧ b = 0 then 0 else if 0 ≤ l ∧ 0 ≤ b then 1 else if l ≤ 0 ∧ b ≤ 0 then 2 else 3
def everI (l b : Int) : Int := if l = 0 ∧ b = 0 then 1 else if 0 ≤ l ∧ 0 ≤ b then 0 else if l ≤ 0 ∧ b ≤ 0 then 2 else 3
theorem tN_sub (p q : Int) (a b : Event) : tN p q (b.t - a.t) (b.x - a.x) = tN p q b.t b.x - tN p q a.t a.x := by unfold tN; grind
theorem sooner_is {k : Factor} (hp : 0 < k.p) (hq : 0 < k.q) (a b : Event) :
    ((if (time k a).eq (time k b) = true then 1 else if (time k a).le (time k b) = true then 0 else 2 : Nat) : Int) = leadI (lowN (tN k.p k.q (b.t - a.t) (b.x - a.x)) (2 * k.p * k.q)) := by
  have hd : (0 : Int) < 2 * k.p * k.q := mul_pos2 (by omega) (by omega)
  obtain ⟨s1, s2⟩ := low_sign (n := tN k.p k.q (b.t - a.t) (b.x - a.x)) hd
  have e1 : (time k a).eq (time k b) = decide (tN k.p k.q a.t a.x = tN k.p k.q b.t b.x) := is_eqs (is_time hp hq a) (is_time hp hq b)
  have e2 : (time k a).le (time k b) = decide (tN k.p k.q a.t a.x ≤ tN k.p k.q b.t b.x) := is_les (is_time hp hq a) (is_time hp hq b)
  rw [e1, e2]
  have e3 := tN_sub k.p k.q a b
  rw [e3] at s1 s2 ⊢
  unfold leadI
  simp only [s1, s2, decide_eq_true_eq]
  by_cases c1 : tN k.p k.q a.t a.x = tN k.p k.q b.t b.x
  · rw [if_pos c1, if_neg (by omega), if_pos (by omega)]; rfl
  · rw [if_neg c1]
    by_cases c2 : tN k.p k.q a.t a.x ≤ tN k.p k.q b.t b.x
    · rw [if_pos c2, if_pos (by omega)]; rfl
    · rw [if_neg c2, if_neg (by omega), if_neg (by omega)]; rfl
theorem ever_is (a b : Event) :
    ((if a = b then 1 else if Kv413.heard a b = true then 0 else if Kv413.heard b a = true then 2 else 3 : Nat) : Int) = everI ((b.t - a.t) - (b.x - a.x)) ((b.t - a.t) + (b.x - a.x)) := by
  have e0 : a = b ↔ (a.t = b.t ∧ a.x = b.x) := by cases a; cases b; simp
  have e1 : Kv413.heard a b = true ↔ (a.t - a.x ≤ b.t - b.x ∧ a.t + a.x ≤ b.t + b.x) := by
    unfold Kv413.heard Event.u Event.v
    rw [Bool.and_eq_true, decide_eq_true_eq, decide_eq_true_eq]
  have e2 : Kv413.heard b a = true ↔ (b.t - b.x ≤ a.t - a.x ∧ b.t + b.x ≤ a.t + a.x) := by
    unfold Kv413.heard Event.u Event.v
    rw [Bool.and_eq_true, decide_eq_true_eq, decide_eq_true_eq]
  unfold everI
  simp only [e0, e1, e2]
  (repeat' split) <;> omega
theorem sameat_is {k : Factor} (hp : 0 < k.p) (hq : 0 < k.q) (a b : Event) :
    ((bit ((time k a).eq (time k b)) : Nat) : Int) = if lowN (tN k.p k.q (b.t - a.t) (b.x - a.x)) (2 * k.p * k.q) = 0 then 1 else 0 := by
  have hd : (0 : Int) < 2 * k.p * k.q := mul_pos2 (by omega) (by omega)
  obtain ⟨s1, s2⟩ := low_sign (n := tN k.p k.q (b.t - a.t) (b.x - a.x)) hd
  have e1 : (time k a).eq (time k b) = decide (tN k.p k.q a.t a.x = tN k.p k.q b.t b.x) := is_eqs (is_time hp hq a) (is_time hp hq b)
  rw [e1]
  rw [tN_sub k.p k.q a b] at s1 s2 ⊢
  unfold bit
  simp only [s1, decide_eq_true_eq]
  split
  · rw [if_pos (by omega)]; rfl
  · rw [if_neg (by omega)]; rfl
/-! ### speeds -/
def speed2 (p q : Int) : List Int := [lowN (p * p - q * q) (p * p + q * q), lowD (p * p - q * q) (p * p + q * q)]
theorem speed_is {k : Factor} (hp : 0 < k.p) (hq : 0 < k.q) : k.speed.told = speed2 k.p k.q := is_told (is_speed hp hq)
theorem sq_pos {p q : Int} (hp : 0 < p) (hq : 0 < q) : 0 < p * p + q * q := by
  have h1 := Int.mul_pos hp hp
  have h2 := Int.mul_pos hq hq
  omega
theorem speed_cross {p q r s : Int} (hp : 0 < p) (hq : 0 < q) (hr : 0 < r) (hs : 0 < s) (h : p * s = r * q) : speed2 p q = speed2 r s := by
  have e : (p * p - q * q) * (r * r + s * s) = (r * r - s * s) * (p * p + q * q) := by grind
  obtain ⟨e1, e2⟩ := low_eq (sq_pos hp hq) (sq_pos hr hs) e
  unfold speed2
  rw [e1, e2]
theorem red_pos {k : Factor} (hp : 0 < k.p) (hq : 0 < k.q) : 0 < (Factor.red k).p ∧ 0 < (Factor.red k).q := by
  obtain ⟨e1, e2⟩ := facred (k := k)
  have h1 := lowN_pos (n := k.p) (d := k.q) (by omega) (by omega)
  have h2 := lowD_pos (n := k.p) (d := k.q) (by omega)
  omega
theorem faster_is {p q r s : Nat} (hp : 0 < p) (hq : 0 < q) (hr : 0 < r) (hs : 0 < s) (k : Factor) (hk : k = ⟨p * r, q * s⟩) :
    (Factor.red k).speed.told = speed2 (lowN (lowN r s * p) (lowD r s * q)) (lowD (lowN r s * p) (lowD r s * q)) := by
  subst hk
  obtain ⟨e1, e2⟩ := facred (k := ⟨p * r, q * s⟩)
  have k0 : 0 < (⟨p * r, q * s⟩ : Factor).p := Nat.mul_pos hp hr
  have k1 : 0 < (⟨p * r, q * s⟩ : Factor).q := Nat.mul_pos hq hs
  have n0 := lowN_pos (n := (r : Int)) (d := s) (by omega) (by omega)
  have n1 := lowD_pos (n := (r : Int)) (d := s) (by omega)
  have c := low_cross (n := (r : Int)) (d := s) (by omega)
  have m0 : 0 < lowN r s * (p : Int) := Int.mul_pos n0 (by omega)
  have m1 : 0 < lowD r s * (q : Int) := Int.mul_pos n1 (by omega)
  obtain ⟨j0, j1⟩ := red_pos k0 k1
  rw [speed_is j0 j1]
  rw [e1, e2]
  have l := low_eq (n := ((p * r : Nat) : Int)) (d := ((q * s : Nat) : Int)) (m := lowN r s * (p : Int)) (e := lowD r s * (q : Int)) (by exact_mod_cast k1) m1 (by
    rw [Int.natCast_mul, Int.natCast_mul]
    grind)
  show speed2 (lowN ((p * r : Nat) : Int) ((q * s : Nat) : Int)) (lowD ((p * r : Nat) : Int) ((q * s : Nat) : Int)) = _
  rw [l.1, l.2]
/-! ### ways -/
def Gq (x : Q) (N D : Int) (i : Nat) : Prop := Is x N D ∧ D ≤ 9 ^ i ∧ 0 ≤ N ∧ N ≤ 891 * i * D
theorem gq_zero : Gq (Q.of 0) 0 1 0 := ⟨is_of 0, by decide, by decide, by decide⟩
def stepN (N D a b : Int) : Int := lowN (N * lowD a b + lowN a b * D) (D * lowD a b)
def stepD (N D a b : Int) : Int := lowD (N * lowD a b + lowN a b * D) (D * lowD a b)
theorem gq_step {x y : Q} {N D a b : Int} {i : Nat} (h : Gq x N D i) (hy : Is y a b) (a0 : 0 ≤ a) (a1 : a ≤ 891) (b1 : b ≤ 9) : Gq (x.add y) (stepN N D a b) (stepD N D a b) (i + 1) := by
  obtain ⟨h1, h2, h3, h4⟩ := h
  have hD := h1.2.1
  have hb := hy.2.1
  have y2 := is_low hy
  have e0 := y2.2.1
  obtain ⟨q1, q2⟩ := low_le a0 hb
  have m0 : 0 ≤ lowN a b := Int.ediv_nonneg a0 (by omega)
  have mc := low_cross (n := a) hb
  unfold stepN stepD
  have key := is_add h1 y2
  generalize lowN a b = m at *
  generalize lowD a b = e at *
  have me : m ≤ 891 * e := by
    have t1 : m * 1 ≤ m * b := Int.mul_le_mul_of_nonneg_left (by omega) m0
    have t2 : a * e ≤ 891 * e := Int.mul_le_mul_of_nonneg_right a1 (by omega)
    omega
  have hDe : 0 < D * e := Int.mul_pos hD e0
  have n0 : 0 ≤ N * e + m * D := by
    have := Int.mul_nonneg h3 (show 0 ≤ e by omega)
    have := Int.mul_nonneg m0 (show 0 ≤ D by omega)
    omega
  have k2 := is_low key
  obtain ⟨r1, r2⟩ := low_le n0 hDe
  have c2 := low_cross (n := N * e + m * D) hDe
  have z0 : 0 ≤ lowN (N * e + m * D) (D * e) := Int.ediv_nonneg n0 (by omega)
  have w0 := k2.2.1
  have up : N * e + m * D ≤ 891 * (i + 1 : Nat) * (D * e) := by
    have t1 : N * e ≤ 891 * i * D * e := Int.mul_le_mul_of_nonneg_right h4 (by omega)
    have t2 : m * D ≤ 891 * e * D := Int.mul_le_mul_of_nonneg_right me (by omega)
    have t3 : (891 : Int) * (i + 1 : Nat) * (D * e) = 891 * i * D * e + 891 * e * D := by
      rw [Int.natCast_add]
      grind
    omega
  generalize lowN (N * e + m * D) (D * e) = Z at *
  generalize lowD (N * e + m * D) (D * e) = W at *
  refine ⟨k2, ?_, z0, ?_⟩
  · have t1 : D * e ≤ 9 ^ i * 9 := Int.mul_le_mul h2 (by omega) (by omega) (by exact Int.le_trans (by omega) h2)
    rw [Int.pow_succ]
    omega
  · have t : Z * (D * e) ≤ 891 * (i + 1 : Nat) * W * (D * e) := by
      rw [c2]
      have t1 := Int.mul_le_mul_of_nonneg_right up (show 0 ≤ W by omega)
      have t2 : (891 : Int) * (i + 1 : Nat) * (D * e) * W = 891 * (i + 1 : Nat) * W * (D * e) := by grind
      omega
    exact Int.le_of_mul_le_mul_right t hDe
theorem goU_step (l : List Leg) (g : Leg) : goU (l ++ [g]) = (goU l).add (g.k.down.mul (Q.of g.s)) := by
  unfold goU
  rw [List.foldl_append]
  rfl
theorem goV_step (l : List Leg) (g : Leg) : goV (l ++ [g]) = (goV l).add (g.k.up.mul (Q.of g.s)) := by
  unfold goV
  rw [List.foldl_append]
  rfl
theorem shows_step (l : List Leg) (g : Leg) : shows (l ++ [g]) = shows l + g.s := by
  unfold shows
  simp
theorem gU_step {l : List Leg} {g : Leg} {N D : Int} (h : Gq (goU l) N D l.length) (ok : LegOk g) : Gq (goU (l ++ [g])) (stepN N D (g.s * g.k.q) g.k.p) (stepD N D (g.s * g.k.q) g.k.p) (l ++ [g]).length := by
  rw [goU_step, List.length_append]
  have i1 := is_mul (is_down (k := g.k) (by have := ok.p0; omega)) (is_of g.s)
  rw [Int.mul_comm (g.k.q : Int), Int.mul_one] at i1
  have b1 : (g.s : Int) * g.k.q ≤ 99 * 9 := Int.mul_le_mul (by have := ok.s1; omega) (by have := ok.q1; omega) (by omega) (by omega)
  exact gq_step h i1 (Int.mul_nonneg (by omega) (by omega)) (by omega) (by have := ok.p1; omega)
theorem gV_step {l : List Leg} {g : Leg} {N D : Int} (h : Gq (goV l) N D l.length) (ok : LegOk g) : Gq (goV (l ++ [g])) (stepN N D (g.s * g.k.p) g.k.q) (stepD N D (g.s * g.k.p) g.k.q) (l ++ [g]).length := by
  rw [goV_step, List.length_append]
  have i1 := is_mul (is_up (k := g.k) (by have := ok.q0; omega)) (is_of g.s)
  rw [Int.mul_comm (g.k.p : Int), Int.mul_one] at i1
  have b1 : (g.s : Int) * g.k.p ≤ 99 * 9 := Int.mul_le_mul (by have := ok.s1; omega) (by have := ok.p1; omega) (by omega) (by omega)
  exact gq_step h i1 (Int.mul_nonneg (by omega) (by omega)) (by omega) (by have := ok.q1; omega)
/-- a way's fraction: bounds that are enough -/
theorem gq_bd {x : Q} {N D : Int} {i : Nat} (h : Gq x N D i) (hi : i ≤ 6) : Is x N D ∧ 0 < D ∧ D ≤ 531441 ∧ 0 ≤ N ∧ N ≤ 2841083586 := by
  obtain ⟨h1, h2, h3, h4⟩ := h
  have hD := h1.2.1
  have p : (9 : Int) ^ i ≤ 9 ^ 6 := by
    have : ∀ i : Nat, i ≤ 6 → (9 : Int) ^ i ≤ 9 ^ 6 := by decide
    exact this i hi
  have p' : (9 : Int) ^ 6 = 531441 := by decide
  have d1 : D ≤ 531441 := by omega
  refine ⟨h1, hD, d1, h3, ?_⟩
  have t1 : (891 : Int) * i * D ≤ 891 * i * 531441 := Int.mul_le_mul_of_nonneg_left d1 (by omega)
  omega
end MC
/-! What each look is answered, by the Spec. -/
namespace MC
open Kv414
open Kv413 (Event)
theorem arg_nats {num : Int} {as : List Int} (h : inB num as) (n : num ≠ 1) : ∃ l : List Nat, as = l.map (fun i : Nat => (i : Int)) ∧ l.length = argN num ∧ ∀ i ∈ l, i ≤ 4294967295 := by
  obtain ⟨h1, h2⟩ := h
  rw [if_neg n] at h2
  refine ⟨as.map Int.toNat, ?_, by rw [List.length_map]; exact h1, fun i hi => ?_⟩
  · rw [List.map_map]
    conv => lhs; rw [← List.map_id as]
    refine List.map_congr_left fun z hz => ?_
    have := h2 z hz
    show z = ((z.toNat : Nat) : Int)
    omega
  · obtain ⟨z, hz, rfl⟩ := List.mem_map.mp hi
    have := h2 z hz
    omega
theorem arg1 {num : Int} {as : List Int} (h : inB num as) (e : argN num = 1) (n : num ≠ 1) : ∃ i : Nat, as = [(i : Int)] ∧ i ≤ 4294967295 := by
  obtain ⟨l, rfl, hl, hb⟩ := arg_nats h n
  rw [e] at hl
  match l, hl with
  | [i], _ => exact ⟨i, rfl, hb i (by simp)⟩
theorem arg2 {num : Int} {as : List Int} (h : inB num as) (e : argN num = 2) (n : num ≠ 1) : ∃ i j : Nat, as = [(i : Int), (j : Int)] ∧ i ≤ 4294967295 ∧ j ≤ 4294967295 := by
  obtain ⟨l, rfl, hl, hb⟩ := arg_nats h n
  rw [e] at hl
  match l, hl with
  | [i, j], _ => exact ⟨i, j, rfl, hb i (by simp), hb j (by simp)⟩
theorem arg4 {num : Int} {as : List Int} (h : inB num as) (e : argN num = 4) (n : num ≠ 1) : ∃ i j k l : Nat, as = [(i : Int), (j : Int), (k : Int), (l : Int)] ∧ i ≤ 4294967295 ∧ j ≤ 4294967295 ∧ k ≤ 4294967295 ∧ l ≤ 4294967295 := by
  obtain ⟨l, rfl, hl, hb⟩ := arg_nats h n
  rw [e] at hl
  match l, hl with
  | [i, j, k, l], _ => exact ⟨i, j, k, l, rfl, hb i (by simp), hb j (by simp), hb k (by simp), hb l (by simp)⟩
theorem arg0 {num : Int} {as : List Int} (h : inB num as) (e : argN num = 0) : as = [] := by
  have := h.1
  rw [e] at this
  exact List.eq_nil_of_length_eq_zero this
theorem put2 {as : List Int} (h : inB 1 as) : ∃ t x : Int, as = [t, x] := by
  have := h.1
  rw [show argN 1 = 2 from rfl] at this
  match as, this with
  | [t, x], _ => exact ⟨t, x, rfl⟩
section
variable {n : Now} {i j p q r s w : Nat} {e d : Event}
theorem no_yes (h : ¬ i < n.l.length) : n.no i = true := decide_eq_true (by omega)
theorem no_not (h : n.l[i]? = some e) : ¬ n.no i = true := by
  have : i < n.l.length := (List.getElem?_eq_some_iff.mp h).1
  unfold Now.no
  rw [decide_eq_true_eq]
  omega
theorem at_eq (h : n.l[i]? = some e) : n.at_ i = e := by
  unfold Now.at_
  rw [List.getD_eq_getElem?_getD, h]
  rfl
theorem no_or (h : ¬ (i < n.l.length ∧ j < n.l.length)) : n.no i = true ∨ n.no j = true := by
  by_cases c : i < n.l.length
  · exact .inr (no_yes fun z => h ⟨c, z⟩)
  · exact .inl (no_yes c)
theorem no_nor (h1 : n.l[i]? = some e) (h2 : n.l[j]? = some d) : ¬ (n.no i = true ∨ n.no j = true) := fun z => z.elim (no_not h1) (no_not h2)
theorem tells_no (h : ¬ i < n.l.length) : ans n (cOf 10 [(i : Int)]) = [-2] := by
  show Kv414Neutral.row (Abs.does ⟨n, []⟩ (.tells i)).2 = _
  unfold Abs.does
  dsimp only
  rw [if_pos (no_yes h)]
  rfl
theorem tells_yes (ok : NowOk n) (h : n.l[i]? = some e) : ans n (cOf 10 [(i : Int)]) = 0 :: told4 n.k.p n.k.q e.t e.x := by
  show Kv414Neutral.row (Abs.does ⟨n, []⟩ (.tells i)).2 = _
  unfold Abs.does
  dsimp only
  rw [if_neg (no_not h), at_eq h, ← told_is ok.p0 ok.q0 e]
  rfl
theorem apart_no (h : ¬ (i < n.l.length ∧ j < n.l.length)) : ans n (cOf 11 [(i : Int), (j : Int)]) = [-2] := by
  show Kv414Neutral.row (Abs.does ⟨n, []⟩ (.apart i j)).2 = _
  unfold Abs.does
  dsimp only
  rw [if_pos (no_or h)]
  rfl
theorem apart_yes (ok : NowOk n) (h1 : n.l[i]? = some e) (h2 : n.l[j]? = some d) : ans n (cOf 11 [(i : Int), (j : Int)]) = 0 :: told4 n.k.p n.k.q (d.t - e.t) (d.x - e.x) := by
  show Kv414Neutral.row (Abs.does ⟨n, []⟩ (.apart i j)).2 = _
  unfold Abs.does
  dsimp only
  rw [if_neg (no_nor h1 h2), at_eq h1, at_eq h2, ← apart_is ok.p0 ok.q0 e d]
  rfl
theorem square_no (h : ¬ (i < n.l.length ∧ j < n.l.length)) : ans n (cOf 12 [(i : Int), (j : Int)]) = [-2] := by
  show Kv414Neutral.row (Abs.does ⟨n, []⟩ (.square i j)).2 = _
  unfold Abs.does
  dsimp only
  rw [if_pos (no_or h)]
  rfl
theorem square_yes (h1 : n.l[i]? = some e) (h2 : n.l[j]? = some d) : ans n (cOf 12 [(i : Int), (j : Int)]) = [0, (d.t - e.t) * (d.t - e.t) - (d.x - e.x) * (d.x - e.x)] := by
  show Kv414Neutral.row (Abs.does ⟨n, []⟩ (.square i j)).2 = _
  unfold Abs.does
  dsimp only
  rw [if_neg (no_nor h1 h2), at_eq h1, at_eq h2, ← square_is e d]
  rfl
theorem sooner_no (h : ¬ (i < n.l.length ∧ j < n.l.length)) : ans n (cOf 13 [(i : Int), (j : Int)]) = [-2] := by
  show Kv414Neutral.row (Abs.does ⟨n, []⟩ (.sooner i j)).2 = _
  unfold Abs.does
  dsimp only
  rw [if_pos (no_or h)]
  rfl
theorem sooner_yes (ok : NowOk n) (h1 : n.l[i]? = some e) (h2 : n.l[j]? = some d) : ans n (cOf 13 [(i : Int), (j : Int)]) = [leadI (lowN (tN n.k.p n.k.q (d.t - e.t) (d.x - e.x)) (2 * n.k.p * n.k.q))] := by
  show Kv414Neutral.row (Abs.does ⟨n, []⟩ (.sooner i j)).2 = _
  unfold Abs.does
  dsimp only
  rw [if_neg (no_nor h1 h2), at_eq h1, at_eq h2, ← sooner_is ok.p0 ok.q0 e d]
  rfl
theorem ever_no (h : ¬ (i < n.l.length ∧ j < n.l.length)) : ans n (cOf 14 [(i : Int), (j : Int)]) = [-2] := by
  show Kv414Neutral.row (Abs.does ⟨n, []⟩ (.ever i j)).2 = _
  unfold Abs.does
  dsimp only
  rw [if_pos (no_or h)]
  rfl
theorem ever_yes (h1 : n.l[i]? = some e) (h2 : n.l[j]? = some d) : ans n (cOf 14 [(i : Int), (j : Int)]) = [everI ((d.t - e.t) - (d.x - e.x)) ((d.t - e.t) + (d.x - e.x))] := by
  show Kv414Neutral.row (Abs.does ⟨n, []⟩ (.ever i j)).2 = _
  unfold Abs.does
  dsimp only
  rw [if_neg (no_nor h1 h2), at_eq h1, at_eq h2, ← ever_is e d]
  rfl
theorem sameat_no (h : ¬ (i < n.l.length ∧ j < n.l.length)) : ans n (cOf 15 [(i : Int), (j : Int), (p : Int), (q : Int)]) = [-2] := by
  show Kv414Neutral.row (Abs.does ⟨n, []⟩ (.sameat i j p q)).2 = _
  unfold Abs.does
  dsimp only
  rw [if_pos (no_or h)]
  rfl
theorem sameat_bad (h1 : n.l[i]? = some e) (h2 : n.l[j]? = some d) (c : okF p q = false) : ans n (cOf 15 [(i : Int), (j : Int), (p : Int), (q : Int)]) = [-22] := by
  show Kv414Neutral.row (Abs.does ⟨n, []⟩ (.sameat i j p q)).2 = _
  unfold Abs.does
  dsimp only
  rw [if_neg (no_nor h1 h2), if_pos c]
  rfl
theorem okF_in (c : okF p q = true) : 1 ≤ p ∧ p ≤ 9 ∧ 1 ≤ q ∧ q ≤ 9 := by
  unfold okF at c
  simp only [Bool.and_eq_true, decide_eq_true_eq] at c
  omega
theorem nf {b : Bool} (c : b = true) : ¬ b = false := by rw [c]; decide
theorem sameat_yes (h1 : n.l[i]? = some e) (h2 : n.l[j]? = some d) (c : okF p q = true) :
    ans n (cOf 15 [(i : Int), (j : Int), (p : Int), (q : Int)]) = [if lowN (tN p q (d.t - e.t) (d.x - e.x)) (2 * p * q) = 0 then 1 else 0] := by
  show Kv414Neutral.row (Abs.does ⟨n, []⟩ (.sameat i j p q)).2 = _
  have z := okF_in c
  unfold Abs.does
  dsimp only
  rw [if_neg (no_nor h1 h2), if_neg (nf c), at_eq h1, at_eq h2, ← sameat_is (k := ⟨p, q⟩) (by show 0 < p; omega) (by show 0 < q; omega) e d]
  rfl
theorem faster_no (h : ¬ (okF p q = true ∧ okF r s = true)) : ans n (cOf 16 [(p : Int), (q : Int), (r : Int), (s : Int)]) = [-22] := by
  show Kv414Neutral.row (Abs.does ⟨n, []⟩ (.faster p q r s)).2 = _
  unfold Abs.does
  dsimp only
  rw [if_pos (by
    cases c1 : okF p q with
    | false => exact .inl rfl
    | true =>
      cases c2 : okF r s with
      | false => exact .inr rfl
      | true => exact absurd ⟨c1, c2⟩ h)]
  rfl
theorem faster_yes (c1 : okF p q = true) (c2 : okF r s = true) : ans n (cOf 16 [(p : Int), (q : Int), (r : Int), (s : Int)]) =
    0 :: (speed2 (lowN (lowN r s * p) (lowD r s * q)) (lowD (lowN r s * p) (lowD r s * q)) ++ speed2 (lowN (lowN r s * q) (lowD r s * p)) (lowD (lowN r s * q) (lowD r s * p))) := by
  show Kv414Neutral.row (Abs.does ⟨n, []⟩ (.faster p q r s)).2 = _
  have z1 := okF_in c1
  have z2 := okF_in c2
  unfold Abs.does
  dsimp only
  rw [if_neg (fun z => z.elim (nf c1) (nf c2))]
  have e1 : (Factor.put ⟨p, q⟩ ⟨r, s⟩).speed.told = _ := faster_is (p := p) (q := q) (r := r) (s := s) (by omega) (by omega) (by omega) (by omega) ⟨p * r, q * s⟩ rfl
  have e2 : (Factor.put ⟨r, s⟩ (Factor.back ⟨p, q⟩)).speed.told = _ := faster_is (p := q) (q := p) (r := r) (s := s) (by omega) (by omega) (by omega) (by omega) ⟨r * q, s * p⟩ (by rw [Nat.mul_comm r q, Nat.mul_comm s p])
  rw [e1, e2]
  rfl
/-! ### ways -/
theorem way_no (h : ¬ w < 2) : ans n (cOf 17 [(w : Int)]) = [-2] := by
  show Kv414Neutral.row (Abs.does ⟨n, []⟩ (.way w)).2 = _
  unfold Abs.does
  dsimp only
  rw [if_pos (by omega)]
  rfl
theorem way_yes (h : w < 2) : ans n (cOf 17 [(w : Int)]) = ((n.way w).length : Int) :: (n.way w).flatMap fun g => [(g.k.p : Int), (g.k.q : Int), (g.s : Int)] := by
  show Kv414Neutral.row (Abs.does ⟨n, []⟩ (.way w)).2 = _
  unfold Abs.does
  dsimp only
  rw [if_neg (by omega)]
  rfl
theorem end_no (h : ¬ w < 2) : ans n (cOf 18 [(w : Int)]) = [-2] := by
  show Kv414Neutral.row (Abs.does ⟨n, []⟩ (.end_ w)).2 = _
  unfold Abs.does
  dsimp only
  rw [if_pos (by omega)]
  rfl
/-- when and where, from what was reckoned -/
theorem half_is {x : Q} {a b N D : Int} (h : Is x N D) (ha : a = lowN N D) (hb : b = lowD N D) : (x.mul ⟨1, 2⟩).told = [lowN a (2 * b), lowD a (2 * b)] := by
  have i1 := is_mul (is_low h) (is_mk (n := 1) (d := 2) (by decide))
  rw [← ha, ← hb] at i1
  have i2 : Is (x.mul ⟨1, 2⟩) a (2 * b) := by
    refine is_conv i1 (by have := i1.2.1; omega) ?_
    show a * 1 * (2 * b) = a * (b * ((2 : Nat) : Int))
    rw [Int.mul_one, Int.mul_comm 2 b]
    rfl
  exact is_told i2
theorem end_yes {N1 D1 N2 D2 : Int} (h : w < 2) (u : Is (goU (n.way w)) N1 D1) (v : Is (goV (n.way w)) N2 D2) : ans n (cOf 18 [(w : Int)]) =
    0 :: ([lowN (lowN (N2 * D1 + N1 * D2) (D2 * D1)) (2 * lowD (N2 * D1 + N1 * D2) (D2 * D1)), lowD (lowN (N2 * D1 + N1 * D2) (D2 * D1)) (2 * lowD (N2 * D1 + N1 * D2) (D2 * D1))] ++
      [lowN (lowN (N2 * D1 + -N1 * D2) (D2 * D1)) (2 * lowD (N2 * D1 + -N1 * D2) (D2 * D1)), lowD (lowN (N2 * D1 + -N1 * D2) (D2 * D1)) (2 * lowD (N2 * D1 + -N1 * D2) (D2 * D1))]) := by
  show Kv414Neutral.row (Abs.does ⟨n, []⟩ (.end_ w)).2 = _
  unfold Abs.does
  dsimp only
  rw [if_neg (by omega)]
  have i1 : Is ((goU (n.way w)).add (goV (n.way w))) (N2 * D1 + N1 * D2) (D2 * D1) := by
    have z := is_add u v
    rw [Int.add_comm (N1 * D2), Int.mul_comm D1 D2] at z
    exact z
  have i2 : Is ((goV (n.way w)).sub (goU (n.way w))) (N2 * D1 + -N1 * D2) (D2 * D1) := by
    have z := is_sub v u
    rw [Int.sub_eq_add_neg, ← Int.neg_mul] at z
    exact z
  have e1 := half_is i1 rfl rfl
  have e2 := half_is i2 rfl rfl
  rw [e1, e2]
  rfl
theorem shows_no (h : ¬ w < 2) : ans n (cOf 19 [(w : Int)]) = [-2] := by
  show Kv414Neutral.row (Abs.does ⟨n, []⟩ (.shows w)).2 = _
  unfold Abs.does
  dsimp only
  rw [if_pos (by omega)]
  rfl
theorem shows_yes (h : w < 2) : ans n (cOf 19 [(w : Int)]) = [(Kv414.shows (n.way w) : Int)] := by
  show Kv414Neutral.row (Abs.does ⟨n, []⟩ (.shows w)).2 = _
  unfold Abs.does
  dsimp only
  rw [if_neg (by omega)]
  rfl
theorem straight_no (h : ¬ w < 2) : ans n (cOf 20 [(w : Int)]) = [-2] := by
  show Kv414Neutral.row (Abs.does ⟨n, []⟩ (.straight w)).2 = _
  unfold Abs.does
  dsimp only
  rw [if_pos (by omega)]
  rfl
theorem straight_yes {N1 D1 N2 D2 : Int} (h : w < 2) (u : Is (goU (n.way w)) N1 D1) (v : Is (goV (n.way w)) N2 D2) : ans n (cOf 20 [(w : Int)]) = [0, lowN (N1 * N2) (D1 * D2), lowD (N1 * N2) (D1 * D2)] := by
  show Kv414Neutral.row (Abs.does ⟨n, []⟩ (.straight w)).2 = _
  unfold Abs.does
  dsimp only
  rw [if_neg (by omega)]
  have e1 : (Kv414.straight (n.way w)).told = _ := is_told (is_mul u v)
  rw [e1]
  rfl
/-- how the ends lie to one another -/
def meetI (N1 D1 N2 D2 N3 D3 N4 D4 : Int) : Int := hearI (lowN (N3 * D1 + -N1 * D3) (D3 * D1)) (lowN (N4 * D2 + -N2 * D4) (D4 * D2))
section
variable {N1 D1 N2 D2 N3 D3 N4 D4 : Int}
theorem low_sgn {n d : Int} (h : 0 < d) : (lowN n d = 0 ↔ n = 0) ∧ (0 ≤ lowN n d ↔ 0 ≤ n) ∧ (lowN n d ≤ 0 ↔ n ≤ 0) := by
  obtain ⟨s1, s2⟩ := low_sign (n := n) h
  exact ⟨s1, by omega, by omega⟩
theorem meet_yes (u1 : Is (goU n.a) N1 D1) (v1 : Is (goV n.a) N2 D2) (u2 : Is (goU n.b) N3 D3) (v2 : Is (goV n.b) N4 D4) : ans n (cOf 22 []) = [meetI N1 D1 N2 D2 N3 D3 N4 D4] := by
  show Kv414Neutral.row (Abs.does ⟨n, []⟩ .meet).2 = _
  unfold Abs.does
  dsimp only
  obtain ⟨a1, a2, a3⟩ := is_sign (is_sub u2 u1)
  obtain ⟨b1, b2, b3⟩ := is_sign (is_sub v2 v1)
  obtain ⟨c1, c2, c3⟩ := low_sgn (n := N3 * D1 + -N1 * D3) (d := D3 * D1) (Int.mul_pos u2.2.1 u1.2.1)
  obtain ⟨d1, d2, d3⟩ := low_sgn (n := N4 * D2 + -N2 * D4) (d := D4 * D2) (Int.mul_pos v2.2.1 v1.2.1)
  have f1 : N3 * D1 + -N1 * D3 = N3 * D1 - N1 * D3 := by rw [Int.neg_mul]; omega
  have f2 : N4 * D2 + -N2 * D4 = N4 * D2 - N2 * D4 := by rw [Int.neg_mul]; omega
  rw [f1] at c1 c2 c3
  rw [f2] at d1 d2 d3
  unfold meetI hearI
  rw [f1, f2]
  simp only [c1, c2, c3, d1, d2, d3, a1, a2, a3, b1, b2, b3]
  show [((if _ then 0 else _ : Nat) : Int)] = _
  congr 1
  (repeat' split) <;> rfl
theorem older_yes (u1 : Is (goU n.a) N1 D1) (v1 : Is (goV n.a) N2 D2) (u2 : Is (goU n.b) N3 D3) (v2 : Is (goV n.b) N4 D4) :
    ans n (cOf 21 []) = if meetI N1 D1 N2 D2 N3 D3 N4 D4 = 0 then [leadI ((Kv414.shows n.a : Int) - (Kv414.shows n.b : Int))] else [-33] := by
  show Kv414Neutral.row (Abs.does ⟨n, []⟩ .older).2 = _
  unfold Abs.does
  dsimp only
  obtain ⟨c1, c2, c3⟩ := low_sgn (n := N3 * D1 + -N1 * D3) (d := D3 * D1) (Int.mul_pos u2.2.1 u1.2.1)
  obtain ⟨d1, d2, d3⟩ := low_sgn (n := N4 * D2 + -N2 * D4) (d := D4 * D2) (Int.mul_pos v2.2.1 v1.2.1)
  have f1 : N3 * D1 + -N1 * D3 = N3 * D1 - N1 * D3 := by rw [Int.neg_mul]; omega
  have f2 : N4 * D2 + -N2 * D4 = N4 * D2 - N2 * D4 := by rw [Int.neg_mul]; omega
  rw [f1] at c1 c2 c3
  rw [f2] at d1 d2 d3
  rw [is_eq u1 u2, is_eq v1 v2]
  have m : meetI N1 D1 N2 D2 N3 D3 N4 D4 = 0 ↔ (N1 * D3 = N3 * D1 ∧ N2 * D4 = N4 * D2) := by
    unfold meetI hearI
    rw [f1, f2]
    simp only [c1, c2, c3, d1, d2, d3]
    constructor
    · intro z
      split at z
      · omega
      · split at z
        · omega
        · split at z <;> omega
    · intro z
      rw [if_pos (by omega)]
  by_cases c : N1 * D3 = N3 * D1 ∧ N2 * D4 = N4 * D2
  · rw [if_pos (by rw [decide_eq_true c.1, decide_eq_true c.2]; rfl), if_pos (m.mpr c)]
    show [((if _ then 1 else _ : Nat) : Int)] = _
    congr 1
    unfold leadI
    (repeat' split) <;> omega
  · rw [if_neg (by
      intro z
      rw [Bool.and_eq_true, decide_eq_true_eq, decide_eq_true_eq] at z
      exact c z), if_neg (fun z => c (m.mp z))]
    rfl
end
end
end MC
/-! What each change is answered, and what is then, by the Spec. -/
namespace MC
open Kv414
open Kv413 (Event)
section
variable {n : Now} {i j p q s w : Nat} {t x : Int}
theorem put_bad (h : ¬ (ok t = true ∧ ok x = true)) : ans n (cOf 1 [t, x]) = [-22] ∧ nxt n (cOf 1 [t, x]) = n := by
  show Kv414Neutral.row (Abs.does ⟨n, []⟩ (.put t x)).2 = _ ∧ (Abs.does ⟨n, []⟩ (.put t x)).1.now = n
  unfold Abs.does
  dsimp only
  rw [if_pos (by
    cases c1 : ok t with
    | false => exact .inl rfl
    | true =>
      cases c2 : ok x with
      | false => exact .inr rfl
      | true => exact absurd ⟨c1, c2⟩ h)]
  exact ⟨rfl, rfl⟩
theorem put_full (h1 : ok t = true) (h2 : ok x = true) (h : 8 ≤ n.l.length) : ans n (cOf 1 [t, x]) = [-28] ∧ nxt n (cOf 1 [t, x]) = n := by
  show Kv414Neutral.row (Abs.does ⟨n, []⟩ (.put t x)).2 = _ ∧ (Abs.does ⟨n, []⟩ (.put t x)).1.now = n
  unfold Abs.does
  dsimp only
  rw [if_neg (fun z => z.elim (nf h1) (nf h2)), if_pos h]
  exact ⟨rfl, rfl⟩
theorem put_yes (h1 : ok t = true) (h2 : ok x = true) (h : ¬ 8 ≤ n.l.length) : ans n (cOf 1 [t, x]) = [(n.l.length : Int)] ∧ nxt n (cOf 1 [t, x]) = { n with l := n.l ++ [⟨t, x⟩] } := by
  show Kv414Neutral.row (Abs.does ⟨n, []⟩ (.put t x)).2 = _ ∧ (Abs.does ⟨n, []⟩ (.put t x)).1.now = _
  unfold Abs.does
  dsimp only
  rw [if_neg (fun z => z.elim (nf h1) (nf h2)), if_neg h]
  exact ⟨rfl, rfl⟩
theorem put_ok (o : NowOk n) (h1 : ok t = true) (h2 : ok x = true) (h : ¬ 8 ≤ n.l.length) : NowOk { n with l := n.l ++ [⟨t, x⟩] } := by
  unfold ok at h1 h2
  simp only [Bool.and_eq_true, decide_eq_true_eq] at h1 h2
  refine ⟨fun e he => ?_, ?_, o.p0, o.p1, o.q0, o.q1, o.ga, o.gb, o.la, o.lb⟩
  · rcases List.mem_append.mp he with z | z
    · exact o.ev e z
    · rw [List.mem_singleton.mp z]
      exact ⟨h1.1, h1.2, h2.1, h2.2⟩
  · rw [List.length_append]
    show n.l.length + 1 ≤ 8
    omega
theorem drop_no (h : ¬ i < n.l.length) : ans n (cOf 2 [(i : Int)]) = [-2] ∧ nxt n (cOf 2 [(i : Int)]) = n := by
  show Kv414Neutral.row (Abs.does ⟨n, []⟩ (.drop i)).2 = _ ∧ (Abs.does ⟨n, []⟩ (.drop i)).1.now = _
  unfold Abs.does
  dsimp only
  rw [if_pos (no_yes h)]
  exact ⟨rfl, rfl⟩
theorem drop_yes (h : i < n.l.length) : ans n (cOf 2 [(i : Int)]) = [((n.l.length - 1 : Nat) : Int)] ∧ nxt n (cOf 2 [(i : Int)]) = { n with l := n.l.eraseIdx i } := by
  show Kv414Neutral.row (Abs.does ⟨n, []⟩ (.drop i)).2 = _ ∧ (Abs.does ⟨n, []⟩ (.drop i)).1.now = _
  unfold Abs.does
  dsimp only
  rw [if_neg (no_not (List.getElem?_eq_getElem h))]
  exact ⟨rfl, rfl⟩
theorem drop_ok (o : NowOk n) : NowOk { n with l := n.l.eraseIdx i } := by
  refine ⟨fun e he => o.ev e (List.mem_of_mem_eraseIdx he), ?_, o.p0, o.p1, o.q0, o.q1, o.ga, o.gb, o.la, o.lb⟩
  show (n.l.eraseIdx i).length ≤ 8
  have := List.length_eraseIdx_le n.l i
  have := o.le
  omega
theorem move_bad (h : okF p q = false) : ans n (cOf 3 [(p : Int), (q : Int)]) = [-22] ∧ nxt n (cOf 3 [(p : Int), (q : Int)]) = n := by
  show Kv414Neutral.row (Abs.does ⟨n, []⟩ (.move p q)).2 = _ ∧ (Abs.does ⟨n, []⟩ (.move p q)).1.now = _
  unfold Abs.does
  dsimp only
  rw [if_pos h]
  exact ⟨rfl, rfl⟩
theorem move_yes (h : okF p q = true) : ans n (cOf 3 [(p : Int), (q : Int)]) = [0] ∧ nxt n (cOf 3 [(p : Int), (q : Int)]) = { n with k := Factor.red ⟨p, q⟩ } := by
  show Kv414Neutral.row (Abs.does ⟨n, []⟩ (.move p q)).2 = _ ∧ (Abs.does ⟨n, []⟩ (.move p q)).1.now = _
  unfold Abs.does
  dsimp only
  rw [if_neg (nf h)]
  exact ⟨rfl, rfl⟩
theorem red9 (h : okF p q = true) : (1 ≤ (Factor.red ⟨p, q⟩).p ∧ (Factor.red ⟨p, q⟩).p ≤ 9) ∧ (1 ≤ (Factor.red ⟨p, q⟩).q ∧ (Factor.red ⟨p, q⟩).q ≤ 9) := by
  have z := okF_in h
  obtain ⟨e1, e2⟩ := facred (k := ⟨p, q⟩)
  have a1 := lowN_pos (n := (p : Int)) (d := q) (by omega) (by omega)
  have a2 := lowD_pos (n := (p : Int)) (d := q) (by omega)
  obtain ⟨a3, a4⟩ := low_le (n := (p : Int)) (d := q) (by omega) (by omega)
  dsimp only at e1 e2
  omega
theorem k_ok (o : NowOk n) {k : Factor} (h : (1 ≤ k.p ∧ k.p ≤ 999) ∧ (1 ≤ k.q ∧ k.q ≤ 999)) : NowOk { n with k := k } :=
  ⟨o.ev, o.le, h.1.1, h.1.2, h.2.1, h.2.2, o.ga, o.gb, o.la, o.lb⟩
theorem more_bad (h : okF p q = false) : ans n (cOf 4 [(p : Int), (q : Int)]) = [-22] ∧ nxt n (cOf 4 [(p : Int), (q : Int)]) = n := by
  show Kv414Neutral.row (Abs.does ⟨n, []⟩ (.more p q)).2 = _ ∧ (Abs.does ⟨n, []⟩ (.more p q)).1.now = _
  unfold Abs.does
  dsimp only
  rw [if_pos h]
  exact ⟨rfl, rfl⟩
theorem more_great (h : okF p q = true) (g : 999 < (n.k.put ⟨p, q⟩).p ∨ 999 < (n.k.put ⟨p, q⟩).q) : ans n (cOf 4 [(p : Int), (q : Int)]) = [-75] ∧ nxt n (cOf 4 [(p : Int), (q : Int)]) = n := by
  show Kv414Neutral.row (Abs.does ⟨n, []⟩ (.more p q)).2 = _ ∧ (Abs.does ⟨n, []⟩ (.more p q)).1.now = _
  unfold Abs.does
  dsimp only
  rw [if_neg (nf h), if_pos g]
  exact ⟨rfl, rfl⟩
theorem more_yes (h : okF p q = true) (g : ¬ (999 < (n.k.put ⟨p, q⟩).p ∨ 999 < (n.k.put ⟨p, q⟩).q)) :
    ans n (cOf 4 [(p : Int), (q : Int)]) = [0, ((n.k.put ⟨p, q⟩).p : Int), ((n.k.put ⟨p, q⟩).q : Int)] ∧ nxt n (cOf 4 [(p : Int), (q : Int)]) = { n with k := n.k.put ⟨p, q⟩ } := by
  show Kv414Neutral.row (Abs.does ⟨n, []⟩ (.more p q)).2 = _ ∧ (Abs.does ⟨n, []⟩ (.more p q)).1.now = _
  unfold Abs.does
  dsimp only
  rw [if_neg (nf h), if_neg g]
  exact ⟨rfl, rfl⟩
theorem put_low (k : Factor) : ((k.put ⟨p, q⟩).p : Int) = lowN (k.p * p) (k.q * q) ∧ ((k.put ⟨p, q⟩).q : Int) = lowD (k.p * p) (k.q * q) := by
  have e := facred (k := ⟨k.p * p, k.q * q⟩)
  dsimp only at e
  rw [Int.natCast_mul, Int.natCast_mul] at e
  exact e
theorem put_pos (o : NowOk n) (h : okF p q = true) : 1 ≤ (n.k.put ⟨p, q⟩).p ∧ 1 ≤ (n.k.put ⟨p, q⟩).q := by
  have z := okF_in h
  exact red_pos (k := ⟨n.k.p * p, n.k.q * q⟩) (Nat.mul_pos o.p0 (by omega)) (Nat.mul_pos o.q0 (by omega))
/-! ### legs -/
def setWay (n : Now) (w : Nat) (l : List Leg) : Now := if w = 0 then { n with a := l } else { n with b := l }
theorem leg_no (h : ¬ w < 2) : ans n (cOf 5 [(w : Int), (p : Int), (q : Int), (s : Int)]) = [-2] ∧ nxt n (cOf 5 [(w : Int), (p : Int), (q : Int), (s : Int)]) = n := by
  show Kv414Neutral.row (Abs.does ⟨n, []⟩ (.leg w p q s)).2 = _ ∧ (Abs.does ⟨n, []⟩ (.leg w p q s)).1.now = _
  unfold Abs.does
  dsimp only
  rw [if_pos (by omega)]
  exact ⟨rfl, rfl⟩
theorem leg_bad (h : w < 2) (b : ¬ (okF p q = true ∧ (1 ≤ s ∧ s ≤ 99))) : ans n (cOf 5 [(w : Int), (p : Int), (q : Int), (s : Int)]) = [-22] ∧ nxt n (cOf 5 [(w : Int), (p : Int), (q : Int), (s : Int)]) = n := by
  show Kv414Neutral.row (Abs.does ⟨n, []⟩ (.leg w p q s)).2 = _ ∧ (Abs.does ⟨n, []⟩ (.leg w p q s)).1.now = _
  unfold Abs.does
  dsimp only
  rw [if_neg (by omega), if_pos (by
    cases c1 : okF p q with
    | false => exact .inl rfl
    | true =>
      have : ¬ (1 ≤ s ∧ s ≤ 99) := fun z => b ⟨c1, z⟩
      omega)]
  exact ⟨rfl, rfl⟩
theorem leg_full (h : w < 2) (b : okF p q = true) (c : 1 ≤ s ∧ s ≤ 99) (f : 6 ≤ (n.way w).length) : ans n (cOf 5 [(w : Int), (p : Int), (q : Int), (s : Int)]) = [-28] ∧ nxt n (cOf 5 [(w : Int), (p : Int), (q : Int), (s : Int)]) = n := by
  show Kv414Neutral.row (Abs.does ⟨n, []⟩ (.leg w p q s)).2 = _ ∧ (Abs.does ⟨n, []⟩ (.leg w p q s)).1.now = _
  unfold Abs.does
  dsimp only
  rw [if_neg (by omega), if_neg (fun z => z.elim (nf b) (fun z => by omega)), if_pos f]
  exact ⟨rfl, rfl⟩
theorem leg_yes (h : w < 2) (b : okF p q = true) (c : 1 ≤ s ∧ s ≤ 99) (f : ¬ 6 ≤ (n.way w).length) : ans n (cOf 5 [(w : Int), (p : Int), (q : Int), (s : Int)]) = [((n.way w).length : Int)] ∧
    nxt n (cOf 5 [(w : Int), (p : Int), (q : Int), (s : Int)]) = setWay n w (n.way w ++ [⟨Factor.red ⟨p, q⟩, s⟩]) := by
  show Kv414Neutral.row (Abs.does ⟨n, []⟩ (.leg w p q s)).2 = _ ∧ (Abs.does ⟨n, []⟩ (.leg w p q s)).1.now = _
  unfold Abs.does
  dsimp only
  rw [if_neg (by omega), if_neg (fun z => z.elim (nf b) (fun z => by omega)), if_neg f]
  refine ⟨rfl, ?_⟩
  unfold setWay Now.way
  by_cases c : w = 0
  · subst c; rfl
  · show (if w = 0 then _ else _) = _
    rw [if_neg c, if_neg c, if_neg c]
theorem way_ok (o : NowOk n) (w : Nat) : (∀ g ∈ n.way w, LegOk g) ∧ (n.way w).length ≤ 6 := by
  unfold Now.way
  split
  · exact ⟨o.ga, o.la⟩
  · exact ⟨o.gb, o.lb⟩
theorem set_ok (o : NowOk n) {l : List Leg} (h : ∀ g ∈ l, LegOk g) (hl : l.length ≤ 6) (w : Nat) : NowOk (setWay n w l) := by
  unfold setWay
  split
  · exact ⟨o.ev, o.le, o.p0, o.p1, o.q0, o.q1, h, o.gb, hl, o.lb⟩
  · exact ⟨o.ev, o.le, o.p0, o.p1, o.q0, o.q1, o.ga, h, o.la, hl⟩
theorem leg_ok (o : NowOk n) (b : okF p q = true) (c : 1 ≤ s ∧ s ≤ 99) (f : ¬ 6 ≤ (n.way w).length) : NowOk (setWay n w (n.way w ++ [⟨Factor.red ⟨p, q⟩, s⟩])) := by
  refine set_ok o (fun g hg => ?_) ?_ w
  · rcases List.mem_append.mp hg with z | z
    · exact (way_ok o w).1 g z
    · rw [List.mem_singleton.mp z]
      have r := red9 b
      exact ⟨r.1.1, r.1.2, r.2.1, r.2.2, c.1, c.2⟩
  · rw [List.length_append]
    show (n.way w).length + 1 ≤ 6
    omega
theorem unleg_no (h : ¬ w < 2) : ans n (cOf 6 [(w : Int)]) = [-2] ∧ nxt n (cOf 6 [(w : Int)]) = n := by
  show Kv414Neutral.row (Abs.does ⟨n, []⟩ (.unleg w)).2 = _ ∧ (Abs.does ⟨n, []⟩ (.unleg w)).1.now = _
  unfold Abs.does
  dsimp only
  rw [if_pos (by omega)]
  exact ⟨rfl, rfl⟩
theorem unleg_none (h : w < 2) (f : n.way w = []) : ans n (cOf 6 [(w : Int)]) = [-6] ∧ nxt n (cOf 6 [(w : Int)]) = n := by
  show Kv414Neutral.row (Abs.does ⟨n, []⟩ (.unleg w)).2 = _ ∧ (Abs.does ⟨n, []⟩ (.unleg w)).1.now = _
  unfold Abs.does
  dsimp only
  rw [if_neg (by omega), if_pos (by rw [f]; rfl)]
  exact ⟨rfl, rfl⟩
theorem unleg_yes (h : w < 2) (f : n.way w ≠ []) : ans n (cOf 6 [(w : Int)]) = [(((n.way w).length - 1 : Nat) : Int)] ∧ nxt n (cOf 6 [(w : Int)]) = setWay n w (n.way w).dropLast := by
  show Kv414Neutral.row (Abs.does ⟨n, []⟩ (.unleg w)).2 = _ ∧ (Abs.does ⟨n, []⟩ (.unleg w)).1.now = _
  unfold Abs.does
  dsimp only
  rw [if_neg (by omega), if_neg (fun z => f (List.isEmpty_iff.mp z))]
  refine ⟨rfl, ?_⟩
  unfold setWay Now.way
  by_cases c : w = 0
  · subst c; rfl
  · show (if w = 0 then _ else _) = _
    rw [if_neg c, if_neg c, if_neg c]
theorem unleg_ok (o : NowOk n) : NowOk (setWay n w (n.way w).dropLast) := by
  refine set_ok o (fun g hg => (way_ok o w).1 g ((List.dropLast_sublist _).subset hg)) ?_ w
  have := (way_ok o w).2
  rw [List.length_dropLast]
  omega
end
end MC
/-! Rules that the layer lacks: the call of an expression that gives a def; a dict of the top with int keys; extend by a tuple. -/
namespace MC
open PySem PySem.Spec PyProof.Rows L2
/-! ### f(e, ..), f an expression that gives one of several defs: the promise goes with the address -/
structure Heldf (P : Program) (w : World) (K : PySem.W.Frag) (mg : Str → Option Value) (base : Heap) (k : Nat) (f : Addr) (sp : Sp) : Prop where
  ex : ∃ (fd : FuncData) (ps : List Str), FnOk P w K mg base (fun _ _ _ _ _ _ => False) k f fd ps sp ∧ PySem.W.keepIn K (.ref f) = true ∧ Binds K fd ps []
def tCallE (S : Addr → Sp → Prop) (tf : TE) (t : TA) : TE := fun σ H Q => tf σ H fun y H1 => ∃ f sp, y = V.ref f ∧ S f sp ∧ t σ H1 fun vs H2 => sp vs H2 Q (fun _ _ _ => False)
section
variable {X : Cx} {k : Nat} {e fe : Expr} {es : List Expr} {tf : TE} {t : TA} {pos : Pos}
theorem pe_callE {S : Addr → Sp → Prop} (hf : PE X fe tf) (A : ∀ f sp, S f sp → Heldf X.prog X.w X.K X.mg X.base k f sp) (hr : Room k X.A) (ha : PA X (e :: es) t)
    (ht : eval (.Call fe (e :: es) [] pos) X.env = (do callWith pos (← eval fe X.env) [] (backTo pos (starEach (e :: es) X.env)) (backToKw pos (keywordEach [] X.env))) := by rfl)
    (he : starEach (e :: es) X.env = (false, eval e X.env) :: starEach es X.env := by rfl) (hpl : (backTo pos (starEach es X.env)).any (·.1) = false := by rfl) : PE X (.Call fe (e :: es) [] pos) (tCallE S tf t) := by
  refine ⟨fun pins s σ H Q I h => ?_⟩
  refine Call_ (thn (hf.run pins s σ H _ I h) fun u s1 ⟨y, H1, I1, ry, f, sp, ey, hS, q⟩ => ?_) ht
  subst ey
  obtain rfl : u = Value.ref f := ry
  obtain ⟨fd, ps, F, hk, hb⟩ := (A f sp hS).ex
  refine PySem.W.callWith_K (h₀ := X.base) I.ok.mod.kin hk (thn (ha.run pos pins s1 σ _ _ I1 q) fun us s2 ⟨vs, H2, I2, r, q2⟩ => ⟨I2.kIn, ?_⟩) he hpl
  refine run_fn (E := fun _ _ _ => False) (dvs := []) (ds := []) F hr hb .nil (fun _ _ _ _ _ _ _ z => z.elim) I2 r ?_
  rw [List.append_nil]
  exact q2
end
/-! ### a dict of the top with int keys -/
def entI (e : DictEntry) : Int × Int × Value := match e.key with
  | .int k _ => (k, e.hash, e.val)
  | _ => (0, -1, e.val)
/-- at d: a written dict of these pairs -/
structure KDI (K : PySem.W.Frag) (d : Addr) (kvs : List (Int × Value)) : Prop where
  ex : ∃ es n, K.lookup d = some ⟨.type "dict", none, .dict es n, #[]⟩ ∧ es.toList.map entI = kvs.map fun p => (p.1, hashInt p.1, p.2)
  low : (d == sysModules) = false
theorem entI_key {e : DictEntry} {k : Int} {v : Value} (h : entI e = (k, hashInt k, v)) : (∃ t, e.key = .int k t) ∧ e.hash = hashInt k ∧ e.val = v := by
  unfold entI at h
  split at h
  · rename_i j t hk
    obtain ⟨h1, h2⟩ := Prod.mk.inj h
    obtain ⟨h2, h3⟩ := Prod.mk.inj h2
    subst h1
    exact ⟨⟨t, hk⟩, h2, h3⟩
  · obtain ⟨h1, h2⟩ := Prod.mk.inj h
    obtain ⟨h2, h3⟩ := Prod.mk.inj h2
    subst h1
    exact absurd h2 (by decide)
def getI (k : Int) : List (Int × Value) → Option Value
  | [] => none
  | (j, v) :: r => if j = k then some v else getI k r
theorem find_ints (k : Int) : ∀ (l : List DictEntry) (kvs : List (Int × Value)), l.map entI = kvs.map (fun p => (p.1, hashInt p.1, p.2)) → (l.find? fun e => Value.isInt k e.key).map (·.val) = getI k kvs
  | [], [], _ => rfl
  | [], _ :: _, h => by cases h
  | _ :: _, [], h => by cases h
  | e :: l, (j, v) :: kvs, h => by
    obtain ⟨h1, h2⟩ := List.cons.inj h
    obtain ⟨⟨t, e1⟩, _, e3⟩ := entI_key h1
    have ih := find_ints k l kvs h2
    have ek : Value.isInt k e.key = decide (j = k) := by
      rw [e1]
      show (j == k) = decide (j = k)
      by_cases c : j = k
      · subst c; simp
      · rw [decide_eq_false c]; exact beq_eq_false_iff_ne.mpr c
    unfold getI
    by_cases c : j = k
    · rw [if_pos c, List.find?_cons_of_pos (by rw [ek]; exact decide_eq_true c)]
      show some e.val = some v
      rw [e3]
    · rw [if_neg c, List.find?_cons_of_neg (by rw [ek, decide_eq_false c]; exact Bool.false_ne_true)]
      exact ih
section
variable {X : Cx} {d : Addr} {kvs : List (Int × Value)}
theorem KDI.map {h : Heap} {K : PySem.W.Frag} {prog : Program} {w : World} (D : KDI K d kvs) (Y : K.In h) : h.MapOf (intKind prog w) d (fun k => getI k kvs) := by
  obtain ⟨es, n, hl, he⟩ := D.ex
  refine ⟨_, es, n, Y _ _ hl, ⟨rfl, rfl, rfl⟩, rfl, fun e hm => ?_, fun k => ?_⟩
  · have hm' : entI e ∈ es.toList.map entI := List.mem_map.mpr ⟨e, Array.mem_toList_iff.mpr hm, rfl⟩
    rw [he] at hm'
    obtain ⟨p, _, hp⟩ := List.mem_map.mp hm'
    obtain ⟨⟨t, e1⟩, e2, _⟩ := entI_key hp.symm
    exact ⟨p.1, by rw [e1]; exact intKind_is prog w p.1 t, e2⟩
  · obtain ⟨l⟩ := es
    show ((l.toArray).find? fun e => Value.isInt k e.key).map (·.val) = getI k kvs
    rw [List.find?_toArray]
    exact find_ints k l kvs he
/-- k in d -/
def rInI (d : Addr) (kvs : List (Int × Value)) : R2 := fun x y H Q => ∃ k : Int, x = .int k ∧ y = .ref d ∧ Q (.bl (getI k kvs).isSome) H
theorem op_inI (D : KDI X.K d kvs) : OpR X (compareOp .In) (rInI d kvs) := by
  intro pins s σ H x y v u Q I rx ry h
  obtain ⟨k, rfl, rfl, q⟩ := h
  obtain ⟨t, rfl⟩ := rx
  cases ry
  exact wpAny_in_of (intKind_is X.prog X.w k t) D.low (D.map I.kIn) ⟨.bl (getI k kvs).isSome, H, I.tok _, rfl, q⟩
/-- d[k] -/
def rIxI (d : Addr) (kvs : List (Int × Value)) : R2 := fun x y H Q => ∃ (k : Int) (u : Value) (v : V), x = .ref d ∧ y = .int k ∧ getI k kvs = some u ∧ RelV v u ∧ Q v H
theorem ix_kdi (D : KDI X.K d kvs) : IxR X (rIxI d kvs) := by
  intro value slice pins s σ H x y v u Q I rx ry h hs
  obtain ⟨k, u0, v0, rfl, rfl, e, ru, q⟩ := h
  obtain rfl : v = Value.ref d := rx
  obtain ⟨t, rfl⟩ := ry
  have hm := D.map (prog := X.prog) (w := X.w) I.kIn
  exact tail_any hm.typeIs slot_dict_getitem.lookup (wpAny_getItem_of (intKind_is X.prog X.w k t) hm e ⟨v0, H, I.tok _, ru, q⟩) hs
end
/-! ### xs.extend(t), t a tuple -/
theorem list_extend_tup (l : Addr) (items : Array Value) (n : Nat) (b : Addr) (od : Option Addr) (sl : Array (Option Value)) (items2 : Array Value) (n2 : Nat) (hs0 : ¬(!items.isEmpty && Builtin.List.listTooLong (items.size + items2.size)) = true) (hs1 : items.size ≤ sizeLine) (hs2 : items.size + items2.size ≤ sizeLine + 1) :
    Meets (Builtin.«list.extend» ⟨[.ref l, .ref b], []⟩) (fun _ R s => s.heap.get? l = some { cls := .type "list", dict := none, data := .seq items n, slots := #[] } ∧ s.heap.get? b = some { cls := .type "tuple", dict := od, data := .seq items2 n2, slots := sl } ∧ R (.ok (.ret Value.none)) { s with heap := s.heap.update l (Obj.mapSeq fun x => x ++ items2), toks := s.toks }) :=
  .of_wp fun _ _ _ _ s0 hyp => by
    obtain ⟨heap0, gens0, drawn0, toks0, os0⟩ := s0
    obtain ⟨atL, atB, fin⟩ := hyp
    have k1 := PySem.AutoSeq1.idx_int
    have k2 := PySem.AutoSeq1.sub_tuple_tuple
    have k3 := PySem.AutoSeq1.sub_list_list
    have k4 := PySem.AutoSeq1.sub_tuple_list
    have k5 := PySem.AutoSeq1.sub_list_tuple
    have big : (items ++ items2).size ≤ sizeLine + 1 := by
      rw [Array.size_append]
      exact hs2
    wp_walk using (wpAny_updateSeq atL rfl (hz := hs1) (_hz' := big)), PySem.AutoSeq1.wpAny_loadPart' atL, PySem.AutoSeq1.wpAny_loadPart' atB
    exact ⟨_, rfl, fin⟩
def rExtendT (K : PySem.W.Frag) : V → List V → Hp → VK → Prop := fun x vs H Q => ∃ l b xs zs, x = .ref l ∧ vs = [.ref b] ∧ H l = some (.lst xs) ∧ SqT K H b zs ∧ xs.length + zs.length ≤ sizeLine ∧ Q .non (upd H l (.lst (xs ++ zs)))
theorem mt_extendT {X : Cx} : MtM X "list.extend" (rExtendT X.K) := by
  intro pins s σ H x vs v us Q I rx rv h
  obtain ⟨l, b, xs, zs, rfl, rfl, hH, hB, hz, q⟩ := h
  cases rx
  obtain ⟨u, rfl, ru⟩ := rv.one
  cases ru
  obtain ⟨z, its, n, r, hl, e⟩ := I.lstM hH
  obtain ⟨its2, r2, pl, hz2⟩ := I.tuple hB
  obtain ⟨⟨oc, od, dt, sl⟩, e2, hc, n2, hd⟩ := pl
  dsimp only at hc hd
  subst hc hd
  have hl2 := r2.length
  have hsz : its.toArray.size + its2.toArray.size ≤ sizeLine := by rw [List.size_toArray, List.size_toArray]; omega
  have hlong : ¬ (!its.toArray.isEmpty && Builtin.List.listTooLong (its.toArray.size + its2.toArray.size)) = true := by
    rw [notLongL hsz, Bool.and_false]
    exact Bool.false_ne_true
  refine call_meets F.slot_list_extend ⟨_, e, rfl⟩ F.entry_list_extend (F.args_list_extend_2 _ _)
    (list_extend_tup l its.toArray n b od sl its2.toArray n2 hlong (by rw [List.size_toArray]; omega) (by omega)) ⟨e, e2, ?_⟩
  refine ⟨.non, _, I.lset (its' := its ++ its2) hH e (by simp) (r.append r2) ?_, rfl, q⟩
  rw [List.length_append]
  omega
end MC
/-! The program's text by places. -/
namespace MC
open PySem PySem.Spec PyProof.Rows L2
def top (i : Nat) : Stmt := PySem.Challenge.pw_movingclocks_s01_answers.main.body.getD i (.Pass ⟨0, 0, 0, 0⟩)
abbrev s_common : Stmt := top 1
abbrev s_lowest : Stmt := top 2
abbrev s_plus : Stmt := top 3
abbrev s_minus : Stmt := top 4
abbrev s_times : Stmt := top 5
abbrev s_half : Stmt := top 6
abbrev s_is_factor : Stmt := top 9
abbrev s_speed_of : Stmt := top 10
abbrev s_told : Stmt := top 11
abbrev s_is_near : Stmt := top 26
abbrev s_put : Stmt := top 27
abbrev s_drop : Stmt := top 28
abbrev s_move : Stmt := top 29
abbrev s_more : Stmt := top 30
abbrev s_leg : Stmt := top 31
abbrev s_unleg : Stmt := top 32
abbrev s_change : Stmt := top 35
abbrev s_back : Stmt := top 36
abbrev s_state : Stmt := top 37
abbrev s_leader : Stmt := top 44
abbrev s_heard : Stmt := top 45
abbrev s_events : Stmt := top 48
abbrev s_factor : Stmt := top 49
abbrev s_speed : Stmt := top 50
abbrev s_tells : Stmt := top 51
abbrev s_both_there : Stmt := top 52
abbrev s_between : Stmt := top 53
abbrev s_apart : Stmt := top 54
abbrev s_square : Stmt := top 55
abbrev s_sooner : Stmt := top 56
abbrev s_ever : Stmt := top 57
abbrev s_sameat : Stmt := top 58
abbrev s_faster : Stmt := top 59
abbrev s_gone_on : Stmt := top 62
abbrev s_shown_over : Stmt := top 63
abbrev s_way : Stmt := top 64
abbrev s_end : Stmt := top 65
abbrev s_shows : Stmt := top 66
abbrev s_straight : Stmt := top 67
abbrev s_heard_at_ends : Stmt := top 68
abbrev s_older : Stmt := top 69
abbrev s_meet : Stmt := top 70
abbrev s_World_init : Stmt := inClass (top 74) 0
abbrev s_World_has_event : Stmt := inClass (top 74) 1
abbrev s_World_has_way : Stmt := inClass (top 74) 2
abbrev s_World_all_held : Stmt := inClass (top 74) 3
abbrev s_World_remember : Stmt := inClass (top 74) 4
abbrev s_World_take_back : Stmt := inClass (top 74) 5
abbrev s_answers : Stmt := top 78
abbrev s_answer_of : Stmt := top 79
end MC
/-! exact.py, factors.py -/
namespace MC
open PySem PySem.Spec PyProof.Rows L2
/-- a def of the text under its name -/
def Dfn (K : PySem.W.Frag) (mg : Str → Option Value) (x : Str) (st : Stmt) : Prop := ∃ f fd, Fun K x x st f fd ∧ mg x = some (.ref f)
/-- a def that may be called by its name -/
def Cal (P : Program) (w : World) (K : PySem.W.Frag) (mg : Str → Option Value) (base : Heap) (k : Nat) (x : Str) (sp : Sp) : Prop :=
  ∃ (f : Addr) (fd : FuncData) (ps : List Str), FnOk P w K mg base CX0 k f fd ps sp ∧ mg x = some (.ref f) ∧ PySem.W.keepIn K (.ref f) = true ∧ Binds K fd ps []
/-- a name of the top that holds an int -/
def GI (mg : Str → Option Value) (x : Str) (i : Int) : Prop := ∃ t, mg x = some (.int i t)
section
variable {X : Cx} {k j : Nat} {x : Str} {sp : Sp} {p pos : Pos} {e : Expr} {es : List Expr} {t : TA}
theorem pe_cal (c : Cal X.prog X.w X.K X.mg X.base k x sp) (hr : Room j X.A) (hk : k ≤ j) (hg : Gl X x) (ha : PA X (e :: es) t)
    (hdb : (x == ("__debug__" : Str)) = false := by decide) (he : starEach (e :: es) X.env = (false, eval e X.env) :: starEach es X.env := by rfl) (hpl : (backTo pos (starEach es X.env)).any (·.1) = false := by rfl) :
    PE X (.Call (.Name x p) (e :: es) [] pos) (tCall sp [] E0 t) := by
  obtain ⟨f, fd, ps, F, hm, kp, b⟩ := c
  exact pe_call F (hr.mono hk) hg hm kp b .nil pass0 ha hdb he hpl
theorem pe_gi {i : Int} (hg : Gl X x) (h : GI X.mg x i) (hd : (x == ("__debug__" : Str)) = false := by decide) : PE X (.Name x pos) (tC (.int i)) := by
  obtain ⟨u, hm⟩ := h
  exact pe_glob hg hm ⟨u, rfl⟩ hd
end
theorem if_yes {c : Bool} {A B : Prop} (hc : c = true) (h : A) : if c = true then A else B := by
  rw [if_pos hc]
  exact h
theorem if_no {c : Bool} {A B : Prop} (hc : c = false) (h : B) : if c = true then A else B := by
  rw [hc, if_neg Bool.false_ne_true]
  exact h
theorem and_no {c d : Bool} {A B X : Prop} (h : ¬ (c = true ∧ d = true)) (hx : (if d = true then A else B) → X) (hB : B) : if c = true then X else (if false = true then A else B) := by
  cases c with
  | false => exact hB
  | true =>
    refine hx ?_
    cases d with
    | false => exact hB
    | true => exact absurd ⟨rfl, rfl⟩ h
theorem and_yes {c d : Bool} {A B X : Prop} (hc : c = true) (hd : d = true) (hx : (if d = true then A else B) → X) (hA : A) : if c = true then X else (if false = true then A else B) := by
  subst hc hd
  exact hx hA
theorem nand_no {c d : Bool} {A B X : Prop} (h : ¬ (c = true ∧ d = true)) (hx : (if (!d) = true then A else B) → X) (hA : A) : if c = true then X else (if (!false) = true then A else B) := by
  cases c with
  | false => exact hA
  | true =>
    refine hx ?_
    cases d with
    | false => exact hA
    | true => exact absurd ⟨rfl, rfl⟩ h
theorem nand_yes {c d : Bool} {A B X : Prop} (hc : c = true) (hd : d = true) (hx : (if (!d) = true then A else B) → X) (hB : B) : if c = true then X else (if (!false) = true then A else B) := by
  subst hc hd
  exact hx hB
theorem dt {p : Prop} [Decidable p] (h : p) : decide p = true := decide_eq_true h
theorem df {p : Prop} [Decidable p] (h : ¬ p) : decide p = false := decide_eq_false h
theorem dV {i j : Int} : decide (V.int i = V.int j) = decide (i = j) := by
  by_cases c : i = j
  · rw [dt c, dt (congrArg V.int c)]
  · rw [df c, df fun e => c (V.int.inj e)]
section
variable {P : Program} {w : World} {K : PySem.W.Frag} {mg : Str → Option Value} {base : Heap}
/-! ### common -/
def spCommon : Sp := fun vs H Q _ => ∃ a b : Int, vs = [.int a, .int b] ∧ 0 ≤ a ∧ 0 ≤ b ∧ Q (.int (Int.gcd a b)) H
theorem sc_common : FnScope ["a", "b", "rest"] ["a", "b"] (defScope s_common) := ⟨rfl, rfl, rfl, by decide +kernel, rfl, by decide +kernel, by decide +kernel⟩
def ivAt (σ : L2.St) (i : Nat) : Int := match σ[i]? with
  | some (some (.int z)) => z
  | _ => 0
theorem gcd_step {x y : Int} (hx : 0 ≤ x) (hy : 0 < y) : Int.gcd y (x % y) = Int.gcd x y := by
  obtain ⟨n, rfl⟩ := Int.eq_ofNat_of_zero_le hx
  obtain ⟨m, rfl⟩ := Int.eq_ofNat_of_zero_le (show 0 ≤ y by omega)
  show Nat.gcd m (n % m) = Nat.gcd n m
  rw [Nat.gcd_comm m, ← Nat.gcd_rec, Nat.gcd_comm]
theorem cal_of {x : Str} {st : Stmt} {N ps : List Str} {k : Nat} {sp : Sp} (F : Dfn K mg x st) (S : FnScope N ps (defScope st)) (len : ∀ vs H Q E, sp vs H Q E → vs.length = ps.length)
    (hb : ∀ (kV doc pm : Value) (an : Option Addr) (cdv ct : Value) (us : List Value), us.length = ps.length → bindArgs (PySem.W.fnOf x x (defArgs st) (defBody st) (defScope st) .none kV doc pm an cdv ct) ⟨us, []⟩ = pure (ps.zip us))
    (body : ∀ (f : Addr) (cdv : Value) (A : Around) (outer : List Env) (s : Shared) (H : Hp) (vs : List V) (Q : VK) (E : XK), Room k (A.deeper (envOfC x (defScope st) s.heap.objs.size f cdv)) → sp vs H Q E →
      ∃ t, PSs (cxOf CX0 P w K mg base N x (defScope st) f cdv A outer s H E).nox (defBody st) t ∧ t { nx := fun _ H' => Q .non H', rt := Q } (start N vs) H) : Cal P w K mg base (k + 1) x sp := by
  obtain ⟨f, fd, F, hm⟩ := F
  exact ⟨f, fd, ps, F.ok S len (body f), hm, F.kp, F.binds hb⟩
theorem ok_common (F : Dfn K mg "common" s_common) : Cal P w K mg base 1 "common" spCommon := by
  refine cal_of F sc_common (fun vs H Q E h => ?_) (fun _ _ _ _ _ _ us hl => match us, hl with | [_, _], _ => rfl) fun f cdv A outer s H vs Q E hr h => ?_
  · obtain ⟨a, b, rfl, _⟩ := h
    rfl
  · refine ⟨_, pss_cons (ps_while PassesOwn.never (pt_cmpR op_gt (pv 1) pe_int (nomark _))
      (pss_cons (ps_set (i := 2) sc_common.nd rfl (Or.inl rfl) (pe_op op_mod (pv 0) (pv 1)))
      (pss_cons (ps_set (i := 0) sc_common.nd rfl (Or.inl rfl) (pv 1)) (pss_one (ps_set (i := 1) sc_common.nd rfl (Or.inl rfl) (pv 2))))))
      (pss_one (ps_ret (pv 0))), ?_⟩
    obtain ⟨a, b, rfl, ha, hb, q⟩ := h
    refine while_by (fun σ H' => H' = H ∧ ∃ (x y : Int) (v : Option V), σ = [some (.int x), some (.int y), v] ∧ 0 ≤ x ∧ 0 ≤ y ∧ Int.gcd x y = Int.gcd a b) (fun σ _ => (ivAt σ 1).toNat) ⟨rfl, a, b, none, rfl, ha, hb, rfl⟩ ?_ ?_
    · rintro σ H' ⟨rfl, x, y, v, rfl, hx, hy, hg⟩
      refine ⟨_, rfl, _, _, rfl, rfl, _, rfl, ?_⟩
      by_cases c : 0 < y
      · refine if_yes (decide_eq_true c) ?_
        refine ⟨_, rfl, _, rfl, _, _, rfl, rfl, c, _, rfl, _, rfl, ?_⟩
        have h1 := Int.emod_nonneg x (show y ≠ 0 by omega)
        have h2 := Int.emod_lt_of_pos x c
        refine ⟨⟨rfl, y, x % y, _, rfl, hy, h1, ?_⟩, ?_⟩
        · rw [gcd_step hx c, hg]
        · show (x % y).toNat < y.toNat
          omega
      · refine if_no (decide_eq_false c) ?_
        have e0 : y = 0 := by omega
        subst e0
        refine ⟨_, rfl, ?_⟩
        have : ((Int.gcd a b : Nat) : Int) = x := by
          rw [← hg, Int.gcd_zero_right]
          omega
        rw [this] at q
        exact q
    · rintro σ H' Q1 Q2 hq ⟨v, e, i, j, e1, e2, k, e3, h⟩
      exact ⟨v, e, i, j, e1, e2, k, e3, hq _ _ h⟩
/-! ### lowest -/
def spLowest : Sp := fun vs H Q _ => ∃ n d : Int, vs = [.int n, .int d] ∧ 0 < d ∧ d < 2 ^ 64 ∧ ∀ p, H p = none → Q (.ref p) (upd H p (.tup [.int (lowN n d), .int (lowD n d)]))
theorem sc_lowest : FnScope ["above", "below", "shared"] ["above", "below"] (defScope s_lowest) := ⟨rfl, rfl, rfl, by decide +kernel, rfl, by decide +kernel, by decide +kernel⟩
theorem gcd_abs (n d : Int) : Int.gcd (if n < 0 then -n else n) d = Int.gcd n d := by
  split
  · exact Int.neg_gcd
  · rfl
theorem gcd_small {n d : Int} (h : 0 < d) : (Int.gcd n d : Int) ≤ d := Int.le_of_dvd h (Int.gcd_dvd_right n d)
theorem ok_lowest (F : Dfn K mg "lowest" s_lowest) (mA : mg "abs" = none) (C1 : Cal P w K mg base 1 "common" spCommon) : Cal P w K mg base 2 "lowest" spLowest := by
  refine cal_of F sc_lowest (fun vs H Q E h => ?_) (fun _ _ _ _ _ _ us hl => match us, hl with | [_, _], _ => rfl) fun f cdv A outer s H vs Q E hr h => ?_
  · obtain ⟨a, b, rfl, _⟩ := h
    rfl
  · refine ⟨_, pss_cons (ps_set (i := 2) sc_lowest.nd rfl (Or.inl rfl) (pe_cal C1 hr (by decide) (by rfl) (pa_cons (pe_callB call_abs (by rfl) mA (by decide +kernel) (pa_cons (pv 0) pa_nil)) (pa_cons (pv 1) pa_nil))))
      (pss_one (ps_ret (pe_tup (pa_cons (pe_op op_fdivW (pv 0) (pv 2)) (pa_cons (pe_op op_fdivW (pv 1) (pv 2)) pa_nil))))), ?_⟩
    obtain ⟨n, d, rfl, h0, h1, q⟩ := h
    refine ⟨_, rfl, _, rfl, _, rfl, _, _, rfl, by split <;> omega, by omega, ?_⟩
    have g0 := gcd_pos (n := n) h0
    have g1 := gcd_small (n := n) h0
    have gd : ∀ i : Int, CDivW i ((Int.gcd n d : Nat) : Int) := fun i => wide_div (b := 64) g0 (by rw [Int.natAbs_natCast]; omega) (by decide) (by decide)
    rw [gcd_abs]
    refine ⟨_, rfl, _, rfl, _, _, rfl, rfl, gd _, _, rfl, _, rfl, _, _, rfl, rfl, gd _, (by show 2 ≤ sizeLine; decide), ?_⟩
    exact q
/-! ### is_factor -/
def okI (p q : Int) : Bool := decide (1 ≤ p) && decide (p ≤ 9) && (decide (1 ≤ q) && decide (q ≤ 9))
def spIsFactor : Sp := fun vs H Q _ => ∃ p q : Int, vs = [.int p, .int q] ∧ Q (.bl (okI p q)) H
theorem sc_is_factor : FnScope ["p", "q"] ["p", "q"] (defScope s_is_factor) := ⟨rfl, rfl, rfl, by decide +kernel, rfl, by decide +kernel, by decide +kernel⟩
theorem ok_is_factor (F : Dfn K mg "is_factor" s_is_factor) (g : GI mg "GREATEST_GIVEN" 9) : Cal P w K mg base 1 "is_factor" spIsFactor := by
  refine cal_of F sc_is_factor (fun vs H Q E h => ?_) (fun _ _ _ _ _ _ us hl => match us, hl with | [_, _], _ => rfl) fun f cdv A outer s H vs Q E hr h => ?_
  · obtain ⟨a, b, rfl, _⟩ := h
    rfl
  · refine ⟨_, pss_one (ps_ret (pe_and (pe_chain op_le op_le pe_int (pv 0) (pe_gi (by rfl) g)) (pe_one (pe_chain op_le op_le pe_int (pv 1) (pe_gi (by rfl) g))))), ?_⟩
    obtain ⟨p, q, rfl, k⟩ := h
    refine ⟨_, rfl, _, _, rfl, rfl, _, rfl, ?_⟩
    unfold okI at k
    by_cases c1 : 1 ≤ p
    · refine if_yes (decide_eq_true c1) ⟨_, _, rfl, rfl, _, rfl, ?_⟩
      rw [decide_eq_true c1] at k
      by_cases c2 : p ≤ 9
      · refine if_yes (decide_eq_true c2) ⟨_, rfl, _, _, rfl, rfl, _, rfl, ?_⟩
        rw [decide_eq_true c2] at k
        by_cases c3 : 1 ≤ q
        · refine if_yes (decide_eq_true c3) ⟨_, _, rfl, rfl, ?_⟩
          rw [decide_eq_true c3] at k
          exact k
        · refine if_no (decide_eq_false c3) ?_
          rw [decide_eq_false c3] at k
          exact k
      · refine if_no (decide_eq_false c2) ?_
        rw [decide_eq_false c2] at k
        exact k
    · refine if_no (decide_eq_false c1) ⟨_, rfl, if_no rfl ?_⟩
      rw [decide_eq_false c1] at k
      exact k
/-! ### heaps that grow -/
theorem same_upd {H : Hp} {p : Addr} {o : HO} (h : H p = none) : Same H (upd H p o) := fun b u e => by
  rw [upd_ne (ne_of_none e h)]
  exact e
theorem same_tup {H H' : Hp} {a : Addr} {xs : List V} (e : Same H H') (h : SqT K H a xs) : SqT K H' a xs := by
  rcases h with (h | ⟨o, h⟩) | h
  · exact .inl (.inl (e _ _ h))
  · exact .inl (.inr ⟨o, e _ _ h⟩)
  · exact .inr h
theorem mul_bd {a b A B : Int} (h1 : 0 < a) (h2 : a ≤ A) (h3 : 0 < b) (h4 : b ≤ B) : 0 < a * b ∧ a * b ≤ A * B :=
  ⟨Int.mul_pos h1 h3, Int.mul_le_mul h2 h4 (by omega) (by omega)⟩
/-- a factor's part -/
def Pt (p : Int) : Prop := 0 < p ∧ p ≤ 10000
theorem Pt.mulR {i p : Int} (h : Pt p) : CMul i p := .inr ⟨by have := h.1; omega, by have := h.2; omega⟩
theorem Pt.mulL {i p : Int} (h : Pt p) : CMul p i := .inl ⟨by have := h.1; omega, by have := h.2; omega⟩
/-! ### speed_of -/
def spSpeed (K : PySem.W.Frag) : Sp := fun vs H Q _ => ∃ (a : Addr) (p q : Int), vs = [.ref a] ∧ SqT K H a [.int p, .int q] ∧ Pt p ∧ Pt q ∧
  ∀ x, H x = none → Q (.ref x) (upd H x (.tup [.int (lowN (p * p - q * q) (p * p + q * q)), .int (lowD (p * p - q * q) (p * p + q * q))]))
theorem sc_speed_of : FnScope ["factor", "p_squared", "q_squared"] ["factor"] (defScope s_speed_of) := ⟨rfl, rfl, rfl, by decide +kernel, rfl, by decide +kernel, by decide +kernel⟩
theorem ok_speed_of (F : Dfn K mg "speed_of" s_speed_of) (C1 : Cal P w K mg base 2 "lowest" spLowest) : Cal P w K mg base 3 "speed_of" (spSpeed K) := by
  refine cal_of F sc_speed_of (fun vs H Q E h => ?_) (fun _ _ _ _ _ _ us hl => match us, hl with | [_], _ => rfl) fun f cdv A outer s H vs Q E hr h => ?_
  · obtain ⟨a, _, _, rfl, _⟩ := h
    rfl
  · refine ⟨_, pss_cons (ps_set (i := 1) sc_speed_of.nd rfl (Or.inl rfl) (pe_op op_mul (pe_ix ix_tup (pv 0) pe_int (fun _ _ => rfl)) (pe_ix ix_tup (pv 0) pe_int (fun _ _ => rfl))))
      (pss_cons (ps_set (i := 2) sc_speed_of.nd rfl (Or.inl rfl) (pe_op op_mul (pe_ix ix_tup (pv 0) pe_int (fun _ _ => rfl)) (pe_ix ix_tup (pv 0) pe_int (fun _ _ => rfl))))
      (pss_one (ps_ret (pe_cal C1 hr (by decide) (by rfl) (pa_cons (pe_op op_sub (pv 1) (pv 2)) (pa_cons (pe_op op_add (pv 1) (pv 2)) pa_nil)))))), ?_⟩
    obtain ⟨a, p, q, rfl, ha, hp, hq, k⟩ := h
    refine ⟨_, rfl, a, _, 0, _, rfl, rfl, ha, atI_nat (j := 0) rfl, _, rfl, a, _, 0, _, rfl, rfl, ha, atI_nat (j := 0) rfl, _, _, rfl, rfl, hp.mulL, ?_⟩
    refine ⟨_, rfl, a, _, 1, _, rfl, rfl, ha, atI_nat (j := 1) rfl, _, rfl, a, _, 1, _, rfl, rfl, ha, atI_nat (j := 1) rfl, _, _, rfl, rfl, hq.mulL, ?_⟩
    have m1 := mul_bd hp.1 hp.2 hp.1 hp.2
    have m2 := mul_bd hq.1 hq.2 hq.1 hq.2
    exact ⟨_, rfl, _, rfl, _, _, rfl, rfl, _, rfl, _, rfl, _, _, rfl, rfl, _, _, rfl, by omega, by omega, k⟩
/-! ### told -/
def spTold (K : PySem.W.Frag) : Sp := fun vs H Q _ => ∃ (a : Addr) (p q t x : Int), vs = [.ref a, .int t, .int x] ∧ SqT K H a [.int p, .int q] ∧ Pt p ∧ Pt q ∧
  ∀ H' r, Same H H' → H r = none → H' r = some (.tup ((told4 p q t x).map V.int)) → Q (.ref r) H'
theorem sc_told : FnScope ["factor", "t", "x", "p", "q", "less", "both", "below"] ["factor", "t", "x"] (defScope s_told) := ⟨rfl, rfl, rfl, by decide +kernel, rfl, by decide +kernel, by decide +kernel⟩
theorem ok_told (F : Dfn K mg "told" s_told) (C1 : Cal P w K mg base 2 "lowest" spLowest) : Cal P w K mg base 3 "told" (spTold K) := by
  refine cal_of F sc_told (fun vs H Q E h => ?_) (fun _ _ _ _ _ _ us hl => match us, hl with | [_, _, _], _ => rfl) fun f cdv A outer s H vs Q E hr h => ?_
  · obtain ⟨a, _, _, _, _, rfl, _⟩ := h
    rfl
  · refine ⟨_, pss_cons (ps_set (i := 3) sc_told.nd rfl (Or.inl rfl) (pe_ix ix_tup (pv 0) pe_int (fun _ _ => rfl)))
      (pss_cons (ps_set (i := 4) sc_told.nd rfl (Or.inl rfl) (pe_ix ix_tup (pv 0) pe_int (fun _ _ => rfl)))
      (pss_cons (ps_set (i := 5) sc_told.nd rfl (Or.inl rfl) (pe_op op_mul (pe_op op_mul (pe_op op_sub (pv 1) (pv 2)) (pv 3)) (pv 3)))
      (pss_cons (ps_set (i := 6) sc_told.nd rfl (Or.inl rfl) (pe_op op_mul (pe_op op_mul (pe_op op_add (pv 1) (pv 2)) (pv 4)) (pv 4)))
      (pss_cons (ps_set (i := 7) sc_told.nd rfl (Or.inl rfl) (pe_op op_mul (pe_op op_mul pe_int (pv 3)) (pv 4)))
      (pss_one (ps_ret (pe_op op_catT (pe_cal C1 hr (by decide) (by rfl) (pa_cons (pe_op op_add (pv 6) (pv 5)) (pa_cons (pv 7) pa_nil)))
        (pe_cal C1 hr (by decide) (by rfl) (pa_cons (pe_op op_sub (pv 6) (pv 5)) (pa_cons (pv 7) pa_nil)))))))))), ?_⟩
    obtain ⟨a, p, q, t, x, rfl, ha, hp, hq, k⟩ := h
    refine ⟨_, rfl, a, _, 0, _, rfl, rfl, ha, atI_nat (j := 0) rfl, _, rfl, a, _, 1, _, rfl, rfl, ha, atI_nat (j := 1) rfl, ?_⟩
    refine ⟨_, rfl, _, rfl, _, _, rfl, rfl, _, rfl, _, _, rfl, rfl, hp.mulR, _, rfl, _, _, rfl, rfl, hp.mulR, ?_⟩
    refine ⟨_, rfl, _, rfl, _, _, rfl, rfl, _, rfl, _, _, rfl, rfl, hq.mulR, _, rfl, _, _, rfl, rfl, hq.mulR, ?_⟩
    refine ⟨_, rfl, _, _, rfl, rfl, hp.mulR, _, rfl, _, _, rfl, rfl, hq.mulR, ?_⟩
    have m := mul_bd (a := 2 * p) (A := 20000) (by have := hp.1; omega) (by have := hp.2; omega) hq.1 hq.2
    refine ⟨_, rfl, _, rfl, _, _, rfl, rfl, _, rfl, _, _, rfl, m.1, by omega, fun p1 n1 => ?_⟩
    refine ⟨_, rfl, _, rfl, _, _, rfl, rfl, _, rfl, _, _, rfl, m.1, by omega, fun p2 n2 => ?_⟩
    have e1 : upd H p1 (.tup [.int (lowN (tN p q t x) (2 * p * q)), .int (lowD (tN p q t x) (2 * p * q))]) p1 = some _ := upd_same
    refine ⟨p1, p2, _, _, rfl, rfl, SqT.of ((same_upd n2) _ _ e1), SqT.of upd_same, (by intro z; cases z), (by show 4 ≤ sizeLine; decide), (fun z => by cases z), fun _ r nr => ?_⟩
    have s1 := same_upd (o := .tup [.int (lowN (tN p q t x) (2 * p * q)), .int (lowD (tN p q t x) (2 * p * q))]) n1
    exact k _ r (s1.trans ((same_upd n2).trans (same_upd nr))) (s1.free ((same_upd n2).free nr)) upd_same
end
end MC
namespace MC
open PySem PySem.Spec PyProof.Rows L2
section
variable {P : Program} {w : World} {K : PySem.W.Frag} {mg : Str → Option Value} {base : Heap}
/-- a number below that is small -/
def Dn (d : Int) : Prop := 0 < d ∧ d ≤ 1000000
theorem Dn.mulR {i p : Int} (h : Dn p) : CMul i p := .inr ⟨by have := h.1; omega, by have := h.2; omega⟩
def up2 (H : Hp) (x : Addr) (n d : Int) : Hp := upd H x (.tup [.int n, .int d])
/-! ### plus -/
def spPlus (K : PySem.W.Frag) : Sp := fun vs H Q _ => ∃ (a b : Addr) (p q r s : Int), vs = [.ref a, .ref b] ∧ SqT K H a [.int p, .int q] ∧ SqT K H b [.int r, .int s] ∧ Dn q ∧ Dn s ∧
  ∀ x, H x = none → Q (.ref x) (up2 H x (lowN (p * s + r * q) (q * s)) (lowD (p * s + r * q) (q * s)))
theorem sc_plus : FnScope ["one", "other"] ["one", "other"] (defScope s_plus) := ⟨rfl, rfl, rfl, by decide +kernel, rfl, by decide +kernel, by decide +kernel⟩
theorem ok_plus (F : Dfn K mg "plus" s_plus) (C1 : Cal P w K mg base 2 "lowest" spLowest) : Cal P w K mg base 3 "plus" (spPlus K) := by
  refine cal_of F sc_plus (fun vs H Q E h => by (repeat' (first | (obtain ⟨e, _⟩ := h; exact congrArg List.length e) | (obtain ⟨_, h⟩ := h)))) (fun _ _ _ _ _ _ us hl => match us, hl with | [_, _], _ => rfl) fun f cdv A outer s H vs Q E hr h => ?_
  refine ⟨_, pss_one (ps_ret (pe_cal C1 hr (by decide) (by rfl) (pa_cons (pe_op op_add (pe_op op_mul (pe_ix ix_tup (pv 0) pe_int (fun _ _ => rfl)) (pe_ix ix_tup (pv 1) pe_int (fun _ _ => rfl))) (pe_op op_mul (pe_ix ix_tup (pv 1) pe_int (fun _ _ => rfl)) (pe_ix ix_tup (pv 0) pe_int (fun _ _ => rfl)))) (pa_cons (pe_op op_mul (pe_ix ix_tup (pv 0) pe_int (fun _ _ => rfl)) (pe_ix ix_tup (pv 1) pe_int (fun _ _ => rfl))) pa_nil)))), ?_⟩
  obtain ⟨a, b, p, q, r, s, rfl, ha, hb, hq, hs, k⟩ := h
  refine ⟨_, rfl, a, _, 0, _, rfl, rfl, ha, atI_nat (j := 0) rfl, _, rfl, b, _, 1, _, rfl, rfl, hb, atI_nat (j := 1) rfl, _, _, rfl, rfl, hs.mulR, _, rfl, b, _, 0, _, rfl, rfl, hb, atI_nat (j := 0) rfl, _, rfl, a, _, 1, _, rfl, rfl, ha, atI_nat (j := 1) rfl, _, _, rfl, rfl, hq.mulR, _, _, rfl, rfl, _, rfl, a, _, 1, _, rfl, rfl, ha, atI_nat (j := 1) rfl, _, rfl, b, _, 1, _, rfl, rfl, hb, atI_nat (j := 1) rfl, _, _, rfl, rfl, hs.mulR, ?_⟩
  have m := mul_bd hq.1 hq.2 hs.1 hs.2
  exact ⟨_, _, rfl, m.1, by omega, k⟩
/-! ### minus -/
def spMinus (K : PySem.W.Frag) : Sp := fun vs H Q _ => ∃ (a b : Addr) (p q r s : Int), vs = [.ref a, .ref b] ∧ SqT K H a [.int p, .int q] ∧ SqT K H b [.int r, .int s] ∧ Dn q ∧ Dn s ∧
  ∀ H' x, Same H H' → H x = none → H' x = some (.tup [.int (lowN (p * s + -r * q) (q * s)), .int (lowD (p * s + -r * q) (q * s))]) → Q (.ref x) H'
theorem sc_minus : FnScope ["one", "other"] ["one", "other"] (defScope s_minus) := ⟨rfl, rfl, rfl, by decide +kernel, rfl, by decide +kernel, by decide +kernel⟩
theorem ok_minus (F : Dfn K mg "minus" s_minus) (C1 : Cal P w K mg base 3 "plus" (spPlus K)) : Cal P w K mg base 4 "minus" (spMinus K) := by
  refine cal_of F sc_minus (fun vs H Q E h => by (repeat' (first | (obtain ⟨e, _⟩ := h; exact congrArg List.length e) | (obtain ⟨_, h⟩ := h)))) (fun _ _ _ _ _ _ us hl => match us, hl with | [_, _], _ => rfl) fun f cdv A outer s H vs Q E hr h => ?_
  refine ⟨_, pss_one (ps_ret (pe_cal C1 hr (by decide) (by rfl) (pa_cons (pv 0) (pa_cons (pe_tup (pa_cons (pe_un un_neg (pe_ix ix_tup (pv 1) pe_int (fun _ _ => rfl))) (pa_cons (pe_ix ix_tup (pv 1) pe_int (fun _ _ => rfl)) pa_nil))) pa_nil)))), ?_⟩
  obtain ⟨a, b, p, q, r, s, rfl, ha, hb, hq, hs, k⟩ := h
  refine ⟨_, rfl, _, rfl, b, _, 0, _, rfl, rfl, hb, atI_nat (j := 0) rfl, _, rfl, _, rfl, b, _, 1, _, rfl, rfl, hb, atI_nat (j := 1) rfl, (by show 2 ≤ sizeLine; decide), fun y hy => ?_⟩
  refine ⟨a, y, p, q, -r, s, rfl, same_tup (same_upd hy) ha, SqT.of upd_same, hq, hs, fun x hx => ?_⟩
  exact k _ x ((same_upd hy).trans (same_upd hx)) ((same_upd hy).free hx) upd_same
/-! ### times -/
def spTimes (K : PySem.W.Frag) : Sp := fun vs H Q _ => ∃ (a b : Addr) (p q r s : Int), vs = [.ref a, .ref b] ∧ SqT K H a [.int p, .int q] ∧ SqT K H b [.int r, .int s] ∧ (0 ≤ p ∧ p ≤ 4000000000) ∧ Dn q ∧ Dn s ∧
  ∀ x, H x = none → Q (.ref x) (up2 H x (lowN (p * r) (q * s)) (lowD (p * r) (q * s)))
theorem sc_times : FnScope ["one", "other"] ["one", "other"] (defScope s_times) := ⟨rfl, rfl, rfl, by decide +kernel, rfl, by decide +kernel, by decide +kernel⟩
theorem ok_times (F : Dfn K mg "times" s_times) (C1 : Cal P w K mg base 2 "lowest" spLowest) : Cal P w K mg base 3 "times" (spTimes K) := by
  refine cal_of F sc_times (fun vs H Q E h => by (repeat' (first | (obtain ⟨e, _⟩ := h; exact congrArg List.length e) | (obtain ⟨_, h⟩ := h)))) (fun _ _ _ _ _ _ us hl => match us, hl with | [_, _], _ => rfl) fun f cdv A outer s H vs Q E hr h => ?_
  refine ⟨_, pss_one (ps_ret (pe_cal C1 hr (by decide) (by rfl) (pa_cons (pe_op op_mul (pe_ix ix_tup (pv 0) pe_int (fun _ _ => rfl)) (pe_ix ix_tup (pv 1) pe_int (fun _ _ => rfl))) (pa_cons (pe_op op_mul (pe_ix ix_tup (pv 0) pe_int (fun _ _ => rfl)) (pe_ix ix_tup (pv 1) pe_int (fun _ _ => rfl))) pa_nil)))), ?_⟩
  obtain ⟨a, b, p, q, r, s, rfl, ha, hb, hp, hq, hs, k⟩ := h
  refine ⟨_, rfl, a, _, 0, _, rfl, rfl, ha, atI_nat (j := 0) rfl, _, rfl, b, _, 0, _, rfl, rfl, hb, atI_nat (j := 0) rfl, _, _, rfl, rfl, .inl ⟨by omega, by omega⟩, _, rfl, a, _, 1, _, rfl, rfl, ha, atI_nat (j := 1) rfl, _, rfl, b, _, 1, _, rfl, rfl, hb, atI_nat (j := 1) rfl, _, _, rfl, rfl, hs.mulR, ?_⟩
  have m := mul_bd hq.1 hq.2 hs.1 hs.2
  exact ⟨_, _, rfl, m.1, by omega, k⟩
/-! ### half -/
def spHalf (K : PySem.W.Frag) : Sp := fun vs H Q _ => ∃ (a : Addr) (p q : Int), vs = [.ref a] ∧ SqT K H a [.int p, .int q] ∧ (0 < q ∧ q ≤ 1000000000000) ∧
  ∀ x, H x = none → Q (.ref x) (up2 H x (lowN p (2 * q)) (lowD p (2 * q)))
theorem sc_half : FnScope ["one"] ["one"] (defScope s_half) := ⟨rfl, rfl, rfl, by decide +kernel, rfl, by decide +kernel, by decide +kernel⟩
theorem ok_half (F : Dfn K mg "half" s_half) (C1 : Cal P w K mg base 2 "lowest" spLowest) : Cal P w K mg base 3 "half" (spHalf K) := by
  refine cal_of F sc_half (fun vs H Q E h => by (repeat' (first | (obtain ⟨e, _⟩ := h; exact congrArg List.length e) | (obtain ⟨_, h⟩ := h)))) (fun _ _ _ _ _ _ us hl => match us, hl with | [_], _ => rfl) fun f cdv A outer s H vs Q E hr h => ?_
  refine ⟨_, pss_one (ps_ret (pe_cal C1 hr (by decide) (by rfl) (pa_cons (pe_ix ix_tup (pv 0) pe_int (fun _ _ => rfl)) (pa_cons (pe_op op_mul pe_int (pe_ix ix_tup (pv 0) pe_int (fun _ _ => rfl))) pa_nil)))), ?_⟩
  obtain ⟨a, p, q, rfl, ha, hq, k⟩ := h
  refine ⟨_, rfl, a, _, 0, _, rfl, rfl, ha, atI_nat (j := 0) rfl, _, rfl, a, _, 1, _, rfl, rfl, ha, atI_nat (j := 1) rfl, _, _, rfl, rfl, .inl ⟨by omega, by omega⟩, ?_⟩
  exact ⟨_, _, rfl, by omega, by omega, k⟩
/-! ### is_near -/
def nearI (n : Int) : Bool := decide (-99 ≤ n) && decide (n ≤ 99)
def spNear : Sp := fun vs H Q _ => ∃ n : Int, vs = [.int n] ∧ Q (.bl (nearI n)) H
theorem sc_is_near : FnScope ["n"] ["n"] (defScope s_is_near) := ⟨rfl, rfl, rfl, by decide +kernel, rfl, by decide +kernel, by decide +kernel⟩
theorem ok_is_near (F : Dfn K mg "is_near" s_is_near) (g : GI mg "FARTHEST" 99) : Cal P w K mg base 1 "is_near" spNear := by
  refine cal_of F sc_is_near (fun vs H Q E h => by (repeat' (first | (obtain ⟨e, _⟩ := h; exact congrArg List.length e) | (obtain ⟨_, h⟩ := h)))) (fun _ _ _ _ _ _ us hl => match us, hl with | [_], _ => rfl) fun f cdv A outer s H vs Q E hr h => ?_
  refine ⟨_, pss_one (ps_ret (pe_chain op_le op_le (pe_un un_neg (pe_gi (by rfl) g)) (pv 0) (pe_gi (by rfl) g))), ?_⟩
  obtain ⟨n, rfl, k⟩ := h
  unfold nearI at k
  refine ⟨_, rfl, _, rfl, _, _, rfl, rfl, _, rfl, ?_⟩
  by_cases c1 : -99 ≤ n
  · refine if_yes (decide_eq_true c1) ⟨_, _, rfl, rfl, ?_⟩
    rw [decide_eq_true c1] at k
    exact k
  · refine if_no (decide_eq_false c1) ?_
    rw [decide_eq_false c1] at k
    exact k
/-! ### leader, heard -/
def spLeader : Sp := fun vs H Q _ => ∃ z : Int, vs = [.int z] ∧ Q (.int (leadI z)) H
theorem sc_leader : FnScope ["ahead"] ["ahead"] (defScope s_leader) := ⟨rfl, rfl, rfl, by decide +kernel, rfl, by decide +kernel, by decide +kernel⟩
theorem ok_leader (F : Dfn K mg "leader" s_leader) : Cal P w K mg base 1 "leader" spLeader := by
  refine cal_of F sc_leader (fun vs H Q E h => by (repeat' (first | (obtain ⟨e, _⟩ := h; exact congrArg List.length e) | (obtain ⟨_, h⟩ := h)))) (fun _ _ _ _ _ _ us hl => match us, hl with | [_], _ => rfl) fun f cdv A outer s H vs Q E hr h => ?_
  refine ⟨_, pss_cons (ps_if (pt_cmpR op_gt (pv 0) pe_int (nomark _)) (pss_one (ps_ret pe_int)) pss_nil)
    (pss_cons (ps_if (pt_cmpR op_eq (pv 0) pe_int (nomark _)) (pss_one (ps_ret pe_int)) pss_nil) (pss_one (ps_ret pe_int))), ?_⟩
  obtain ⟨z, rfl, k⟩ := h
  unfold leadI at k
  refine ⟨_, rfl, _, _, rfl, rfl, _, rfl, ?_⟩
  by_cases c1 : 0 < z
  · refine if_yes (decide_eq_true c1) ?_
    rw [if_pos c1] at k
    exact k
  · refine if_no (decide_eq_false c1) ?_
    rw [if_neg c1] at k
    refine ⟨_, rfl, rfl, _, rfl, ?_⟩
    by_cases c2 : z = 0
    · refine if_yes (decide_eq_true (congrArg V.int c2)) ?_
      rw [if_pos c2] at k
      exact k
    · refine if_no (decide_eq_false fun e => c2 (V.int.inj e)) ?_
      rw [if_neg c2] at k
      exact k
def spHeard : Sp := fun vs H Q _ => ∃ l b : Int, vs = [.int l, .int b] ∧ Q (.int (hearI l b)) H
theorem sc_heard : FnScope ["less", "both"] ["less", "both"] (defScope s_heard) := ⟨rfl, rfl, rfl, by decide +kernel, rfl, by decide +kernel, by decide +kernel⟩
theorem ok_heard (F : Dfn K mg "heard" s_heard) (g0 : GI mg "SAME" 0) (g1 : GI mg "AT_SECOND" 1) (g2 : GI mg "AT_FIRST" 2) (g3 : GI mg "AT_NEITHER" 3) : Cal P w K mg base 1 "heard" spHeard := by
  refine cal_of F sc_heard (fun vs H Q E h => by (repeat' (first | (obtain ⟨e, _⟩ := h; exact congrArg List.length e) | (obtain ⟨_, h⟩ := h)))) (fun _ _ _ _ _ _ us hl => match us, hl with | [_, _], _ => rfl) fun f cdv A outer s H vs Q E hr h => ?_
  refine ⟨_, pss_cons (ps_if (PW.pt (pw_and (pt_cmpR op_eq (pv 0) pe_int (nomark _)) (pw_and1 (pt_cmpR op_eq (pv 1) pe_int (nomark _))))) (pss_one (ps_ret (pe_gi (by rfl) g0))) pss_nil)
    (pss_cons (ps_if (PW.pt (pw_and (pt_cmpR op_ge (pv 0) pe_int (nomark _)) (pw_and1 (pt_cmpR op_ge (pv 1) pe_int (nomark _))))) (pss_one (ps_ret (pe_gi (by rfl) g1))) pss_nil)
    (pss_cons (ps_if (PW.pt (pw_and (pt_cmpR op_le (pv 0) pe_int (nomark _)) (pw_and1 (pt_cmpR op_le (pv 1) pe_int (nomark _))))) (pss_one (ps_ret (pe_gi (by rfl) g2))) pss_nil)
    (pss_one (ps_ret (pe_gi (by rfl) g3))))), ?_⟩
  obtain ⟨l, b, rfl, k⟩ := h
  unfold hearI at k
  refine ⟨_, rfl, rfl, _, rfl, ?_⟩
  have n2 : ∀ p q : Prop, [Decidable p] → [Decidable q] → ¬ (p ∧ q) → ¬ (decide p = true ∧ decide q = true) := fun p q _ _ h z => h ⟨of_decide_eq_true z.1, of_decide_eq_true z.2⟩
  by_cases c1 : l = 0 ∧ b = 0
  · rw [if_pos c1] at k
    exact and_yes (d := decide (V.int b = V.int 0)) (dt (congrArg V.int c1.1)) (dt (congrArg V.int c1.2)) (fun z => ⟨_, rfl, rfl, _, rfl, z⟩) k
  · rw [if_neg c1] at k
    refine and_no (d := decide (V.int b = V.int 0)) (n2 _ _ fun z => c1 ⟨V.int.inj z.1, V.int.inj z.2⟩) (fun z => ⟨_, rfl, rfl, _, rfl, z⟩) ?_
    refine ⟨_, rfl, _, _, rfl, rfl, _, rfl, ?_⟩
    by_cases c2 : 0 ≤ l ∧ 0 ≤ b
    · rw [if_pos c2] at k
      exact and_yes (d := decide (0 ≤ b)) (dt c2.1) (dt c2.2) (fun z => ⟨_, rfl, _, _, rfl, rfl, _, rfl, z⟩) k
    · rw [if_neg c2] at k
      refine and_no (d := decide (0 ≤ b)) (n2 _ _ c2) (fun z => ⟨_, rfl, _, _, rfl, rfl, _, rfl, z⟩) ?_
      refine ⟨_, rfl, _, _, rfl, rfl, _, rfl, ?_⟩
      by_cases c3 : l ≤ 0 ∧ b ≤ 0
      · rw [if_pos c3] at k
        exact and_yes (d := decide (b ≤ 0)) (dt c3.1) (dt c3.2) (fun z => ⟨_, rfl, _, _, rfl, rfl, _, rfl, z⟩) k
      · rw [if_neg c3] at k
        exact and_no (d := decide (b ≤ 0)) (n2 _ _ c3) (fun z => ⟨_, rfl, _, _, rfl, rfl, _, rfl, z⟩) k
end
end MC
/-! How the object lies in the heap; the methods of World. -/
namespace MC
open PySem PySem.Spec PyProof.Rows L2
open Kv414 (Now Leg Factor Abs)
/-- but for b all stands -/
def Kp (b : Addr) (H H' : Hp) : Prop := ∀ c u, c ≠ b → H c = some u → H' c = some u
theorem kp_same {b : Addr} {H H' : Hp} (s : Same H H') : Kp b H H' := fun c u _ e => s c u e
theorem kp_upd {b : Addr} {H : Hp} {o : HO} : Kp b H (upd H b o) := fun c u n e => by rw [upd_ne n]; exact e
theorem Kp.trans {b : Addr} {H H' H'' : Hp} (s : Kp b H H') (t : Kp b H' H'') : Kp b H H'' := fun c u n e => t c u n (s c u n e)
def evR (e : Kv413.Event) : List Int := [e.t, e.x]
def lgR (g : Leg) : List Int := [g.k.p, g.k.q, g.s]
def rf {α : Type} (E : List (Addr × α)) : List V := E.map fun p => V.ref p.1
def snd {α : Type} (E : List (Addr × α)) : List α := E.map fun p => p.2
/-- at a a list of tuples -/
structure LAt {α : Type} (row : α → List Int) (H : Hp) (a : Addr) (E : List (Addr × α)) : Prop where
  at_ : H a = some (.lst (rf E))
  tu : ∀ p ∈ E, H p.1 = some (.tup ((row p.2).map V.int))
/-- no tuple stands there -/
def NoT (H : Hp) (b : Addr) : Prop := ∀ xs, H b ≠ some (.tup xs)
theorem NoT.lst {H : Hp} {b : Addr} {xs : List V} (h : H b = some (.lst xs)) : NoT H b := fun ys e => by rw [h] at e; cases e
theorem NoT.ins {H : Hp} {b C dx : Addr} {fs : List (Str × V)} (h : H b = some (.ins C dx fs)) : NoT H b := fun ys e => by rw [h] at e; cases e
section
variable {α : Type} {row : α → List Int} {H H' : Hp} {a b : Addr} {E : List (Addr × α)}
theorem LAt.keep (h : LAt row H a E) (k : Kp b H H') (m : NoT H b) (n : a ≠ b) : LAt row H' a E :=
  ⟨k _ _ n h.at_, fun p hp => k _ _ (fun e => m _ (e ▸ h.tu p hp)) (h.tu p hp)⟩
theorem LAt.same (h : LAt row H a E) (s : Same H H') : LAt row H' a E := ⟨s _ _ h.at_, fun p hp => s _ _ (h.tu p hp)⟩
theorem LAt.get (h : LAt row H a E) {i : Nat} {x : α} (hi : (snd E)[i]? = some x) : ∃ e, (rf E)[i]? = some (.ref e) ∧ H e = some (.tup ((row x).map V.int)) := by
  unfold snd at hi
  rw [List.getElem?_map] at hi
  cases e : E[i]? with
  | none => rw [e] at hi; cases hi
  | some p =>
    rw [e] at hi
    have hx : p.2 = x := Option.some.inj hi
    subst hx
    refine ⟨p.1, ?_, h.tu p (List.mem_of_getElem? e)⟩
    unfold rf
    rw [List.getElem?_map, e]
    rfl
theorem rf_len (E : List (Addr × α)) : (rf E).length = E.length := List.length_map _
theorem snd_len (E : List (Addr × α)) : (snd E).length = E.length := List.length_map _
/-- the same tuples in another list -/
theorem LAt.copy (h : LAt row H a E) {l : Addr} (hl : H l = none) : LAt row (upd H l (.lst (rf E))) l E :=
  ⟨upd_same, fun p hp => (same_upd hl) _ _ (h.tu p hp)⟩
end
structure Rec where
  le : Addr
  fa : Addr
  wa : Addr
  la : Addr
  lb : Addr
  ev : List (Addr × Kv413.Event)
  k : Factor
  ea : List (Addr × Leg)
  eb : List (Addr × Leg)
def Rec.now (r : Rec) : Now := ⟨snd r.ev, r.k, snd r.ea, snd r.eb⟩
def foot (r : Rec) : List Addr := [r.le, r.la, r.lb]
structure Held (H : Hp) (r : Rec) : Prop where
  ev : LAt evR H r.le r.ev
  fa : H r.fa = some (.tup [.int r.k.p, .int r.k.q])
  wa : H r.wa = some (.tup [.ref r.la, .ref r.lb])
  la : LAt lgR H r.la r.ea
  lb : LAt lgR H r.lb r.eb
  n1 : r.le ≠ r.la
  n2 : r.le ≠ r.lb
  n3 : r.la ≠ r.lb
  ok : NowOk r.now
theorem in_foot {r : Rec} {b : Addr} (h : b ∈ foot r) : b = r.le ∨ b = r.la ∨ b = r.lb := by
  simpa [foot] using h
theorem Held.keep {H H' : Hp} {r : Rec} {b : Addr} (h : Held H r) (k : Kp b H H') (m : NoT H b) (n : b ∉ foot r) : Held H' r := by
  have e1 : r.le ≠ b := fun e => n (by simp [foot, e])
  have e2 : r.la ≠ b := fun e => n (by simp [foot, e])
  have e3 : r.lb ≠ b := fun e => n (by simp [foot, e])
  exact ⟨h.ev.keep k m e1, k _ _ (fun e => m _ (e ▸ h.fa)) h.fa, k _ _ (fun e => m _ (e ▸ h.wa)) h.wa, h.la.keep k m e2, h.lb.keep k m e3, h.n1, h.n2, h.n3, h.ok⟩
theorem Held.same {H H' : Hp} {r : Rec} (h : Held H r) (s : Same H H') : Held H' r :=
  ⟨h.ev.same s, s _ _ h.fa, s _ _ h.wa, h.la.same s, h.lb.same s, h.n1, h.n2, h.n3, h.ok⟩
theorem Held.noT {H : Hp} {r : Rec} {b : Addr} (h : Held H r) (n : b ∈ foot r) : NoT H b ∧ ∃ xs, H b = some (.lst xs) := by
  rcases in_foot n with rfl | rfl | rfl
  · exact ⟨.lst h.ev.at_, _, h.ev.at_⟩
  · exact ⟨.lst h.la.at_, _, h.la.at_⟩
  · exact ⟨.lst h.lb.at_, _, h.lb.at_⟩
def wF (le fa wa pa : V) : List (Str × V) := [("events", le), ("factor", fa), ("ways", wa), ("past", pa)]
def Rec.fs (r : Rec) (pa : Addr) : List (Str × V) := wF (.ref r.le) (.ref r.fa) (.ref r.wa) (.ref pa)
theorem lk_here {k : Str} {v : V} {r : List (Str × V)} : List.lookup k ((k, v) :: r) = some v := by
  have e : (k == k) = true := beq_self_eq_true k
  simp only [List.lookup, e]
theorem lk_past {k g : Str} {v : V} {r : List (Str × V)} (h : (k == g) = false) : List.lookup k ((g, v) :: r) = List.lookup k r := by
  simp only [List.lookup, h]
theorem put_here {f : Str} {v x : V} {r : List (Str × V)} : putF f v ((f, x) :: r) = (f, v) :: r := if_pos rfl
theorem put_past {f g : Str} {v x : V} {r : List (Str × V)} (h : ¬ g = f) : putF f v ((g, x) :: r) = (g, x) :: putF f v r := if_neg h
section
variable {a b c d x : V}
theorem lkE : (wF a b c d).lookup ("events" : Str) = some a := lk_here
theorem lkF : (wF a b c d).lookup ("factor" : Str) = some b := (lk_past (by decide +kernel)).trans lk_here
theorem lkW : (wF a b c d).lookup ("ways" : Str) = some c := (lk_past (by decide +kernel)).trans ((lk_past (by decide +kernel)).trans lk_here)
theorem lkP : (wF a b c d).lookup ("past" : Str) = some d := (lk_past (by decide +kernel)).trans ((lk_past (by decide +kernel)).trans ((lk_past (by decide +kernel)).trans lk_here))
theorem lk_none {k : Str} (h1 : (k == ("events" : Str)) = false) (h2 : (k == ("factor" : Str)) = false) (h3 : (k == ("ways" : Str)) = false) (h4 : (k == ("past" : Str)) = false) : (wF a b c d).lookup k = none :=
  (lk_past h1).trans ((lk_past h2).trans ((lk_past h3).trans ((lk_past h4).trans rfl)))
theorem lk1 : (wF a b c d).lookup ("has_event" : Str) = none := lk_none (by decide +kernel) (by decide +kernel) (by decide +kernel) (by decide +kernel)
theorem lk2 : (wF a b c d).lookup ("has_way" : Str) = none := lk_none (by decide +kernel) (by decide +kernel) (by decide +kernel) (by decide +kernel)
theorem lk3 : (wF a b c d).lookup ("all_held" : Str) = none := lk_none (by decide +kernel) (by decide +kernel) (by decide +kernel) (by decide +kernel)
theorem lk4 : (wF a b c d).lookup ("remember" : Str) = none := lk_none (by decide +kernel) (by decide +kernel) (by decide +kernel) (by decide +kernel)
theorem lk5 : (wF a b c d).lookup ("take_back" : Str) = none := lk_none (by decide +kernel) (by decide +kernel) (by decide +kernel) (by decide +kernel)
theorem puE : putF "events" x (wF a b c d) = wF x b c d := put_here
theorem puF : putF "factor" x (wF a b c d) = wF a x c d := (put_past (by decide +kernel)).trans (congrArg _ put_here)
theorem puW : putF "ways" x (wF a b c d) = wF a b x d := (put_past (by decide +kernel)).trans (congrArg _ ((put_past (by decide +kernel)).trans (congrArg _ put_here)))
theorem puNew : putF "past" d (putF "ways" c (putF "factor" b (putF "events" a []))) = wF a b c d := by
  have e1 : putF "events" a [] = [(("events" : Str), a)] := rfl
  have e2 : putF "factor" b [(("events" : Str), a)] = [(("events" : Str), a), ("factor", b)] := (put_past (by decide +kernel)).trans rfl
  have e3 : putF "ways" c [(("events" : Str), a), ("factor", b)] = [(("events" : Str), a), ("factor", b), ("ways", c)] := (put_past (by decide +kernel)).trans (congrArg _ ((put_past (by decide +kernel)).trans rfl))
  rw [e1, e2, e3]
  exact (put_past (by decide +kernel)).trans (congrArg _ ((put_past (by decide +kernel)).trans (congrArg _ ((put_past (by decide +kernel)).trans rfl))))
end
structure Cur (C : Addr) (H : Hp) (w dx pa : Addr) (r : Rec) : Prop where
  ob : H w = some (.ins C dx (r.fs pa))
  hd : Held H r
theorem Cur.same {C w dx pa : Addr} {H H' : Hp} {r : Rec} (h : Cur C H w dx pa r) (s : Same H H') : Cur C H' w dx pa r := ⟨s _ _ h.ob, h.hd.same s⟩
/-- what the top has written of the class, and which names it leaves alone -/
structure Txt (K : PySem.W.Frag) (mg : Str → Option Value) (C : Addr) : Prop where
  cl : Cls K C
  nE : NoAttr K C "events"
  nF : NoAttr K C "factor"
  nW : NoAttr K C "ways"
  nP : NoAttr K C "past"
  len : mg "len" = none
  list : mg "list" = none
  sum : mg "sum" = none
/-- a method -/
def Mth (P : Program) (w : World) (K : PySem.W.Frag) (mg : Str → Option Value) (base : Heap) (C : Addr) (k : Nat) (m : Str) (sp : Sp) : Prop :=
  ∃ (f : Addr) (fd : FuncData) (ps : List Str), FnOk P w K mg base CX0 k f fd ps sp ∧ Meth K C m f ∧ Binds K fd ps []
def MDf (K : PySem.W.Frag) (C : Addr) (x qual : Str) (st : Stmt) : Prop := ∃ f fd, Fun K x qual st f fd ∧ Meth K C x f
section
variable {P : Program} {w : World} {K : PySem.W.Frag} {mg : Str → Option Value} {base : Heap} {C : Addr}
theorem mth_of {x qual : Str} {st : Stmt} {N ps : List Str} {k : Nat} {sp : Sp} (F : MDf K C x qual st) (S : FnScope N ps (defScope st)) (len : ∀ vs H Q E, sp vs H Q E → vs.length = ps.length)
    (hb : ∀ (kV doc pm : Value) (an : Option Addr) (cdv ct : Value) (us : List Value), us.length = ps.length → bindArgs (PySem.W.fnOf x qual (defArgs st) (defBody st) (defScope st) .none kV doc pm an cdv ct) ⟨us, []⟩ = pure (ps.zip us))
    (body : ∀ (f : Addr) (cdv : Value) (A : Around) (outer : List Env) (s : Shared) (H : Hp) (vs : List V) (Q : VK) (E : XK), Room k (A.deeper (envOfC qual (defScope st) s.heap.objs.size f cdv)) → sp vs H Q E →
      ∃ t, PSs (cxOf CX0 P w K mg base N qual (defScope st) f cdv A outer s H E).nox (defBody st) t ∧ t { nx := fun _ H' => Q .non H', rt := Q } (start N vs) H) : Mth P w K mg base C (k + 1) x sp := by
  obtain ⟨f, fd, F, hm⟩ := F
  exact ⟨f, fd, ps, F.ok S len (body f), hm, F.binds hb⟩
theorem obs {H : Hp} {wd dx pa : Addr} {r : Rec} (h : Cur C H wd dx pa r) : H wd = some (.ins C dx (wF (.ref r.le) (.ref r.fa) (.ref r.wa) (.ref pa))) := h.ob
/-! ### has_event, has_way -/
def spHasE (C : Addr) : Sp := fun vs H Q _ => ∃ (wd dx pa : Addr) (r : Rec) (i : Int), vs = [.ref wd, .int i] ∧ Cur C H wd dx pa r ∧ Q (.bl (decide (i < (r.ev.length : Int)))) H
theorem sc_World_has_event : FnScope ["self", "i"] ["self", "i"] (defScope s_World_has_event) := ⟨rfl, rfl, rfl, by decide +kernel, rfl, by decide +kernel, by decide +kernel⟩
theorem ok_hasE (F : MDf K C "has_event" "World.has_event" s_World_has_event) (T : Txt K mg C) : Mth P w K mg base C 1 "has_event" (spHasE C) := by
  refine mth_of F sc_World_has_event (fun vs H Q E h => by (repeat' (first | (obtain ⟨e, _⟩ := h; exact congrArg List.length e) | (obtain ⟨_, h⟩ := h)))) (fun _ _ _ _ _ _ us hl => match us, hl with | [_, _], _ => rfl) fun f cdv A outer s H vs Q E hr h => ?_
  refine ⟨_, pss_one (ps_ret (pe_cmpR op_lt (pv 1) (pe_callB call_len_seq (by rfl) T.len PySem.boot_len (pa_cons (pe_fld (pv 0) rfl) pa_nil)) (nomark _))), ?_⟩
  obtain ⟨wd, dx, pa, r, i, rfl, c, k⟩ := h
  have ob := obs c
  refine ⟨_, rfl, _, rfl, wd, C, _, _, _, rfl, ob, T.cl, T.nE, lkE, r.le, _, rfl, .inl (SqL.of c.hd.ev.at_), _, _, rfl, rfl, ?_⟩
  rw [rf_len]
  exact k
def spHasW (C : Addr) : Sp := fun vs H Q _ => ∃ (wd dx pa : Addr) (r : Rec) (i : Int), vs = [.ref wd, .int i] ∧ Cur C H wd dx pa r ∧ Q (.bl (decide (i < 2))) H
theorem sc_World_has_way : FnScope ["self", "w"] ["self", "w"] (defScope s_World_has_way) := ⟨rfl, rfl, rfl, by decide +kernel, rfl, by decide +kernel, by decide +kernel⟩
theorem ok_hasW (F : MDf K C "has_way" "World.has_way" s_World_has_way) (T : Txt K mg C) : Mth P w K mg base C 1 "has_way" (spHasW C) := by
  refine mth_of F sc_World_has_way (fun vs H Q E h => by (repeat' (first | (obtain ⟨e, _⟩ := h; exact congrArg List.length e) | (obtain ⟨_, h⟩ := h)))) (fun _ _ _ _ _ _ us hl => match us, hl with | [_, _], _ => rfl) fun f cdv A outer s H vs Q E hr h => ?_
  refine ⟨_, pss_one (ps_ret (pe_cmpR op_lt (pv 1) (pe_callB call_len_seq (by rfl) T.len PySem.boot_len (pa_cons (pe_fld (pv 0) rfl) pa_nil)) (nomark _))), ?_⟩
  obtain ⟨wd, dx, pa, r, i, rfl, c, k⟩ := h
  have ob := obs c
  refine ⟨_, rfl, _, rfl, wd, C, _, _, _, rfl, ob, T.cl, T.nW, lkW, r.wa, _, rfl, .inr (SqT.of c.hd.wa), _, _, rfl, rfl, ?_⟩
  exact k
/-! ### all_held -/
def spAll (C : Addr) : Sp := fun vs H Q _ => ∃ (wd dx pa : Addr) (r : Rec), vs = [.ref wd] ∧ Cur C H wd dx pa r ∧
  ∀ H' r' p, Same H H' → Held H' r' → r'.now = r.now → (∀ x ∈ foot r', H x = none) → H p = none → H' p = some (.tup [.ref r'.le, .ref r'.fa, .ref r'.wa]) → Q (.ref p) H'
theorem sc_World_all_held : FnScope ["self"] ["self"] (defScope s_World_all_held) := ⟨rfl, rfl, rfl, by decide +kernel, rfl, by decide +kernel, by decide +kernel⟩
theorem ok_all (F : MDf K C "all_held" "World.all_held" s_World_all_held) (T : Txt K mg C) : Mth P w K mg base C 1 "all_held" (spAll C) := by
  refine mth_of F sc_World_all_held (fun vs H Q E h => by (repeat' (first | (obtain ⟨e, _⟩ := h; exact congrArg List.length e) | (obtain ⟨_, h⟩ := h)))) (fun _ _ _ _ _ _ us hl => match us, hl with | [_], _ => rfl) fun f cdv A outer s H vs Q E hr h => ?_
  refine ⟨_, pss_one (ps_ret (pe_tup (pa_cons (pe_callTy call_list_of (by rfl) T.list (by decide +kernel) (pa_cons (pe_fld (pv 0) rfl) pa_nil)) (pa_cons (pe_fld (pv 0) rfl) (pa_cons (pe_tup (pa_cons (pe_callTy call_list_of (by rfl) T.list (by decide +kernel) (pa_cons (pe_ix ix_tup (pe_fld (pv 0) rfl) pe_int (fun _ _ => rfl)) pa_nil)) (pa_cons (pe_callTy call_list_of (by rfl) T.list (by decide +kernel) (pa_cons (pe_ix ix_tup (pe_fld (pv 0) rfl) pe_int (fun _ _ => rfl)) pa_nil)) pa_nil))) pa_nil))))), ?_⟩
  obtain ⟨wd, dx, pa, r, rfl, c, k⟩ := h
  have ob := obs c
  refine ⟨_, rfl, wd, C, _, _, _, rfl, ob, T.cl, T.nE, lkE, r.le, _, rfl, .inl (SqL.of c.hd.ev.at_), fun l1 h1 => ?_⟩
  have s1 := same_upd (o := .lst (rf r.ev)) h1
  have c1 := c.same s1
  have ob1 := obs c1
  refine ⟨_, rfl, wd, C, _, _, _, rfl, ob1, T.cl, T.nF, lkF, _, rfl, wd, C, _, _, _, rfl, ob1, T.cl, T.nW, lkW, r.wa, _, 0, _, rfl, rfl, SqT.of c1.hd.wa, atI_nat (j := 0) rfl, r.la, _, rfl, .inl (SqL.of c1.hd.la.at_), fun l2 h2 => ?_⟩
  have s2 := same_upd (o := .lst (rf r.ea)) h2
  have c2 := c1.same s2
  have ob2 := obs c2
  refine ⟨_, rfl, wd, C, _, _, _, rfl, ob2, T.cl, T.nW, lkW, r.wa, _, 1, _, rfl, rfl, SqT.of c2.hd.wa, atI_nat (j := 1) rfl, r.lb, _, rfl, .inl (SqL.of c2.hd.lb.at_), fun l3 h3 => ?_⟩
  have s3 := same_upd (o := .lst (rf r.eb)) h3
  have c3 := c2.same s3
  refine ⟨(by show 2 ≤ sizeLine; decide), fun t1 ht1 => ⟨(by show 3 ≤ sizeLine; decide), fun t2 ht2 => ?_⟩⟩
  have s4 := same_upd (o := .tup [.ref l2, .ref l3]) ht1
  have s5 := same_upd (o := .tup [.ref l1, .ref r.fa, .ref t1]) ht2
  have q2 : H l2 = none := s1.free h2
  have q3 : H l3 = none := s1.free (s2.free h3)
  have n12 : l1 ≠ l2 := ne_of_none (H := upd H l1 (.lst (rf r.ev))) upd_same h2
  have n13 : l1 ≠ l3 := ne_of_none (s2 _ _ (upd_same (H := H) (o := .lst (rf r.ev)))) h3
  have n23 : l2 ≠ l3 := ne_of_none upd_same h3
  have v1 := ((s2.trans s3).trans (s4.trans s5))
  have v2 := s3.trans (s4.trans s5)
  have v3 := s4.trans s5
  refine k _ ⟨l1, r.fa, t1, l2, l3, r.ev, r.k, r.ea, r.eb⟩ t2 (s1.trans v1) ⟨(c.hd.ev.copy h1).same v1, v3 _ _ c3.hd.fa, s5 _ _ upd_same, (c1.hd.la.copy h2).same v2, (c2.hd.lb.copy h3).same v3, n12, n13, n23, c.hd.ok⟩ rfl ?_ (s1.free (s2.free (s3.free (s4.free ht2)))) upd_same
  · intro x hx
    rcases in_foot hx with rfl | rfl | rfl
    · exact h1
    · exact q2
    · exact q3
end
end MC
namespace MC
open PySem PySem.Spec PyProof.Rows L2
open Kv414 (Now Leg Factor Abs)
section
variable {P : Program} {w : World} {K : PySem.W.Frag} {mg : Str → Option Value} {base : Heap} {C : Addr}
/-! ### remember -/
def remL (xs : List V) (v : V) : List V := if xs.length < 10 then xs ++ [v] else (xs ++ [v]).eraseIdx 0
def spRem (C : Addr) : Sp := fun vs H Q _ => ∃ (wd dx pa : Addr) (le fa wa v : V) (xs : List V), vs = [.ref wd, v] ∧ H wd = some (.ins C dx (wF le fa wa (.ref pa))) ∧ H pa = some (.lst xs) ∧ xs.length ≤ 10 ∧
  ∀ H', Kp pa H H' → H' pa = some (.lst (remL xs v)) → Q .non H'
theorem sc_World_remember : FnScope ["self", "held"] ["self", "held"] (defScope s_World_remember) := ⟨rfl, rfl, rfl, by decide +kernel, rfl, by decide +kernel, by decide +kernel⟩
theorem ok_rem (F : MDf K C "remember" "World.remember" s_World_remember) (T : Txt K mg C) (g : GI mg "MOST_TAKEN_BACK" 10) : Mth P w K mg base C 1 "remember" (spRem C) := by
  refine mth_of F sc_World_remember (fun vs H Q E h => by (repeat' (first | (obtain ⟨e, _⟩ := h; exact congrArg List.length e) | (obtain ⟨_, h⟩ := h)))) (fun _ _ _ _ _ _ us hl => match us, hl with | [_, _], _ => rfl) fun f cdv A outer s H vs Q E hr h => ?_
  refine ⟨_, pss_cons (ps_expr (pe_bm PySem.F.plainAttrs_list PySem.F.slot_list_append PySem.F.type_list_append mt_append (pe_fld (pv 0) rfl) (pa_cons (pv 1) pa_nil)))
    (pss_one (ps_if (pt_cmpR op_gt (pe_callB call_len_seq (by rfl) T.len PySem.boot_len (pa_cons (pe_fld (pv 0) rfl) pa_nil)) (pe_gi (by rfl) g) (nomark _)) (pss_one (ps_expr (pe_bm PySem.F.plainAttrs_list PySem.F.slot_list_pop PySem.F.type_list_pop mt_popAt (pe_fld (pv 0) rfl) (pa_cons pe_int pa_nil)))) pss_nil)), ?_⟩
  obtain ⟨wd, dx, pa, le, fa, wa, v, xs, rfl, ob, hp, hl, k⟩ := h
  have nw : wd ≠ pa := ne_of ob hp (by intro z; cases z)
  refine ⟨_, rfl, wd, C, _, _, _, rfl, ob, T.cl, T.nP, lkP, .inl ⟨rfl, _, SqL.of hp⟩, _, rfl, pa, _, _, rfl, rfl, hp, (small1000 (by omega)), ?_⟩
  have ob1 : upd H pa (.lst (xs ++ [v])) wd = some (.ins C dx (wF le fa wa (.ref pa))) := by rw [upd_ne nw]; exact ob
  refine ⟨_, rfl, wd, C, _, _, _, rfl, ob1, T.cl, T.nP, lkP, pa, _, rfl, .inl (SqL.of upd_same), _, _, rfl, rfl, _, rfl, ?_⟩
  by_cases c : xs.length < 10
  · refine if_no (df ?_) ?_
    · rw [List.length_append]
      show ¬ (10 : Int) < ((xs.length + 1 : Nat) : Int)
      omega
    · refine k _ kp_upd ?_
      rw [upd_same]
      unfold remL
      rw [if_pos c]
  · refine if_yes (dt ?_) ?_
    · rw [List.length_append]
      show (10 : Int) < ((xs.length + 1 : Nat) : Int)
      omega
    · refine ⟨_, rfl, wd, C, _, _, _, rfl, ob1, T.cl, T.nP, lkP, .inl ⟨rfl, _, SqL.of upd_same⟩, pa, _, 0, 0, (xs ++ [v])[0]'(by simp), rfl, rfl, upd_same, (by decide), (by decide), ?_, ?_, ?_⟩
      · unfold seqIndex?
        simp
      · exact List.getElem?_eq_getElem _
      · refine k _ (kp_upd.trans kp_upd) ?_
        rw [upd_same]
        unfold remL
        rw [if_neg c]
/-! ### take_back -/
def spTake (C : Addr) : Sp := fun vs H Q _ => ∃ (wd dx pa h : Addr) (le fa wa v1 v2 v3 : V) (xs : List V), vs = [.ref wd] ∧ H wd = some (.ins C dx (wF le fa wa (.ref pa))) ∧ H pa = some (.lst (xs ++ [.ref h])) ∧ H h = some (.tup [v1, v2, v3]) ∧
  ∀ H', (∀ c u, c ≠ wd → c ≠ pa → H c = some u → H' c = some u) → H' pa = some (.lst xs) → H' wd = some (.ins C dx (wF v1 v2 v3 (.ref pa))) → Q .non H'
theorem sc_World_take_back : FnScope ["self", "held"] ["self"] (defScope s_World_take_back) := ⟨rfl, rfl, rfl, by decide +kernel, rfl, by decide +kernel, by decide +kernel⟩
theorem ok_take (F : MDf K C "take_back" "World.take_back" s_World_take_back) (T : Txt K mg C) : Mth P w K mg base C 1 "take_back" (spTake C) := by
  refine mth_of F sc_World_take_back (fun vs H Q E h => by (repeat' (first | (obtain ⟨e, _⟩ := h; exact congrArg List.length e) | (obtain ⟨_, h⟩ := h)))) (fun _ _ _ _ _ _ us hl => match us, hl with | [_], _ => rfl) fun f cdv A outer s H vs Q E hr h => ?_
  refine ⟨_, pss_cons (ps_set (i := 1) sc_World_take_back.nd rfl (Or.inl rfl) (pe_bm0 PySem.F.plainAttrs_list PySem.F.slot_list_pop PySem.F.type_list_pop mt_pop (pe_fld (pv 0) rfl)))
    (pss_cons (ps_fld (pv 0) (pe_ix ix_tup (pv 1) pe_int (fun _ _ => rfl)) rfl) (pss_cons (ps_fld (pv 0) (pe_ix ix_tup (pv 1) pe_int (fun _ _ => rfl)) rfl) (pss_one (ps_fld (pv 0) (pe_ix ix_tup (pv 1) pe_int (fun _ _ => rfl)) rfl)))), ?_⟩
  obtain ⟨wd, dx, pa, h, le, fa, wa, v1, v2, v3, xs, rfl, ob, hp, hh, k⟩ := h
  have nw : wd ≠ pa := ne_of ob hp (by intro z; cases z)
  have nh : h ≠ pa := ne_of hh hp (by intro z; cases z)
  have nhw : h ≠ wd := ne_of hh ob (by intro z; cases z)
  refine ⟨_, rfl, wd, C, _, _, _, rfl, ob, T.cl, T.nP, lkP, .inl ⟨rfl, _, SqL.of hp⟩, pa, _, .ref h, rfl, rfl, hp, (by simp), ?_⟩
  rw [List.dropLast_concat]
  generalize hH1 : upd H pa (.lst xs) = H1
  have ob1 : H1 wd = some (.ins C dx (wF le fa wa (.ref pa))) := by rw [← hH1, upd_ne nw]; exact ob
  have hh1 : H1 h = some (.tup [v1, v2, v3]) := by rw [← hH1, upd_ne nh]; exact hh
  have hp1 : H1 pa = some (.lst xs) := by rw [← hH1, upd_same]
  refine ⟨_, rfl, h, _, 0, _, rfl, rfl, SqT.of hh1, atI_nat (j := 0) rfl, _, rfl, wd, C, dx, _, rfl, ob1, T.cl, T.nE, (by show 4 < 1000; decide), ?_⟩
  rw [puE]
  generalize hH2 : upd H1 wd (.ins C dx (wF v1 fa wa (.ref pa))) = H2
  have ob2 : H2 wd = some (.ins C dx (wF v1 fa wa (.ref pa))) := by rw [← hH2, upd_same]
  have hh2 : H2 h = some (.tup [v1, v2, v3]) := by rw [← hH2, upd_ne nhw]; exact hh1
  refine ⟨_, rfl, h, _, 1, _, rfl, rfl, SqT.of hh2, atI_nat (j := 1) rfl, _, rfl, wd, C, dx, _, rfl, ob2, T.cl, T.nF, (by show 4 < 1000; decide), ?_⟩
  rw [puF]
  generalize hH3 : upd H2 wd (.ins C dx (wF v1 v2 wa (.ref pa))) = H3
  have ob3 : H3 wd = some (.ins C dx (wF v1 v2 wa (.ref pa))) := by rw [← hH3, upd_same]
  have hh3 : H3 h = some (.tup [v1, v2, v3]) := by rw [← hH3, upd_ne nhw]; exact hh2
  refine ⟨_, rfl, h, _, 2, _, rfl, rfl, SqT.of hh3, atI_nat (j := 2) rfl, _, rfl, wd, C, dx, _, rfl, ob3, T.cl, T.nW, (by show 4 < 1000; decide), ?_⟩
  rw [puW]
  refine k _ (fun c u n1 n2 e => ?_) ?_ upd_same
  · rw [upd_ne n1, ← hH3, upd_ne n1, ← hH2, upd_ne n1, ← hH1, upd_ne n2]
    exact e
  · rw [upd_ne nw.symm, ← hH3, upd_ne nw.symm, ← hH2, upd_ne nw.symm]
    exact hp1
/-! ### __init__ -/
def now0 : Now := ⟨[], ⟨1, 1⟩, [], []⟩
theorem ok0 : NowOk now0 := ⟨(fun _ h => by cases h), by decide, by decide, by decide, by decide, by decide, (fun _ h => by cases h), (fun _ h => by cases h), by decide, by decide⟩
def spInit (C : Addr) : Sp := fun vs H Q _ => ∃ (x dx : Addr), vs = [.ref x] ∧ H x = some (.ins C dx []) ∧
  ∀ H' pa r, Kp x H H' → Cur C H' x dx pa r → r.now = now0 → H' pa = some (.lst []) → (∀ y ∈ foot r, H y = none ∧ y ≠ pa) → H pa = none → Q .non H'
theorem sc_World_init : FnScope ["self"] ["self"] (defScope s_World_init) := ⟨rfl, rfl, rfl, by decide +kernel, rfl, by decide +kernel, by decide +kernel⟩
theorem ok_init (F : MDf K C "__init__" "World.__init__" s_World_init) (T : Txt K mg C) : Mth P w K mg base C 1 "__init__" (spInit C) := by
  refine mth_of F sc_World_init (fun vs H Q E h => by (repeat' (first | (obtain ⟨e, _⟩ := h; exact congrArg List.length e) | (obtain ⟨_, h⟩ := h)))) (fun _ _ _ _ _ _ us hl => match us, hl with | [_], _ => rfl) fun f cdv A outer s H vs Q E hr h => ?_
  refine ⟨_, pss_cons (ps_fld (pv 0) (pe_lst pa_nil) rfl) (pss_cons (ps_fld (pv 0) (pe_tup (pa_cons pe_int (pa_cons pe_int pa_nil))) rfl)
    (pss_cons (ps_fld (pv 0) (pe_tup (pa_cons (pe_lst pa_nil) (pa_cons (pe_lst pa_nil) pa_nil))) rfl) (pss_one (ps_fld (pv 0) (pe_lst pa_nil) rfl)))), ?_⟩
  obtain ⟨x, dx, rfl, ob, k⟩ := h
  refine ⟨(by show 0 ≤ sizeLine; decide), fun le hle => ?_⟩
  have nle : x ≠ le := ne_of_none ob hle
  refine ⟨_, rfl, x, C, dx, _, rfl, (by rw [upd_ne nle]; exact ob), T.cl, T.nE, (by show 0 < 1000; decide), ?_⟩
  generalize hH1 : upd (upd H le (.lst [])) x (.ins C dx (putF "events" (.ref le) [])) = H1
  have ob1 : H1 x = some (.ins C dx (putF "events" (.ref le) [])) := by rw [← hH1, upd_same]
  have k1 : Kp x H H1 := by rw [← hH1]; exact (kp_same (same_upd hle)).trans kp_upd
  have a1 : H1 le = some (.lst []) := by rw [← hH1, upd_ne nle.symm, upd_same]
  refine ⟨(by show 2 ≤ sizeLine; decide), fun fa hfa => ?_⟩
  have nfa : x ≠ fa := ne_of_none ob1 hfa
  refine ⟨_, rfl, x, C, dx, _, rfl, (by rw [upd_ne nfa]; exact ob1), T.cl, T.nF, (by show 1 < 1000; decide), ?_⟩
  generalize hH2 : upd (upd H1 fa (.tup [.int 1, .int 1])) x (.ins C dx (putF "factor" (.ref fa) (putF "events" (.ref le) []))) = H2
  have ob2 : H2 x = some (.ins C dx (putF "factor" (.ref fa) (putF "events" (.ref le) []))) := by rw [← hH2, upd_same]
  have k2 : Kp x H1 H2 := by rw [← hH2]; exact (kp_same (same_upd hfa)).trans kp_upd
  have a2 : H2 fa = some (.tup [.int 1, .int 1]) := by rw [← hH2, upd_ne nfa.symm, upd_same]
  refine ⟨(by show 0 ≤ sizeLine; decide), fun la hla => ⟨(by show 0 ≤ sizeLine; decide), fun lb hlb => ⟨(by show 2 ≤ sizeLine; decide), fun wa hwa => ?_⟩⟩⟩
  have s1 := same_upd (o := .lst []) hla
  have s2 := same_upd (o := .lst []) hlb
  have s3 := same_upd (o := .tup [.ref la, .ref lb]) hwa
  generalize hH3 : upd (upd (upd H2 la (.lst [])) lb (.lst [])) wa (.tup [.ref la, .ref lb]) = H3 at *
  have s123 : Same H2 H3 := s1.trans (s2.trans s3)
  have ob3 : H3 x = some (.ins C dx (putF "factor" (.ref fa) (putF "events" (.ref le) []))) := s123 _ _ ob2
  have b1 : H3 la = some (.lst []) := s3 _ _ (s2 _ _ upd_same)
  have b2 : H3 lb = some (.lst []) := s3 _ _ upd_same
  have b3 : H3 wa = some (.tup [.ref la, .ref lb]) := by rw [← hH3, upd_same]
  have nab : la ≠ lb := ne_of_none upd_same hlb
  have xa : x ≠ la := ne_of_none ob2 hla
  have xb : x ≠ lb := ne_of_none (s1 _ _ ob2) hlb
  have xw : x ≠ wa := ne_of_none (s2 _ _ (s1 _ _ ob2)) hwa
  refine ⟨_, rfl, x, C, dx, _, rfl, ob3, T.cl, T.nW, (by show 2 < 1000; decide), ?_⟩
  generalize hH4 : upd H3 x (.ins C dx (putF "ways" (.ref wa) (putF "factor" (.ref fa) (putF "events" (.ref le) [])))) = H4
  have ob4 : H4 x = some (.ins C dx (putF "ways" (.ref wa) (putF "factor" (.ref fa) (putF "events" (.ref le) [])))) := by rw [← hH4, upd_same]
  have k3 : Kp x H2 H4 := by rw [← hH4]; exact (kp_same s123).trans kp_upd
  refine ⟨(by show 0 ≤ sizeLine; decide), fun pa hpa => ?_⟩
  have npa : x ≠ pa := ne_of_none ob4 hpa
  refine ⟨_, rfl, x, C, dx, _, rfl, (by rw [upd_ne npa]; exact ob4), T.cl, T.nP, (by show 3 < 1000; decide), ?_⟩
  rw [puNew]
  generalize hH5 : upd (upd H4 pa (.lst [])) x (.ins C dx (wF (.ref le) (.ref fa) (.ref wa) (.ref pa))) = H5
  have k4 : Kp x H4 H5 := by rw [← hH5]; exact (kp_same (same_upd hpa)).trans kp_upd
  have k34 : Kp x H3 H5 := by
    refine Kp.trans ?_ k4
    rw [← hH4]
    exact kp_upd
  have fr : ∀ {y : Addr} {G G' : Hp}, x ≠ y → Kp x G G' → G' y = none → G y = none := fun {y} {G} {G'} n kk e => by
    cases z : G y with
    | none => rfl
    | some u => rw [kk _ _ n.symm z] at e; cases e
  have pn : H4 pa = none := hpa
  have k24 : Kp x H H4 := k1.trans (k2.trans k3)
  have z : Held H5 ⟨le, fa, wa, la, lb, [], ⟨1, 1⟩, [], []⟩ := by
    refine ⟨⟨(k2.trans (k3.trans k4)) _ _ nle.symm a1, fun p hp => by cases hp⟩, (k3.trans k4) _ _ nfa.symm a2, k34 _ _ xw.symm b3, ⟨k34 _ _ xa.symm b1, fun p hp => by cases hp⟩, ⟨k34 _ _ xb.symm b2, fun p hp => by cases hp⟩, ?_, ?_, nab, ok0⟩
    · exact ne_of_none (k2 _ _ nle.symm a1) hla
    · exact ne_of_none (s1 _ _ (k2 _ _ nle.symm a1)) hlb
  refine k H5 pa _ (k24.trans k4) ⟨by rw [← hH5, upd_same]; rfl, z⟩ rfl (by rw [← hH5, upd_ne npa.symm, upd_same]) ?_ (fr npa k24 hpa)
  intro y hy
  have gone : ∀ y u, y ≠ x → H4 y = some u → y ≠ pa := fun y u _ e => ne_of_none e hpa
  rcases in_foot hy with rfl | rfl | rfl
  · exact ⟨hle, gone _ _ nle.symm ((k2.trans k3) _ _ nle.symm a1)⟩
  · refine ⟨fr xa (k1.trans k2) hla, gone _ (.lst []) xa.symm ?_⟩
    rw [← hH4, upd_ne xa.symm]
    exact b1
  · refine ⟨fr xb (k1.trans k2) (s1.free hlb), gone _ (.lst []) xb.symm ?_⟩
    rw [← hH4, upd_ne xb.symm]
    exact b2
end
end MC
namespace MC
open PySem PySem.Spec PyProof.Rows L2
open Kv414 (Now Leg Factor Abs)
/-- the promise of a look -/
def spLook (K : PySem.W.Frag) (C : Addr) (num : Int) : Sp := fun vs H Q _ => ∃ (wd g dx pa : Addr) (r : Rec) (as : List Int), vs = [.ref wd, .ref g] ∧ SqL K H g (as.map V.int) ∧ inB num as ∧ Cur C H wd dx pa r ∧
  ∀ H' p, Same H H' → H p = none → H' p = some (.lst ((ans r.now (cOf num as)).map V.int)) → Q (.ref p) H'
def GT (K : PySem.W.Frag) (mg : Str → Option Value) (x : Str) (ns : List Int) : Prop := ∃ a, mg x = some (.ref a) ∧ ∀ H, SqT K H a (ns.map V.int)
theorem same_lst {K : PySem.W.Frag} {H H' : Hp} {a : Addr} {xs : List V} (e : Same H H') (h : SqL K H a xs) : SqL K H' a xs := by
  rcases h with (h | ⟨o, h⟩) | h
  · exact .inl (.inl (e _ _ h))
  · exact .inl (.inr ⟨o, e _ _ h⟩)
  · exact .inr h
theorem fac_pt {n : Now} (h : NowOk n) : Pt n.k.p ∧ Pt n.k.q := ⟨⟨by have := h.p0; omega, by have := h.p1; omega⟩, ⟨by have := h.q0; omega, by have := h.q1; omega⟩⟩
theorem okI_F (p q : Nat) : okI p q = Kv414.okF p q := by
  unfold okI Kv414.okF
  have e1 : decide ((1 : Int) ≤ (p : Int)) = decide (1 ≤ p) := by congr 1; apply propext; omega
  have e2 : decide ((p : Int) ≤ 9) = decide (p ≤ 9) := by congr 1; apply propext; omega
  have e3 : decide ((1 : Int) ≤ (q : Int)) = decide (1 ≤ q) := by congr 1; apply propext; omega
  have e4 : decide ((q : Int) ≤ 9) = decide (q ≤ 9) := by congr 1; apply propext; omega
  rw [e1, e2, e3, e4, Bool.and_assoc, Bool.and_assoc, Bool.and_assoc]
theorem okI_pt {p q : Nat} (h : Kv414.okF p q = true) : Pt p ∧ Pt q := by
  have := okF_in h
  exact ⟨⟨by omega, by omega⟩, ⟨by omega, by omega⟩⟩
section
variable {P : Program} {w : World} {K : PySem.W.Frag} {mg : Str → Option Value} {base : Heap} {C : Addr}
/-! ### both_there, between -/
def spBoth (K : PySem.W.Frag) (C : Addr) : Sp := fun vs H Q _ => ∃ (wd g dx pa : Addr) (r : Rec) (i j : Nat) (as : List Int), vs = [.ref wd, .ref g] ∧ SqL K H g (((i : Int) :: (j : Int) :: as).map V.int) ∧ Cur C H wd dx pa r ∧
  Q (.bl (decide (i < r.ev.length ∧ j < r.ev.length))) H
theorem sc_both_there : FnScope ["world", "given"] ["world", "given"] (defScope s_both_there) := ⟨rfl, rfl, rfl, by decide +kernel, rfl, by decide +kernel, by decide +kernel⟩
theorem ok_both (F : Dfn K mg "both_there" s_both_there) (T : Txt K mg C) (M1 : Mth P w K mg base C 1 "has_event" (spHasE C)) : Cal P w K mg base 2 "both_there" (spBoth K C) := by
  obtain ⟨f1, fd1, ps1, G1, m1, b1⟩ := M1
  refine cal_of F sc_both_there (fun vs H Q E h => by (repeat' (first | (obtain ⟨e, _⟩ := h; exact congrArg List.length e) | (obtain ⟨_, h⟩ := h)))) (fun _ _ _ _ _ _ us hl => match us, hl with | [_, _], _ => rfl) fun f cdv A outer s H vs Q E hr h => ?_
  refine ⟨_, pss_one (ps_ret (pe_and (pe_meth (pv 0) T.cl m1 G1 (hr.mono (by decide)) b1 .nil pass0 (pa_cons (pe_ix ix_list (pv 1) pe_int (fun _ _ => rfl)) pa_nil)) (pe_one (pe_meth (pv 0) T.cl m1 G1 (hr.mono (by decide)) b1 .nil pass0 (pa_cons (pe_ix ix_list (pv 1) pe_int (fun _ _ => rfl)) pa_nil))))), ?_⟩
  obtain ⟨wd, g, dx, pa, r, i, j, as, rfl, hg, c, k⟩ := h
  have ob := obs c
  refine ⟨_, rfl, wd, _, _, rfl, ob, lk1, _, rfl, g, _, 0, _, rfl, rfl, hg, atI_nat (j := 0) rfl, wd, dx, pa, r, i, rfl, c, _, rfl, ?_⟩
  by_cases c1 : i < r.ev.length
  · refine if_yes (dt (by omega)) ⟨_, rfl, wd, _, _, rfl, ob, lk1, _, rfl, g, _, 1, _, rfl, rfl, hg, atI_nat (j := 1) rfl, wd, dx, pa, r, j, rfl, c, ?_⟩
    rw [show decide ((j : Int) < (r.ev.length : Int)) = decide (i < r.ev.length ∧ j < r.ev.length) by congr 1; apply propext; omega]
    exact k
  · refine if_no (df (by omega)) ?_
    rw [df (fun z => c1 z.1)] at k
    exact k
def spBetw (K : PySem.W.Frag) (C : Addr) : Sp := fun vs H Q _ => ∃ (wd g dx pa : Addr) (r : Rec) (i j : Nat) (as : List Int) (e d : Kv413.Event), vs = [.ref wd, .ref g] ∧ SqL K H g (((i : Int) :: (j : Int) :: as).map V.int) ∧ Cur C H wd dx pa r ∧
  (snd r.ev)[i]? = some e ∧ (snd r.ev)[j]? = some d ∧ ∀ p, H p = none → Q (.ref p) (up2 H p (d.t - e.t) (d.x - e.x))
theorem sc_between : FnScope ["world", "given", "first", "second"] ["world", "given"] (defScope s_between) := ⟨rfl, rfl, rfl, by decide +kernel, rfl, by decide +kernel, by decide +kernel⟩
theorem ok_betw (F : Dfn K mg "between" s_between) (T : Txt K mg C) : Cal P w K mg base 1 "between" (spBetw K C) := by
  refine cal_of F sc_between (fun vs H Q E h => by (repeat' (first | (obtain ⟨e, _⟩ := h; exact congrArg List.length e) | (obtain ⟨_, h⟩ := h)))) (fun _ _ _ _ _ _ us hl => match us, hl with | [_, _], _ => rfl) fun f cdv A outer s H vs Q E hr h => ?_
  refine ⟨_, pss_cons (ps_set (i := 2) sc_between.nd rfl (Or.inl rfl) (pe_ix ix_list (pe_fld (pv 0) rfl) (pe_ix ix_list (pv 1) pe_int (fun _ _ => rfl)) (fun _ _ => rfl))) (pss_cons (ps_set (i := 3) sc_between.nd rfl (Or.inl rfl) (pe_ix ix_list (pe_fld (pv 0) rfl) (pe_ix ix_list (pv 1) pe_int (fun _ _ => rfl)) (fun _ _ => rfl)))
    (pss_one (ps_ret (pe_tup (pa_cons (pe_op op_sub (pe_ix ix_tup (pv 3) pe_int (fun _ _ => rfl)) (pe_ix ix_tup (pv 2) pe_int (fun _ _ => rfl))) (pa_cons (pe_op op_sub (pe_ix ix_tup (pv 3) pe_int (fun _ _ => rfl)) (pe_ix ix_tup (pv 2) pe_int (fun _ _ => rfl))) pa_nil)))))), ?_⟩
  obtain ⟨wd, g, dx, pa, r, i, j, as, e, d, rfl, hg, c, hi, hj, k⟩ := h
  have ob := obs c
  obtain ⟨a1, ha1, ht1⟩ := c.hd.ev.get hi
  obtain ⟨a2, ha2, ht2⟩ := c.hd.ev.get hj
  refine ⟨_, rfl, wd, C, _, _, _, rfl, ob, T.cl, T.nE, lkE, _, rfl, g, _, 0, _, rfl, rfl, hg, atI_nat (j := 0) rfl, r.le, _, i, _, rfl, rfl, SqL.of c.hd.ev.at_, atI_nat (j := i) ha1, ?_⟩
  refine ⟨_, rfl, wd, C, _, _, _, rfl, ob, T.cl, T.nE, lkE, _, rfl, g, _, 1, _, rfl, rfl, hg, atI_nat (j := 1) rfl, r.le, _, j, _, rfl, rfl, SqL.of c.hd.ev.at_, atI_nat (j := j) ha2, ?_⟩
  exact ⟨_, rfl, a2, _, 0, _, rfl, rfl, SqT.of ht2, atI_nat (j := 0) rfl, _, rfl, a1, _, 0, _, rfl, rfl, SqT.of ht1, atI_nat (j := 0) rfl, _, _, rfl, rfl, _, rfl, a2, _, 1, _, rfl, rfl, SqT.of ht2, atI_nat (j := 1) rfl, _, rfl, a1, _, 1, _, rfl, rfl, SqT.of ht1, atI_nat (j := 1) rfl, _, _, rfl, rfl, (by show 2 ≤ sizeLine; decide), k⟩
/-! ### the looks -/
theorem flat_take {α : Type} (f : α → List Int) {E : List (Addr × α)} {i : Nat} {p : Addr × α} (h : E[i]? = some p) : (snd (E.take (i + 1))).flatMap f = (snd (E.take i)).flatMap f ++ f p.2 := by
  rw [List.take_add_one, h]
  unfold snd
  simp
theorem flat_len {α : Type} (f : α → List Int) (m : Nat) (hf : ∀ x, (f x).length ≤ m) : ∀ E : List α, (E.flatMap f).length ≤ m * E.length
  | [] => by simp
  | x :: E => by
    have := flat_len f m hf E
    have := hf x
    rw [List.flatMap_cons, List.length_append, List.length_cons, Nat.mul_succ]
    omega
theorem sc_events : FnScope ["world", "given", "answer", "event"] ["world", "given"] (defScope s_events) := ⟨rfl, rfl, rfl, by decide +kernel, rfl, by decide +kernel, by decide +kernel⟩
theorem ok_events (F : Dfn K mg "events" s_events) (T : Txt K mg C) : Cal P w K mg base 1 "events" (spLook K C 7) := by
  refine cal_of F sc_events (fun vs H Q E h => by (repeat' (first | (obtain ⟨e, _⟩ := h; exact congrArg List.length e) | (obtain ⟨_, h⟩ := h)))) (fun _ _ _ _ _ _ us hl => match us, hl with | [_, _], _ => rfl) fun f cdv A outer s H vs Q E hr h => ?_
  refine ⟨_, pss_cons (ps_set (i := 2) sc_events.nd rfl (Or.inl rfl) (pe_lst (pa_cons (pe_callB call_len_seq (by rfl) T.len PySem.boot_len (pa_cons (pe_fld (pv 0) rfl) pa_nil)) pa_nil)))
    (pss_cons (ps_for PassesOwn.never rfl (pi_list (pe_fld (pv 0) rfl)) (pg_name (i := 3) sc_events.nd rfl (Or.inl rfl)) (pss_one (ps_expr (pe_bm PySem.F.plainAttrs_list PySem.F.slot_list_extend PySem.F.type_list_extend mt_extendT (pv 2) (pa_cons (pv 3) pa_nil)))))
    (pss_one (ps_ret (pv 2)))), ?_⟩
  obtain ⟨wd, g, dx, pa, r, as, rfl, hg, hb, c, k⟩ := h
  have ob := obs c
  have e0 := arg0 hb rfl
  subst e0
  refine ⟨_, rfl, wd, C, _, _, _, rfl, ob, T.cl, T.nE, lkE, r.le, _, rfl, .inl (SqL.of c.hd.ev.at_), (by show 1 ≤ sizeLine; decide), fun l hl => ?_⟩
  have s1 := same_upd (o := .lst [.int ((rf r.ev).length : Nat)]) hl
  have c1 := c.same s1
  have ob1 := obs c1
  refine ⟨_, rfl, wd, C, _, _, _, rfl, ob1, T.cl, T.nE, lkE, r.le, rfl, ⟨_, SqL.of c1.hd.ev.at_⟩, ?_⟩
  refine for_list (xs := rf r.ev) (fun i σ H' => Same H H' ∧ H' l = some (.lst (((r.ev.length : Int) :: (snd (r.ev.take i)).flatMap evR).map V.int)) ∧ ∃ v, σ = [some (.ref wd), some (.ref g), some (.ref l), v]) ?_ ?_ ?_ ?_
  · refine ⟨s1, ?_, none, rfl⟩
    rw [upd_same, rf_len]
    rfl
  · rintro i σ H' _ ⟨s, _, _⟩
    exact SqL.of (c.same s).hd.ev.at_
  · rintro i x σ H' hx ⟨s, hl', v, rfl⟩
    have cc := c.same s
    have hx' : (r.ev.map fun p => V.ref p.1)[i]? = some x := hx
    rw [List.getElem?_map] at hx'
    cases e : r.ev[i]? with
    | none => rw [e] at hx'; cases hx'
    | some p =>
      rw [e] at hx'
      obtain rfl : V.ref p.1 = x := Option.some.inj hx'
      have hp := cc.hd.ev.tu p (List.mem_of_getElem? e)
      refine ⟨_, rfl, .inl ⟨rfl, _, SqL.of hl'⟩, _, rfl, l, p.1, _, _, rfl, rfl, hl', SqT.of hp, ?_, ?_, ?_, _, rfl⟩
      · have h1 := flat_len evR 2 (fun _ => Nat.le_refl 2) (snd (r.ev.take i))
        have h2 : (snd (r.ev.take i)).length ≤ 8 := by
          rw [snd_len, List.length_take]
          have := c.hd.ok.le
          have : (snd r.ev).length ≤ 8 := this
          rw [snd_len] at this
          omega
        rw [List.length_map, List.length_map, List.length_cons]
        show _ + 2 ≤ sizeLine
        have : (1000 : Nat) ≤ sizeLine := by decide
        omega
      · exact fun b u hb' => by
          by_cases eb : b = l
          · rw [eb, hl] at hb'; cases hb'
          · rw [upd_ne eb]
            exact s b u hb'
      · rw [upd_same, flat_take evR e, ← List.cons_append, List.map_append]
  · rintro σ H' ⟨s, hl', v, rfl⟩
    rw [rf_len, List.take_length] at hl'
    refine ⟨_, rfl, k _ l s hl ?_⟩
    rw [hl']
    show some (HO.lst (List.map V.int ((r.ev.length : Int) :: (snd r.ev).flatMap evR))) = some (.lst (List.map V.int (((snd r.ev).length : Int) :: (snd r.ev).flatMap evR)))
    rw [snd_len]
theorem sc_factor : FnScope ["world", "given"] ["world", "given"] (defScope s_factor) := ⟨rfl, rfl, rfl, by decide +kernel, rfl, by decide +kernel, by decide +kernel⟩
theorem ok_factor (F : Dfn K mg "factor" s_factor) (T : Txt K mg C) : Cal P w K mg base 1 "factor" (spLook K C 8) := by
  refine cal_of F sc_factor (fun vs H Q E h => by (repeat' (first | (obtain ⟨e, _⟩ := h; exact congrArg List.length e) | (obtain ⟨_, h⟩ := h)))) (fun _ _ _ _ _ _ us hl => match us, hl with | [_, _], _ => rfl) fun f cdv A outer s H vs Q E hr h => ?_
  refine ⟨_, pss_one (ps_ret (pe_lst (pa_cons pe_int (pa_cons (pe_ix ix_tup (pe_fld (pv 0) rfl) pe_int (fun _ _ => rfl)) (pa_cons (pe_ix ix_tup (pe_fld (pv 0) rfl) pe_int (fun _ _ => rfl)) pa_nil))))), ?_⟩
  obtain ⟨wd, g, dx, pa, r, as, rfl, hg, hb, c, k⟩ := h
  have ob := obs c
  have e0 := arg0 hb rfl
  subst e0
  refine ⟨_, rfl, wd, C, _, _, _, rfl, ob, T.cl, T.nF, lkF, r.fa, _, 0, _, rfl, rfl, SqT.of c.hd.fa, atI_nat (j := 0) rfl, _, rfl, wd, C, _, _, _, rfl, ob, T.cl, T.nF, lkF, r.fa, _, 1, _, rfl, rfl, SqT.of c.hd.fa, atI_nat (j := 1) rfl, (by show 3 ≤ sizeLine; decide), fun l hl => ?_⟩
  exact k _ l (same_upd hl) hl upd_same
/-- [0] + list(t): the lists as they lie -/
theorem sc_speed : FnScope ["world", "given"] ["world", "given"] (defScope s_speed) := ⟨rfl, rfl, rfl, by decide +kernel, rfl, by decide +kernel, by decide +kernel⟩
theorem ok_speed (F : Dfn K mg "speed" s_speed) (T : Txt K mg C) (C1 : Cal P w K mg base 3 "speed_of" (spSpeed K)) : Cal P w K mg base 4 "speed" (spLook K C 9) := by
  refine cal_of F sc_speed (fun vs H Q E h => by (repeat' (first | (obtain ⟨e, _⟩ := h; exact congrArg List.length e) | (obtain ⟨_, h⟩ := h)))) (fun _ _ _ _ _ _ us hl => match us, hl with | [_, _], _ => rfl) fun f cdv A outer s H vs Q E hr h => ?_
  refine ⟨_, pss_one (ps_ret (pe_op op_cat (pe_lst (pa_cons pe_int pa_nil)) (pe_callTy call_list_of (by rfl) T.list (by decide +kernel) (pa_cons (pe_cal C1 hr (by decide) (by rfl) (pa_cons (pe_fld (pv 0) rfl) pa_nil)) pa_nil)))), ?_⟩
  obtain ⟨wd, g, dx, pa, r, as, rfl, hg, hb, c, k⟩ := h
  have e0 := arg0 hb rfl
  subst e0
  have ok := c.hd.ok
  have ea : ans r.now (cOf 9 []) = 0 :: speed2 r.k.p r.k.q := congrArg (List.cons 0) (speed_is (k := r.k) ok.p0 ok.q0)
  rw [ea] at k
  refine ⟨(by show 1 ≤ sizeLine; decide), fun l hl => ?_⟩
  have s1 := same_upd (o := .lst [.int 0]) hl
  have c1 := c.same s1
  have ob1 := obs c1
  refine ⟨_, rfl, wd, C, _, _, _, rfl, ob1, T.cl, T.nF, lkF, r.fa, r.k.p, r.k.q, rfl, SqT.of c1.hd.fa, (fac_pt ok).1, (fac_pt ok).2, fun x hx => ⟨x, _, rfl, .inr (SqT.of upd_same), fun l2 hl2 => ?_⟩⟩
  have s2 := (same_upd (o := .tup ((speed2 r.k.p r.k.q).map V.int)) hx)
  have s3 := (same_upd (o := .lst ((speed2 r.k.p r.k.q).map V.int)) hl2)
  refine ⟨l, l2, _, _, rfl, rfl, s3 _ _ (s2 _ _ upd_same), upd_same, (by show 3 ≤ sizeLine; decide), fun p hp => ?_⟩
  exact k _ p (s1.trans (s2.trans (s3.trans (same_upd hp)))) (s1.free (s2.free (s3.free hp))) upd_same
theorem sc_tells : FnScope ["world", "given", "i", "event"] ["world", "given"] (defScope s_tells) := ⟨rfl, rfl, rfl, by decide +kernel, rfl, by decide +kernel, by decide +kernel⟩
theorem ok_tells (F : Dfn K mg "tells" s_tells) (T : Txt K mg C) (gN : GI mg "NO_SUCH" (-2)) (M1 : Mth P w K mg base C 1 "has_event" (spHasE C)) (C1 : Cal P w K mg base 3 "told" (spTold K)) : Cal P w K mg base 4 "tells" (spLook K C 10) := by
  obtain ⟨f1, fd1, ps1, G1, m1, b1⟩ := M1
  refine cal_of F sc_tells (fun vs H Q E h => by (repeat' (first | (obtain ⟨e, _⟩ := h; exact congrArg List.length e) | (obtain ⟨_, h⟩ := h)))) (fun _ _ _ _ _ _ us hl => match us, hl with | [_, _], _ => rfl) fun f cdv A outer s H vs Q E hr h => ?_
  refine ⟨_, pss_cons (ps_set (i := 2) sc_tells.nd rfl (Or.inl rfl) (pe_ix ix_list (pv 1) pe_int (fun _ _ => rfl))) (pss_cons (ps_if (pt_not (pt_val (pe_meth (pv 0) T.cl m1 G1 (hr.mono (by decide)) b1 .nil pass0 (pa_cons (pv 2) pa_nil)))) (pss_one (ps_ret (pe_lst (pa_cons (pe_gi (by rfl) gN) pa_nil)))) pss_nil)
    (pss_cons (ps_set (i := 3) sc_tells.nd rfl (Or.inl rfl) (pe_ix ix_list (pe_fld (pv 0) rfl) (pv 2) (fun _ _ => rfl)))
    (pss_one (ps_ret (pe_op op_cat (pe_lst (pa_cons pe_int pa_nil)) (pe_callTy call_list_of (by rfl) T.list (by decide +kernel) (pa_cons (pe_cal C1 hr (by decide) (by rfl) (pa_cons (pe_fld (pv 0) rfl) (pa_cons (pe_ix ix_tup (pv 3) pe_int (fun _ _ => rfl)) (pa_cons (pe_ix ix_tup (pv 3) pe_int (fun _ _ => rfl)) pa_nil)))) pa_nil))))))), ?_⟩
  obtain ⟨wd, g, dx, pa, r, as, rfl, hg, hb, c, k⟩ := h
  obtain ⟨i, rfl, _⟩ := arg1 hb rfl (by decide)
  have ob := obs c
  have ok := c.hd.ok
  refine ⟨_, rfl, g, _, 0, _, rfl, rfl, hg, atI_nat (j := 0) rfl, _, rfl, wd, _, _, rfl, ob, lk1, _, rfl, wd, dx, pa, r, i, rfl, c, _, rfl, ?_⟩
  by_cases ci : i < r.ev.length
  · refine if_no (by rw [dt (show (i : Int) < (r.ev.length : Int) by omega)]; rfl) ?_
    have hi : (snd r.ev)[i]? = some ((snd r.ev)[i]'(by rw [snd_len]; exact ci)) := List.getElem?_eq_getElem _
    generalize (snd r.ev)[i]'(by rw [snd_len]; exact ci) = e at hi
    obtain ⟨a1, ha1, ht1⟩ := c.hd.ev.get hi
    refine ⟨_, rfl, wd, C, _, _, _, rfl, ob, T.cl, T.nE, lkE, _, rfl, r.le, _, i, _, rfl, rfl, SqL.of c.hd.ev.at_, atI_nat (j := i) ha1, ?_⟩
    rw [tells_yes (n := r.now) ok hi] at k
    refine ⟨(by show 1 ≤ sizeLine; decide), fun l hl => ?_⟩
    have s1 := same_upd (o := .lst [.int 0]) hl
    have c1 := c.same s1
    have ob1 := obs c1
    refine ⟨_, rfl, wd, C, _, _, _, rfl, ob1, T.cl, T.nF, lkF, _, rfl, a1, _, 0, _, rfl, rfl, SqT.of (s1 _ _ ht1), atI_nat (j := 0) rfl, _, rfl, a1, _, 1, _, rfl, rfl, SqT.of (s1 _ _ ht1), atI_nat (j := 1) rfl, r.fa, r.k.p, r.k.q, e.t, e.x, rfl, SqT.of c1.hd.fa, (fac_pt ok).1, (fac_pt ok).2, fun H2 x s2 hx ex => ⟨x, _, rfl, .inr (SqT.of ex), fun l2 hl2 => ?_⟩⟩
    have s3 := (same_upd (o := .lst ((told4 r.k.p r.k.q e.t e.x).map V.int)) hl2)
    refine ⟨l, l2, _, _, rfl, rfl, s3 _ _ (s2 _ _ upd_same), upd_same, (by show 5 ≤ sizeLine; decide), fun p hp => ?_⟩
    exact k _ p (s1.trans (s2.trans (s3.trans (same_upd hp)))) (s1.free (s2.free (s3.free hp))) upd_same
  · refine if_yes (by rw [df (show ¬ (i : Int) < (r.ev.length : Int) by omega)]; rfl) ?_
    rw [tells_no (n := r.now) (by show ¬ i < (snd r.ev).length; rw [snd_len]; exact ci)] at k
    exact ⟨(by show 1 ≤ sizeLine; decide), fun l hl => k _ l (same_upd hl) hl upd_same⟩
end
end MC
namespace MC
open PySem PySem.Spec PyProof.Rows L2
open Kv414 (Now Leg Factor Abs)
section
variable {P : Program} {w : World} {K : PySem.W.Frag} {mg : Str → Option Value} {base : Heap} {C : Addr}
theorem ev_get {r : Rec} {i : Nat} (h : i < r.ev.length) : ∃ e, (snd r.ev)[i]? = some e := ⟨_, List.getElem?_eq_getElem (by rw [snd_len]; exact h)⟩
theorem ev_no {r : Rec} {i j : Nat} (h : ¬ (i < r.ev.length ∧ j < r.ev.length)) : ¬ (i < r.now.l.length ∧ j < r.now.l.length) := by
  show ¬ (i < (snd r.ev).length ∧ j < (snd r.ev).length)
  rw [snd_len]
  exact h
theorem ev_bd {r : Rec} {i : Nat} {e : Kv413.Event} (ok : NowOk r.now) (h : (snd r.ev)[i]? = some e) : -99 ≤ e.t ∧ e.t ≤ 99 ∧ -99 ≤ e.x ∧ e.x ≤ 99 := ok.ev e (List.mem_of_getElem? h)
theorem sc_apart : FnScope ["world", "given", "gap"] ["world", "given"] (defScope s_apart) := ⟨rfl, rfl, rfl, by decide +kernel, rfl, by decide +kernel, by decide +kernel⟩
theorem ok_apart (F : Dfn K mg "apart" s_apart) (T : Txt K mg C) (gN : GI mg "NO_SUCH" (-2)) (C2 : Cal P w K mg base 2 "both_there" (spBoth K C)) (C3 : Cal P w K mg base 1 "between" (spBetw K C)) (C1 : Cal P w K mg base 3 "told" (spTold K)) : Cal P w K mg base 4 "apart" (spLook K C 11) := by
  refine cal_of F sc_apart (fun vs H Q E h => by (repeat' (first | (obtain ⟨e, _⟩ := h; exact congrArg List.length e) | (obtain ⟨_, h⟩ := h)))) (fun _ _ _ _ _ _ us hl => match us, hl with | [_, _], _ => rfl) fun f cdv A outer s H vs Q E hr h => ?_
  refine ⟨_, pss_cons (ps_if (pt_not (pt_val (pe_cal C2 hr (by decide) (by rfl) (pa_cons (pv 0) (pa_cons (pv 1) pa_nil))))) (pss_one (ps_ret (pe_lst (pa_cons (pe_gi (by rfl) gN) pa_nil)))) pss_nil)
    (pss_cons (ps_set (i := 2) sc_apart.nd rfl (Or.inl rfl) (pe_cal C3 hr (by decide) (by rfl) (pa_cons (pv 0) (pa_cons (pv 1) pa_nil))))
    (pss_one (ps_ret (pe_op op_cat (pe_lst (pa_cons pe_int pa_nil)) (pe_callTy call_list_of (by rfl) T.list (by decide +kernel) (pa_cons (pe_cal C1 hr (by decide) (by rfl) (pa_cons (pe_fld (pv 0) rfl) (pa_cons (pe_ix ix_tup (pv 2) pe_int (fun _ _ => rfl)) (pa_cons (pe_ix ix_tup (pv 2) pe_int (fun _ _ => rfl)) pa_nil)))) pa_nil)))))), ?_⟩
  obtain ⟨wd, g, dx, pa, r, as, rfl, hg, hb, c, k⟩ := h
  obtain ⟨i, j, rfl, _, _⟩ := arg2 hb rfl (by decide)
  have ok := c.hd.ok
  refine ⟨_, rfl, _, rfl, wd, g, dx, pa, r, i, j, [], rfl, hg, c, _, rfl, ?_⟩
  by_cases ci : i < r.ev.length ∧ j < r.ev.length
  · refine if_no (by rw [dt ci]; rfl) ?_
    obtain ⟨e, he⟩ := ev_get ci.1
    obtain ⟨d, hd⟩ := ev_get ci.2
    rw [apart_yes (n := r.now) ok he hd] at k
    refine ⟨_, rfl, _, rfl, wd, g, dx, pa, r, i, j, [], e, d, rfl, hg, c, he, hd, fun p0 hp0 => ?_⟩
    have s0 := same_upd (o := .tup [.int (d.t - e.t), .int (d.x - e.x)]) hp0
    refine ⟨(by show 1 ≤ sizeLine; decide), fun l hl => ?_⟩
    have s1 := same_upd (o := .lst [.int 0]) hl
    have c1 := c.same (s0.trans s1)
    have ob1 := obs c1
    have hgap := s1 _ _ (upd_same (H := H) (a := p0) (o := .tup [.int (d.t - e.t), .int (d.x - e.x)]))
    refine ⟨_, rfl, wd, C, _, _, _, rfl, ob1, T.cl, T.nF, lkF, _, rfl, p0, _, 0, _, rfl, rfl, SqT.of hgap, atI_nat (j := 0) rfl, _, rfl, p0, _, 1, _, rfl, rfl, SqT.of hgap, atI_nat (j := 1) rfl, r.fa, r.k.p, r.k.q, d.t - e.t, d.x - e.x, rfl, SqT.of c1.hd.fa, (fac_pt ok).1, (fac_pt ok).2, fun H2 x s2 hx ex => ⟨x, _, rfl, .inr (SqT.of ex), fun l2 hl2 => ?_⟩⟩
    have s3 := (same_upd (o := .lst ((told4 r.k.p r.k.q (d.t - e.t) (d.x - e.x)).map V.int)) hl2)
    refine ⟨l, l2, _, _, rfl, rfl, s3 _ _ (s2 _ _ upd_same), upd_same, (by show 5 ≤ sizeLine; decide), fun p hp => ?_⟩
    exact k _ p (s0.trans (s1.trans (s2.trans (s3.trans (same_upd hp))))) (s0.free (s1.free (s2.free (s3.free hp)))) upd_same
  · refine if_yes (by rw [df ci]; rfl) ?_
    rw [apart_no (n := r.now) (ev_no ci)] at k
    exact ⟨(by show 1 ≤ sizeLine; decide), fun l hl => k _ l (same_upd hl) hl upd_same⟩
theorem sc_square : FnScope ["world", "given", "gap"] ["world", "given"] (defScope s_square) := ⟨rfl, rfl, rfl, by decide +kernel, rfl, by decide +kernel, by decide +kernel⟩
theorem ok_square (F : Dfn K mg "square" s_square) (T : Txt K mg C) (gN : GI mg "NO_SUCH" (-2)) (C2 : Cal P w K mg base 2 "both_there" (spBoth K C)) (C3 : Cal P w K mg base 1 "between" (spBetw K C)) : Cal P w K mg base 4 "square" (spLook K C 12) := by
  refine cal_of F sc_square (fun vs H Q E h => by (repeat' (first | (obtain ⟨e, _⟩ := h; exact congrArg List.length e) | (obtain ⟨_, h⟩ := h)))) (fun _ _ _ _ _ _ us hl => match us, hl with | [_, _], _ => rfl) fun f cdv A outer s H vs Q E hr h => ?_
  refine ⟨_, pss_cons (ps_if (pt_not (pt_val (pe_cal C2 hr (by decide) (by rfl) (pa_cons (pv 0) (pa_cons (pv 1) pa_nil))))) (pss_one (ps_ret (pe_lst (pa_cons (pe_gi (by rfl) gN) pa_nil)))) pss_nil)
    (pss_cons (ps_set (i := 2) sc_square.nd rfl (Or.inl rfl) (pe_cal C3 hr (by decide) (by rfl) (pa_cons (pv 0) (pa_cons (pv 1) pa_nil))))
    (pss_one (ps_ret (pe_lst (pa_cons pe_int (pa_cons (pe_op op_sub (pe_op op_mul (pe_ix ix_tup (pv 2) pe_int (fun _ _ => rfl)) (pe_ix ix_tup (pv 2) pe_int (fun _ _ => rfl))) (pe_op op_mul (pe_ix ix_tup (pv 2) pe_int (fun _ _ => rfl)) (pe_ix ix_tup (pv 2) pe_int (fun _ _ => rfl)))) pa_nil)))))), ?_⟩
  obtain ⟨wd, g, dx, pa, r, as, rfl, hg, hb, c, k⟩ := h
  obtain ⟨i, j, rfl, _, _⟩ := arg2 hb rfl (by decide)
  have ok := c.hd.ok
  refine ⟨_, rfl, _, rfl, wd, g, dx, pa, r, i, j, [], rfl, hg, c, _, rfl, ?_⟩
  by_cases ci : i < r.ev.length ∧ j < r.ev.length
  · refine if_no (by rw [dt ci]; rfl) ?_
    obtain ⟨e, he⟩ := ev_get ci.1
    obtain ⟨d, hd⟩ := ev_get ci.2
    have b1 := ev_bd ok he
    have b2 := ev_bd ok hd
    rw [square_yes (n := r.now) he hd] at k
    refine ⟨_, rfl, _, rfl, wd, g, dx, pa, r, i, j, [], e, d, rfl, hg, c, he, hd, fun p0 hp0 => ?_⟩
    have s0 := same_upd (o := .tup [.int (d.t - e.t), .int (d.x - e.x)]) hp0
    have hgap := (upd_same (H := H) (a := p0) (o := .tup [.int (d.t - e.t), .int (d.x - e.x)]))
    refine ⟨_, rfl, p0, _, 0, _, rfl, rfl, SqT.of hgap, atI_nat (j := 0) rfl, _, rfl, p0, _, 0, _, rfl, rfl, SqT.of hgap, atI_nat (j := 0) rfl, _, _, rfl, rfl, .inl ⟨by omega, by omega⟩, _, rfl, p0, _, 1, _, rfl, rfl, SqT.of hgap, atI_nat (j := 1) rfl, _, rfl, p0, _, 1, _, rfl, rfl, SqT.of hgap, atI_nat (j := 1) rfl, _, _, rfl, rfl, .inl ⟨by omega, by omega⟩, _, _, rfl, rfl, (by show 2 ≤ sizeLine; decide), fun l hl => ?_⟩
    exact k _ l (s0.trans (same_upd hl)) (s0.free hl) upd_same
  · refine if_yes (by rw [df ci]; rfl) ?_
    rw [square_no (n := r.now) (ev_no ci)] at k
    exact ⟨(by show 1 ≤ sizeLine; decide), fun l hl => k _ l (same_upd hl) hl upd_same⟩
theorem sc_sooner : FnScope ["world", "given", "gap"] ["world", "given"] (defScope s_sooner) := ⟨rfl, rfl, rfl, by decide +kernel, rfl, by decide +kernel, by decide +kernel⟩
theorem ok_sooner (F : Dfn K mg "sooner" s_sooner) (T : Txt K mg C) (gN : GI mg "NO_SUCH" (-2)) (C2 : Cal P w K mg base 2 "both_there" (spBoth K C)) (C3 : Cal P w K mg base 1 "between" (spBetw K C)) (C1 : Cal P w K mg base 3 "told" (spTold K)) (C4 : Cal P w K mg base 1 "leader" spLeader) : Cal P w K mg base 4 "sooner" (spLook K C 13) := by
  refine cal_of F sc_sooner (fun vs H Q E h => by (repeat' (first | (obtain ⟨e, _⟩ := h; exact congrArg List.length e) | (obtain ⟨_, h⟩ := h)))) (fun _ _ _ _ _ _ us hl => match us, hl with | [_, _], _ => rfl) fun f cdv A outer s H vs Q E hr h => ?_
  refine ⟨_, pss_cons (ps_if (pt_not (pt_val (pe_cal C2 hr (by decide) (by rfl) (pa_cons (pv 0) (pa_cons (pv 1) pa_nil))))) (pss_one (ps_ret (pe_lst (pa_cons (pe_gi (by rfl) gN) pa_nil)))) pss_nil)
    (pss_cons (ps_set (i := 2) sc_sooner.nd rfl (Or.inl rfl) (pe_cal C3 hr (by decide) (by rfl) (pa_cons (pv 0) (pa_cons (pv 1) pa_nil))))
    (pss_one (ps_ret (pe_lst (pa_cons (pe_cal C4 hr (by decide) (by rfl) (pa_cons (pe_ix ix_tup (pe_cal C1 hr (by decide) (by rfl) (pa_cons (pe_fld (pv 0) rfl) (pa_cons (pe_ix ix_tup (pv 2) pe_int (fun _ _ => rfl)) (pa_cons (pe_ix ix_tup (pv 2) pe_int (fun _ _ => rfl)) pa_nil)))) pe_int (fun _ _ => rfl)) pa_nil)) pa_nil))))), ?_⟩
  obtain ⟨wd, g, dx, pa, r, as, rfl, hg, hb, c, k⟩ := h
  obtain ⟨i, j, rfl, _, _⟩ := arg2 hb rfl (by decide)
  have ok := c.hd.ok
  refine ⟨_, rfl, _, rfl, wd, g, dx, pa, r, i, j, [], rfl, hg, c, _, rfl, ?_⟩
  by_cases ci : i < r.ev.length ∧ j < r.ev.length
  · refine if_no (by rw [dt ci]; rfl) ?_
    obtain ⟨e, he⟩ := ev_get ci.1
    obtain ⟨d, hd⟩ := ev_get ci.2
    rw [sooner_yes (n := r.now) ok he hd] at k
    refine ⟨_, rfl, _, rfl, wd, g, dx, pa, r, i, j, [], e, d, rfl, hg, c, he, hd, fun p0 hp0 => ?_⟩
    have s0 := same_upd (o := .tup [.int (d.t - e.t), .int (d.x - e.x)]) hp0
    have c1 := c.same s0
    have ob1 := obs c1
    have hgap := (upd_same (H := H) (a := p0) (o := .tup [.int (d.t - e.t), .int (d.x - e.x)]))
    refine ⟨_, rfl, wd, C, _, _, _, rfl, ob1, T.cl, T.nF, lkF, _, rfl, p0, _, 0, _, rfl, rfl, SqT.of hgap, atI_nat (j := 0) rfl, _, rfl, p0, _, 1, _, rfl, rfl, SqT.of hgap, atI_nat (j := 1) rfl, r.fa, r.k.p, r.k.q, d.t - e.t, d.x - e.x, rfl, SqT.of c1.hd.fa, (fac_pt ok).1, (fac_pt ok).2, fun H2 x s2 hx ex => ?_⟩
    refine ⟨x, _, 0, _, rfl, rfl, SqT.of ex, atI_nat (j := 0) rfl, _, rfl, (by show 1 ≤ sizeLine; decide), fun l hl => ?_⟩
    exact k _ l (s0.trans (s2.trans (same_upd hl))) (s0.free (s2.free hl)) upd_same
  · refine if_yes (by rw [df ci]; rfl) ?_
    rw [sooner_no (n := r.now) (ev_no ci)] at k
    exact ⟨(by show 1 ≤ sizeLine; decide), fun l hl => k _ l (same_upd hl) hl upd_same⟩
theorem ever_at (l b : Int) : ∃ j : Nat, hearI l b = (j : Int) ∧ ([1, 0, 2, 3] : List Int)[j]? = some (everI l b) := by
  unfold hearI everI
  by_cases c1 : l = 0 ∧ b = 0
  · rw [if_pos c1, if_pos c1]; exact ⟨0, rfl, rfl⟩
  · rw [if_neg c1, if_neg c1]
    by_cases c2 : 0 ≤ l ∧ 0 ≤ b
    · rw [if_pos c2, if_pos c2]; exact ⟨1, rfl, rfl⟩
    · rw [if_neg c2, if_neg c2]
      by_cases c3 : l ≤ 0 ∧ b ≤ 0
      · rw [if_pos c3]; exact ⟨2, rfl, rfl⟩
      · rw [if_neg c3]; exact ⟨3, rfl, rfl⟩
theorem sc_ever : FnScope ["world", "given", "gap"] ["world", "given"] (defScope s_ever) := ⟨rfl, rfl, rfl, by decide +kernel, rfl, by decide +kernel, by decide +kernel⟩
theorem ok_ever (F : Dfn K mg "ever" s_ever) (T : Txt K mg C) (gN : GI mg "NO_SUCH" (-2)) (C2 : Cal P w K mg base 2 "both_there" (spBoth K C)) (C3 : Cal P w K mg base 1 "between" (spBetw K C)) (C4 : Cal P w K mg base 1 "heard" spHeard) (gE : GT K mg "EVER" [1, 0, 2, 3]) : Cal P w K mg base 4 "ever" (spLook K C 14) := by
  obtain ⟨ae, me, se⟩ := gE
  refine cal_of F sc_ever (fun vs H Q E h => by (repeat' (first | (obtain ⟨e, _⟩ := h; exact congrArg List.length e) | (obtain ⟨_, h⟩ := h)))) (fun _ _ _ _ _ _ us hl => match us, hl with | [_, _], _ => rfl) fun f cdv A outer s H vs Q E hr h => ?_
  refine ⟨_, pss_cons (ps_if (pt_not (pt_val (pe_cal C2 hr (by decide) (by rfl) (pa_cons (pv 0) (pa_cons (pv 1) pa_nil))))) (pss_one (ps_ret (pe_lst (pa_cons (pe_gi (by rfl) gN) pa_nil)))) pss_nil)
    (pss_cons (ps_set (i := 2) sc_ever.nd rfl (Or.inl rfl) (pe_cal C3 hr (by decide) (by rfl) (pa_cons (pv 0) (pa_cons (pv 1) pa_nil))))
    (pss_one (ps_ret (pe_lst (pa_cons (pe_ix ix_tup (pe_glob (v := .ref ae) (by rfl) me rfl) (pe_cal C4 hr (by decide) (by rfl) (pa_cons (pe_op op_sub (pe_ix ix_tup (pv 2) pe_int (fun _ _ => rfl)) (pe_ix ix_tup (pv 2) pe_int (fun _ _ => rfl))) (pa_cons (pe_op op_add (pe_ix ix_tup (pv 2) pe_int (fun _ _ => rfl)) (pe_ix ix_tup (pv 2) pe_int (fun _ _ => rfl))) pa_nil))) (fun _ _ => rfl)) pa_nil))))), ?_⟩
  obtain ⟨wd, g, dx, pa, r, as, rfl, hg, hb, c, k⟩ := h
  obtain ⟨i, j, rfl, _, _⟩ := arg2 hb rfl (by decide)
  refine ⟨_, rfl, _, rfl, wd, g, dx, pa, r, i, j, [], rfl, hg, c, _, rfl, ?_⟩
  by_cases ci : i < r.ev.length ∧ j < r.ev.length
  · refine if_no (by rw [dt ci]; rfl) ?_
    obtain ⟨e, he⟩ := ev_get ci.1
    obtain ⟨d, hd⟩ := ev_get ci.2
    rw [ever_yes (n := r.now) he hd] at k
    refine ⟨_, rfl, _, rfl, wd, g, dx, pa, r, i, j, [], e, d, rfl, hg, c, he, hd, fun p0 hp0 => ?_⟩
    have s0 := same_upd (o := .tup [.int (d.t - e.t), .int (d.x - e.x)]) hp0
    have hgap := (upd_same (H := H) (a := p0) (o := .tup [.int (d.t - e.t), .int (d.x - e.x)]))
    obtain ⟨m, hm1, hm2⟩ := ever_at ((d.t - e.t) - (d.x - e.x)) ((d.t - e.t) + (d.x - e.x))
    refine ⟨_, rfl, p0, _, 0, _, rfl, rfl, SqT.of hgap, atI_nat (j := 0) rfl, _, rfl, p0, _, 1, _, rfl, rfl, SqT.of hgap, atI_nat (j := 1) rfl, _, _, rfl, rfl, _, rfl, p0, _, 0, _, rfl, rfl, SqT.of hgap, atI_nat (j := 0) rfl, _, rfl, p0, _, 1, _, rfl, rfl, SqT.of hgap, atI_nat (j := 1) rfl, _, _, rfl, rfl, _, _, rfl, ?_⟩
    rw [hm1]
    refine ⟨ae, _, m, .int (everI ((d.t - e.t) - (d.x - e.x)) ((d.t - e.t) + (d.x - e.x))), rfl, rfl, se _, atI_nat (j := m) ?_, (by show 1 ≤ sizeLine; decide), fun l hl => ?_⟩
    · rw [List.getElem?_map, hm2]
      rfl
    · exact k _ l (s0.trans (same_upd hl)) (s0.free hl) upd_same
  · refine if_yes (by rw [df ci]; rfl) ?_
    rw [ever_no (n := r.now) (ev_no ci)] at k
    exact ⟨(by show 1 ≤ sizeLine; decide), fun l hl => k _ l (same_upd hl) hl upd_same⟩
theorem sc_sameat : FnScope ["world", "given", "p", "q", "gap", "later"] ["world", "given"] (defScope s_sameat) := ⟨rfl, rfl, rfl, by decide +kernel, rfl, by decide +kernel, by decide +kernel⟩
theorem ok_sameat (F : Dfn K mg "sameat" s_sameat) (T : Txt K mg C) (gN : GI mg "NO_SUCH" (-2)) (gO : GI mg "OUT_OF_RANGE" (-22)) (C2 : Cal P w K mg base 2 "both_there" (spBoth K C)) (C3 : Cal P w K mg base 1 "between" (spBetw K C)) (C4 : Cal P w K mg base 1 "is_factor" spIsFactor) (C1 : Cal P w K mg base 3 "told" (spTold K)) : Cal P w K mg base 4 "sameat" (spLook K C 15) := by
  refine cal_of F sc_sameat (fun vs H Q E h => by (repeat' (first | (obtain ⟨e, _⟩ := h; exact congrArg List.length e) | (obtain ⟨_, h⟩ := h)))) (fun _ _ _ _ _ _ us hl => match us, hl with | [_, _], _ => rfl) fun f cdv A outer s H vs Q E hr h => ?_
  refine ⟨_, pss_cons (ps_set (i := 2) sc_sameat.nd rfl (Or.inl rfl) (pe_ix ix_list (pv 1) pe_int (fun _ _ => rfl))) (pss_cons (ps_set (i := 3) sc_sameat.nd rfl (Or.inl rfl) (pe_ix ix_list (pv 1) pe_int (fun _ _ => rfl)))
    (pss_cons (ps_if (pt_not (pt_val (pe_cal C2 hr (by decide) (by rfl) (pa_cons (pv 0) (pa_cons (pv 1) pa_nil))))) (pss_one (ps_ret (pe_lst (pa_cons (pe_gi (by rfl) gN) pa_nil)))) pss_nil)
    (pss_cons (ps_if (pt_not (pt_val (pe_cal C4 hr (by decide) (by rfl) (pa_cons (pv 2) (pa_cons (pv 3) pa_nil))))) (pss_one (ps_ret (pe_lst (pa_cons (pe_gi (by rfl) gO) pa_nil)))) pss_nil)
    (pss_cons (ps_set (i := 4) sc_sameat.nd rfl (Or.inl rfl) (pe_cal C3 hr (by decide) (by rfl) (pa_cons (pv 0) (pa_cons (pv 1) pa_nil))))
    (pss_cons (ps_set (i := 5) sc_sameat.nd rfl (Or.inl rfl) (pe_ix ix_tup (pe_cal C1 hr (by decide) (by rfl) (pa_cons (pe_tup (pa_cons (pv 2) (pa_cons (pv 3) pa_nil))) (pa_cons (pe_ix ix_tup (pv 4) pe_int (fun _ _ => rfl)) (pa_cons (pe_ix ix_tup (pv 4) pe_int (fun _ _ => rfl)) pa_nil)))) pe_int (fun _ _ => rfl)))
    (pss_one (ps_ret (pe_lst (pa_cons (pe_ifExp (pt_cmpR op_eq (pv 5) pe_int (nomark _)) pe_int pe_int) pa_nil))))))))), ?_⟩
  obtain ⟨wd, g, dx, pa, r, as, rfl, hg, hb, c, k⟩ := h
  obtain ⟨i, j, p, q, rfl, _⟩ := arg4 hb rfl (by decide)
  refine ⟨_, rfl, g, _, 2, _, rfl, rfl, hg, atI_nat (j := 2) rfl, _, rfl, g, _, 3, _, rfl, rfl, hg, atI_nat (j := 3) rfl, _, rfl, _, rfl, wd, g, dx, pa, r, i, j, _, rfl, hg, c, _, rfl, ?_⟩
  by_cases ci : i < r.ev.length ∧ j < r.ev.length
  · refine if_no (by rw [dt ci]; rfl) ?_
    obtain ⟨e, he⟩ := ev_get ci.1
    obtain ⟨d, hd⟩ := ev_get ci.2
    refine ⟨_, rfl, _, rfl, p, q, rfl, _, rfl, ?_⟩
    rw [okI_F]
    cases cf : Kv414.okF p q with
    | false =>
      rw [sameat_bad (n := r.now) he hd cf] at k
      refine if_yes rfl ?_
      exact ⟨(by show 1 ≤ sizeLine; decide), fun l hl => k _ l (same_upd hl) hl upd_same⟩
    | true =>
      refine if_no rfl ?_
      rw [sameat_yes (n := r.now) he hd cf] at k
      refine ⟨_, rfl, _, rfl, wd, g, dx, pa, r, i, j, _, e, d, rfl, hg, c, he, hd, fun p0 hp0 => ?_⟩
      have s0 := same_upd (o := .tup [.int (d.t - e.t), .int (d.x - e.x)]) hp0
      have hgap := (upd_same (H := H) (a := p0) (o := .tup [.int (d.t - e.t), .int (d.x - e.x)]))
      refine ⟨_, rfl, _, rfl, (by show 2 ≤ sizeLine; decide), fun t1 ht1 => ?_⟩
      have s1 := same_upd (o := .tup [.int p, .int q]) ht1
      have hgap1 := s1 _ _ hgap
      refine ⟨_, rfl, p0, _, 0, _, rfl, rfl, SqT.of hgap1, atI_nat (j := 0) rfl, _, rfl, p0, _, 1, _, rfl, rfl, SqT.of hgap1, atI_nat (j := 1) rfl, t1, p, q, d.t - e.t, d.x - e.x, rfl, SqT.of upd_same, (okI_pt cf).1, (okI_pt cf).2, fun H2 x s2 hx ex => ?_⟩
      refine ⟨x, _, 0, _, rfl, rfl, SqT.of ex, atI_nat (j := 0) rfl, ?_⟩
      refine ⟨_, rfl, rfl, _, rfl, ?_⟩
      by_cases cz : lowN (tN p q (d.t - e.t) (d.x - e.x)) (2 * p * q) = 0
      · rw [if_pos cz] at k
        refine if_yes (dt (congrArg V.int cz)) ⟨(by show 1 ≤ sizeLine; decide), fun l hl => ?_⟩
        exact k _ l (s0.trans (s1.trans (s2.trans (same_upd hl)))) (s0.free (s1.free (s2.free hl))) upd_same
      · rw [if_neg cz] at k
        refine if_no (df fun z => cz (V.int.inj z)) ⟨(by show 1 ≤ sizeLine; decide), fun l hl => ?_⟩
        exact k _ l (s0.trans (s1.trans (s2.trans (same_upd hl)))) (s0.free (s1.free (s2.free hl))) upd_same
  · refine if_yes (by rw [df ci]; rfl) ?_
    rw [sameat_no (n := r.now) (ev_no ci)] at k
    exact ⟨(by show 1 ≤ sizeLine; decide), fun l hl => k _ l (same_upd hl) hl upd_same⟩
theorem low_pt {p q : Nat} (h : Kv414.okF p q = true) : (0 < lowN p q ∧ lowN p q ≤ 9) ∧ (0 < lowD p q ∧ lowD p q ≤ 9) := by
  have z := okF_in h
  have a1 := lowN_pos (n := (p : Int)) (d := q) (by omega) (by omega)
  have a2 := lowD_pos (n := (p : Int)) (d := q) (by omega)
  obtain ⟨a3, a4⟩ := low_le (n := (p : Int)) (d := q) (by omega) (by omega)
  omega
/-- a product in lowest terms stays small -/
theorem low_mul_pt {a b c d : Int} (ha : 0 < a ∧ a ≤ 9) (hb : 0 < b ∧ b ≤ 9) (hc : 0 < c ∧ c ≤ 9) (hd : 0 < d ∧ d ≤ 9) : Pt (lowN (a * c) (b * d)) ∧ Pt (lowD (a * c) (b * d)) := by
  have m1 := mul_bd ha.1 ha.2 hc.1 hc.2
  have m2 := mul_bd hb.1 hb.2 hd.1 hd.2
  have a1 := lowN_pos (n := a * c) (d := b * d) m1.1 m2.1
  have a2 := lowD_pos (n := a * c) (d := b * d) m2.1
  obtain ⟨a3, a4⟩ := low_le (n := a * c) (d := b * d) (by omega) m2.1
  exact ⟨⟨a1, by omega⟩, ⟨a2, by omega⟩⟩
theorem sc_faster : FnScope ["world", "given", "p", "q", "r", "s", "second", "onward", "against"] ["world", "given"] (defScope s_faster) := ⟨rfl, rfl, rfl, by decide +kernel, rfl, by decide +kernel, by decide +kernel⟩
theorem ok_faster (F : Dfn K mg "faster" s_faster) (T : Txt K mg C) (gO : GI mg "OUT_OF_RANGE" (-22)) (C4 : Cal P w K mg base 1 "is_factor" spIsFactor) (C1 : Cal P w K mg base 2 "lowest" spLowest) (C2 : Cal P w K mg base 3 "times" (spTimes K)) (C3 : Cal P w K mg base 3 "speed_of" (spSpeed K)) : Cal P w K mg base 4 "faster" (spLook K C 16) := by
  refine cal_of F sc_faster (fun vs H Q E h => by (repeat' (first | (obtain ⟨e, _⟩ := h; exact congrArg List.length e) | (obtain ⟨_, h⟩ := h)))) (fun _ _ _ _ _ _ us hl => match us, hl with | [_, _], _ => rfl) fun f cdv A outer s H vs Q E hr h => ?_
  refine ⟨_, pss_cons (ps_set (i := 2) sc_faster.nd rfl (Or.inl rfl) (pe_ix ix_list (pv 1) pe_int (fun _ _ => rfl))) (pss_cons (ps_set (i := 3) sc_faster.nd rfl (Or.inl rfl) (pe_ix ix_list (pv 1) pe_int (fun _ _ => rfl))) (pss_cons (ps_set (i := 4) sc_faster.nd rfl (Or.inl rfl) (pe_ix ix_list (pv 1) pe_int (fun _ _ => rfl))) (pss_cons (ps_set (i := 5) sc_faster.nd rfl (Or.inl rfl) (pe_ix ix_list (pv 1) pe_int (fun _ _ => rfl)))
    (pss_cons (ps_if (pt_not (PW.pt (pw_and (pt_val (pe_cal C4 hr (by decide) (by rfl) (pa_cons (pv 2) (pa_cons (pv 3) pa_nil)))) (pw_and1 (pt_val (pe_cal C4 hr (by decide) (by rfl) (pa_cons (pv 4) (pa_cons (pv 5) pa_nil)))))))) (pss_one (ps_ret (pe_lst (pa_cons (pe_gi (by rfl) gO) pa_nil)))) pss_nil)
    (pss_cons (ps_set (i := 6) sc_faster.nd rfl (Or.inl rfl) (pe_cal C1 hr (by decide) (by rfl) (pa_cons (pv 4) (pa_cons (pv 5) pa_nil))))
    (pss_cons (ps_set (i := 7) sc_faster.nd rfl (Or.inl rfl) (pe_cal C2 hr (by decide) (by rfl) (pa_cons (pv 6) (pa_cons (pe_tup (pa_cons (pv 2) (pa_cons (pv 3) pa_nil))) pa_nil))))
    (pss_cons (ps_set (i := 8) sc_faster.nd rfl (Or.inl rfl) (pe_cal C2 hr (by decide) (by rfl) (pa_cons (pv 6) (pa_cons (pe_tup (pa_cons (pv 3) (pa_cons (pv 2) pa_nil))) pa_nil))))
    (pss_one (ps_ret (pe_op op_cat (pe_op op_cat (pe_lst (pa_cons pe_int pa_nil)) (pe_callTy call_list_of (by rfl) T.list (by decide +kernel) (pa_cons (pe_cal C3 hr (by decide) (by rfl) (pa_cons (pv 7) pa_nil)) pa_nil))) (pe_callTy call_list_of (by rfl) T.list (by decide +kernel) (pa_cons (pe_cal C3 hr (by decide) (by rfl) (pa_cons (pv 8) pa_nil)) pa_nil)))))))))))), ?_⟩
  obtain ⟨wd, g, dx, pa, r0, as, rfl, hg, hb, c, k⟩ := h
  obtain ⟨p, q, r, s, rfl, _⟩ := arg4 hb rfl (by decide)
  refine ⟨_, rfl, g, _, 0, _, rfl, rfl, hg, atI_nat (j := 0) rfl, _, rfl, g, _, 1, _, rfl, rfl, hg, atI_nat (j := 1) rfl, _, rfl, g, _, 2, _, rfl, rfl, hg, atI_nat (j := 2) rfl, _, rfl, g, _, 3, _, rfl, rfl, hg, atI_nat (j := 3) rfl, _, rfl, _, rfl, p, q, rfl, _, rfl, ?_⟩
  rw [okI_F]
  by_cases cf : Kv414.okF p q = true ∧ Kv414.okF r s = true
  · refine nand_yes (d := Kv414.okF r s) cf.1 cf.2 (fun z => ⟨_, rfl, _, rfl, r, s, rfl, _, rfl, by rw [okI_F]; exact z⟩) ?_
    rw [faster_yes (n := r0.now) cf.1 cf.2] at k
    have z1 := okF_in cf.1
    have z2 := okF_in cf.2
    have l2 := low_pt cf.2
    have pp : (0 : Int) < (p : Int) ∧ (p : Int) ≤ 9 := by omega
    have qq : (0 : Int) < (q : Int) ∧ (q : Int) ≤ 9 := by omega
    refine ⟨_, rfl, _, rfl, r, s, rfl, by omega, by omega, fun x1 hx1 => ?_⟩
    have s1 := same_upd (o := .tup [.int (lowN r s), .int (lowD r s)]) hx1
    generalize hH1 : upd H x1 (.tup [.int (lowN r s), .int (lowD r s)]) = H1 at *
    have t1 : H1 x1 = some (.tup [.int (lowN r s), .int (lowD r s)]) := by rw [← hH1, upd_same]
    refine ⟨_, rfl, _, rfl, _, rfl, (by show 2 ≤ sizeLine; decide), fun x2 hx2 => ?_⟩
    have s2 := same_upd (o := .tup [.int p, .int q]) hx2
    refine ⟨x1, x2, lowN r s, lowD r s, p, q, rfl, SqT.of (s2 _ _ t1), SqT.of upd_same, ⟨by omega, by omega⟩, ⟨by omega, by omega⟩, ⟨by omega, by omega⟩, fun x3 hx3 => ?_⟩
    have s3 := same_upd (o := .tup [.int (lowN (lowN r s * p) (lowD r s * q)), .int (lowD (lowN r s * p) (lowD r s * q))]) hx3
    unfold up2
    generalize hH3 : upd (upd H1 x2 (.tup [.int p, .int q])) x3 (.tup [.int (lowN (lowN r s * p) (lowD r s * q)), .int (lowD (lowN r s * p) (lowD r s * q))]) = H3 at *
    have t3 : H3 x3 = some (.tup [.int (lowN (lowN r s * p) (lowD r s * q)), .int (lowD (lowN r s * p) (lowD r s * q))]) := by rw [← hH3, upd_same]
    have s13 := s2.trans s3
    refine ⟨_, rfl, _, rfl, _, rfl, (by show 2 ≤ sizeLine; decide), fun x4 hx4 => ?_⟩
    have s4 := same_upd (o := .tup [.int q, .int p]) hx4
    refine ⟨x1, x4, lowN r s, lowD r s, q, p, rfl, SqT.of (s4 _ _ (s13 _ _ t1)), SqT.of upd_same, ⟨by omega, by omega⟩, ⟨by omega, by omega⟩, ⟨by omega, by omega⟩, fun x5 hx5 => ?_⟩
    have s5 := same_upd (o := .tup [.int (lowN (lowN r s * q) (lowD r s * p)), .int (lowD (lowN r s * q) (lowD r s * p))]) hx5
    unfold up2
    generalize hH5 : upd (upd H3 x4 (.tup [.int q, .int p])) x5 (.tup [.int (lowN (lowN r s * q) (lowD r s * p)), .int (lowD (lowN r s * q) (lowD r s * p))]) = H5 at *
    have t5 : H5 x5 = some (.tup [.int (lowN (lowN r s * q) (lowD r s * p)), .int (lowD (lowN r s * q) (lowD r s * p))]) := by rw [← hH5, upd_same]
    have s35 := s4.trans s5
    have u1 := low_mul_pt l2.1 l2.2 pp qq
    have u2 := low_mul_pt l2.1 l2.2 qq pp
    have s05 : Same H H5 := s1.trans (s13.trans s35)
    have t3' := s35 _ _ t3
    generalize lowN (lowN r s * p) (lowD r s * q) = A1 at *
    generalize lowD (lowN r s * p) (lowD r s * q) = A2 at *
    generalize lowN (lowN r s * q) (lowD r s * p) = A3 at *
    generalize lowD (lowN r s * q) (lowD r s * p) = A4 at *
    refine ⟨(by show 1 ≤ sizeLine; decide), fun l hl => ?_⟩
    have v1 := same_upd (o := .lst [.int 0]) hl
    refine ⟨_, rfl, x3, A1, A2, rfl, SqT.of (v1 _ _ t3'), u1.1, u1.2, fun y1 hy1 => ⟨y1, _, rfl, .inr (SqT.of upd_same), fun l1 hl1 => ?_⟩⟩
    have v2 := same_upd (o := .tup ((speed2 A1 A2).map V.int)) hy1
    have v3 := same_upd (o := .lst ((speed2 A1 A2).map V.int)) hl1
    refine ⟨l, l1, _, _, rfl, rfl, v3 _ _ (v2 _ _ upd_same), upd_same, (by show 3 ≤ sizeLine; decide), fun l2 hl2 => ?_⟩
    have v4 := same_upd (o := .lst (.int 0 :: (speed2 A1 A2).map V.int)) hl2
    have v14 : Same H5 _ := v1.trans (v2.trans (v3.trans v4))
    refine ⟨_, rfl, x5, A3, A4, rfl, SqT.of (v14 _ _ t5), u2.1, u2.2, fun y2 hy2 => ⟨y2, _, rfl, .inr (SqT.of upd_same), fun l3 hl3 => ?_⟩⟩
    have v5 := same_upd (o := .tup ((speed2 A3 A4).map V.int)) hy2
    have v6 := same_upd (o := .lst ((speed2 A3 A4).map V.int)) hl3
    refine ⟨l2, l3, _, _, rfl, rfl, v6 _ _ (v5 _ _ upd_same), upd_same, (by show 5 ≤ sizeLine; decide), fun p' hp' => ?_⟩
    exact k _ p' (s05.trans (v14.trans (v5.trans (v6.trans (same_upd hp'))))) (s05.free (v14.free (v5.free (v6.free hp')))) upd_same
  · refine nand_no (d := Kv414.okF r s) cf (fun z => ⟨_, rfl, _, rfl, r, s, rfl, _, rfl, by rw [okI_F]; exact z⟩) ?_
    rw [faster_no (n := r0.now) cf] at k
    exact ⟨(by show 1 ≤ sizeLine; decide), fun l hl => k _ l (same_upd hl) hl upd_same⟩
end
end MC
namespace MC
open PySem PySem.Spec PyProof.Rows L2
open Kv414 (Now Leg Factor Abs goU goV)
theorem take_snd {α : Type} {E : List (Addr × α)} {i : Nat} {p : Addr × α} (h : E[i]? = some p) : snd (E.take (i + 1)) = snd (E.take i) ++ [p.2] := by
  rw [List.take_add_one, h]
  unfold snd
  simp
theorem rf_get {α : Type} {E : List (Addr × α)} {i : Nat} {x : V} (h : (rf E)[i]? = some x) : ∃ p, E[i]? = some p ∧ x = .ref p.1 ∧ p ∈ E := by
  have hx' : (E.map fun p => V.ref p.1)[i]? = some x := h
  rw [List.getElem?_map] at hx'
  cases e : E[i]? with
  | none => rw [e] at hx'; cases hx'
  | some p =>
    rw [e] at hx'
    exact ⟨p, rfl, (Option.some.inj hx').symm, List.mem_of_getElem? e⟩
theorem mem_snd {α : Type} {E : List (Addr × α)} {p : Addr × α} (h : p ∈ E) : p.2 ∈ snd E := List.mem_map.mpr ⟨p, h, rfl⟩
theorem sum_shows : ∀ l : List Leg, (l.map fun g => (g.s : Int)).sum = (Kv414.shows l : Int)
  | [] => rfl
  | g :: l => by
    have ih := sum_shows l
    unfold Kv414.shows at ih ⊢
    rw [List.map_cons, List.sum_cons, ih, List.map_cons, List.sum_cons, Int.natCast_add]
section
variable {P : Program} {w : World} {K : PySem.W.Frag} {mg : Str → Option Value} {base : Heap} {C : Addr}
/-! ### gone_on -/
def spGone : Sp := fun vs H Q _ => ∃ (a : Addr) (E : List (Addr × Leg)), vs = [.ref a] ∧ LAt lgR H a E ∧ (∀ g ∈ snd E, LegOk g) ∧ E.length ≤ 6 ∧
  ∀ H' x y z N1 D1 N2 D2, Same H H' → H x = none → H' x = some (.tup [.ref y, .ref z]) → H' y = some (.tup [.int N1, .int D1]) → H' z = some (.tup [.int N2, .int D2]) → Gq (goU (snd E)) N1 D1 6 → Gq (goV (snd E)) N2 D2 6 → Q (.ref x) H'
theorem gq_six {x : Kv414.Q} {N D : Int} {i : Nat} (h : Gq x N D i) (hi : i ≤ 6) : Gq x N D 6 := by
  obtain ⟨h1, h2, h3, h4⟩ := h
  have hD := h1.2.1
  have p : (9 : Int) ^ i ≤ 9 ^ 6 := by
    have : ∀ i : Nat, i ≤ 6 → (9 : Int) ^ i ≤ 9 ^ 6 := by decide
    exact this i hi
  refine ⟨h1, Int.le_trans h2 p, h3, Int.le_trans h4 ?_⟩
  exact Int.mul_le_mul_of_nonneg_right (by omega) (by omega)
theorem sc_gone_on : FnScope ["legs", "less", "both", "leg", "p", "q", "shown"] ["legs"] (defScope s_gone_on) := ⟨rfl, rfl, rfl, by decide +kernel, rfl, by decide +kernel, by decide +kernel⟩
theorem ok_gone (F : Dfn K mg "gone_on" s_gone_on) (C1 : Cal P w K mg base 2 "lowest" spLowest) (C2 : Cal P w K mg base 3 "plus" (spPlus K)) : Cal P w K mg base 4 "gone_on" spGone := by
  refine cal_of F sc_gone_on (fun vs H Q E h => by (repeat' (first | (obtain ⟨e, _⟩ := h; exact congrArg List.length e) | (obtain ⟨_, h⟩ := h)))) (fun _ _ _ _ _ _ us hl => match us, hl with | [_], _ => rfl) fun f cdv A outer s H vs Q E hr h => ?_
  refine ⟨_, pss_cons (ps_set (i := 1) sc_gone_on.nd rfl (Or.inl rfl) (pe_tup (pa_cons pe_int (pa_cons pe_int pa_nil)))) (pss_cons (ps_set (i := 2) sc_gone_on.nd rfl (Or.inl rfl) (pe_tup (pa_cons pe_int (pa_cons pe_int pa_nil))))
    (pss_cons (ps_for PassesOwn.never rfl (pi_list (pv 0)) (pg_name (i := 3) sc_gone_on.nd rfl (Or.inl rfl))
      (pss_cons (ps_set (i := 4) sc_gone_on.nd rfl (Or.inl rfl) (pe_ix ix_tup (pv 3) pe_int (fun _ _ => rfl))) (pss_cons (ps_set (i := 5) sc_gone_on.nd rfl (Or.inl rfl) (pe_ix ix_tup (pv 3) pe_int (fun _ _ => rfl))) (pss_cons (ps_set (i := 6) sc_gone_on.nd rfl (Or.inl rfl) (pe_ix ix_tup (pv 3) pe_int (fun _ _ => rfl)))
      (pss_cons (ps_set (i := 1) sc_gone_on.nd rfl (Or.inl rfl) (pe_cal C2 hr (by decide) (by rfl) (pa_cons (pv 1) (pa_cons (pe_cal C1 hr (by decide) (by rfl) (pa_cons (pe_op op_mul (pv 6) (pv 5)) (pa_cons (pv 4) pa_nil))) pa_nil))))
      (pss_one (ps_set (i := 2) sc_gone_on.nd rfl (Or.inl rfl) (pe_cal C2 hr (by decide) (by rfl) (pa_cons (pv 2) (pa_cons (pe_cal C1 hr (by decide) (by rfl) (pa_cons (pe_op op_mul (pv 6) (pv 4)) (pa_cons (pv 5) pa_nil))) pa_nil))))))))))
    (pss_one (ps_ret (pe_tup (pa_cons (pv 1) (pa_cons (pv 2) pa_nil))))))), ?_⟩
  obtain ⟨a, E, rfl, hA, hok, hlen, k⟩ := h
  refine ⟨(by show 2 ≤ sizeLine; decide), fun y hy => ⟨(by show 2 ≤ sizeLine; decide), fun z hz => ?_⟩⟩
  have s1 := same_upd (o := .tup [.int 0, .int 1]) hy
  have s2 := same_upd (o := .tup [.int 0, .int 1]) hz
  refine ⟨_, rfl, a, rfl, ⟨_, SqL.of ((s1.trans s2) _ _ hA.at_)⟩, ?_⟩
  refine for_list (xs := rf E) (fun i σ H' => Same H H' ∧ ∃ (y z : Addr) (N1 D1 N2 D2 : Int) (v3 v4 v5 v6 : Option V), σ = [some (.ref a), some (.ref y), some (.ref z), v3, v4, v5, v6] ∧ H' y = some (.tup [.int N1, .int D1]) ∧ H' z = some (.tup [.int N2, .int D2]) ∧
    Gq (goU (snd (E.take i))) N1 D1 (snd (E.take i)).length ∧ Gq (goV (snd (E.take i))) N2 D2 (snd (E.take i)).length) ?_ ?_ ?_ ?_
  · exact ⟨s1.trans s2, y, z, 0, 1, 0, 1, none, none, none, none, rfl, s2 _ _ upd_same, upd_same, gq_zero, gq_zero⟩
  · rintro i σ H' _ ⟨s, _⟩
    exact SqL.of (s _ _ hA.at_)
  · rintro i x σ H' hx ⟨s, y, z, N1, D1, N2, D2, v3, v4, v5, v6, rfl, hy, hz, g1, g2⟩
    obtain ⟨p, ep, rfl, hp⟩ := rf_get hx
    have ok := hok _ (mem_snd hp)
    have ht : H' p.1 = some (.tup [.int p.2.k.p, .int p.2.k.q, .int p.2.s]) := s _ _ (hA.tu p hp)
    have hi : (snd (E.take i)).length ≤ 6 := by rw [snd_len, List.length_take]; omega
    have b1 := gq_bd g1 hi
    have b2 := gq_bd g2 hi
    have o1 := ok.p0
    have o2 := ok.p1
    have o3 := ok.q0
    have o4 := ok.q1
    have o5 := ok.s0
    have o6 := ok.s1
    have eU := gU_step g1 ok
    have eV := gV_step g2 ok
    rw [← take_snd ep] at eU eV
    have dA := lowD_pos (n := (p.2.s : Int) * p.2.k.q) (d := p.2.k.p) (by omega)
    have dA' := (low_le (n := (p.2.s : Int) * p.2.k.q) (d := p.2.k.p) (Int.mul_nonneg (by omega) (by omega)) (by omega)).2
    have dB := lowD_pos (n := (p.2.s : Int) * p.2.k.p) (d := p.2.k.q) (by omega)
    have dB' := (low_le (n := (p.2.s : Int) * p.2.k.p) (d := p.2.k.q) (Int.mul_nonneg (by omega) (by omega)) (by omega)).2
    refine ⟨_, rfl, p.1, _, 0, _, rfl, rfl, SqT.of ht, atI_nat (j := 0) rfl, _, rfl, p.1, _, 1, _, rfl, rfl, SqT.of ht, atI_nat (j := 1) rfl, _, rfl, p.1, _, 2, _, rfl, rfl, SqT.of ht, atI_nat (j := 2) rfl, ?_⟩
    refine ⟨_, rfl, _, rfl, _, rfl, _, _, rfl, rfl, .inl ⟨by omega, by omega⟩, _, rfl, _, _, rfl, by omega, by omega, fun x1 hx1 => ?_⟩
    have t1 := same_upd (o := .tup [.int (lowN ((p.2.s : Int) * p.2.k.q) p.2.k.p), .int (lowD ((p.2.s : Int) * p.2.k.q) p.2.k.p)]) hx1
    refine ⟨y, x1, N1, D1, _, _, rfl, SqT.of (t1 _ _ hy), SqT.of upd_same, ⟨b1.2.1, by omega⟩, ⟨dA, by omega⟩, fun y' hy' => ?_⟩
    have t2 := same_upd (o := .tup [.int (stepN N1 D1 ((p.2.s : Int) * p.2.k.q) p.2.k.p), .int (stepD N1 D1 ((p.2.s : Int) * p.2.k.q) p.2.k.p)]) hy'
    refine ⟨_, rfl, _, rfl, _, rfl, _, _, rfl, rfl, .inl ⟨by omega, by omega⟩, _, rfl, _, _, rfl, by omega, by omega, fun x2 hx2 => ?_⟩
    have t3 := same_upd (o := .tup [.int (lowN ((p.2.s : Int) * p.2.k.p) p.2.k.q), .int (lowD ((p.2.s : Int) * p.2.k.p) p.2.k.q)]) hx2
    refine ⟨z, x2, N2, D2, _, _, rfl, SqT.of (t3 _ _ (t2 _ _ (t1 _ _ hz))), SqT.of upd_same, ⟨b2.2.1, by omega⟩, ⟨dB, by omega⟩, fun z' hz' => ?_⟩
    have t4 := same_upd (o := .tup [.int (stepN N2 D2 ((p.2.s : Int) * p.2.k.p) p.2.k.q), .int (stepD N2 D2 ((p.2.s : Int) * p.2.k.p) p.2.k.q)]) hz'
    exact ⟨s.trans (t1.trans (t2.trans (t3.trans t4))), y', z', _, _, _, _, _, _, _, _, rfl, t4 _ _ (t3 _ _ upd_same), upd_same, eU, eV⟩
  · rintro σ H' ⟨s, y, z, N1, D1, N2, D2, v3, v4, v5, v6, rfl, hy, hz, g1, g2⟩
    rw [rf_len, List.take_length] at g1 g2
    refine ⟨_, rfl, _, rfl, (by show 2 ≤ sizeLine; decide), fun x hx => ?_⟩
    have t := same_upd (o := .tup [.ref y, .ref z]) hx
    exact k _ x y z N1 D1 N2 D2 (s.trans t) (s.free hx) upd_same (t _ _ hy) (t _ _ hz) (gq_six g1 (by rw [snd_len]; exact hlen)) (gq_six g2 (by rw [snd_len]; exact hlen))
/-! ### shown_over -/
def spShown : Sp := fun vs H Q _ => ∃ (a : Addr) (E : List (Addr × Leg)), vs = [.ref a] ∧ LAt lgR H a E ∧ E.length ≤ 6 ∧ ∀ H', Same H H' → Q (.int (Kv414.shows (snd E))) H'
theorem sc_shown_over : FnScope ["legs", "leg"] ["legs"] (defScope s_shown_over) := ⟨rfl, rfl, rfl, by decide +kernel, rfl, by decide +kernel, by decide +kernel⟩
theorem ok_shown (F : Dfn K mg "shown_over" s_shown_over) (mS : mg "sum" = none) : Cal P w K mg base 1 "shown_over" spShown := by
  refine cal_of F sc_shown_over (fun vs H Q E h => by (repeat' (first | (obtain ⟨e, _⟩ := h; exact congrArg List.length e) | (obtain ⟨_, h⟩ := h)))) (fun _ _ _ _ _ _ us hl => match us, hl with | [_], _ => rfl) fun f cdv A outer s H vs Q E hr h => ?_
  refine ⟨_, pss_one (ps_ret (pe_callB (cr_sum rfl) (by rfl) mS (by decide +kernel) (pa_cons (pe_lc (own := [("leg", 1)]) (g := gName 1) (tt := tYes) (te := tOp (rIxT K) (tVar 1) (tC (.int 2))) rfl sc_shown_over.nd (pi_list (pv 0)) (blkOk_by (own := [("leg", 1)]) (N := ["legs", "leg"]) (sc := defScope s_shown_over) (by decide +kernel))
    (fun _ _ _ _ _ => pg_name (i := 1) sc_shown_over.nd rfl (Or.inl rfl)) (fun _ _ _ _ _ => pts_nil) (fun _ _ _ _ _ => (pe_ix ix_tup (pv 1) pe_int (fun _ _ => rfl)))) pa_nil))), ?_⟩
  obtain ⟨a, E, rfl, hA, hlen, k⟩ := h
  refine ⟨_, rfl, a, rfl, ⟨_, SqL.of hA.at_⟩, fun D hD => ?_⟩
  refine lc_list (K := K) (a := a) (xs := rf E) (fun i H' => Same H H' ∧ H' D = some (.lst (((snd (E.take i)).map fun g => (g.s : Int)).map V.int))) ?_ ?_ ?_ ?_
  · exact ⟨same_upd hD, upd_same⟩
  · rintro i H' _ ⟨s, _⟩
    exact SqL.of (s _ _ hA.at_)
  · rintro i x H' hx ⟨s, hD'⟩
    obtain ⟨p, ep, rfl, hp⟩ := rf_get hx
    have ht : H' p.1 = some (.tup [.int p.2.k.p, .int p.2.k.q, .int p.2.s]) := s _ _ (hA.tu p hp)
    refine ⟨rfl, ?_⟩
    refine ⟨_, rfl, p.1, _, 2, _, rfl, rfl, SqT.of ht, atI_nat (j := 2) rfl, _, hD', ?_, ?_, ?_⟩
    · rw [List.length_map, List.length_map, snd_len, List.length_take]
      exact small1000 (by omega)
    · intro b u hb'
      by_cases eb : b = D
      · rw [eb, hD] at hb'; cases hb'
      · rw [upd_ne eb]
        exact s b u hb'
    · rw [upd_same, take_snd ep, List.map_append, List.map_append]
      rfl
  · rintro H' ⟨s, hD'⟩
    rw [rf_len, List.take_length] at hD'
    refine ⟨D, _, rfl, SqL.of hD', ?_⟩
    rw [sum_shows]
    exact k H' s
end
end MC
namespace MC
open PySem PySem.Spec PyProof.Rows L2
open Kv414 (Now Leg Factor Abs goU goV)
theorem way_get {H : Hp} {r : Rec} (h : Held H r) {i : Nat} (hi : i < 2) : ∃ (lw : Addr) (E : List (Addr × Leg)), ([V.ref r.la, V.ref r.lb] : List V)[i]? = some (.ref lw) ∧ LAt lgR H lw E ∧ snd E = r.now.way i ∧ E.length ≤ 6 ∧ ∀ g ∈ snd E, LegOk g := by
  have l1 : r.ea.length ≤ 6 := by rw [← snd_len]; exact h.ok.la
  have l2 : r.eb.length ≤ 6 := by rw [← snd_len]; exact h.ok.lb
  match i, hi with
  | 0, _ => exact ⟨r.la, r.ea, rfl, h.la, rfl, l1, h.ok.ga⟩
  | 1, _ => exact ⟨r.lb, r.eb, rfl, h.lb, rfl, l2, h.ok.gb⟩
section
variable {P : Program} {w : World} {K : PySem.W.Frag} {mg : Str → Option Value} {base : Heap} {C : Addr}
theorem sc_way : FnScope ["world", "given", "w", "legs", "answer", "leg"] ["world", "given"] (defScope s_way) := ⟨rfl, rfl, rfl, by decide +kernel, rfl, by decide +kernel, by decide +kernel⟩
theorem ok_way (F : Dfn K mg "way" s_way) (T : Txt K mg C) (gN : GI mg "NO_SUCH" (-2)) (M1 : Mth P w K mg base C 1 "has_way" (spHasW C)) : Cal P w K mg base 2 "way" (spLook K C 17) := by
  obtain ⟨f1, fd1, ps1, G1, m1, b1⟩ := M1
  refine cal_of F sc_way (fun vs H Q E h => by (repeat' (first | (obtain ⟨e, _⟩ := h; exact congrArg List.length e) | (obtain ⟨_, h⟩ := h)))) (fun _ _ _ _ _ _ us hl => match us, hl with | [_, _], _ => rfl) fun f cdv A outer s H vs Q E hr h => ?_
  refine ⟨_, pss_cons (ps_set (i := 2) sc_way.nd rfl (Or.inl rfl) (pe_ix ix_list (pv 1) pe_int (fun _ _ => rfl))) (pss_cons (ps_if (pt_not (pt_val (pe_meth (pv 0) T.cl m1 G1 (hr.mono (by decide)) b1 .nil pass0 (pa_cons (pv 2) pa_nil)))) (pss_one (ps_ret (pe_lst (pa_cons (pe_gi (by rfl) gN) pa_nil)))) pss_nil)
    (pss_cons (ps_set (i := 3) sc_way.nd rfl (Or.inl rfl) (pe_ix ix_tup (pe_fld (pv 0) rfl) (pv 2) (fun _ _ => rfl)))
    (pss_cons (ps_set (i := 4) sc_way.nd rfl (Or.inl rfl) (pe_lst (pa_cons (pe_callB call_len_seq (by rfl) T.len PySem.boot_len (pa_cons (pv 3) pa_nil)) pa_nil)))
    (pss_cons (ps_for PassesOwn.never rfl (pi_list (pv 3)) (pg_name (i := 5) sc_way.nd rfl (Or.inl rfl)) (pss_one (ps_expr (pe_bm PySem.F.plainAttrs_list PySem.F.slot_list_extend PySem.F.type_list_extend mt_extendT (pv 4) (pa_cons (pv 5) pa_nil)))))
    (pss_one (ps_ret (pv 4))))))), ?_⟩
  obtain ⟨wd, g, dx, pa, r, as, rfl, hg, hb, c, k⟩ := h
  obtain ⟨i, rfl, _⟩ := arg1 hb rfl (by decide)
  have ob := obs c
  refine ⟨_, rfl, g, _, 0, _, rfl, rfl, hg, atI_nat (j := 0) rfl, _, rfl, wd, _, _, rfl, ob, lk2, _, rfl, wd, dx, pa, r, i, rfl, c, _, rfl, ?_⟩
  by_cases ci : i < 2
  · refine if_no (by rw [dt (show (i : Int) < 2 by omega)]; rfl) ?_
    obtain ⟨lw, E, hlw, hA, eE, hlen, hok⟩ := way_get c.hd ci
    rw [way_yes (n := r.now) ci, ← eE] at k
    refine ⟨_, rfl, wd, C, _, _, _, rfl, ob, T.cl, T.nW, lkW, _, rfl, r.wa, _, i, _, rfl, rfl, SqT.of c.hd.wa, atI_nat (j := i) hlw, ?_⟩
    refine ⟨_, rfl, lw, _, rfl, .inl (SqL.of hA.at_), (by show 1 ≤ sizeLine; decide), fun l hl => ?_⟩
    have s1 := same_upd (o := .lst [.int ((rf E).length : Nat)]) hl
    refine ⟨_, rfl, lw, rfl, ⟨_, SqL.of (s1 _ _ hA.at_)⟩, ?_⟩
    refine for_list (xs := rf E) (fun j σ H' => Same H H' ∧ H' l = some (.lst (((E.length : Int) :: (snd (E.take j)).flatMap lgR).map V.int)) ∧ ∃ v, σ = [some (.ref wd), some (.ref g), some (.int i), some (.ref lw), some (.ref l), v]) ?_ ?_ ?_ ?_
    · refine ⟨s1, ?_, none, rfl⟩
      rw [upd_same, rf_len]
      rfl
    · rintro j σ H' _ ⟨s, _, _⟩
      exact SqL.of (s _ _ hA.at_)
    · rintro j x σ H' hx ⟨s, hl', v, rfl⟩
      obtain ⟨p, ep, rfl, hp⟩ := rf_get hx
      have ht := s _ _ (hA.tu p hp)
      refine ⟨_, rfl, .inl ⟨rfl, _, SqL.of hl'⟩, _, rfl, l, p.1, _, _, rfl, rfl, hl', SqT.of ht, ?_, ?_, ?_, _, rfl⟩
      · have h1 := flat_len lgR 3 (fun _ => Nat.le_refl 3) (snd (E.take j))
        have h2 : (snd (E.take j)).length ≤ 6 := by
          rw [snd_len, List.length_take]
          omega
        rw [List.length_map, List.length_map, List.length_cons]
        show _ + 3 ≤ sizeLine
        have : (1000 : Nat) ≤ sizeLine := by decide
        omega
      · exact fun b u hb' => by
          by_cases eb : b = l
          · rw [eb, hl] at hb'; cases hb'
          · rw [upd_ne eb]
            exact s b u hb'
      · rw [upd_same, flat_take lgR ep, ← List.cons_append, List.map_append]
    · rintro σ H' ⟨s, hl', v, rfl⟩
      rw [rf_len, List.take_length] at hl'
      refine ⟨_, rfl, k _ l s hl ?_⟩
      rw [hl', snd_len]
      rfl
  · refine if_yes (by rw [df (show ¬ (i : Int) < 2 by omega)]; rfl) ?_
    rw [way_no (n := r.now) ci] at k
    exact ⟨(by show 1 ≤ sizeLine; decide), fun l hl => k _ l (same_upd hl) hl upd_same⟩
theorem sc_shows : FnScope ["world", "given", "w"] ["world", "given"] (defScope s_shows) := ⟨rfl, rfl, rfl, by decide +kernel, rfl, by decide +kernel, by decide +kernel⟩
theorem ok_shows (F : Dfn K mg "shows" s_shows) (T : Txt K mg C) (gN : GI mg "NO_SUCH" (-2)) (M1 : Mth P w K mg base C 1 "has_way" (spHasW C)) (C1 : Cal P w K mg base 1 "shown_over" spShown) : Cal P w K mg base 2 "shows" (spLook K C 19) := by
  obtain ⟨f1, fd1, ps1, G1, m1, b1⟩ := M1
  refine cal_of F sc_shows (fun vs H Q E h => by (repeat' (first | (obtain ⟨e, _⟩ := h; exact congrArg List.length e) | (obtain ⟨_, h⟩ := h)))) (fun _ _ _ _ _ _ us hl => match us, hl with | [_, _], _ => rfl) fun f cdv A outer s H vs Q E hr h => ?_
  refine ⟨_, pss_cons (ps_set (i := 2) sc_shows.nd rfl (Or.inl rfl) (pe_ix ix_list (pv 1) pe_int (fun _ _ => rfl))) (pss_cons (ps_if (pt_not (pt_val (pe_meth (pv 0) T.cl m1 G1 (hr.mono (by decide)) b1 .nil pass0 (pa_cons (pv 2) pa_nil)))) (pss_one (ps_ret (pe_lst (pa_cons (pe_gi (by rfl) gN) pa_nil)))) pss_nil)
    (pss_one (ps_ret (pe_lst (pa_cons (pe_cal C1 hr (by decide) (by rfl) (pa_cons (pe_ix ix_tup (pe_fld (pv 0) rfl) (pv 2) (fun _ _ => rfl)) pa_nil)) pa_nil))))), ?_⟩
  obtain ⟨wd, g, dx, pa, r, as, rfl, hg, hb, c, k⟩ := h
  obtain ⟨i, rfl, _⟩ := arg1 hb rfl (by decide)
  have ob := obs c
  refine ⟨_, rfl, g, _, 0, _, rfl, rfl, hg, atI_nat (j := 0) rfl, _, rfl, wd, _, _, rfl, ob, lk2, _, rfl, wd, dx, pa, r, i, rfl, c, _, rfl, ?_⟩
  by_cases ci : i < 2
  · refine if_no (by rw [dt (show (i : Int) < 2 by omega)]; rfl) ?_
    obtain ⟨lw, E, hlw, hA, eE, hlen, hok⟩ := way_get c.hd ci
    rw [shows_yes (n := r.now) ci, ← eE] at k
    refine ⟨_, rfl, wd, C, _, _, _, rfl, ob, T.cl, T.nW, lkW, _, rfl, r.wa, _, i, _, rfl, rfl, SqT.of c.hd.wa, atI_nat (j := i) hlw, ?_⟩
    refine ⟨lw, E, rfl, hA, hlen, fun H' s => ⟨(by show 1 ≤ sizeLine; decide), fun l hl => ?_⟩⟩
    exact k _ l (s.trans (same_upd hl)) (s.free hl) upd_same
  · refine if_yes (by rw [df (show ¬ (i : Int) < 2 by omega)]; rfl) ?_
    rw [shows_no (n := r.now) ci] at k
    exact ⟨(by show 1 ≤ sizeLine; decide), fun l hl => k _ l (same_upd hl) hl upd_same⟩
theorem sc_straight : FnScope ["world", "given", "w", "gone"] ["world", "given"] (defScope s_straight) := ⟨rfl, rfl, rfl, by decide +kernel, rfl, by decide +kernel, by decide +kernel⟩
theorem ok_straight (F : Dfn K mg "straight" s_straight) (T : Txt K mg C) (gN : GI mg "NO_SUCH" (-2)) (M1 : Mth P w K mg base C 1 "has_way" (spHasW C)) (C1 : Cal P w K mg base 4 "gone_on" spGone) (C2 : Cal P w K mg base 3 "times" (spTimes K)) : Cal P w K mg base 5 "straight" (spLook K C 20) := by
  obtain ⟨f1, fd1, ps1, G1, m1, b1⟩ := M1
  refine cal_of F sc_straight (fun vs H Q E h => by (repeat' (first | (obtain ⟨e, _⟩ := h; exact congrArg List.length e) | (obtain ⟨_, h⟩ := h)))) (fun _ _ _ _ _ _ us hl => match us, hl with | [_, _], _ => rfl) fun f cdv A outer s H vs Q E hr h => ?_
  refine ⟨_, pss_cons (ps_set (i := 2) sc_straight.nd rfl (Or.inl rfl) (pe_ix ix_list (pv 1) pe_int (fun _ _ => rfl))) (pss_cons (ps_if (pt_not (pt_val (pe_meth (pv 0) T.cl m1 G1 (hr.mono (by decide)) b1 .nil pass0 (pa_cons (pv 2) pa_nil)))) (pss_one (ps_ret (pe_lst (pa_cons (pe_gi (by rfl) gN) pa_nil)))) pss_nil)
    (pss_cons (ps_set (i := 3) sc_straight.nd rfl (Or.inl rfl) (pe_cal C1 hr (by decide) (by rfl) (pa_cons (pe_ix ix_tup (pe_fld (pv 0) rfl) (pv 2) (fun _ _ => rfl)) pa_nil)))
    (pss_one (ps_ret (pe_op op_cat (pe_lst (pa_cons pe_int pa_nil)) (pe_callTy call_list_of (by rfl) T.list (by decide +kernel) (pa_cons (pe_cal C2 hr (by decide) (by rfl) (pa_cons (pe_ix ix_tup (pv 3) pe_int (fun _ _ => rfl)) (pa_cons (pe_ix ix_tup (pv 3) pe_int (fun _ _ => rfl)) pa_nil))) pa_nil))))))), ?_⟩
  obtain ⟨wd, g, dx, pa, r, as, rfl, hg, hb, c, k⟩ := h
  obtain ⟨i, rfl, _⟩ := arg1 hb rfl (by decide)
  have ob := obs c
  refine ⟨_, rfl, g, _, 0, _, rfl, rfl, hg, atI_nat (j := 0) rfl, _, rfl, wd, _, _, rfl, ob, lk2, _, rfl, wd, dx, pa, r, i, rfl, c, _, rfl, ?_⟩
  by_cases ci : i < 2
  · refine if_no (by rw [dt (show (i : Int) < 2 by omega)]; rfl) ?_
    obtain ⟨lw, E, hlw, hA, eE, hlen, hok⟩ := way_get c.hd ci
    refine ⟨_, rfl, wd, C, _, _, _, rfl, ob, T.cl, T.nW, lkW, _, rfl, r.wa, _, i, _, rfl, rfl, SqT.of c.hd.wa, atI_nat (j := i) hlw, ?_⟩
    refine ⟨lw, E, rfl, hA, hok, hlen, fun H1 x y z N1 D1 N2 D2 s1 hx ex ey ez g1 g2 => ?_⟩
    have q1 := gq_bd g1 (Nat.le_refl 6)
    have q2 := gq_bd g2 (Nat.le_refl 6)
    have u1 := q1.1
    have u2 := q2.1
    rw [eE] at u1 u2
    rw [straight_yes (n := r.now) ci u1 u2] at k
    refine ⟨(by show 1 ≤ sizeLine; decide), fun l hl => ?_⟩
    have s2 := same_upd (o := .lst [.int 0]) hl
    refine ⟨_, rfl, x, _, 0, _, rfl, rfl, SqT.of (s2 _ _ ex), atI_nat (j := 0) rfl, _, rfl, x, _, 1, _, rfl, rfl, SqT.of (s2 _ _ ex), atI_nat (j := 1) rfl, y, z, N1, D1, N2, D2, rfl, SqT.of (s2 _ _ ey), SqT.of (s2 _ _ ez), ⟨by omega, by omega⟩, ⟨by omega, by omega⟩, ⟨by omega, by omega⟩, fun p1 hp1 => ⟨p1, _, rfl, .inr (SqT.of upd_same), fun l2 hl2 => ?_⟩⟩
    have s3 := same_upd (o := .tup [.int (lowN (N1 * N2) (D1 * D2)), .int (lowD (N1 * N2) (D1 * D2))]) hp1
    have s4 := same_upd (o := .lst [.int (lowN (N1 * N2) (D1 * D2)), .int (lowD (N1 * N2) (D1 * D2))]) hl2
    refine ⟨l, l2, _, _, rfl, rfl, s4 _ _ (s3 _ _ upd_same), upd_same, (by show 3 ≤ sizeLine; decide), fun p hp => ?_⟩
    exact k _ p (s1.trans (s2.trans (s3.trans (s4.trans (same_upd hp))))) (s1.free (s2.free (s3.free (s4.free hp)))) upd_same
  · refine if_yes (by rw [df (show ¬ (i : Int) < 2 by omega)]; rfl) ?_
    rw [straight_no (n := r.now) ci] at k
    exact ⟨(by show 1 ≤ sizeLine; decide), fun l hl => k _ l (same_upd hl) hl upd_same⟩
theorem lowD_bd {a d b : Int} (h : 0 < d) (hb : d ≤ b) : 0 < lowD a d ∧ lowD a d ≤ b := by
  have h1 := lowD_pos (n := a) h
  have h2 : lowD a d ≤ d := by unfold lowD; exact Int.ediv_le_self _ (by omega)
  omega
theorem sc_end : FnScope ["world", "given", "w", "gone", "when", "where"] ["world", "given"] (defScope s_end) := ⟨rfl, rfl, rfl, by decide +kernel, rfl, by decide +kernel, by decide +kernel⟩
theorem ok_end (F : Dfn K mg "end" s_end) (T : Txt K mg C) (gN : GI mg "NO_SUCH" (-2)) (M1 : Mth P w K mg base C 1 "has_way" (spHasW C)) (C1 : Cal P w K mg base 4 "gone_on" spGone) (C2 : Cal P w K mg base 3 "plus" (spPlus K)) (C3 : Cal P w K mg base 4 "minus" (spMinus K)) (C4 : Cal P w K mg base 3 "half" (spHalf K)) : Cal P w K mg base 5 "end" (spLook K C 18) := by
  obtain ⟨f1, fd1, ps1, G1, m1, b1⟩ := M1
  refine cal_of F sc_end (fun vs H Q E h => by (repeat' (first | (obtain ⟨e, _⟩ := h; exact congrArg List.length e) | (obtain ⟨_, h⟩ := h)))) (fun _ _ _ _ _ _ us hl => match us, hl with | [_, _], _ => rfl) fun f cdv A outer s H vs Q E hr h => ?_
  refine ⟨_, pss_cons (ps_set (i := 2) sc_end.nd rfl (Or.inl rfl) (pe_ix ix_list (pv 1) pe_int (fun _ _ => rfl))) (pss_cons (ps_if (pt_not (pt_val (pe_meth (pv 0) T.cl m1 G1 (hr.mono (by decide)) b1 .nil pass0 (pa_cons (pv 2) pa_nil)))) (pss_one (ps_ret (pe_lst (pa_cons (pe_gi (by rfl) gN) pa_nil)))) pss_nil)
    (pss_cons (ps_set (i := 3) sc_end.nd rfl (Or.inl rfl) (pe_cal C1 hr (by decide) (by rfl) (pa_cons (pe_ix ix_tup (pe_fld (pv 0) rfl) (pv 2) (fun _ _ => rfl)) pa_nil)))
    (pss_cons (ps_set (i := 4) sc_end.nd rfl (Or.inl rfl) (pe_cal C4 hr (by decide) (by rfl) (pa_cons (pe_cal C2 hr (by decide) (by rfl) (pa_cons (pe_ix ix_tup (pv 3) pe_int (fun _ _ => rfl)) (pa_cons (pe_ix ix_tup (pv 3) pe_int (fun _ _ => rfl)) pa_nil))) pa_nil)))
    (pss_cons (ps_set (i := 5) sc_end.nd rfl (Or.inl rfl) (pe_cal C4 hr (by decide) (by rfl) (pa_cons (pe_cal C3 hr (by decide) (by rfl) (pa_cons (pe_ix ix_tup (pv 3) pe_int (fun _ _ => rfl)) (pa_cons (pe_ix ix_tup (pv 3) pe_int (fun _ _ => rfl)) pa_nil))) pa_nil)))
    (pss_one (ps_ret (pe_op op_cat (pe_op op_cat (pe_lst (pa_cons pe_int pa_nil)) (pe_callTy call_list_of (by rfl) T.list (by decide +kernel) (pa_cons (pv 4) pa_nil))) (pe_callTy call_list_of (by rfl) T.list (by decide +kernel) (pa_cons (pv 5) pa_nil))))))))), ?_⟩
  obtain ⟨wd, g, dx, pa, r, as, rfl, hg, hb, c, k⟩ := h
  obtain ⟨i, rfl, _⟩ := arg1 hb rfl (by decide)
  have ob := obs c
  refine ⟨_, rfl, g, _, 0, _, rfl, rfl, hg, atI_nat (j := 0) rfl, _, rfl, wd, _, _, rfl, ob, lk2, _, rfl, wd, dx, pa, r, i, rfl, c, _, rfl, ?_⟩
  by_cases ci : i < 2
  · refine if_no (by rw [dt (show (i : Int) < 2 by omega)]; rfl) ?_
    obtain ⟨lw, E, hlw, hA, eE, hlen, hok⟩ := way_get c.hd ci
    refine ⟨_, rfl, wd, C, _, _, _, rfl, ob, T.cl, T.nW, lkW, _, rfl, r.wa, _, i, _, rfl, rfl, SqT.of c.hd.wa, atI_nat (j := i) hlw, ?_⟩
    refine ⟨lw, E, rfl, hA, hok, hlen, fun H1 x y z N1 D1 N2 D2 s1 hx ex ey ez g1 g2 => ?_⟩
    have q1 := gq_bd g1 (Nat.le_refl 6)
    have q2 := gq_bd g2 (Nat.le_refl 6)
    have u1 := q1.1
    have u2 := q2.1
    rw [eE] at u1 u2
    rw [end_yes (n := r.now) ci u1 u2] at k
    have dd := mul_bd q2.2.1 q2.2.2.1 q1.2.1 q1.2.2.1
    have w1 := lowD_bd (a := N2 * D1 + N1 * D2) dd.1 dd.2
    have w2 := lowD_bd (a := N2 * D1 + -N1 * D2) dd.1 dd.2
    refine ⟨_, rfl, x, _, 1, _, rfl, rfl, SqT.of ex, atI_nat (j := 1) rfl, _, rfl, x, _, 0, _, rfl, rfl, SqT.of ex, atI_nat (j := 0) rfl, z, y, N2, D2, N1, D1, rfl, SqT.of ez, SqT.of ey, ⟨by omega, by omega⟩, ⟨by omega, by omega⟩, fun p1 hp1 => ?_⟩
    have s2 := same_upd (o := .tup [.int (lowN (N2 * D1 + N1 * D2) (D2 * D1)), .int (lowD (N2 * D1 + N1 * D2) (D2 * D1))]) hp1
    generalize lowN (N2 * D1 + N1 * D2) (D2 * D1) = A1 at *
    generalize lowD (N2 * D1 + N1 * D2) (D2 * D1) = A2 at *
    refine ⟨p1, A1, A2, rfl, SqT.of upd_same, ⟨by omega, by omega⟩, fun p2 hp2 => ?_⟩
    have s3 : Same (upd H1 p1 (.tup [.int A1, .int A2])) (upd (upd H1 p1 (.tup [.int A1, .int A2])) p2 (.tup [.int (lowN A1 (2 * A2)), .int (lowD A1 (2 * A2))])) := same_upd hp2
    unfold up2
    generalize hH3 : upd (upd H1 p1 (.tup [.int A1, .int A2])) p2 (.tup [.int (lowN A1 (2 * A2)), .int (lowD A1 (2 * A2))]) = H3 at *
    have e2 : H3 p2 = some (.tup [.int (lowN A1 (2 * A2)), .int (lowD A1 (2 * A2))]) := by rw [← hH3, upd_same]
    have s23 := s2.trans s3
    have ex3 := s23 _ _ ex
    refine ⟨_, rfl, x, _, 1, _, rfl, rfl, SqT.of ex3, atI_nat (j := 1) rfl, _, rfl, x, _, 0, _, rfl, rfl, SqT.of ex3, atI_nat (j := 0) rfl, z, y, N2, D2, N1, D1, rfl, SqT.of (s23 _ _ ez), SqT.of (s23 _ _ ey), ⟨by omega, by omega⟩, ⟨by omega, by omega⟩, fun H4 p3 s4 hp3 e3 => ?_⟩
    generalize lowN (N2 * D1 + -N1 * D2) (D2 * D1) = A3 at *
    generalize lowD (N2 * D1 + -N1 * D2) (D2 * D1) = A4 at *
    refine ⟨p3, A3, A4, rfl, SqT.of e3, ⟨by omega, by omega⟩, fun p4 hp4 => ?_⟩
    have s5 := same_upd (o := .tup [.int (lowN A3 (2 * A4)), .int (lowD A3 (2 * A4))]) hp4
    unfold up2
    generalize hH5 : upd H4 p4 (.tup [.int (lowN A3 (2 * A4)), .int (lowD A3 (2 * A4))]) = H5 at *
    have e4 : H5 p4 = some (.tup [.int (lowN A3 (2 * A4)), .int (lowD A3 (2 * A4))]) := by rw [← hH5, upd_same]
    have e2' := s5 _ _ (s4 _ _ e2)
    have s05 : Same H H5 := s1.trans (s23.trans (s4.trans s5))
    refine ⟨(by show 1 ≤ sizeLine; decide), fun l hl => ?_⟩
    have v1 := same_upd (o := .lst [.int 0]) hl
    refine ⟨_, rfl, p2, _, rfl, .inr (SqT.of (v1 _ _ e2')), fun l1 hl1 => ?_⟩
    have v2 := same_upd (o := .lst [.int (lowN A1 (2 * A2)), .int (lowD A1 (2 * A2))]) hl1
    refine ⟨l, l1, _, _, rfl, rfl, v2 _ _ upd_same, upd_same, (by show 3 ≤ sizeLine; decide), fun l2 hl2 => ?_⟩
    have v3 := same_upd (o := .lst [.int 0, .int (lowN A1 (2 * A2)), .int (lowD A1 (2 * A2))]) hl2
    have v13 : Same H5 _ := v1.trans (v2.trans v3)
    refine ⟨_, rfl, p4, _, rfl, .inr (SqT.of (v13 _ _ e4)), fun l3 hl3 => ?_⟩
    have v4 := same_upd (o := .lst [.int (lowN A3 (2 * A4)), .int (lowD A3 (2 * A4))]) hl3
    refine ⟨l2, l3, _, _, rfl, rfl, v4 _ _ upd_same, upd_same, (by show 5 ≤ sizeLine; decide), fun p' hp' => ?_⟩
    exact k _ p' (s05.trans (v13.trans (v4.trans (same_upd hp')))) (s05.free (v13.free (v4.free hp'))) upd_same
  · refine if_yes (by rw [df (show ¬ (i : Int) < 2 by omega)]; rfl) ?_
    rw [end_no (n := r.now) ci] at k
    exact ⟨(by show 1 ≤ sizeLine; decide), fun l hl => k _ l (same_upd hl) hl upd_same⟩
/-! ### the ends of both ways -/
def spEnds (C : Addr) : Sp := fun vs H Q _ => ∃ (wd dx pa : Addr) (r : Rec), vs = [.ref wd] ∧ Cur C H wd dx pa r ∧
  ∀ H' N1 D1 N2 D2 N3 D3 N4 D4, Same H H' → Is (goU r.now.a) N1 D1 → Is (goV r.now.a) N2 D2 → Is (goU r.now.b) N3 D3 → Is (goV r.now.b) N4 D4 → Q (.int (meetI N1 D1 N2 D2 N3 D3 N4 D4)) H'
theorem sc_heard_at_ends : FnScope ["world", "first", "second", "less", "both"] ["world"] (defScope s_heard_at_ends) := ⟨rfl, rfl, rfl, by decide +kernel, rfl, by decide +kernel, by decide +kernel⟩
theorem ok_ends (F : Dfn K mg "heard_at_ends" s_heard_at_ends) (T : Txt K mg C) (C1 : Cal P w K mg base 4 "gone_on" spGone) (C2 : Cal P w K mg base 4 "minus" (spMinus K)) (C3 : Cal P w K mg base 1 "heard" spHeard) : Cal P w K mg base 5 "heard_at_ends" (spEnds C) := by
  refine cal_of F sc_heard_at_ends (fun vs H Q E h => by (repeat' (first | (obtain ⟨e, _⟩ := h; exact congrArg List.length e) | (obtain ⟨_, h⟩ := h)))) (fun _ _ _ _ _ _ us hl => match us, hl with | [_], _ => rfl) fun f cdv A outer s H vs Q E hr h => ?_
  refine ⟨_, pss_cons (ps_set (i := 1) sc_heard_at_ends.nd rfl (Or.inl rfl) (pe_cal C1 hr (by decide) (by rfl) (pa_cons (pe_ix ix_tup (pe_fld (pv 0) rfl) pe_int (fun _ _ => rfl)) pa_nil))) (pss_cons (ps_set (i := 2) sc_heard_at_ends.nd rfl (Or.inl rfl) (pe_cal C1 hr (by decide) (by rfl) (pa_cons (pe_ix ix_tup (pe_fld (pv 0) rfl) pe_int (fun _ _ => rfl)) pa_nil)))
    (pss_cons (ps_set (i := 3) sc_heard_at_ends.nd rfl (Or.inl rfl) (pe_cal C2 hr (by decide) (by rfl) (pa_cons (pe_ix ix_tup (pv 2) pe_int (fun _ _ => rfl)) (pa_cons (pe_ix ix_tup (pv 1) pe_int (fun _ _ => rfl)) pa_nil)))) (pss_cons (ps_set (i := 4) sc_heard_at_ends.nd rfl (Or.inl rfl) (pe_cal C2 hr (by decide) (by rfl) (pa_cons (pe_ix ix_tup (pv 2) pe_int (fun _ _ => rfl)) (pa_cons (pe_ix ix_tup (pv 1) pe_int (fun _ _ => rfl)) pa_nil))))
    (pss_one (ps_ret (pe_cal C3 hr (by decide) (by rfl) (pa_cons (pe_ix ix_tup (pv 3) pe_int (fun _ _ => rfl)) (pa_cons (pe_ix ix_tup (pv 4) pe_int (fun _ _ => rfl)) pa_nil)))))))), ?_⟩
  obtain ⟨wd, dx, pa, r, rfl, c, k⟩ := h
  have ob := obs c
  have l1 : r.ea.length ≤ 6 := by rw [← snd_len]; exact c.hd.ok.la
  have l2 : r.eb.length ≤ 6 := by rw [← snd_len]; exact c.hd.ok.lb
  refine ⟨_, rfl, wd, C, _, _, _, rfl, ob, T.cl, T.nW, lkW, r.wa, _, 0, _, rfl, rfl, SqT.of c.hd.wa, atI_nat (j := 0) rfl, r.la, r.ea, rfl, c.hd.la, c.hd.ok.ga, l1, fun H1 x y z N1 D1 N2 D2 s1 hx ex ey ez g1 g2 => ?_⟩
  have c1 := c.same s1
  have ob1 := obs c1
  refine ⟨_, rfl, wd, C, _, _, _, rfl, ob1, T.cl, T.nW, lkW, r.wa, _, 1, _, rfl, rfl, SqT.of c1.hd.wa, atI_nat (j := 1) rfl, r.lb, r.eb, rfl, c1.hd.lb, c.hd.ok.gb, l2, fun H2 x' y' z' N3 D3 N4 D4 s2 hx' ex' ey' ez' g3 g4 => ?_⟩
  have q1 := gq_bd g1 (Nat.le_refl 6)
  have q2 := gq_bd g2 (Nat.le_refl 6)
  have q3 := gq_bd g3 (Nat.le_refl 6)
  have q4 := gq_bd g4 (Nat.le_refl 6)
  refine ⟨_, rfl, x', _, 0, _, rfl, rfl, SqT.of ex', atI_nat (j := 0) rfl, _, rfl, x, _, 0, _, rfl, rfl, SqT.of (s2 _ _ ex), atI_nat (j := 0) rfl, y', y, N3, D3, N1, D1, rfl, SqT.of ey', SqT.of (s2 _ _ ey), ⟨by omega, by omega⟩, ⟨by omega, by omega⟩, fun H3 t1 s3 ht1 e1 => ?_⟩
  refine ⟨_, rfl, x', _, 1, _, rfl, rfl, SqT.of (s3 _ _ ex'), atI_nat (j := 1) rfl, _, rfl, x, _, 1, _, rfl, rfl, SqT.of (s3 _ _ (s2 _ _ ex)), atI_nat (j := 1) rfl, z', z, N4, D4, N2, D2, rfl, SqT.of (s3 _ _ ez'), SqT.of (s3 _ _ (s2 _ _ ez)), ⟨by omega, by omega⟩, ⟨by omega, by omega⟩, fun H4 t2 s4 ht2 e2 => ?_⟩
  refine ⟨_, rfl, t1, _, 0, _, rfl, rfl, SqT.of (s4 _ _ e1), atI_nat (j := 0) rfl, _, rfl, t2, _, 0, _, rfl, rfl, SqT.of e2, atI_nat (j := 0) rfl, _, _, rfl, ?_⟩
  exact k H4 N1 D1 N2 D2 N3 D3 N4 D4 (s1.trans (s2.trans (s3.trans s4))) q1.1 q2.1 q3.1 q4.1
theorem sc_meet : FnScope ["world", "given"] ["world", "given"] (defScope s_meet) := ⟨rfl, rfl, rfl, by decide +kernel, rfl, by decide +kernel, by decide +kernel⟩
theorem ok_meet (F : Dfn K mg "meet" s_meet) (T : Txt K mg C) (C1 : Cal P w K mg base 5 "heard_at_ends" (spEnds C)) : Cal P w K mg base 6 "meet" (spLook K C 22) := by
  refine cal_of F sc_meet (fun vs H Q E h => by (repeat' (first | (obtain ⟨e, _⟩ := h; exact congrArg List.length e) | (obtain ⟨_, h⟩ := h)))) (fun _ _ _ _ _ _ us hl => match us, hl with | [_, _], _ => rfl) fun f cdv A outer s H vs Q E hr h => ?_
  refine ⟨_, pss_one (ps_ret (pe_lst (pa_cons (pe_cal C1 hr (by decide) (by rfl) (pa_cons (pv 0) pa_nil)) pa_nil))), ?_⟩
  obtain ⟨wd, g, dx, pa, r, as, rfl, hg, hb, c, k⟩ := h
  have e0 := arg0 hb rfl
  subst e0
  refine ⟨_, rfl, wd, dx, pa, r, rfl, c, fun H1 N1 D1 N2 D2 N3 D3 N4 D4 s1 u1 u2 u3 u4 => ⟨(by show 1 ≤ sizeLine; decide), fun l hl => ?_⟩⟩
  rw [meet_yes u1 u2 u3 u4] at k
  exact k _ l (s1.trans (same_upd hl)) (s1.free hl) upd_same
theorem sc_older : FnScope ["world", "given"] ["world", "given"] (defScope s_older) := ⟨rfl, rfl, rfl, by decide +kernel, rfl, by decide +kernel, by decide +kernel⟩
theorem ok_older (F : Dfn K mg "older" s_older) (T : Txt K mg C) (g0 : GI mg "SAME" 0) (gT : GI mg "THERE_IS_NONE" (-33)) (C1 : Cal P w K mg base 5 "heard_at_ends" (spEnds C)) (C2 : Cal P w K mg base 1 "shown_over" spShown) (C3 : Cal P w K mg base 1 "leader" spLeader) : Cal P w K mg base 6 "older" (spLook K C 21) := by
  refine cal_of F sc_older (fun vs H Q E h => by (repeat' (first | (obtain ⟨e, _⟩ := h; exact congrArg List.length e) | (obtain ⟨_, h⟩ := h)))) (fun _ _ _ _ _ _ us hl => match us, hl with | [_, _], _ => rfl) fun f cdv A outer s H vs Q E hr h => ?_
  refine ⟨_, pss_cons (ps_if (pt_cmpR op_ne (pe_cal C1 hr (by decide) (by rfl) (pa_cons (pv 0) pa_nil)) (pe_gi (by rfl) g0) (nomark _)) (pss_one (ps_ret (pe_lst (pa_cons (pe_gi (by rfl) gT) pa_nil)))) pss_nil)
    (pss_one (ps_ret (pe_lst (pa_cons (pe_cal C3 hr (by decide) (by rfl) (pa_cons (pe_op op_sub (pe_cal C2 hr (by decide) (by rfl) (pa_cons (pe_ix ix_tup (pe_fld (pv 0) rfl) pe_int (fun _ _ => rfl)) pa_nil)) (pe_cal C2 hr (by decide) (by rfl) (pa_cons (pe_ix ix_tup (pe_fld (pv 0) rfl) pe_int (fun _ _ => rfl)) pa_nil))) pa_nil)) pa_nil)))), ?_⟩
  obtain ⟨wd, g, dx, pa, r, as, rfl, hg, hb, c, k⟩ := h
  have e0 := arg0 hb rfl
  subst e0
  have l1 : r.ea.length ≤ 6 := by rw [← snd_len]; exact c.hd.ok.la
  have l2 : r.eb.length ≤ 6 := by rw [← snd_len]; exact c.hd.ok.lb
  refine ⟨_, rfl, wd, dx, pa, r, rfl, c, fun H1 N1 D1 N2 D2 N3 D3 N4 D4 s1 u1 u2 u3 u4 => ?_⟩
  rw [older_yes u1 u2 u3 u4] at k
  generalize meetI N1 D1 N2 D2 N3 D3 N4 D4 = m at *
  refine ⟨rfl, _, rfl, ?_⟩
  by_cases cm : m = 0
  · rw [if_pos cm] at k
    refine if_no (by rw [cm]; rfl) ?_
    have c1 := c.same s1
    have ob1 := obs c1
    refine ⟨_, rfl, wd, C, _, _, _, rfl, ob1, T.cl, T.nW, lkW, r.wa, _, 0, _, rfl, rfl, SqT.of c1.hd.wa, atI_nat (j := 0) rfl, r.la, r.ea, rfl, c1.hd.la, l1, fun H2 s2 => ?_⟩
    have c2 := c1.same s2
    have ob2 := obs c2
    refine ⟨_, rfl, wd, C, _, _, _, rfl, ob2, T.cl, T.nW, lkW, r.wa, _, 1, _, rfl, rfl, SqT.of c2.hd.wa, atI_nat (j := 1) rfl, r.lb, r.eb, rfl, c2.hd.lb, l2, fun H3 s3 => ?_⟩
    refine ⟨_, _, rfl, rfl, _, rfl, (by show 1 ≤ sizeLine; decide), fun l hl => ?_⟩
    exact k _ l (s1.trans (s2.trans (s3.trans (same_upd hl)))) (s1.free (s2.free (s3.free hl))) upd_same
  · rw [if_neg cm] at k
    refine if_yes (by
      have : ¬ V.int m = V.int 0 := fun z => cm (V.int.inj z)
      simp [this]) ⟨(by show 1 ≤ sizeLine; decide), fun l hl => ?_⟩
    exact k _ l (s1.trans (same_upd hl)) (s1.free hl) upd_same
end
end MC
namespace MC
open PySem PySem.Spec PyProof.Rows L2
open Kv414 (Now Leg Factor Abs)
/-- the promise of a change -/
def spChg (K : PySem.W.Frag) (C : Addr) (num : Int) : Sp := fun vs H Q _ => ∃ (wd g dx pa : Addr) (r : Rec) (as : List Int), vs = [.ref wd, .ref g] ∧ SqL K H g (as.map V.int) ∧ inB num as ∧ Cur C H wd dx pa r ∧
  ∀ H' r' p b, (b = wd ∨ b ∈ foot r) → Kp b H H' → Cur C H' wd dx pa r' → foot r' = foot r → r'.now = nxt r.now (cOf num as) → H p = none → H' p = some (.lst ((ans r.now (cOf num as)).map V.int)) → Q (.ref p) H'
section
variable {P : Program} {w : World} {K : PySem.W.Frag} {mg : Str → Option Value} {base : Heap} {C : Addr}
/-- refused -/
theorem ref_no {H : Hp} {wd dx pa : Addr} {r : Rec} {num v : Int} {as : List Int} {Q : VK} (c : Cur C H wd dx pa r)
    (k : ∀ H' r' p b, (b = wd ∨ b ∈ foot r) → Kp b H H' → Cur C H' wd dx pa r' → foot r' = foot r → r'.now = nxt r.now (cOf num as) → H p = none → H' p = some (.lst ((ans r.now (cOf num as)).map V.int)) → Q (.ref p) H')
    (e : ans r.now (cOf num as) = [v] ∧ nxt r.now (cOf num as) = r.now) {H1 : Hp} (s : Same H H1) : ∀ l, H1 l = none → Q (.ref l) (upd H1 l (.lst [.int v])) := fun l hl => by
  rw [e.1, e.2] at k
  exact k _ r l wd (.inl rfl) (kp_same (s.trans (same_upd hl))) (c.same (s.trans (same_upd hl))) rfl rfl (s.free hl) upd_same
theorem Cur.ne_wd {H : Hp} {wd dx pa b : Addr} {r : Rec} (c : Cur C H wd dx pa r) (h : b ∈ foot r) : wd ≠ b := by
  obtain ⟨_, xs, e⟩ := c.hd.noT h
  exact ne_of c.ob e (by intro z; cases z)
theorem sc_put : FnScope ["world", "given", "t", "x"] ["world", "given"] (defScope s_put) := ⟨rfl, rfl, rfl, by decide +kernel, rfl, by decide +kernel, by decide +kernel⟩
theorem ok_put (F : Dfn K mg "put" s_put) (T : Txt K mg C) (gO : GI mg "OUT_OF_RANGE" (-22)) (gM : GI mg "TOO_MANY" (-28)) (gE : GI mg "MOST_EVENTS" 8) (C1 : Cal P w K mg base 1 "is_near" spNear) : Cal P w K mg base 2 "put" (spChg K C 1) := by
  refine cal_of F sc_put (fun vs H Q E h => by (repeat' (first | (obtain ⟨e, _⟩ := h; exact congrArg List.length e) | (obtain ⟨_, h⟩ := h)))) (fun _ _ _ _ _ _ us hl => match us, hl with | [_, _], _ => rfl) fun f cdv A outer s H vs Q E hr h => ?_
  refine ⟨_, pss_cons (ps_set (i := 2) sc_put.nd rfl (Or.inl rfl) (pe_ix ix_list (pv 1) pe_int (fun _ _ => rfl))) (pss_cons (ps_set (i := 3) sc_put.nd rfl (Or.inl rfl) (pe_ix ix_list (pv 1) pe_int (fun _ _ => rfl)))
    (pss_cons (ps_if (pt_not (PW.pt (pw_and (pt_val (pe_cal C1 hr (by decide) (by rfl) (pa_cons (pv 2) pa_nil))) (pw_and1 (pt_val (pe_cal C1 hr (by decide) (by rfl) (pa_cons (pv 3) pa_nil))))))) (pss_one (ps_ret (pe_lst (pa_cons (pe_gi (by rfl) gO) pa_nil)))) pss_nil)
    (pss_cons (ps_if (pt_cmpR op_eq (pe_callB call_len_seq (by rfl) T.len PySem.boot_len (pa_cons (pe_fld (pv 0) rfl) pa_nil)) (pe_gi (by rfl) gE) (nomark _)) (pss_one (ps_ret (pe_lst (pa_cons (pe_gi (by rfl) gM) pa_nil)))) pss_nil)
    (pss_cons (ps_expr (pe_bm PySem.F.plainAttrs_list PySem.F.slot_list_append PySem.F.type_list_append mt_append (pe_fld (pv 0) rfl) (pa_cons (pe_tup (pa_cons (pv 2) (pa_cons (pv 3) pa_nil))) pa_nil)))
    (pss_one (ps_ret (pe_lst (pa_cons (pe_op op_sub (pe_callB call_len_seq (by rfl) T.len PySem.boot_len (pa_cons (pe_fld (pv 0) rfl) pa_nil)) pe_int) pa_nil)))))))), ?_⟩
  obtain ⟨wd, g, dx, pa, r, as, rfl, hg, hb, c, k⟩ := h
  obtain ⟨t, x, rfl⟩ := put2 hb
  have ob := obs c
  have o := c.hd.ok
  refine ⟨_, rfl, g, _, 0, _, rfl, rfl, hg, atI_nat (j := 0) rfl, _, rfl, g, _, 1, _, rfl, rfl, hg, atI_nat (j := 1) rfl, _, rfl, t, rfl, _, rfl, ?_⟩
  by_cases cn : Kv414.ok t = true ∧ Kv414.ok x = true
  · refine nand_yes (d := Kv414.ok x) cn.1 cn.2 (fun z => ⟨_, rfl, x, rfl, _, rfl, z⟩) ?_
    refine ⟨_, rfl, wd, C, _, _, _, rfl, ob, T.cl, T.nE, lkE, r.le, _, rfl, .inl (SqL.of c.hd.ev.at_), rfl, _, rfl, ?_⟩
    have ln : r.now.l.length = r.ev.length := snd_len _
    have l8 := o.le
    rw [dV, rf_len]
    by_cases c8 : r.ev.length = 8
    · refine if_yes (dt (by omega)) ⟨(by show 1 ≤ sizeLine; decide), ?_⟩
      exact ref_no c k (put_full cn.1 cn.2 (by omega)) (fun _ _ z => z)
    · refine if_no (df (by omega)) ?_
      have cf : ¬ 8 ≤ r.now.l.length := by omega
      obtain ⟨e1, e2⟩ := put_yes (n := r.now) cn.1 cn.2 cf
      rw [e1, e2] at k
      refine ⟨_, rfl, wd, C, _, _, _, rfl, ob, T.cl, T.nE, lkE, .inl ⟨rfl, _, SqL.of c.hd.ev.at_⟩, _, rfl, _, rfl, (by show 2 ≤ sizeLine; decide), fun e he => ?_⟩
      have s1 := same_upd (o := .tup [.int t, .int x]) he
      have c1 := c.same s1
      refine ⟨r.le, _, _, rfl, rfl, c1.hd.ev.at_, small1000 (by rw [rf_len]; omega), ?_⟩
      have nw : wd ≠ r.le := c1.ne_wd (b := r.le) (by simp [foot])
      have nT : NoT (upd H e (.tup [.int t, .int x])) r.le := .lst c1.hd.ev.at_
      have ne : e ≠ r.le := (ne_of_none c.hd.ev.at_ he).symm
      generalize hH1 : upd H e (.tup [.int t, .int x]) = H1 at *
      have k2 : Kp r.le H1 (upd H1 r.le (.lst (rf r.ev ++ [.ref e]))) := kp_upd
      have hE : H1 e = some (.tup [.int t, .int x]) := by rw [← hH1, upd_same]
      have c2 : Cur C (upd H1 r.le (.lst (rf r.ev ++ [.ref e]))) wd dx pa { r with ev := r.ev ++ [(e, ⟨t, x⟩)] } := by
        have nw' : (⟨t, x⟩ : Kv413.Event) = ⟨t, x⟩ := rfl
        have en : Rec.now { r with ev := r.ev ++ [(e, (⟨t, x⟩ : Kv413.Event))] } = { r.now with l := r.now.l ++ [⟨t, x⟩] } := by
          unfold Rec.now snd
          dsimp only
          rw [List.map_append]
          rfl
        refine ⟨k2 _ _ nw c1.ob, ⟨⟨?_, fun p hp => ?_⟩, k2 _ _ (fun z => nT _ (z ▸ c1.hd.fa)) c1.hd.fa, k2 _ _ (fun z => nT _ (z ▸ c1.hd.wa)) c1.hd.wa, c1.hd.la.keep k2 nT c.hd.n1.symm, c1.hd.lb.keep k2 nT c.hd.n2.symm, c.hd.n1, c.hd.n2, c.hd.n3, ?_⟩⟩
        · rw [upd_same]
          unfold rf
          rw [List.map_append]
          rfl
        · rcases List.mem_append.mp hp with z | z
          · have q := c1.hd.ev.tu p z
            exact k2 _ _ (fun y => nT _ (y ▸ q)) q
          · rw [List.mem_singleton.mp z]
            exact k2 _ _ ne hE
        · rw [en]
          exact put_ok o cn.1 cn.2 cf
      have ob2 := obs c2
      refine ⟨_, rfl, wd, C, _, _, _, rfl, ob2, T.cl, T.nE, lkE, r.le, _, rfl, .inl (SqL.of c2.hd.ev.at_), _, _, rfl, rfl, (by show 1 ≤ sizeLine; decide), fun l hl => ?_⟩
      have s3 := same_upd (o := .lst [.int (((rf (r.ev ++ [(e, (⟨t, x⟩ : Kv413.Event))])).length : Int) - 1)]) hl
      have en : Rec.now { r with ev := r.ev ++ [(e, (⟨t, x⟩ : Kv413.Event))] } = { r.now with l := r.now.l ++ [⟨t, x⟩] } := by
        unfold Rec.now snd
        dsimp only
        rw [List.map_append]
        rfl
      have fl : H l = none := by
        have q : H1 l = none := by
          cases z : H1 l with
          | none => rfl
          | some u =>
            by_cases y : l = r.le
            · rw [y, upd_same] at hl; cases hl
            · rw [upd_ne y, z] at hl; cases hl
        exact s1.free q
      refine k _ { r with ev := r.ev ++ [(e, (⟨t, x⟩ : Kv413.Event))] } l r.le (.inr (by simp [foot])) ((kp_same s1).trans (k2.trans (kp_same s3))) (c2.same s3) rfl en fl ?_
      rw [upd_same, rf_len, List.length_append, ln]
      show some (HO.lst [V.int (((r.ev.length + 1 : Nat) : Int) - 1)]) = some (.lst [.int (r.ev.length : Int)])
      congr 4
      omega
  · refine nand_no (d := Kv414.ok x) cn (fun z => ⟨_, rfl, x, rfl, _, rfl, z⟩) ?_
    exact ⟨(by show 1 ≤ sizeLine; decide), ref_no c k (put_bad cn) (fun _ _ z => z)⟩
theorem seq_nat {i n : Nat} (h : i < n) : seqIndex? (i : Int) n = some i := by
  have e : ixN n (i : Int) = some i := by
    unfold ixN
    rw [if_pos (by omega), if_pos (by omega)]
    simp
  exact (ixN_seq e).1
theorem map_erase {α β : Type} (f : α → β) : ∀ (l : List α) (i : Nat), (l.eraseIdx i).map f = (l.map f).eraseIdx i
  | [], _ => rfl
  | _ :: _, 0 => rfl
  | a :: l, i + 1 => by
    show f a :: (l.eraseIdx i).map f = f a :: (l.map f).eraseIdx i
    rw [map_erase f l i]
theorem kp_free {H H1 : Hp} {b l : Addr} (k : Kp b H H1) (hb : H1 b ≠ none) (h : H1 l = none) : H l = none := by
  cases z : H l with
  | none => rfl
  | some u =>
    by_cases y : l = b
    · subst y; exact absurd h hb
    · rw [k _ _ y z] at h; cases h
theorem sc_drop : FnScope ["world", "given", "i"] ["world", "given"] (defScope s_drop) := ⟨rfl, rfl, rfl, by decide +kernel, rfl, by decide +kernel, by decide +kernel⟩
theorem ok_drop (F : Dfn K mg "drop" s_drop) (T : Txt K mg C) (gN : GI mg "NO_SUCH" (-2)) (M1 : Mth P w K mg base C 1 "has_event" (spHasE C)) : Cal P w K mg base 2 "drop" (spChg K C 2) := by
  obtain ⟨f1, fd1, ps1, G1, m1, b1⟩ := M1
  refine cal_of F sc_drop (fun vs H Q E h => by (repeat' (first | (obtain ⟨e, _⟩ := h; exact congrArg List.length e) | (obtain ⟨_, h⟩ := h)))) (fun _ _ _ _ _ _ us hl => match us, hl with | [_, _], _ => rfl) fun f cdv A outer s H vs Q E hr h => ?_
  refine ⟨_, pss_cons (ps_set (i := 2) sc_drop.nd rfl (Or.inl rfl) (pe_ix ix_list (pv 1) pe_int (fun _ _ => rfl))) (pss_cons (ps_if (pt_not (pt_val (pe_meth (pv 0) T.cl m1 G1 (hr.mono (by decide)) b1 .nil pass0 (pa_cons (pv 2) pa_nil)))) (pss_one (ps_ret (pe_lst (pa_cons (pe_gi (by rfl) gN) pa_nil)))) pss_nil)
    (pss_cons (ps_expr (pe_bm PySem.F.plainAttrs_list PySem.F.slot_list_pop PySem.F.type_list_pop mt_popAt (pe_fld (pv 0) rfl) (pa_cons (pv 2) pa_nil)))
    (pss_one (ps_ret (pe_lst (pa_cons (pe_callB call_len_seq (by rfl) T.len PySem.boot_len (pa_cons (pe_fld (pv 0) rfl) pa_nil)) pa_nil)))))), ?_⟩
  obtain ⟨wd, g, dx, pa, r, as, rfl, hg, hb, c, k⟩ := h
  obtain ⟨i, rfl, hi⟩ := arg1 hb rfl (by decide)
  have ob := obs c
  have o := c.hd.ok
  have ln : r.now.l.length = r.ev.length := snd_len _
  refine ⟨_, rfl, g, _, 0, _, rfl, rfl, hg, atI_nat (j := 0) rfl, _, rfl, wd, _, _, rfl, ob, lk1, _, rfl, wd, dx, pa, r, i, rfl, c, _, rfl, ?_⟩
  by_cases ci : i < r.ev.length
  · refine if_no (by rw [dt (show (i : Int) < (r.ev.length : Int) by omega)]; rfl) ?_
    obtain ⟨e1, e2⟩ := drop_yes (n := r.now) (i := i) (by omega)
    rw [e1, e2] at k
    have nw : wd ≠ r.le := c.ne_wd (b := r.le) (by simp [foot])
    have nT : NoT H r.le := .lst c.hd.ev.at_
    refine ⟨_, rfl, wd, C, _, _, _, rfl, ob, T.cl, T.nE, lkE, .inl ⟨rfl, _, SqL.of c.hd.ev.at_⟩, _, rfl, r.le, _, i, i, (rf r.ev)[i]'(by rw [rf_len]; exact ci), rfl, rfl, c.hd.ev.at_, by omega, by omega, seq_nat (by rw [rf_len]; exact ci), List.getElem?_eq_getElem _, ?_⟩
    have k2 : Kp r.le H (upd H r.le (.lst ((rf r.ev).eraseIdx i))) := kp_upd
    have en : Rec.now { r with ev := r.ev.eraseIdx i } = { r.now with l := r.now.l.eraseIdx i } := by
      unfold Rec.now snd
      dsimp only
      rw [map_erase]
    have c2 : Cur C (upd H r.le (.lst ((rf r.ev).eraseIdx i))) wd dx pa { r with ev := r.ev.eraseIdx i } := by
      refine ⟨k2 _ _ nw c.ob, ⟨⟨?_, fun p hp => ?_⟩, k2 _ _ (fun z => nT _ (z ▸ c.hd.fa)) c.hd.fa, k2 _ _ (fun z => nT _ (z ▸ c.hd.wa)) c.hd.wa, c.hd.la.keep k2 nT c.hd.n1.symm, c.hd.lb.keep k2 nT c.hd.n2.symm, c.hd.n1, c.hd.n2, c.hd.n3, ?_⟩⟩
      · rw [upd_same]
        unfold rf
        rw [map_erase]
      · have q := c.hd.ev.tu p (List.mem_of_mem_eraseIdx hp)
        exact k2 _ _ (fun y => nT _ (y ▸ q)) q
      · rw [en]
        exact drop_ok o
    have ob2 := obs c2
    refine ⟨_, rfl, wd, C, _, _, _, rfl, ob2, T.cl, T.nE, lkE, r.le, _, rfl, .inl (SqL.of c2.hd.ev.at_), (by show 1 ≤ sizeLine; decide), fun l hl => ?_⟩
    have s3 := same_upd (o := .lst [.int ((rf (r.ev.eraseIdx i)).length : Nat)]) hl
    have fl : H l = none := kp_free k2 (by rw [upd_same]; intro z; cases z) hl
    refine k _ { r with ev := r.ev.eraseIdx i } l r.le (.inr (by simp [foot])) (k2.trans (kp_same s3)) (c2.same s3) rfl en fl ?_
    rw [upd_same, rf_len, List.length_eraseIdx_of_lt ci, ln]
    rfl
  · refine if_yes (by rw [df (show ¬ (i : Int) < (r.ev.length : Int) by omega)]; rfl) ?_
    exact ⟨(by show 1 ≤ sizeLine; decide), ref_no c k (drop_no (by omega)) (fun _ _ z => z)⟩
end
end MC
namespace MC
open PySem PySem.Spec PyProof.Rows L2
open Kv414 (Now Leg Factor Abs)
section
variable {P : Program} {w : World} {K : PySem.W.Frag} {mg : Str → Option Value} {base : Heap} {C : Addr}
/-- another factor -/
theorem fac_put {H H1 : Hp} {wd dx pa x : Addr} {r : Rec} {kf : Factor} (c : Cur C H wd dx pa r) (s : Same H H1) (hx : H1 x = some (.tup [.int kf.p, .int kf.q])) (ok : NowOk { r.now with k := kf }) :
    Cur C (upd H1 wd (.ins C dx (wF (.ref r.le) (.ref x) (.ref r.wa) (.ref pa)))) wd dx pa { r with fa := x, k := kf } ∧ Kp wd H (upd H1 wd (.ins C dx (wF (.ref r.le) (.ref x) (.ref r.wa) (.ref pa)))) := by
  have c1 := c.same s
  have k2 : Kp wd H1 (upd H1 wd (.ins C dx (wF (.ref r.le) (.ref x) (.ref r.wa) (.ref pa)))) := kp_upd
  have nT : NoT H1 wd := .ins c1.ob
  refine ⟨⟨upd_same, ⟨c1.hd.ev.keep k2 nT (c1.ne_wd (by simp [foot])).symm, k2 _ _ (show x ≠ wd from fun z => nT _ (z ▸ hx)) hx, k2 _ _ (fun z => nT _ (z ▸ c1.hd.wa)) c1.hd.wa, c1.hd.la.keep k2 nT (c1.ne_wd (by simp [foot])).symm, c1.hd.lb.keep k2 nT (c1.ne_wd (by simp [foot])).symm, c.hd.n1, c.hd.n2, c.hd.n3, ok⟩⟩, (kp_same s).trans k2⟩
theorem sc_move : FnScope ["world", "given", "p", "q"] ["world", "given"] (defScope s_move) := ⟨rfl, rfl, rfl, by decide +kernel, rfl, by decide +kernel, by decide +kernel⟩
theorem ok_move (F : Dfn K mg "move" s_move) (T : Txt K mg C) (gO : GI mg "OUT_OF_RANGE" (-22)) (C4 : Cal P w K mg base 1 "is_factor" spIsFactor) (C1 : Cal P w K mg base 2 "lowest" spLowest) : Cal P w K mg base 3 "move" (spChg K C 3) := by
  refine cal_of F sc_move (fun vs H Q E h => by (repeat' (first | (obtain ⟨e, _⟩ := h; exact congrArg List.length e) | (obtain ⟨_, h⟩ := h)))) (fun _ _ _ _ _ _ us hl => match us, hl with | [_, _], _ => rfl) fun f cdv A outer s H vs Q E hr h => ?_
  refine ⟨_, pss_cons (ps_set (i := 2) sc_move.nd rfl (Or.inl rfl) (pe_ix ix_list (pv 1) pe_int (fun _ _ => rfl))) (pss_cons (ps_set (i := 3) sc_move.nd rfl (Or.inl rfl) (pe_ix ix_list (pv 1) pe_int (fun _ _ => rfl)))
    (pss_cons (ps_if (pt_not (pt_val (pe_cal C4 hr (by decide) (by rfl) (pa_cons (pv 2) (pa_cons (pv 3) pa_nil))))) (pss_one (ps_ret (pe_lst (pa_cons (pe_gi (by rfl) gO) pa_nil)))) pss_nil)
    (pss_cons (ps_fld (pv 0) (pe_cal C1 hr (by decide) (by rfl) (pa_cons (pv 2) (pa_cons (pv 3) pa_nil))) rfl)
    (pss_one (ps_ret (pe_lst (pa_cons pe_int pa_nil))))))), ?_⟩
  obtain ⟨wd, g, dx, pa, r, as, rfl, hg, hb, c, k⟩ := h
  obtain ⟨p, q, rfl, _⟩ := arg2 hb rfl (by decide)
  have ob := obs c
  have o := c.hd.ok
  refine ⟨_, rfl, g, _, 0, _, rfl, rfl, hg, atI_nat (j := 0) rfl, _, rfl, g, _, 1, _, rfl, rfl, hg, atI_nat (j := 1) rfl, _, rfl, _, rfl, p, q, rfl, _, rfl, ?_⟩
  rw [okI_F]
  cases cf : Kv414.okF p q with
  | false => exact if_yes rfl ⟨(by show 1 ≤ sizeLine; decide), ref_no c k (move_bad cf) (fun _ _ z => z)⟩
  | true =>
    refine if_no rfl ?_
    obtain ⟨e1, e2⟩ := move_yes (n := r.now) cf
    rw [e1, e2] at k
    have z := okF_in cf
    obtain ⟨f1, f2⟩ := facred (k := ⟨p, q⟩)
    have r9 := red9 cf
    refine ⟨_, rfl, _, rfl, p, q, rfl, by omega, by omega, fun x hx => ?_⟩
    have s1 := same_upd (o := .tup [.int (lowN p q), .int (lowD p q)]) hx
    have c1 := c.same s1
    refine ⟨_, rfl, wd, C, dx, _, rfl, obs c1, T.cl, T.nF, (by show 4 < 1000; decide), ?_⟩
    rw [puF]
    have hx1 : upd H x (.tup [.int (lowN p q), .int (lowD p q)]) x = some (.tup [.int (Factor.red ⟨p, q⟩).p, .int (Factor.red ⟨p, q⟩).q]) := by rw [upd_same, f1, f2]
    obtain ⟨c2, k2⟩ := fac_put c s1 hx1 (k_ok o ⟨⟨r9.1.1, by omega⟩, ⟨r9.2.1, by omega⟩⟩)
    refine ⟨(by show 1 ≤ sizeLine; decide), fun l hl => ?_⟩
    have s3 := same_upd (o := .lst [.int 0]) hl
    exact k _ { r with fa := x, k := Factor.red ⟨p, q⟩ } l wd (.inl rfl) (k2.trans (kp_same s3)) (c2.same s3) rfl rfl (kp_free k2 (by rw [upd_same]; intro z; cases z) hl) upd_same
theorem or_no {c d : Bool} {A B X : Prop} (h1 : c = false) (h2 : d = false) (hx : (if d = true then A else B) → X) (hB : B) : if c = true then (if true = true then A else B) else X := by
  subst h1 h2
  exact hx hB
theorem or_yes {c d : Bool} {A B X : Prop} (h : c = true ∨ d = true) (hx : (if d = true then A else B) → X) (hA : A) : if c = true then (if true = true then A else B) else X := by
  cases c with
  | true => exact hA
  | false =>
    rcases h with h | h
    · cases h
    · subst h
      exact hx hA
theorem sc_more : FnScope ["world", "given", "p", "q", "factor"] ["world", "given"] (defScope s_more) := ⟨rfl, rfl, rfl, by decide +kernel, rfl, by decide +kernel, by decide +kernel⟩
theorem ok_more (F : Dfn K mg "more" s_more) (T : Txt K mg C) (gO : GI mg "OUT_OF_RANGE" (-22)) (gT : GI mg "TOO_GREAT" (-75)) (gP : GI mg "GREATEST_PART" 999) (C4 : Cal P w K mg base 1 "is_factor" spIsFactor) (C1 : Cal P w K mg base 3 "times" (spTimes K)) : Cal P w K mg base 4 "more" (spChg K C 4) := by
  refine cal_of F sc_more (fun vs H Q E h => by (repeat' (first | (obtain ⟨e, _⟩ := h; exact congrArg List.length e) | (obtain ⟨_, h⟩ := h)))) (fun _ _ _ _ _ _ us hl => match us, hl with | [_, _], _ => rfl) fun f cdv A outer s H vs Q E hr h => ?_
  refine ⟨_, pss_cons (ps_set (i := 2) sc_more.nd rfl (Or.inl rfl) (pe_ix ix_list (pv 1) pe_int (fun _ _ => rfl))) (pss_cons (ps_set (i := 3) sc_more.nd rfl (Or.inl rfl) (pe_ix ix_list (pv 1) pe_int (fun _ _ => rfl)))
    (pss_cons (ps_if (pt_not (pt_val (pe_cal C4 hr (by decide) (by rfl) (pa_cons (pv 2) (pa_cons (pv 3) pa_nil))))) (pss_one (ps_ret (pe_lst (pa_cons (pe_gi (by rfl) gO) pa_nil)))) pss_nil)
    (pss_cons (ps_set (i := 4) sc_more.nd rfl (Or.inl rfl) (pe_cal C1 hr (by decide) (by rfl) (pa_cons (pe_fld (pv 0) rfl) (pa_cons (pe_tup (pa_cons (pv 2) (pa_cons (pv 3) pa_nil))) pa_nil))))
    (pss_cons (ps_if (PW.pt (pw_or (pt_cmpR op_gt (pe_ix ix_tup (pv 4) pe_int (fun _ _ => rfl)) (pe_gi (by rfl) gP) (nomark _)) (pw_or1 (pt_cmpR op_gt (pe_ix ix_tup (pv 4) pe_int (fun _ _ => rfl)) (pe_gi (by rfl) gP) (nomark _))))) (pss_one (ps_ret (pe_lst (pa_cons (pe_gi (by rfl) gT) pa_nil)))) pss_nil)
    (pss_cons (ps_fld (pv 0) (pv 4) rfl)
    (pss_one (ps_ret (pe_lst (pa_cons pe_int (pa_cons (pe_ix ix_tup (pv 4) pe_int (fun _ _ => rfl)) (pa_cons (pe_ix ix_tup (pv 4) pe_int (fun _ _ => rfl)) pa_nil))))))))))), ?_⟩
  obtain ⟨wd, g, dx, pa, r, as, rfl, hg, hb, c, k⟩ := h
  obtain ⟨p, q, rfl, _⟩ := arg2 hb rfl (by decide)
  have ob := obs c
  have o := c.hd.ok
  refine ⟨_, rfl, g, _, 0, _, rfl, rfl, hg, atI_nat (j := 0) rfl, _, rfl, g, _, 1, _, rfl, rfl, hg, atI_nat (j := 1) rfl, _, rfl, _, rfl, p, q, rfl, _, rfl, ?_⟩
  rw [okI_F]
  cases cf : Kv414.okF p q with
  | false => exact if_yes rfl ⟨(by show 1 ≤ sizeLine; decide), ref_no c k (more_bad cf) (fun _ _ z => z)⟩
  | true =>
    refine if_no rfl ?_
    have z := okF_in cf
    have o1 : (0 : Int) < r.k.p := by have : 0 < r.k.p := o.p0; omega
    have o2 : (r.k.p : Int) ≤ 999 := by have : r.k.p ≤ 999 := o.p1; omega
    have o3 : (0 : Int) < r.k.q := by have : 0 < r.k.q := o.q0; omega
    have o4 : (r.k.q : Int) ≤ 999 := by have : r.k.q ≤ 999 := o.q1; omega
    obtain ⟨f1, f2⟩ := put_low (p := p) (q := q) r.k
    refine ⟨_, rfl, wd, C, _, _, _, rfl, ob, T.cl, T.nF, lkF, _, rfl, _, rfl, (by show 2 ≤ sizeLine; decide), fun x1 hx1 => ?_⟩
    have s1 := same_upd (o := .tup [.int p, .int q]) hx1
    have c1 := c.same s1
    refine ⟨r.fa, x1, r.k.p, r.k.q, p, q, rfl, SqT.of c1.hd.fa, SqT.of upd_same, ⟨by omega, by omega⟩, ⟨by omega, by omega⟩, ⟨by omega, by omega⟩, fun x hx => ?_⟩
    rw [← f1, ← f2]
    have s2 : Same (upd H x1 (.tup [.int p, .int q])) (up2 (upd H x1 (.tup [.int p, .int q])) x (r.k.put ⟨p, q⟩).p (r.k.put ⟨p, q⟩).q) := same_upd hx
    have s12 := s1.trans s2
    have e : up2 (upd H x1 (.tup [.int p, .int q])) x (r.k.put ⟨p, q⟩).p (r.k.put ⟨p, q⟩).q x = some (.tup [.int (r.k.put ⟨p, q⟩).p, .int (r.k.put ⟨p, q⟩).q]) := upd_same
    have ps := put_pos o cf
    have gr := more_great (n := r.now) cf
    have ye := more_yes (n := r.now) cf
    change 1 ≤ (r.k.put ⟨p, q⟩).p ∧ 1 ≤ (r.k.put ⟨p, q⟩).q at ps
    change (999 < (r.k.put ⟨p, q⟩).p ∨ 999 < (r.k.put ⟨p, q⟩).q) → _ at gr
    change ¬ (999 < (r.k.put ⟨p, q⟩).p ∨ 999 < (r.k.put ⟨p, q⟩).q) → (_ = [0, ((r.k.put ⟨p, q⟩).p : Int), ((r.k.put ⟨p, q⟩).q : Int)] ∧ _ = { r.now with k := r.k.put ⟨p, q⟩ }) at ye
    generalize up2 (upd H x1 (.tup [.int p, .int q])) x (r.k.put ⟨p, q⟩).p (r.k.put ⟨p, q⟩).q = H2 at *
    generalize r.k.put ⟨p, q⟩ = kf at *
    refine ⟨_, rfl, x, _, 0, _, rfl, rfl, SqT.of e, atI_nat (j := 0) rfl, _, _, rfl, rfl, _, rfl, ?_⟩
    by_cases cg : 999 < kf.p ∨ 999 < kf.q
    · refine or_yes (d := decide ((999 : Int) < (kf.q : Int))) ?_ (fun z => ⟨_, rfl, x, _, 1, _, rfl, rfl, SqT.of e, atI_nat (j := 1) rfl, _, _, rfl, rfl, _, rfl, z⟩) ?_
      · rcases cg with y | y
        · exact .inl (dt (by omega))
        · exact .inr (dt (by omega))
      · exact ⟨(by show 1 ≤ sizeLine; decide), ref_no c k (gr cg) s12⟩
    · refine or_no (d := decide ((999 : Int) < (kf.q : Int))) (df (by omega)) (df (by omega)) (fun z => ⟨_, rfl, x, _, 1, _, rfl, rfl, SqT.of e, atI_nat (j := 1) rfl, _, _, rfl, rfl, _, rfl, z⟩) ?_
      obtain ⟨e1, e2⟩ := ye cg
      rw [e1, e2] at k
      have c2 := c.same s12
      refine ⟨_, rfl, _, rfl, wd, C, dx, _, rfl, obs c2, T.cl, T.nF, (by show 4 < 1000; decide), ?_⟩
      rw [puF]
      obtain ⟨c3, k3⟩ := fac_put c s12 e (k_ok o ⟨⟨ps.1, by omega⟩, ⟨ps.2, by omega⟩⟩)
      refine ⟨_, rfl, x, _, 0, _, rfl, rfl, SqT.of c3.hd.fa, atI_nat (j := 0) rfl, _, rfl, x, _, 1, _, rfl, rfl, SqT.of c3.hd.fa, atI_nat (j := 1) rfl, (by show 3 ≤ sizeLine; decide), fun l hl => ?_⟩
      have s3 := same_upd (o := .lst [.int 0, .int kf.p, .int kf.q]) hl
      exact k _ { r with fa := x, k := kf } l wd (.inl rfl) (k3.trans (kp_same s3)) (c3.same s3) rfl rfl (kp_free k3 (by rw [upd_same]; intro z; cases z) hl) upd_same
/-! ### legs -/
theorem way_put {H H1 H2 : Hp} {wd dx pa lw : Addr} {r : Rec} {i : Nat} {E : List (Addr × Leg)} (c : Cur C H wd dx pa r) (hi : i < 2) (hlw : ([V.ref r.la, V.ref r.lb] : List V)[i]? = some (.ref lw)) (s : Same H H1) (k : Kp lw H1 H2) (hE : LAt lgR H2 lw E)
    (ok : NowOk (setWay r.now i (snd E))) : ∃ r', Cur C H2 wd dx pa r' ∧ foot r' = foot r ∧ r'.now = setWay r.now i (snd E) ∧ lw ∈ foot r ∧ Kp lw H H2 := by
  have c1 := c.same s
  have kk : Kp lw H H2 := (kp_same s).trans k
  match i, hi with
  | 0, _ =>
    obtain rfl : r.la = lw := by cases hlw; rfl
    have nT : NoT H1 r.la := .lst c1.hd.la.at_
    refine ⟨{ r with ea := E }, ⟨k _ _ (c1.ne_wd (by simp [foot])) c1.ob, ⟨c1.hd.ev.keep k nT c.hd.n1, k _ _ (fun z => nT _ (z ▸ c1.hd.fa)) c1.hd.fa, k _ _ (fun z => nT _ (z ▸ c1.hd.wa)) c1.hd.wa, hE, c1.hd.lb.keep k nT c.hd.n3.symm, c.hd.n1, c.hd.n2, c.hd.n3, ok⟩⟩, rfl, rfl, by simp [foot], kk⟩
  | 1, _ =>
    obtain rfl : r.lb = lw := by cases hlw; rfl
    have nT : NoT H1 r.lb := .lst c1.hd.lb.at_
    refine ⟨{ r with eb := E }, ⟨k _ _ (c1.ne_wd (by simp [foot])) c1.ob, ⟨c1.hd.ev.keep k nT c.hd.n2, k _ _ (fun z => nT _ (z ▸ c1.hd.fa)) c1.hd.fa, k _ _ (fun z => nT _ (z ▸ c1.hd.wa)) c1.hd.wa, c1.hd.la.keep k nT c.hd.n3, hE, c.hd.n1, c.hd.n2, c.hd.n3, ok⟩⟩, rfl, rfl, by simp [foot], kk⟩
theorem sc_leg : FnScope ["world", "given", "w", "p", "q", "shown", "legs"] ["world", "given"] (defScope s_leg) := ⟨rfl, rfl, rfl, by decide +kernel, rfl, by decide +kernel, by decide +kernel⟩
theorem ok_leg (F : Dfn K mg "leg" s_leg) (T : Txt K mg C) (gN : GI mg "NO_SUCH" (-2)) (gO : GI mg "OUT_OF_RANGE" (-22)) (gM : GI mg "TOO_MANY" (-28)) (gL : GI mg "MOST_LEGS" 6) (gS : GI mg "MOST_SHOWN" 99) (M1 : Mth P w K mg base C 1 "has_way" (spHasW C))
    (C4 : Cal P w K mg base 1 "is_factor" spIsFactor) (C1 : Cal P w K mg base 2 "lowest" spLowest) : Cal P w K mg base 3 "leg" (spChg K C 5) := by
  obtain ⟨f1, fd1, ps1, G1, m1, b1⟩ := M1
  refine cal_of F sc_leg (fun vs H Q E h => by (repeat' (first | (obtain ⟨e, _⟩ := h; exact congrArg List.length e) | (obtain ⟨_, h⟩ := h)))) (fun _ _ _ _ _ _ us hl => match us, hl with | [_, _], _ => rfl) fun f cdv A outer s H vs Q E hr h => ?_
  refine ⟨_, pss_cons (ps_set (i := 2) sc_leg.nd rfl (Or.inl rfl) (pe_ix ix_list (pv 1) pe_int (fun _ _ => rfl))) (pss_cons (ps_set (i := 3) sc_leg.nd rfl (Or.inl rfl) (pe_ix ix_list (pv 1) pe_int (fun _ _ => rfl))) (pss_cons (ps_set (i := 4) sc_leg.nd rfl (Or.inl rfl) (pe_ix ix_list (pv 1) pe_int (fun _ _ => rfl))) (pss_cons (ps_set (i := 5) sc_leg.nd rfl (Or.inl rfl) (pe_ix ix_list (pv 1) pe_int (fun _ _ => rfl)))
    (pss_cons (ps_if (pt_not (pt_val (pe_meth (pv 0) T.cl m1 G1 (hr.mono (by decide)) b1 .nil pass0 (pa_cons (pv 2) pa_nil)))) (pss_one (ps_ret (pe_lst (pa_cons (pe_gi (by rfl) gN) pa_nil)))) pss_nil)
    (pss_cons (ps_if (pt_not (PW.pt (pw_and (pt_val (pe_cal C4 hr (by decide) (by rfl) (pa_cons (pv 3) (pa_cons (pv 4) pa_nil)))) (pw_and1 (pt_chain op_le op_le pe_int (pv 5) (pe_gi (by rfl) gS)))))) (pss_one (ps_ret (pe_lst (pa_cons (pe_gi (by rfl) gO) pa_nil)))) pss_nil)
    (pss_cons (ps_set (i := 6) sc_leg.nd rfl (Or.inl rfl) (pe_ix ix_tup (pe_fld (pv 0) rfl) (pv 2) (fun _ _ => rfl)))
    (pss_cons (ps_if (pt_cmpR op_eq (pe_callB call_len_seq (by rfl) T.len PySem.boot_len (pa_cons (pv 6) pa_nil)) (pe_gi (by rfl) gL) (nomark _)) (pss_one (ps_ret (pe_lst (pa_cons (pe_gi (by rfl) gM) pa_nil)))) pss_nil)
    (pss_cons (ps_expr (pe_bm PySem.F.plainAttrs_list PySem.F.slot_list_append PySem.F.type_list_append mt_append (pv 6) (pa_cons (pe_op op_catT (pe_cal C1 hr (by decide) (by rfl) (pa_cons (pv 3) (pa_cons (pv 4) pa_nil))) (pe_tup (pa_cons (pv 5) pa_nil))) pa_nil)))
    (pss_one (ps_ret (pe_lst (pa_cons (pe_op op_sub (pe_callB call_len_seq (by rfl) T.len PySem.boot_len (pa_cons (pv 6) pa_nil)) pe_int) pa_nil)))))))))))), ?_⟩
  obtain ⟨wd, g, dx, pa, r, as, rfl, hg, hb, c, k⟩ := h
  obtain ⟨i, p, q, sh, rfl, _⟩ := arg4 hb rfl (by decide)
  have ob := obs c
  have o := c.hd.ok
  refine ⟨_, rfl, g, _, 0, _, rfl, rfl, hg, atI_nat (j := 0) rfl, _, rfl, g, _, 1, _, rfl, rfl, hg, atI_nat (j := 1) rfl, _, rfl, g, _, 2, _, rfl, rfl, hg, atI_nat (j := 2) rfl, _, rfl, g, _, 3, _, rfl, rfl, hg, atI_nat (j := 3) rfl, _, rfl, wd, _, _, rfl, ob, lk2, _, rfl, wd, dx, pa, r, i, rfl, c, _, rfl, ?_⟩
  by_cases ci : i < 2
  · refine if_no (by rw [dt (show (i : Int) < 2 by omega)]; rfl) ?_
    refine ⟨_, rfl, _, rfl, p, q, rfl, _, rfl, ?_⟩
    rw [okI_F]
    obtain ⟨lw, E0, hlw, hA, eE, hlen, hok⟩ := way_get c.hd ci
    by_cases cb : Kv414.okF p q = true ∧ (1 ≤ sh ∧ sh ≤ 99)
    · refine nand_yes (d := decide (1 ≤ sh ∧ sh ≤ 99)) cb.1 (dt cb.2) (fun z => by
        refine ⟨_, rfl, _, _, rfl, rfl, _, rfl, ?_⟩
        refine if_yes (dt (by omega)) ⟨_, _, rfl, rfl, _, rfl, ?_⟩
        rw [show decide ((sh : Int) ≤ 99) = decide (1 ≤ sh ∧ sh ≤ 99) by congr 1; apply propext; omega]
        exact z) ?_
      refine ⟨_, rfl, wd, C, _, _, _, rfl, ob, T.cl, T.nW, lkW, _, rfl, r.wa, _, i, _, rfl, rfl, SqT.of c.hd.wa, atI_nat (j := i) hlw, ?_⟩
      refine ⟨_, rfl, lw, _, rfl, .inl (SqL.of hA.at_), rfl, _, rfl, ?_⟩
      rw [dV, rf_len]
      have lnE : (r.now.way i).length = E0.length := by rw [← eE, snd_len]
      by_cases c6 : E0.length = 6
      · refine if_yes (dt (by omega)) ⟨(by show 1 ≤ sizeLine; decide), ?_⟩
        exact ref_no c k (leg_full ci cb.1 cb.2 (by omega)) (fun _ _ z => z)
      · refine if_no (df (by omega)) ?_
        have cf : ¬ 6 ≤ (r.now.way i).length := by omega
        obtain ⟨e1, e2⟩ := leg_yes (n := r.now) (p := p) (q := q) (s := sh) ci cb.1 cb.2 cf
        rw [e1, e2] at k
        have z := okF_in cb.1
        obtain ⟨fr1, fr2⟩ := facred (k := ⟨p, q⟩)
        dsimp only at fr1 fr2
        refine ⟨_, rfl, .inl ⟨rfl, _, SqL.of hA.at_⟩, _, rfl, _, rfl, p, q, rfl, by omega, by omega, fun x1 hx1 => ?_⟩
        have s1 := same_upd (o := .tup [.int (lowN p q), .int (lowD p q)]) hx1
        refine ⟨_, rfl, (by show 1 ≤ sizeLine; decide), fun x2 hx2 => ?_⟩
        have s2 := same_upd (o := .tup [.int sh]) hx2
        refine ⟨x1, x2, _, _, rfl, rfl, SqT.of (s2 _ _ upd_same), SqT.of upd_same, (by intro z; cases z), (by show 3 ≤ sizeLine; decide), (fun z => by cases z), fun _ x3 hx3 => ?_⟩
        have s3 := same_upd (o := .tup ([.int (lowN p q), .int (lowD p q)] ++ [.int sh])) hx3
        have s13 := s1.trans (s2.trans s3)
        have e3 : upd (upd (upd H x1 (.tup [.int (lowN p q), .int (lowD p q)])) x2 (.tup [.int sh])) x3 (.tup ([.int (lowN p q), .int (lowD p q)] ++ [.int sh])) x3 = some (.tup ((lgR ⟨Factor.red ⟨p, q⟩, sh⟩).map V.int)) := by
          rw [upd_same]
          show _ = some (HO.tup [.int ((Factor.red ⟨p, q⟩).p : Int), .int ((Factor.red ⟨p, q⟩).q : Int), .int (sh : Int)])
          rw [fr1, fr2]
          rfl
        generalize upd (upd (upd H x1 (.tup [.int (lowN p q), .int (lowD p q)])) x2 (.tup [.int sh])) x3 (.tup ([.int (lowN p q), .int (lowD p q)] ++ [.int sh])) = H3 at *
        have hA3 := hA.same s13
        refine ⟨lw, _, _, rfl, rfl, hA3.at_, small1000 (by rw [rf_len]; omega), ?_⟩
        have k2 : Kp lw H3 (upd H3 lw (.lst (rf E0 ++ [.ref x3]))) := kp_upd
        have nT : NoT H3 lw := .lst hA3.at_
        have hE : LAt lgR (upd H3 lw (.lst (rf E0 ++ [.ref x3]))) lw (E0 ++ [(x3, ⟨Factor.red ⟨p, q⟩, sh⟩)]) := by
          refine ⟨?_, fun u hu => ?_⟩
          · rw [upd_same]
            unfold rf
            rw [List.map_append]
            rfl
          · rcases List.mem_append.mp hu with y | y
            · have qq := hA3.tu u y
              exact k2 _ _ (fun y => nT _ (y ▸ qq)) qq
            · rw [List.mem_singleton.mp y]
              exact k2 _ _ (show x3 ≠ lw from fun y => nT _ (y ▸ e3)) e3
        have sE : snd (E0 ++ [(x3, (⟨Factor.red ⟨p, q⟩, sh⟩ : Leg))]) = r.now.way i ++ [⟨Factor.red ⟨p, q⟩, sh⟩] := by
          rw [← eE]
          unfold snd
          rw [List.map_append]
          rfl
        obtain ⟨r', c3, ft, nw, hf, k3⟩ := way_put c ci hlw s13 k2 hE (by rw [sE]; exact leg_ok o cb.1 cb.2 cf)
        refine ⟨_, rfl, lw, _, rfl, .inl (SqL.of hE.at_), _, _, rfl, rfl, (by show 1 ≤ sizeLine; decide), fun l hl => ?_⟩
        have s5 := same_upd (o := .lst [.int (((rf (E0 ++ [(x3, (⟨Factor.red ⟨p, q⟩, sh⟩ : Leg))])).length : Int) - 1)]) hl
        refine k _ r' l lw (.inr hf) (k3.trans (kp_same s5)) (c3.same s5) ft (by rw [nw, sE]) (kp_free k3 (by rw [upd_same]; intro z; cases z) hl) ?_
        rw [upd_same, rf_len, List.length_append, lnE]
        show some (HO.lst [V.int (((E0.length + 1 : Nat) : Int) - 1)]) = some (.lst [.int (E0.length : Int)])
        congr 4
        omega
    · refine nand_no (d := decide (1 ≤ sh ∧ sh ≤ 99)) (fun z => cb ⟨z.1, of_decide_eq_true z.2⟩) (fun z => by
        refine ⟨_, rfl, _, _, rfl, rfl, _, rfl, ?_⟩
        by_cases y : 1 ≤ sh
        · refine if_yes (dt (by omega)) ⟨_, _, rfl, rfl, _, rfl, ?_⟩
          rw [show decide ((sh : Int) ≤ 99) = decide (1 ≤ sh ∧ sh ≤ 99) by congr 1; apply propext; omega]
          exact z
        · refine if_no (df (by omega)) ⟨_, rfl, ?_⟩
          rw [df (fun q => y q.1)] at z
          exact z) ?_
      exact ⟨(by show 1 ≤ sizeLine; decide), ref_no c k (leg_bad ci cb) (fun _ _ z => z)⟩
  · refine if_yes (by rw [df (show ¬ (i : Int) < 2 by omega)]; rfl) ?_
    exact ⟨(by show 1 ≤ sizeLine; decide), ref_no c k (leg_no ci) (fun _ _ z => z)⟩
theorem sc_unleg : FnScope ["world", "given", "w", "legs"] ["world", "given"] (defScope s_unleg) := ⟨rfl, rfl, rfl, by decide +kernel, rfl, by decide +kernel, by decide +kernel⟩
theorem ok_unleg (F : Dfn K mg "unleg" s_unleg) (T : Txt K mg C) (gN : GI mg "NO_SUCH" (-2)) (gL : GI mg "NO_LEG" (-6)) (M1 : Mth P w K mg base C 1 "has_way" (spHasW C)) : Cal P w K mg base 2 "unleg" (spChg K C 6) := by
  obtain ⟨f1, fd1, ps1, G1, m1, b1⟩ := M1
  refine cal_of F sc_unleg (fun vs H Q E h => by (repeat' (first | (obtain ⟨e, _⟩ := h; exact congrArg List.length e) | (obtain ⟨_, h⟩ := h)))) (fun _ _ _ _ _ _ us hl => match us, hl with | [_, _], _ => rfl) fun f cdv A outer s H vs Q E hr h => ?_
  refine ⟨_, pss_cons (ps_set (i := 2) sc_unleg.nd rfl (Or.inl rfl) (pe_ix ix_list (pv 1) pe_int (fun _ _ => rfl))) (pss_cons (ps_if (pt_not (pt_val (pe_meth (pv 0) T.cl m1 G1 (hr.mono (by decide)) b1 .nil pass0 (pa_cons (pv 2) pa_nil)))) (pss_one (ps_ret (pe_lst (pa_cons (pe_gi (by rfl) gN) pa_nil)))) pss_nil)
    (pss_cons (ps_set (i := 3) sc_unleg.nd rfl (Or.inl rfl) (pe_ix ix_tup (pe_fld (pv 0) rfl) (pv 2) (fun _ _ => rfl)))
    (pss_cons (ps_if (pt_cmpR op_eq (pe_callB call_len_seq (by rfl) T.len PySem.boot_len (pa_cons (pv 3) pa_nil)) pe_int (nomark _)) (pss_one (ps_ret (pe_lst (pa_cons (pe_gi (by rfl) gL) pa_nil)))) pss_nil)
    (pss_cons (ps_expr (pe_bm0 PySem.F.plainAttrs_list PySem.F.slot_list_pop PySem.F.type_list_pop mt_pop (pv 3)))
    (pss_one (ps_ret (pe_lst (pa_cons (pe_callB call_len_seq (by rfl) T.len PySem.boot_len (pa_cons (pv 3) pa_nil)) pa_nil)))))))), ?_⟩
  obtain ⟨wd, g, dx, pa, r, as, rfl, hg, hb, c, k⟩ := h
  obtain ⟨i, rfl, _⟩ := arg1 hb rfl (by decide)
  have ob := obs c
  have o := c.hd.ok
  refine ⟨_, rfl, g, _, 0, _, rfl, rfl, hg, atI_nat (j := 0) rfl, _, rfl, wd, _, _, rfl, ob, lk2, _, rfl, wd, dx, pa, r, i, rfl, c, _, rfl, ?_⟩
  by_cases ci : i < 2
  · refine if_no (by rw [dt (show (i : Int) < 2 by omega)]; rfl) ?_
    obtain ⟨lw, E, hlw, hA, eE, hlen, hok⟩ := way_get c.hd ci
    refine ⟨_, rfl, wd, C, _, _, _, rfl, ob, T.cl, T.nW, lkW, _, rfl, r.wa, _, i, _, rfl, rfl, SqT.of c.hd.wa, atI_nat (j := i) hlw, ?_⟩
    refine ⟨_, rfl, lw, _, rfl, .inl (SqL.of hA.at_), rfl, _, rfl, ?_⟩
    rw [dV, rf_len]
    by_cases c0 : E.length = 0
    · refine if_yes (dt (by omega)) ⟨(by show 1 ≤ sizeLine; decide), ref_no c k (unleg_none ci ?_) (fun _ _ z => z)⟩
      rw [← eE, List.eq_nil_of_length_eq_zero c0]
      rfl
    · refine if_no (df (by omega)) ?_
      have ne : r.now.way i ≠ [] := by
        rw [← eE]
        intro z
        have := congrArg List.length z
        rw [snd_len] at this
        exact c0 this
      obtain ⟨e1, e2⟩ := unleg_yes (n := r.now) ci ne
      rw [e1, e2] at k
      refine ⟨_, rfl, .inl ⟨rfl, _, SqL.of hA.at_⟩, lw, _, (rf E)[(rf E).length - 1]'(by rw [rf_len]; omega), rfl, rfl, hA.at_, List.getElem?_eq_getElem _, ?_⟩
      have k2 : Kp lw H (upd H lw (.lst (rf E).dropLast)) := kp_upd
      have nT : NoT H lw := .lst hA.at_
      have hE : LAt lgR (upd H lw (.lst (rf E).dropLast)) lw E.dropLast := by
        refine ⟨?_, fun p hp => ?_⟩
        · rw [upd_same]
          unfold rf
          rw [List.map_dropLast]
        · have q := hA.tu p ((List.dropLast_sublist _).subset hp)
          exact k2 _ _ (fun y => nT _ (y ▸ q)) q
      have sE : snd E.dropLast = (r.now.way i).dropLast := by
        rw [← eE]
        unfold snd
        rw [List.map_dropLast]
      obtain ⟨r', c3, ft, nw, hf, k3⟩ := way_put c ci hlw (fun _ _ z => z) k2 hE (by rw [sE]; exact unleg_ok o)
      refine ⟨_, rfl, lw, _, rfl, .inl (SqL.of hE.at_), (by show 1 ≤ sizeLine; decide), fun l hl => ?_⟩
      have s3 := same_upd (o := .lst [.int ((rf E.dropLast).length : Nat)]) hl
      refine k _ r' l lw (.inr hf) (k3.trans (kp_same s3)) (c3.same s3) ft (by rw [nw, sE]) (kp_free k3 (by rw [upd_same]; intro z; cases z) hl) ?_
      rw [upd_same, rf_len, List.length_dropLast, ← eE, snd_len]
      rfl
  · refine if_yes (by rw [df (show ¬ (i : Int) < 2 by omega)]; rfl) ?_
    exact ⟨(by show 1 ≤ sizeLine; decide), ref_no c k (unleg_no ci) (fun _ _ z => z)⟩
end
end MC
namespace MC
open PySem PySem.Spec PyProof.Rows L2
open Kv414 (Now Leg Factor Abs)
/-! ### tables -/
def Tab (P : Program) (w : World) (K : PySem.W.Frag) (mg : Str → Option Value) (base : Heap) (k : Nat) (x : Str) (nums : List Int) (sp : Int → Sp) : Prop :=
  ∃ d kvs, mg x = some (.ref d) ∧ KDI K d kvs ∧ (∀ n ∈ nums, ∃ f, getI n kvs = some (.ref f) ∧ Heldf P w K mg base k f (sp n)) ∧ (∀ n, n ∉ nums → getI n kvs = none)
theorem Held.mono {H H' : Hp} {r : Rec} (h : Held H r) (f : ∀ c xs, H c = some (.tup xs) → H' c = some (.tup xs)) (g : ∀ c ∈ foot r, ∀ u, H c = some u → H' c = some u) : Held H' r :=
  ⟨⟨g _ (by simp [foot]) _ h.ev.at_, fun p hp => f _ _ (h.ev.tu p hp)⟩, f _ _ h.fa, f _ _ h.wa, ⟨g _ (by simp [foot]) _ h.la.at_, fun p hp => f _ _ (h.la.tu p hp)⟩, ⟨g _ (by simp [foot]) _ h.lb.at_, fun p hp => f _ _ (h.lb.tu p hp)⟩, h.n1, h.n2, h.n3, h.ok⟩
/-- a state that can be taken back -/
def Past (H : Hp) (p : Addr × Rec) : Prop := H p.1 = some (.tup [.ref p.2.le, .ref p.2.fa, .ref p.2.wa]) ∧ Held H p.2
theorem Past.mono {H H' : Hp} {p : Addr × Rec} (h : Past H p) (f : ∀ c xs, H c = some (.tup xs) → H' c = some (.tup xs)) (g : ∀ c ∈ foot p.2, ∀ u, H c = some u → H' c = some u) : Past H' p := ⟨f _ _ h.1, h.2.mono f g⟩
structure WAt (C : Addr) (H G : Hp) (wd dx pa : Addr) (R : List (Addr × Rec)) (r : Rec) : Prop where
  cur : Cur C H wd dx pa r
  pa_ : H pa = some (.lst (rf R))
  tu : ∀ p ∈ R, Past H p
  len : R.length ≤ 10
  same : Same G H
  gw : G wd = none
  gp : G pa = none
  gr : ∀ x ∈ foot r, G x = none ∧ x ≠ pa
  gR : ∀ p ∈ R, ∀ x ∈ foot p.2, G x = none ∧ x ≠ pa ∧ x ∉ foot r
  dR : R.Pairwise fun p q => ∀ x ∈ foot p.2, x ∉ foot q.2
def absW (R : List (Addr × Rec)) (r : Rec) : Abs := ⟨r.now, (R.map fun p => p.2.now).reverse⟩
/-- the promise of a call that sees all of the object -/
def spFull (K : PySem.W.Frag) (C : Addr) (num : Int) : Sp := fun vs H Q _ => ∃ (wd g dx pa : Addr) (R : List (Addr × Rec)) (r : Rec) (G : Hp) (as : List Int), vs = [.ref wd, .ref g] ∧ SqL K H g (as.map V.int) ∧ inB num as ∧ WAt C H G wd dx pa R r ∧
  ∀ H' R' r' p, WAt C H' G wd dx pa R' r' → absW R' r' = (Abs.does (absW R r) (cOf num as)).1 → H p = none → H' p = some (.lst ((Kv414Neutral.row (Abs.does (absW R r) (cOf num as)).2).map V.int)) → Q (.ref p) H'
/-- nothing but b has changed -/
theorem WAt.same' {C wd dx pa : Addr} {H H' G : Hp} {R : List (Addr × Rec)} {r : Rec} (h : WAt C H G wd dx pa R r) (s : Same H H') : WAt C H' G wd dx pa R r :=
  ⟨h.cur.same s, s _ _ h.pa_, fun p hp => (h.tu p hp).mono (fun c xs => s c _) (fun c _ u => s c u), h.len, h.same.trans s, h.gw, h.gp, h.gr, h.gR, h.dR⟩
/-- what a change has changed -/
theorem WAt.chg {C wd dx pa b : Addr} {H H1 H2 G : Hp} {R : List (Addr × Rec)} {r r2 : Rec} (h : WAt C H G wd dx pa R r) (s : Same H H1) (hb : b = wd ∨ b ∈ foot r) (k : Kp b H1 H2) (c : Cur C H2 wd dx pa r2) (ft : foot r2 = foot r) : WAt C H2 G wd dx pa R r2 := by
  have h1 := h.same' s
  have nT : NoT H1 b := by
    rcases hb with rfl | hb
    · exact .ins h1.cur.ob
    · exact (h1.cur.hd.noT hb).1
  have tups : ∀ c xs, H1 c = some (.tup xs) → H2 c = some (.tup xs) := fun c xs e => k _ _ (fun z => nT _ (z ▸ e)) e
  have np : pa ≠ b := by
    rcases hb with rfl | hb
    · exact ne_of h1.pa_ h1.cur.ob (by intro z; cases z)
    · exact fun z => (h.gr b hb).2 z.symm
  have gb : G b = none := by
    rcases hb with rfl | hb
    · exact h.gw
    · exact (h.gr b hb).1
  refine ⟨c, k _ _ np h1.pa_, fun p hp => (h1.tu p hp).mono tups (fun x hx u e => k _ _ (fun z => ?_) e), h.len, fun x u e => k _ _ (fun z => by rw [z, gb] at e; cases e) (h1.same _ _ e), h.gw, h.gp, by rw [ft]; exact h.gr, fun p hp x hx => by rw [ft]; exact h.gR p hp x hx, h.dR⟩
  subst z
  rcases hb with rfl | hb
  · obtain ⟨_, xs, e'⟩ := (h1.tu p hp).2.noT hx
    rw [h1.cur.ob] at e'
    cases e'
  · exact (h.gR p hp x hx).2.2 hb
def remG {α : Type} (xs : List α) (v : α) : List α := if xs.length < 10 then xs ++ [v] else (xs ++ [v]).eraseIdx 0
theorem rem_rf (R : List (Addr × Rec)) (p : Addr × Rec) : rf (remG R p) = remL (rf R) (.ref p.1) := by
  unfold remG remL
  rw [rf_len]
  split
  · unfold rf
    rw [List.map_append]
    rfl
  · unfold rf
    rw [map_erase, List.map_append]
    rfl
theorem rem_mem {α : Type} {R : List α} {p q : α} (h : q ∈ remG R p) : q ∈ R ∨ q = p := by
  unfold remG at h
  split at h
  · rcases List.mem_append.mp h with z | z
    · exact .inl z
    · exact .inr (List.mem_singleton.mp z)
  · rcases List.mem_append.mp (List.mem_of_mem_eraseIdx h) with z | z
    · exact .inl z
    · exact .inr (List.mem_singleton.mp z)
theorem rem_sub {α : Type} (R : List α) (p : α) : (remG R p).Sublist (R ++ [p]) := by
  unfold remG
  split
  · exact List.Sublist.refl _
  · exact List.eraseIdx_sublist _ _
theorem rem_len {α : Type} (R : List α) (p : α) (h : R.length ≤ 10) : (remG R p).length ≤ 10 := by
  unfold remG
  split
  · rw [List.length_append]; show R.length + 1 ≤ 10; omega
  · rw [List.length_eraseIdx_of_lt (by rw [List.length_append]; show 0 < R.length + 1; omega), List.length_append]; show R.length + 1 - 1 ≤ 10; omega
theorem rem_rev {α β : Type} (f : α → β) (R : List α) (p : α) (h : R.length ≤ 10) : ((remG R p).map f).reverse = (f p :: (R.map f).reverse).take 10 := by
  unfold remG
  split
  · rename_i c
    rw [List.map_append, List.reverse_append]
    show f p :: (R.map f).reverse = _
    rw [List.take_of_length_le]
    simp
    omega
  · rename_i c
    cases R with
    | nil => exact absurd (show ([] : List α).length < 10 from Nat.zero_lt_succ 9) c
    | cons x R0 =>
      have l9 : R0.length = 9 := by
        have : (x :: R0).length = R0.length + 1 := rfl
        omega
      have e1 : (List.map f (R0 ++ [p])).reverse = f p :: (R0.map f).reverse := by
        rw [List.map_append, List.reverse_append]
        rfl
      have e2 : (List.map f (x :: R0)).reverse = (R0.map f).reverse ++ [f x] := by rw [List.map_cons, List.reverse_cons]
      show (List.map f (R0 ++ [p])).reverse = _
      rw [e1, e2, List.take_succ_cons, List.take_append_of_le_length (by simp; omega), List.take_of_length_le (by simp; omega)]
/-- one more to take back -/
theorem WAt.rem {C wd dx pa h : Addr} {H H' G : Hp} {R : List (Addr × Rec)} {r r1 : Rec} (W : WAt C H G wd dx pa R r) (ph : Past H (h, r1)) (f1 : ∀ x ∈ foot r1, G x = none ∧ x ≠ pa ∧ x ∉ foot r) (f2 : ∀ p ∈ R, ∀ x ∈ foot p.2, x ∉ foot r1)
    (k : Kp pa H H') (e : H' pa = some (.lst (remL (rf R) (.ref h)))) : WAt C H' G wd dx pa (remG R (h, r1)) r := by
  have nT : NoT H pa := .lst W.pa_
  have tups : ∀ c xs, H c = some (.tup xs) → H' c = some (.tup xs) := fun c xs e => k _ _ (fun z => nT _ (z ▸ e)) e
  have nw : wd ≠ pa := ne_of W.cur.ob W.pa_ (by intro z; cases z)
  refine ⟨⟨k _ _ nw W.cur.ob, W.cur.hd.mono tups fun c hc u e => k _ _ (W.gr c hc).2 e⟩, by rw [e, rem_rf], fun p hp => ?_, rem_len R _ W.len, fun x u e => k _ _ (fun z => by rw [z, W.gp] at e; cases e) (W.same _ _ e), W.gw, W.gp, W.gr, fun p hp => ?_, ?_⟩
  · rcases rem_mem hp with z | rfl
    · exact (W.tu p z).mono tups fun c hc u e => k _ _ (W.gR p z c hc).2.1 e
    · exact ph.mono tups fun c hc u e => k _ _ (f1 c hc).2.1 e
  · rcases rem_mem hp with z | rfl
    · exact W.gR p z
    · exact f1
  · refine List.Pairwise.sublist (rem_sub R _) ?_
    rw [List.pairwise_append]
    refine ⟨W.dR, List.pairwise_singleton _ _, fun p hp q hq => ?_⟩
    rw [List.mem_singleton.mp hq]
    exact f2 p hp
section
variable {P : Program} {w : World} {K : PySem.W.Frag} {mg : Str → Option Value} {base : Heap} {C : Addr}
/-! ### change -/
def chN : List Int := [1, 2, 3, 4, 5, 6]
def spChange (K : PySem.W.Frag) (C : Addr) : Sp := fun vs H Q _ => ∃ (wd g dx pa : Addr) (R : List (Addr × Rec)) (r : Rec) (G : Hp) (num : Int) (as : List Int), vs = [.ref wd, .int num, .ref g] ∧ num ∈ chN ∧ SqL K H g (as.map V.int) ∧ inB num as ∧ WAt C H G wd dx pa R r ∧
  ∀ H' R' r' p, WAt C H' G wd dx pa R' r' → absW R' r' = (Abs.does (absW R r) (cOf num as)).1 → H p = none → H' p = some (.lst ((Kv414Neutral.row (Abs.does (absW R r) (cOf num as)).2).map V.int)) → Q (.ref p) H'
theorem chg_is {num : Int} {as : List Int} (h : num ∈ chN) : isChg (cOf num as) = true := by
  simp only [chN, List.mem_cons, List.not_mem_nil, or_false] at h
  rcases h with rfl | rfl | rfl | rfl | rfl | rfl <;> rfl
theorem sc_change : FnScope ["world", "number", "given", "held", "answer"] ["world", "number", "given"] (defScope s_change) := ⟨rfl, rfl, rfl, by decide +kernel, rfl, by decide +kernel, by decide +kernel⟩
theorem ok_change (F : Dfn K mg "change" s_change) (T : Txt K mg C) (M3 : Mth P w K mg base C 1 "all_held" (spAll C)) (M4 : Mth P w K mg base C 1 "remember" (spRem C)) (Tb : Tab P w K mg base 4 "CHANGES" chN (spChg K C)) : Cal P w K mg base 5 "change" (spChange K C) := by
  obtain ⟨f3, fd3, ps3, G3, m3, b3⟩ := M3
  obtain ⟨f4, fd4, ps4, G4, m4, b4⟩ := M4
  obtain ⟨td, kvs, mT, D, tY, tN⟩ := Tb
  refine cal_of F sc_change (fun vs H Q E h => by (repeat' (first | (obtain ⟨e, _⟩ := h; exact congrArg List.length e) | (obtain ⟨_, h⟩ := h)))) (fun _ _ _ _ _ _ us hl => match us, hl with | [_, _, _], _ => rfl) fun f cdv A outer s H vs Q E hr h => ?_
  refine ⟨_, pss_cons (ps_set (i := 3) sc_change.nd rfl (Or.inl rfl) (pe_meth0 (pv 0) T.cl m3 G3 (hr.mono (by decide)) b3 .nil pass0)) (pss_cons (ps_set (i := 4) sc_change.nd rfl (Or.inl rfl) (pe_callE (S := Heldf P w K mg base 4) (pe_ix (ix_kdi D) (pe_glob (v := .ref td) (by rfl) mT rfl) (pv 1) (fun _ _ => rfl)) (fun _ _ z => z) hr (pa_cons (pv 0) (pa_cons (pv 2) pa_nil))))
    (pss_cons (ps_if (pt_cmpR op_ge (pe_ix ix_list (pv 4) pe_int (fun _ _ => rfl)) pe_int (nomark _)) (pss_one (ps_expr (pe_meth (pv 0) T.cl m4 G4 (hr.mono (by decide)) b4 .nil pass0 (pa_cons (pv 3) pa_nil)))) pss_nil)
    (pss_one (ps_ret (pv 4))))), ?_⟩
  obtain ⟨wd, g, dx, pa, R, r, G, num, as, rfl, hn, hg, hb, W, k⟩ := h
  have ob := obs W.cur
  refine ⟨_, rfl, wd, _, _, rfl, ob, lk3, wd, dx, pa, r, rfl, W.cur, fun H1 r1 h s1 hd1 en1 fr1 hh eh => ?_⟩
  obtain ⟨ft, gt, HF⟩ := tY num hn
  refine ⟨_, rfl, num, _, .ref ft, rfl, rfl, gt, rfl, ft, _, rfl, HF, _, rfl, _, rfl, wd, g, dx, pa, r, as, rfl, same_lst s1 hg, hb, W.cur.same s1, fun H2 r2 p b hb' kb c2 ftt en2 hp ep => ?_⟩
  have W2 := W.chg s1 hb' kb c2 ftt
  refine ⟨_, rfl, p, _, 0, _, rfl, rfl, SqL.of ep, atI_nat (j := 0) rfl, _, _, rfl, rfl, _, rfl, ?_⟩
  have fp : H p = none := s1.free hp
  have dn : (absW R r).now = r.now := rfl
  rcases chg_does (absW R r) (chg_is (as := as) hn) with ⟨q1, q2⟩ | ⟨q1, q2, q3⟩
  · rw [q2] at k
    rw [dn] at q1 k
    refine if_yes (dt q1) ?_
    have ob2 := obs c2
    refine ⟨_, rfl, wd, _, _, rfl, ob2, lk4, _, rfl, wd, dx, pa, _, _, _, .ref h, rf R, rfl, obs c2, W2.pa_, by rw [rf_len]; exact W.len, fun H3 k3 e3 => ?_⟩
    have fr : ∀ x ∈ foot r1, ∀ u, H x = some u → False := fun x hx u e => by rw [fr1 x hx] at e; cases e
    have nb : ∀ x ∈ foot r1, x ≠ b := fun x hx z => by
      subst z
      rcases hb' with rfl | hb'
      · exact fr x hx _ W.cur.ob
      · obtain ⟨_, xs, e⟩ := W.cur.hd.noT hb'
        exact fr x hx _ e
    have nT : NoT H1 b := by
      rcases hb' with rfl | hb'
      · exact .ins (s1 _ _ W.cur.ob)
      · exact ((W.cur.hd.same s1).noT hb').1
    have tups : ∀ c xs, H1 c = some (.tup xs) → H2 c = some (.tup xs) := fun c xs e => kb _ _ (fun z => nT _ (z ▸ e)) e
    have ph : Past H2 (h, r1) := ⟨tups _ _ eh, hd1.mono tups fun c hc u e => kb _ _ (nb c hc) e⟩
    have W3 := W2.rem ph (fun x hx => ⟨?_, fun z => ?_, fun z => ?_⟩) (fun q hq x hx z => ?_) k3 e3
    · refine ⟨_, rfl, k H3 _ r2 p W3 ?_ fp ?_⟩
      · unfold absW
        rw [rem_rev (fun p : Addr × Rec => p.2.now) R _ W.len, en2]
        dsimp only
        rw [en1]
      · have np : p ≠ pa := fun z => by rw [z, W.pa_] at fp; cases fp
        exact k3 _ _ np ep
    · cases e : G x with
      | none => rfl
      | some u => exact (fr x hx u (W.same _ _ e)).elim
    · subst z
      exact fr x hx _ W.pa_
    · rw [ftt] at z
      obtain ⟨_, xs, e⟩ := W.cur.hd.noT z
      exact fr x hx _ e
    · obtain ⟨_, xs, e⟩ := (W.tu q hq).2.noT hx
      exact fr x z _ e
  · rw [q3] at k
    rw [dn] at q1 q2 k
    refine if_no (df (show ¬ (0 : Int) ≤ (Abs.does ⟨r.now, []⟩ (cOf num as)).2.ret by omega)) ?_
    refine ⟨_, rfl, k H2 R r2 p W2 ?_ fp ep⟩
    unfold absW
    rw [en2, q2]
/-! ### back, state -/
theorem sc_back : FnScope ["world", "given"] ["world", "given"] (defScope s_back) := ⟨rfl, rfl, rfl, by decide +kernel, rfl, by decide +kernel, by decide +kernel⟩
theorem ok_back (F : Dfn K mg "back" s_back) (T : Txt K mg C) (gC : GI mg "NO_CHANGE" (-6)) (M5 : Mth P w K mg base C 1 "take_back" (spTake C)) : Cal P w K mg base 2 "back" (spFull K C 23) := by
  obtain ⟨f5, fd5, ps5, G5, m5, b5⟩ := M5
  refine cal_of F sc_back (fun vs H Q E h => by (repeat' (first | (obtain ⟨e, _⟩ := h; exact congrArg List.length e) | (obtain ⟨_, h⟩ := h)))) (fun _ _ _ _ _ _ us hl => match us, hl with | [_, _], _ => rfl) fun f cdv A outer s H vs Q E hr h => ?_
  refine ⟨_, pss_cons (ps_if (pt_cmpR op_eq (pe_callB call_len_seq (by rfl) T.len PySem.boot_len (pa_cons (pe_fld (pv 0) rfl) pa_nil)) pe_int (nomark _)) (pss_one (ps_ret (pe_lst (pa_cons (pe_gi (by rfl) gC) pa_nil)))) pss_nil)
    (pss_cons (ps_expr (pe_meth0 (pv 0) T.cl m5 G5 (hr.mono (by decide)) b5 .nil pass0)) (pss_one (ps_ret (pe_lst (pa_cons (pe_callB call_len_seq (by rfl) T.len PySem.boot_len (pa_cons (pe_fld (pv 0) rfl) pa_nil)) pa_nil))))), ?_⟩
  obtain ⟨wd, g, dx, pa, R, r, G, as, rfl, hg, hb, W, k⟩ := h
  have e0 := arg0 hb rfl
  subst e0
  have ob := obs W.cur
  refine ⟨_, rfl, wd, C, _, _, _, rfl, ob, T.cl, T.nP, lkP, pa, _, rfl, .inl (SqL.of W.pa_), rfl, _, rfl, ?_⟩
  rw [dV, rf_len]
  rcases List.eq_nil_or_concat R with rfl | ⟨R0, ph, hR⟩
  · refine if_yes rfl ⟨(by show 1 ≤ sizeLine; decide), fun l hl => ?_⟩
    exact k _ [] r l (W.same' (same_upd hl)) rfl hl upd_same
  · rw [List.concat_eq_append] at hR
    subst hR
    obtain ⟨h, rh⟩ := ph
    have hlen : (R0 ++ [(h, rh)]).length = R0.length + 1 := by rw [List.length_append]; rfl
    refine if_no (df (by rw [hlen]; omega)) ?_
    have mem : (h, rh) ∈ R0 ++ [(h, rh)] := List.mem_append.mpr (.inr (List.mem_singleton.mpr rfl))
    have pt := W.tu _ mem
    have er : rf (R0 ++ [(h, rh)]) = rf R0 ++ [.ref h] := by
      unfold rf
      rw [List.map_append]
      rfl
    have hp := W.pa_
    rw [er] at hp
    have ed : absW (R0 ++ [(h, rh)]) r = ⟨r.now, rh.now :: (R0.map fun p => p.2.now).reverse⟩ := by
      unfold absW
      rw [List.map_append, List.reverse_append]
      rfl
    rw [ed] at k
    refine ⟨_, rfl, wd, _, _, rfl, ob, lk5, wd, dx, pa, h, _, _, _, _, _, _, rf R0, rfl, ob, hp, pt.1, fun H1 fr e1 e2 => ?_⟩
    have tups : ∀ c xs, H c = some (.tup xs) → H1 c = some (.tup xs) := fun c xs e => fr _ _ (fun z => by rw [z, W.cur.ob] at e; cases e) (fun z => by rw [z, W.pa_] at e; cases e) e
    have lsts : ∀ p ∈ R0 ++ [(h, rh)], ∀ c ∈ foot p.2, ∀ u, H c = some u → H1 c = some u := fun p hp c hc u e => by
      obtain ⟨_, xs, e'⟩ := (W.tu p hp).2.noT hc
      exact fr _ _ (fun z => by rw [z, W.cur.ob] at e'; cases e') (W.gR p hp c hc).2.1 e
    have pw := List.pairwise_append.mp W.dR
    have W1 : WAt C H1 G wd dx pa R0 rh := by
      refine ⟨⟨e2, pt.2.mono tups (lsts _ mem)⟩, e1, fun p hp => ?_, ?_, fun x u e => fr _ _ (fun z => by rw [z, W.gw] at e; cases e) (fun z => by rw [z, W.gp] at e; cases e) (W.same _ _ e), W.gw, W.gp, fun x hx => ⟨(W.gR _ mem x hx).1, (W.gR _ mem x hx).2.1⟩, fun p hp x hx => ?_, pw.1⟩
      · have m : p ∈ R0 ++ [(h, rh)] := List.mem_append.mpr (.inl hp)
        exact (W.tu p m).mono tups (lsts p m)
      · have := W.len
        omega
      · have m : p ∈ R0 ++ [(h, rh)] := List.mem_append.mpr (.inl hp)
        exact ⟨(W.gR p m x hx).1, (W.gR p m x hx).2.1, pw.2.2 p hp (h, rh) (List.mem_singleton.mpr rfl) x hx⟩
    have ob1 := obs W1.cur
    refine ⟨_, rfl, wd, C, _, _, _, rfl, ob1, T.cl, T.nP, lkP, pa, _, rfl, .inl (SqL.of e1), (by show 1 ≤ sizeLine; decide), fun l hl => ?_⟩
    have fl : H l = none := by
      cases z : H l with
      | none => rfl
      | some u =>
        by_cases y1 : l = wd
        · rw [y1, e2] at hl; cases hl
        · by_cases y2 : l = pa
          · rw [y2, e1] at hl; cases hl
          · rw [fr _ _ y1 y2 z] at hl; cases hl
    refine k _ R0 rh l (W1.same' (same_upd hl)) rfl fl ?_
    rw [upd_same, rf_len]
    show some (HO.lst [V.int (R0.length : Int)]) = some (.lst [.int (((R0.map fun p => p.2.now).reverse.length : Nat) : Int)])
    rw [List.length_reverse, List.length_map]
theorem sc_state : FnScope ["world", "given"] ["world", "given"] (defScope s_state) := ⟨rfl, rfl, rfl, by decide +kernel, rfl, by decide +kernel, by decide +kernel⟩
theorem ok_state (F : Dfn K mg "state" s_state) (T : Txt K mg C) : Cal P w K mg base 1 "state" (spFull K C 24) := by
  refine cal_of F sc_state (fun vs H Q E h => by (repeat' (first | (obtain ⟨e, _⟩ := h; exact congrArg List.length e) | (obtain ⟨_, h⟩ := h)))) (fun _ _ _ _ _ _ us hl => match us, hl with | [_, _], _ => rfl) fun f cdv A outer s H vs Q E hr h => ?_
  refine ⟨_, pss_one (ps_ret (pe_lst (pa_cons (pe_callB call_len_seq (by rfl) T.len PySem.boot_len (pa_cons (pe_fld (pv 0) rfl) pa_nil)) (pa_cons (pe_callB call_len_seq (by rfl) T.len PySem.boot_len (pa_cons (pe_ix ix_tup (pe_fld (pv 0) rfl) pe_int (fun _ _ => rfl)) pa_nil)) (pa_cons (pe_callB call_len_seq (by rfl) T.len PySem.boot_len (pa_cons (pe_ix ix_tup (pe_fld (pv 0) rfl) pe_int (fun _ _ => rfl)) pa_nil)) (pa_cons (pe_callB call_len_seq (by rfl) T.len PySem.boot_len (pa_cons (pe_fld (pv 0) rfl) pa_nil)) pa_nil)))))), ?_⟩
  obtain ⟨wd, g, dx, pa, R, r, G, as, rfl, hg, hb, W, k⟩ := h
  have e0 := arg0 hb rfl
  subst e0
  have ob := obs W.cur
  have hd := W.cur.hd
  refine ⟨_, rfl, wd, C, _, _, _, rfl, ob, T.cl, T.nE, lkE, r.le, _, rfl, .inl (SqL.of hd.ev.at_), _, rfl, wd, C, _, _, _, rfl, ob, T.cl, T.nW, lkW, r.wa, _, 0, _, rfl, rfl, SqT.of hd.wa, atI_nat (j := 0) rfl, r.la, _, rfl, .inl (SqL.of hd.la.at_), _, rfl, wd, C, _, _, _, rfl, ob, T.cl, T.nW, lkW, r.wa, _, 1, _, rfl, rfl, SqT.of hd.wa, atI_nat (j := 1) rfl, r.lb, _, rfl, .inl (SqL.of hd.lb.at_), ?_⟩
  refine ⟨_, rfl, wd, C, _, _, _, rfl, ob, T.cl, T.nP, lkP, pa, _, rfl, .inl (SqL.of W.pa_), (by show 4 ≤ sizeLine; decide), fun l hl => ?_⟩
  refine k _ R r l (W.same' (same_upd hl)) rfl hl ?_
  rw [upd_same, rf_len, rf_len, rf_len, rf_len]
  show some (HO.lst [V.int (r.ev.length : Int), .int (r.ea.length : Int), .int (r.eb.length : Int), .int (R.length : Int)]) = some (.lst [.int ((snd r.ev).length : Int), .int ((snd r.ea).length : Int), .int ((snd r.eb).length : Int), .int (((R.map fun p => p.2.now).reverse.length : Nat) : Int)])
  rw [snd_len, snd_len, snd_len, List.length_reverse, List.length_map]
end
end MC
namespace MC
open PySem PySem.Spec PyProof.Rows L2
open Kv414 (Now Leg Factor Abs)
open Kv414Neutral (step row callOf)
theorem num_cases {num : Int} (h0 : 0 ≤ num) (h1 : num ≤ 24) : num = 0 ∨ num = 1 ∨ num = 2 ∨ num = 3 ∨ num = 4 ∨ num = 5 ∨ num = 6 ∨ num = 7 ∨ num = 8 ∨ num = 9 ∨ num = 10 ∨ num = 11 ∨ num = 12 ∨ num = 13 ∨ num = 14 ∨ num = 15 ∨ num = 16 ∨ num = 17 ∨ num = 18 ∨ num = 19 ∨ num = 20 ∨ num = 21 ∨ num = 22 ∨ num = 23 ∨ num = 24 := by omega
theorem call_some {num : Int} {as : List Int} (h0 : 0 ≤ num) (h1 : num ≤ 24) : callOf [num :: as] = some (cOf num as) := by
  rcases num_cases h0 h1 with rfl | rfl | rfl | rfl | rfl | rfl | rfl | rfl | rfl | rfl | rfl | rfl | rfl | rfl | rfl | rfl | rfl | rfl | rfl | rfl | rfl | rfl | rfl | rfl | rfl <;> rfl
theorem step_some {num : Int} {as : List Int} (h0 : 0 ≤ num) (h1 : num ≤ 24) (s : Abs) : step (some s) [num :: as] = (some (Abs.does s (cOf num as)).1, row (Abs.does s (cOf num as)).2) := by
  unfold Kv414Neutral.step
  rw [call_some h0 h1]
  rfl
theorem step_none {num : Int} {as : List Int} (h0 : 0 < num) (h1 : num ≤ 24) : step none [num :: as] = (none, [-11]) := by
  rcases num_cases (by omega) h1 with rfl | rfl | rfl | rfl | rfl | rfl | rfl | rfl | rfl | rfl | rfl | rfl | rfl | rfl | rfl | rfl | rfl | rfl | rfl | rfl | rfl | rfl | rfl | rfl | rfl <;> first | (exact absurd h0 (by decide)) | rfl
theorem step_begin (st : Kv414.State) : step st [[0]] = (some ⟨now0, []⟩, [0]) := by
  cases st <;> rfl
def lookN : List Int := [7, 8, 9, 10, 11, 12, 13, 14, 15, 16]
def wayN : List Int := [17, 18, 19, 20, 21, 22]
def hisN : List Int := [23, 24]
theorem look_is {num : Int} {as : List Int} (h : num ∈ lookN ∨ num ∈ wayN) : isLook (cOf num as) = true := by
  simp only [lookN, wayN, List.mem_cons, List.not_mem_nil, or_false] at h
  rcases h with (rfl | rfl | rfl | rfl | rfl | rfl | rfl | rfl | rfl | rfl) | (rfl | rfl | rfl | rfl | rfl | rfl) <;> rfl
def Obj (C : Addr) (H G : Hp) (v : V) : Kv414.State → Prop
  | none => v = .non ∧ Same G H
  | some s => ∃ wd dx pa R r, v = .ref wd ∧ WAt C H G wd dx pa R r ∧ absW R r = s
def spOne (K : PySem.W.Frag) (C : Addr) : Sp := fun vs H Q _ => ∃ (v : V) (g : Addr) (num : Int) (as : List Int) (st : Kv414.State) (G : Hp), vs = [v, .int num, .ref g] ∧ 0 ≤ num ∧ num ≤ 24 ∧ SqL K H g (as.map V.int) ∧ inB num as ∧ Obj C H G v st ∧ (num = 0 → st = some ⟨now0, []⟩) ∧
  ∀ H' p, Obj C H' G v (step st [num :: as]).1 → H p = none → H' p = some (.lst ((step st [num :: as]).2.map V.int)) → Q (.ref p) H'
section
variable {P : Program} {w : World} {K : PySem.W.Frag} {mg : Str → Option Value} {base : Heap} {C : Addr}
theorem in_yes {kvs : List (Int × Value)} {n : Int} {f : Addr} (h : getI n kvs = some (.ref f)) : (getI n kvs).isSome = true := by rw [h]; rfl
theorem in_no {kvs : List (Int × Value)} {n : Int} (h : getI n kvs = none) : (getI n kvs).isSome = false := by rw [h]; rfl
/-- a look leaves the object as it was -/
theorem look_end {H : Hp} {wd dx pa : Addr} {R : List (Addr × Rec)} {r : Rec} {G : Hp} {num : Int} {as : List Int} {Q : VK} (W : WAt C H G wd dx pa R r) (h : num ∈ lookN ∨ num ∈ wayN) (h0 : 0 ≤ num) (h1 : num ≤ 24)
    (k : ∀ H' p, Obj C H' G (.ref wd) (step (some (absW R r)) [num :: as]).1 → H p = none → H' p = some (.lst ((step (some (absW R r)) [num :: as]).2.map V.int)) → Q (.ref p) H') :
    ∀ H' p, Same H H' → H p = none → H' p = some (.lst ((ans r.now (cOf num as)).map V.int)) → Q (.ref p) H' := by
  intro H' p s hp e
  rw [step_some h0 h1, look_does (absW R r) (look_is (as := as) h)] at k
  exact k H' p ⟨wd, dx, pa, R, r, rfl, W.same' s, rfl⟩ hp e
theorem sc_answer_of : FnScope ["world", "number", "given"] ["world", "number", "given"] (defScope s_answer_of) := ⟨rfl, rfl, rfl, by decide +kernel, rfl, by decide +kernel, by decide +kernel⟩
theorem ok_answer_of (F : Dfn K mg "answer_of" s_answer_of) (gB : GI mg "NOT_BEGUN" (-11)) (g0 : GI mg "BEGIN" 0) (T1 : Tab P w K mg base 4 "CHANGES" chN (spChg K C)) (T2 : Tab P w K mg base 4 "LOOKS" lookN (spLook K C)) (T3 : Tab P w K mg base 6 "WAYS" wayN (spLook K C)) (T4 : Tab P w K mg base 2 "HISTORY" hisN (spFull K C))
    (C1 : Cal P w K mg base 5 "change" (spChange K C)) : Cal P w K mg base 7 "answer_of" (spOne K C) := by
  obtain ⟨d1, k1, m1, D1, y1, n1⟩ := T1
  obtain ⟨d2, k2, m2, D2, y2, n2⟩ := T2
  obtain ⟨d3, k3, m3, D3, y3, n3⟩ := T3
  obtain ⟨d4, k4, m4, D4, y4, n4⟩ := T4
  refine cal_of F sc_answer_of (fun vs H Q E h => by (repeat' (first | (obtain ⟨e, _⟩ := h; exact congrArg List.length e) | (obtain ⟨_, h⟩ := h)))) (fun _ _ _ _ _ _ us hl => match us, hl with | [_, _, _], _ => rfl) fun f cdv A outer s H vs Q E hr h => ?_
  refine ⟨_, pss_cons (ps_if (pt_cmpR op_isN (pv 0) pe_non (nomark _)) (pss_one (ps_ret (pe_lst (pa_cons (pe_gi (by rfl) gB) pa_nil)))) pss_nil)
    (pss_cons (ps_if (pt_cmpR op_eq (pv 1) (pe_gi (by rfl) g0) (nomark _)) (pss_one (ps_ret (pe_lst (pa_cons pe_int pa_nil)))) pss_nil)
    (pss_cons (ps_if (pt_cmpR (op_inI D1) (pv 1) (pe_glob (v := .ref d1) (by rfl) m1 rfl) (by rfl)) (pss_one (ps_ret (pe_cal C1 hr (by decide) (by rfl) (pa_cons (pv 0) (pa_cons (pv 1) (pa_cons (pv 2) pa_nil)))))) pss_nil)
    (pss_cons (ps_if (pt_cmpR (op_inI D2) (pv 1) (pe_glob (v := .ref d2) (by rfl) m2 rfl) (by rfl)) (pss_one (ps_ret (pe_callE (S := Heldf P w K mg base 4) (pe_ix (ix_kdi D2) (pe_glob (v := .ref d2) (by rfl) m2 rfl) (pv 1) (fun _ _ => rfl)) (fun _ _ z => z) (hr.mono (by decide)) (pa_cons (pv 0) (pa_cons (pv 2) pa_nil))))) pss_nil)
    (pss_cons (ps_if (pt_cmpR (op_inI D3) (pv 1) (pe_glob (v := .ref d3) (by rfl) m3 rfl) (by rfl)) (pss_one (ps_ret (pe_callE (S := Heldf P w K mg base 6) (pe_ix (ix_kdi D3) (pe_glob (v := .ref d3) (by rfl) m3 rfl) (pv 1) (fun _ _ => rfl)) (fun _ _ z => z) hr (pa_cons (pv 0) (pa_cons (pv 2) pa_nil))))) pss_nil)
    (pss_one (ps_ret (pe_callE (S := Heldf P w K mg base 2) (pe_ix (ix_kdi D4) (pe_glob (v := .ref d4) (by rfl) m4 rfl) (pv 1) (fun _ _ => rfl)) (fun _ _ z => z) (hr.mono (by decide)) (pa_cons (pv 0) (pa_cons (pv 2) pa_nil))))))))), ?_⟩
  obtain ⟨v, g, num, as, st, G, rfl, h0, h1, hg, hb, O, hz, k⟩ := h
  refine ⟨_, rfl, rfl, _, rfl, ?_⟩
  cases st with
  | none =>
    obtain ⟨rfl, sG⟩ := O
    have np : 0 < num := by
      by_cases c : num = 0
      · exact absurd (hz c) (by intro z; cases z)
      · omega
    rw [step_none np h1] at k
    refine if_yes (by rfl) ⟨(by show 1 ≤ sizeLine; decide), fun l hl => ?_⟩
    exact k _ l ⟨rfl, sG.trans (same_upd hl)⟩ hl upd_same
  | some s =>
    obtain ⟨wd, dx, pa, R, r, rfl, W, rfl⟩ := O
    refine if_no (by rfl) ?_
    refine ⟨_, rfl, rfl, _, rfl, ?_⟩
    by_cases c0 : num = 0
    · subst c0
      have e0 := arg0 hb rfl
      subst e0
      refine if_yes (by rfl) ⟨(by show 1 ≤ sizeLine; decide), fun l hl => ?_⟩
      have ez := hz rfl
      rw [ez] at k
      exact k _ l ⟨wd, dx, pa, R, r, rfl, W.same' (same_upd hl), Option.some.inj ez⟩ hl upd_same
    · refine if_no (df fun z => c0 (V.int.inj z)) ?_
      refine ⟨_, rfl, num, rfl, rfl, _, rfl, ?_⟩
      by_cases c1 : num ∈ chN
      · obtain ⟨f1, q1, F1⟩ := y1 num c1
        refine if_yes (in_yes q1) ?_
        rw [step_some h0 h1] at k
        refine ⟨_, rfl, _, rfl, _, rfl, wd, g, dx, pa, R, r, G, num, as, rfl, c1, hg, hb, W, fun H' R' r' p W' e hp ep => ?_⟩
        exact k H' p ⟨wd, dx, pa, R', r', rfl, W', e⟩ hp ep
      · refine if_no (in_no (n1 num c1)) ?_
        refine ⟨_, rfl, num, rfl, rfl, _, rfl, ?_⟩
        by_cases c2 : num ∈ lookN
        · obtain ⟨f2, q2, F2⟩ := y2 num c2
          refine if_yes (in_yes q2) ?_
          exact ⟨_, rfl, num, _, .ref f2, rfl, rfl, q2, rfl, f2, _, rfl, F2, _, rfl, _, rfl, wd, g, dx, pa, r, as, rfl, hg, hb, W.cur, look_end W (.inl c2) h0 h1 k⟩
        · refine if_no (in_no (n2 num c2)) ?_
          refine ⟨_, rfl, num, rfl, rfl, _, rfl, ?_⟩
          by_cases c3 : num ∈ wayN
          · obtain ⟨f3, q3, F3⟩ := y3 num c3
            refine if_yes (in_yes q3) ?_
            exact ⟨_, rfl, num, _, .ref f3, rfl, rfl, q3, rfl, f3, _, rfl, F3, _, rfl, _, rfl, wd, g, dx, pa, r, as, rfl, hg, hb, W.cur, look_end W (.inr c3) h0 h1 k⟩
          · refine if_no (in_no (n3 num c3)) ?_
            have c4 : num ∈ hisN := by
              simp only [chN, lookN, wayN, hisN, List.mem_cons, List.not_mem_nil, or_false] at *
              omega
            obtain ⟨f4, q4, F4⟩ := y4 num c4
            rw [step_some h0 h1] at k
            refine ⟨_, rfl, num, _, .ref f4, rfl, rfl, q4, rfl, f4, _, rfl, F4, _, rfl, _, rfl, wd, g, dx, pa, R, r, G, as, rfl, hg, hb, W, fun H' R' r' p W' e hp ep => ?_⟩
            exact k H' p ⟨wd, dx, pa, R', r', rfl, W', e⟩ hp ep
/-! ### answers -/
/-- the answers' list grows -/
theorem WAt.upd_out {H G : Hp} {wd dx pa l : Addr} {R : List (Addr × Rec)} {r : Rec} {xs ys : List V} (W : WAt C H G wd dx pa R r) (hl : G l = some (.lst xs)) : WAt C (upd H l (.lst ys)) (upd G l (.lst ys)) wd dx pa R r := by
  have nl : ∀ x, G x = none → x ≠ l := fun x e z => by rw [z, hl] at e; cases e
  have hH := W.same _ _ hl
  have tups : ∀ c zs, H c = some (.tup zs) → upd H l (.lst ys) c = some (.tup zs) := fun c zs e => by rw [upd_ne (fun z => by rw [z, hH] at e; cases e)]; exact e
  have gn : ∀ x, G x = none → upd G l (.lst ys) x = none := fun x e => by rw [upd_ne (nl x e)]; exact e
  have ke : ∀ x u, G x = none → H x = some u → upd H l (.lst ys) x = some u := fun x u e1 e2 => by rw [upd_ne (nl x e1)]; exact e2
  refine ⟨⟨ke _ _ W.gw W.cur.ob, W.cur.hd.mono tups fun c hc u e => ke _ _ (W.gr c hc).1 e⟩, ke _ _ W.gp W.pa_, fun p hp => (W.tu p hp).mono tups fun c hc u e => ke _ _ (W.gR p hp c hc).1 e, W.len, fun x u e => ?_, gn _ W.gw, gn _ W.gp, fun x hx => ⟨gn _ (W.gr x hx).1, (W.gr x hx).2⟩, fun p hp x hx => ⟨gn _ (W.gR p hp x hx).1, (W.gR p hp x hx).2⟩, W.dR⟩
  by_cases c : x = l
  · subst c
    rw [upd_same] at e ⊢
    exact e
  · rw [upd_ne c] at e ⊢
    exact W.same _ _ e
theorem Obj.out {H G : Hp} {v : V} {st : Kv414.State} {l : Addr} {xs ys : List V} (O : Obj C H G v st) (hl : G l = some (.lst xs)) : Obj C (upd H l (.lst ys)) (upd G l (.lst ys)) v st := by
  cases st with
  | none =>
    obtain ⟨e, s⟩ := O
    refine ⟨e, fun x u e => ?_⟩
    by_cases c : x = l
    · subst c
      rw [upd_same] at e ⊢
      exact e
    · rw [upd_ne c] at e ⊢
      exact s _ _ e
  | some s =>
    obtain ⟨wd, dx, pa, R, r, e, W, e2⟩ := O
    exact ⟨wd, dx, pa, R, r, e, W.upd_out hl, e2⟩
theorem Obj.sameG {H G : Hp} {v : V} {st : Kv414.State} (O : Obj C H G v st) : Same G H := by
  cases st with
  | none => exact O.2
  | some s =>
    obtain ⟨wd, dx, pa, R, r, e, W, e2⟩ := O
    exact W.same
theorem Obj.same' {H H' G : Hp} {v : V} {st : Kv414.State} (O : Obj C H G v st) (s : Same H H') : Obj C H' G v st := by
  cases st with
  | none => exact ⟨O.1, O.2.trans s⟩
  | some z =>
    obtain ⟨wd, dx, pa, R, r, e, W, e2⟩ := O
    exact ⟨wd, dx, pa, R, r, e, W.same' s, e2⟩
theorem cut_is (ns : List Int) (at_ n : Nat) (h : at_ + 1 + n ≤ ns.length) : cutV (ns.map V.int) (some ((at_ : Int) + 1)) (some ((at_ : Int) + 1 + (n : Int))) = (((ns.drop at_).drop 1).take n).map V.int := by
  have e1 : (at_ : Int) + 1 = ((at_ + 1 : Nat) : Int) := by omega
  have e2 : ((at_ + 1 : Nat) : Int) + (n : Int) = ((at_ + 1 + n : Nat) : Int) := by omega
  unfold cutV
  rw [e1, e2, HT.sIx_nat, HT.sIx_nat, List.length_map, Nat.min_eq_left h, Nat.min_eq_left (show at_ + 1 ≤ ns.length by omega), List.drop_drop, List.map_take, List.map_drop]
  congr 1
  omega
def spAns (K : PySem.W.Frag) : Sp := fun vs H Q _ => ∃ (a : Addr) (ns : List Int), vs = [.ref a] ∧ SqL K H a (ns.map V.int) ∧ PyKv414.answers_asked ns = true ∧ ns.length ≤ 1280 ∧
  ∀ (H' : Hp) (p : Addr), H' p = some (.lst ((PyKv414.answers ns).map V.int)) → Q (.ref p) H'
def argI : List Int := [0, 2, 1, 2, 2, 4, 1, 0, 0, 0, 1, 2, 2, 2, 2, 4, 4, 1, 1, 1, 1, 0, 0, 0, 0]
theorem argI_at {num : Int} (h0 : 0 ≤ num) (h1 : num ≤ 24) : atI (argI.map V.int) num = some (.int (argN num)) := by
  rcases num_cases h0 h1 with rfl | rfl | rfl | rfl | rfl | rfl | rfl | rfl | rfl | rfl | rfl | rfl | rfl | rfl | rfl | rfl | rfl | rfl | rfl | rfl | rfl | rfl | rfl | rfl | rfl <;> rfl
def intAt (σ : L2.St) (i : Nat) : Int := match σ[i]? with
  | some (some (.int z)) => z
  | _ => 0
theorem sc_answers : FnScope ["calls", "answered", "world", "at", "number", "behind", "answer"] ["calls"] (defScope s_answers) := ⟨rfl, rfl, rfl, by decide +kernel, rfl, by decide +kernel, by decide +kernel⟩
theorem ok_answers {fA : Addr} {fdA : FuncData} (F : Fun K "answers" "answers" s_answers fA fdA) (T : Txt K mg C) (g0 : GI mg "BEGIN" 0) (gA : GT K mg "ARGUMENTS" argI) (mW : mg "World" = some (.ref C)) {fi : Addr} {fdi : FuncData} {psi : List Str} (Mi : Mk K C fi) (Gi : FnOk P w K mg base CX0 1 fi fdi psi (spInit C)) (bi : Binds K fdi psi [])
    (C1 : Cal P w K mg base 7 "answer_of" (spOne K C)) : FnOk P w K mg base CX0 8 fA fdA ["calls"] (spAns K) := by
  obtain ⟨aa, ma, sa⟩ := gA
  refine F.ok sc_answers (fun vs H Q E h => by (repeat' (first | (obtain ⟨e, _⟩ := h; exact congrArg List.length e) | (obtain ⟨_, h⟩ := h)))) fun cdv A outer s H vs Q E hr h => ?_
  refine ⟨_, pss_cons (ps_set (i := 1) sc_answers.nd rfl (Or.inl rfl) (pe_lst pa_nil)) (pss_cons (ps_set (i := 2) sc_answers.nd rfl (Or.inl rfl) pe_non) (pss_cons (ps_set (i := 3) sc_answers.nd rfl (Or.inl rfl) pe_int)
    (pss_cons (ps_while PassesOwn.never (pt_cmpR op_lt (pv 3) (pe_callB call_len_seq (by rfl) T.len PySem.boot_len (pa_cons (pv 0) pa_nil)) (nomark _))
      (pss_cons (ps_set (i := 4) sc_answers.nd rfl (Or.inl rfl) (pe_ix ix_list (pv 0) (pv 3) (fun _ _ => rfl)))
      (pss_cons (ps_set (i := 5) sc_answers.nd rfl (Or.inl rfl) (pe_op op_add (pe_op op_add (pv 3) pe_int) (pe_ix ix_tup (pe_glob (v := .ref aa) (by rfl) ma rfl) (pv 4) (fun _ _ => rfl))))
      (pss_cons (ps_if (pt_cmpR op_eq (pv 4) (pe_gi (by rfl) g0) (nomark _)) (pss_one (ps_set (i := 2) sc_answers.nd rfl (Or.inl rfl) (pe_make0 Mi Gi (hr.mono (by decide)) (by rfl) mW bi .nil pass0))) pss_nil)
      (pss_cons (ps_set (i := 6) sc_answers.nd rfl (Or.inl rfl) (pe_cal C1 hr (by decide) (by rfl) (pa_cons (pv 2) (pa_cons (pv 4) (pa_cons (pe_slice sl_list (pv 0) (po_some (pe_op op_add (pv 3) pe_int)) (po_some (pv 5))) pa_nil)))))
      (pss_cons (ps_expr (pe_bm PySem.F.plainAttrs_list PySem.F.slot_list_append PySem.F.type_list_append mt_append (pv 1) (pa_cons (pe_callB call_len_seq (by rfl) T.len PySem.boot_len (pa_cons (pv 6) pa_nil)) pa_nil)))
      (pss_cons (ps_expr (pe_bm PySem.F.plainAttrs_list PySem.F.slot_list_extend PySem.F.type_list_extend mt_extend (pv 1) (pa_cons (pv 6) pa_nil)))
      (pss_one (ps_set (i := 3) sc_answers.nd rfl (Or.inl rfl) (pv 5))))))))))
    (pss_one (ps_ret (pv 1)))))), ?_⟩
  obtain ⟨a, ns, rfl, hA, hask, hlen, k⟩ := h
  obtain ⟨S0, lenA⟩ := stand_start hask
  refine ⟨(by show 0 ≤ sizeLine; decide), fun l hl => ?_⟩
  have keep0 : ∀ G', Kp l (upd H l (.lst [])) G' → SqL K G' a (ns.map V.int) := fun G' kk => by
    rcases hA with (h | ⟨o, h⟩) | h
    · exact .inl (.inl (kk _ _ (ne_of_none h hl) (same_upd hl _ _ h)))
    · exact .inl (.inr ⟨o, kk _ _ (ne_of_none h hl) (same_upd hl _ _ h)⟩)
    · exact .inr h
  refine while_by (fun σ H' => ∃ (at_ : Nat) (out : List Int) (st : Kv414.State) (G : Hp) (v : V) (v4 v5 v6 : Option V), σ = [some (.ref a), some (.ref l), some v, some (.int at_), v4, v5, v6] ∧ at_ ≤ ns.length ∧ Stand ns out (ns.drop at_) st ∧ Obj C H' G v st ∧ G l = some (.lst (out.map V.int)) ∧ (∀ G', Kp l G G' → SqL K G' a (ns.map V.int)))
    (fun σ _ => ns.length - (intAt σ 3).toNat) ⟨0, [], none, upd H l (.lst []), .non, none, none, none, rfl, Nat.zero_le _, S0, ⟨rfl, fun _ _ z => z⟩, upd_same, keep0⟩ ?_ ?_
  · rintro σ H1 ⟨at_, out, st, G, v, v4, v5, v6, rfl, hat, S, O, hG, keep⟩
    have sG := O.sameG
    have hA1 : SqL K H1 a (ns.map V.int) := keep _ (kp_same sG)
    refine ⟨_, rfl, _, rfl, a, _, rfl, .inl hA1, _, _, rfl, rfl, _, rfl, ?_⟩
    rw [List.length_map]
    by_cases c : at_ < ns.length
    · refine if_yes (dt (by omega)) ?_
      obtain ⟨num, rest, hd⟩ : ∃ num rest, ns.drop at_ = num :: rest := by
        cases e : ns.drop at_ with
        | nil =>
          have := congrArg List.length e
          rw [List.length_drop] at this
          exact absurd this (by show ¬ ns.length - at_ = 0; omega)
        | cons x xs => exact ⟨x, xs, rfl⟩
      have hn : ns[at_]? = some num := by
        have := congrArg (fun z => z[0]?) hd
        simpa using this
      rw [hd] at S
      obtain ⟨h0, h1, h2, h3, S'⟩ := stand_turn S
      have hr1 : rest = ns.drop (at_ + 1) := by
        have := congrArg (List.drop 1) hd
        rw [List.drop_drop] at this
        simpa using this.symm
      have hle : at_ + 1 + argN num ≤ ns.length := by
        have := congrArg List.length hr1
        rw [List.length_drop] at this
        omega
      have cut : cutV (ns.map V.int) (some ((at_ : Int) + 1)) (some ((at_ : Int) + 1 + (argN num : Int))) = (rest.take (argN num)).map V.int := by
        rw [cut_is ns at_ _ hle, hd]
        rfl
      refine ⟨_, rfl, _, rfl, a, _, at_, _, rfl, rfl, hA1, atI_nat (j := at_) (by rw [List.getElem?_map, hn]; rfl), ?_⟩
      refine ⟨_, rfl, _, _, rfl, rfl, _, rfl, aa, _, num, _, rfl, rfl, sa _, argI_at h0 h1, _, _, rfl, rfl, ?_⟩
      refine ⟨_, rfl, rfl, _, rfl, ?_⟩
      have rest' : ns.drop (at_ + 1 + argN num) = rest.drop (argN num) := by rw [hr1, List.drop_drop]
      have lenOut := stand_len S'
      have go : ∀ {c : Bool} {X Y : Prop}, (c = true → X) → (c = false → Y) → (if c = true then X else Y) := fun {c} {X} {Y} hx hy => by
        cases c with
        | true => exact hx rfl
        | false => exact hy rfl
      have pack : ∃ q : Bool, q = decide (V.int num = V.int 0) := ⟨_, rfl⟩
      refine go (fun cb => ?_) (fun cb => ?_)
      · have c0 : num = 0 := V.int.inj (of_decide_eq_true cb)
        intro x dx nx nd ne
        refine ⟨x, dx, rfl, upd_same, fun H2 pa r kx cx en ep ff fp => ⟨rfl, ?_⟩⟩
        have hm : ∀ y u, H1 y = some u → upd (upd H1 dx (.own x)) x (.ins C dx []) y = some u := fun y u e => by
          rw [upd_ne (fun z => by rw [z, nx] at e; cases e), upd_ne (fun z => by rw [z, nd] at e; cases e)]
          exact e
        have hf : ∀ y, upd (upd H1 dx (.own x)) x (.ins C dx []) y = none → H1 y = none := fun y e => by
          cases z : H1 y with
          | none => rfl
          | some u => rw [hm y u z] at e; cases e
        have s2 : Same H1 H2 := fun y u e => kx _ _ (fun z => by rw [z, nx] at e; cases e) (hm y u e)
        have W : WAt C H2 H1 x dx pa [] r := ⟨cx, ep, (fun p hp => by cases hp), by decide, s2, nx, hf _ fp, fun y hy => ⟨hf _ (ff y hy).1, (ff y hy).2⟩, (fun p hp => by cases hp), List.Pairwise.nil⟩
        have tk : rest.take (argN num) = [] := by rw [c0]; rfl
        have est : step (some ⟨now0, []⟩) [num :: rest.take (argN num)] = step st [num :: rest.take (argN num)] := by rw [tk, c0, step_begin, step_begin]
        have O2 : Obj C H2 H1 (.ref x) (some ⟨now0, []⟩) := ⟨x, dx, pa, [], r, rfl, W, by unfold absW; rw [en]; rfl⟩
        have hG2 := sG _ _ hG
        have keep2 : ∀ G', Kp l H1 G' → SqL K G' a (ns.map V.int) := fun G' kk => keep G' ((kp_same sG).trans kk)
        have hz : num = 0 → (some ⟨now0, []⟩ : Kv414.State) = some ⟨now0, []⟩ := fun _ => rfl
        have hA2 : SqL K H2 a (ns.map V.int) := keep2 _ (kp_same O2.sameG)
        refine ⟨_, rfl, _, rfl, _, rfl, _, rfl, _, _, rfl, rfl, _, rfl, _, rfl, _, rfl, a, _, rfl, hA2, fun g hg => ?_⟩
        rw [cut]
        refine ⟨_, g, num, rest.take (argN num), _, _, rfl, h0, h1, SqL.of upd_same, h3, O2.same' (same_upd hg), hz, fun H4 pA O4 hpA epA => ?_⟩
        rw [est] at O4 epA
        have hl4 := O4.sameG _ _ hG2
        have lo : out.length + ((step st [num :: rest.take (argN num)]).2.length + 1) ≤ 10000000 := by
          rw [List.length_append, List.length_cons] at lenOut
          omega
        have big : (10000001 : Nat) ≤ sizeLine := by decide
        refine ⟨_, rfl, .inl ⟨rfl, _, SqL.of hl4⟩, _, rfl, pA, _, rfl, .inl (SqL.of epA), l, _, _, rfl, rfl, hl4, by rw [List.length_map]; omega, ?_⟩
        have npl : pA ≠ l := fun z => by
          have := (O2.same' (same_upd (o := .lst ((rest.take (argN num)).map V.int)) hg)).sameG _ _ hG2
          rw [z, this] at hpA
          cases hpA
        have epA5 : upd H4 l (.lst (out.map V.int ++ [.int (((step st [num :: rest.take (argN num)]).2.map V.int).length : Nat)])) pA = some (.lst ((step st [num :: rest.take (argN num)]).2.map V.int)) := by
          rw [upd_ne npl]
          exact epA
        refine ⟨_, rfl, .inl ⟨rfl, _, SqL.of upd_same⟩, _, rfl, l, pA, _, _, rfl, rfl, upd_same, epA5, ?_, ?_⟩
        · rw [List.length_append, List.length_map, List.length_map]
          show out.length + 1 + _ ≤ sizeLine
          omega
        · refine ⟨_, rfl, ⟨at_ + 1 + argN num, _, _, _, _, some (.int num), some (.int ((at_ : Int) + 1 + (argN num : Int))), some (.ref pA), ?_, hle, by rw [rest']; exact S', (O4.out hG2).out upd_same, ?_, fun G' kk => keep2 G' ((kp_upd.trans kp_upd).trans kk)⟩, ?_⟩
          · rw [show ((at_ + 1 + argN num : Nat) : Int) = (at_ : Int) + 1 + (argN num : Int) by omega]
            rfl
          · rw [upd_same, List.map_append, List.map_cons, List.length_map]
            show some (HO.lst (_ ++ [_] ++ _)) = _
            rw [List.append_assoc]
            rfl
          · show ns.length - ((at_ : Int) + 1 + (argN num : Int)).toNat < ns.length - (at_ : Int).toNat
            omega
      · have c0 : ¬ num = 0 := fun z => of_decide_eq_false cb (congrArg V.int z)
        have est : step st [num :: rest.take (argN num)] = step st [num :: rest.take (argN num)] := rfl
        have O2 := O
        have hG2 := hG
        have keep2 := keep
        have hz : num = 0 → st = some ⟨now0, []⟩ := fun z => absurd z c0
        have hA2 := hA1
        refine ⟨_, rfl, _, rfl, _, rfl, _, rfl, _, _, rfl, rfl, _, rfl, _, rfl, _, rfl, a, _, rfl, hA2, fun g hg => ?_⟩
        rw [cut]
        refine ⟨_, g, num, rest.take (argN num), _, _, rfl, h0, h1, SqL.of upd_same, h3, O2.same' (same_upd hg), hz, fun H4 pA O4 hpA epA => ?_⟩
        rw [est] at O4 epA
        have hl4 := O4.sameG _ _ hG2
        have lo : out.length + ((step st [num :: rest.take (argN num)]).2.length + 1) ≤ 10000000 := by
          rw [List.length_append, List.length_cons] at lenOut
          omega
        have big : (10000001 : Nat) ≤ sizeLine := by decide
        refine ⟨_, rfl, .inl ⟨rfl, _, SqL.of hl4⟩, _, rfl, pA, _, rfl, .inl (SqL.of epA), l, _, _, rfl, rfl, hl4, by rw [List.length_map]; omega, ?_⟩
        have npl : pA ≠ l := fun z => by
          have := (O2.same' (same_upd (o := .lst ((rest.take (argN num)).map V.int)) hg)).sameG _ _ hG2
          rw [z, this] at hpA
          cases hpA
        have epA5 : upd H4 l (.lst (out.map V.int ++ [.int (((step st [num :: rest.take (argN num)]).2.map V.int).length : Nat)])) pA = some (.lst ((step st [num :: rest.take (argN num)]).2.map V.int)) := by
          rw [upd_ne npl]
          exact epA
        refine ⟨_, rfl, .inl ⟨rfl, _, SqL.of upd_same⟩, _, rfl, l, pA, _, _, rfl, rfl, upd_same, epA5, ?_, ?_⟩
        · rw [List.length_append, List.length_map, List.length_map]
          show out.length + 1 + _ ≤ sizeLine
          omega
        · refine ⟨_, rfl, ⟨at_ + 1 + argN num, _, _, _, _, some (.int num), some (.int ((at_ : Int) + 1 + (argN num : Int))), some (.ref pA), ?_, hle, by rw [rest']; exact S', (O4.out hG2).out upd_same, ?_, fun G' kk => keep2 G' ((kp_upd.trans kp_upd).trans kk)⟩, ?_⟩
          · rw [show ((at_ + 1 + argN num : Nat) : Int) = (at_ : Int) + 1 + (argN num : Int) by omega]
            rfl
          · rw [upd_same, List.map_append, List.map_cons, List.length_map]
            show some (HO.lst (_ ++ [_] ++ _)) = _
            rw [List.append_assoc]
            rfl
          · show ns.length - ((at_ : Int) + 1 + (argN num : Int)).toNat < ns.length - (at_ : Int).toNat
            omega
    · refine if_no (df (by omega)) ?_
      have e : ns.drop at_ = [] := List.drop_eq_nil_of_le (by omega)
      rw [e] at S
      refine ⟨_, rfl, k H1 l ?_⟩
      rw [stand_end S]
      exact sG _ _ hG
  · rintro σ H1 Q1 Q2 hq ⟨v, e, v', e', p, xs, e1, h1, i, j, e2, e3, b, e4, h⟩
    exact ⟨v, e, v', e', p, xs, e1, h1, i, j, e2, e3, b, e4, hq _ _ h⟩
end
end MC
/-! The end: what the top has written; the statement. -/
namespace MC
open PySem PySem.Spec PyProof.Rows L2
def DfK (K : PySem.W.Frag) (x : Str) (st : Stmt) (f : Addr) : Prop := PySem.W.nsIn K mainGlobals x = some (some (.ref f)) ∧ ∃ (oc : Value) (od : Option Addr) (kV dc pm : Value) (an : Option Addr) (cd ct : Value) (sl : Array (Option Value)),
  K.lookup f = some ⟨oc, od, .func (PySem.W.fnOf x x (defArgs st) (defBody st) (defScope st) .none kV dc pm an cd ct), sl⟩ ∧ PySem.W.codeIn K cd x = true ∧ PySem.W.keepIn K (.ref f) = true
def MtK (K : PySem.W.Frag) (C : Addr) (x qual : Str) (st : Stmt) (f : Addr) : Prop := PySem.W.findIn K (.ref C) x = some (some (.ref f)) ∧ PySem.W.isFn K (.ref f) = true ∧ ∃ (oc : Value) (od : Option Addr) (kV dc pm : Value) (an : Option Addr) (cd ct : Value) (sl : Array (Option Value)),
  K.lookup f = some ⟨oc, od, .func (PySem.W.fnOf x qual (defArgs st) (defBody st) (defScope st) .none kV dc pm an cd ct), sl⟩ ∧ PySem.W.codeIn K cd qual = true ∧ PySem.W.keepIn K (.ref f) = true
def IntK (K : PySem.W.Frag) (x : Str) (i : Int) : Prop := ∃ t, PySem.W.nsIn K mainGlobals x = some (some (.int i t))
def valI : Value → Option Int
  | .int i _ => some i
  | _ => none
def TupK (K : PySem.W.Frag) (x : Str) (ns : List Int) : Prop := ∃ a od its n sl, PySem.W.nsIn K mainGlobals x = some (some (.ref a)) ∧ K.lookup a = some ⟨.type "tuple", od, .seq its n, sl⟩ ∧ its.toList.map valI = ns.map some
def DcK (K : PySem.W.Frag) (x : Str) (d : Addr) (kvs : List (Int × Value)) : Prop := PySem.W.nsIn K mainGlobals x = some (some (.ref d)) ∧ ∃ es n, K.lookup d = some ⟨.type "dict", none, .dict es n, #[]⟩ ∧ es.toList.map entI = kvs.map (fun p => (p.1, hashInt p.1, p.2)) ∧ (d == sysModules) = false
theorem vals_of : ∀ (us : List Value) (ns : List Int), us.map valI = ns.map some → Vals (ns.map V.int) us
  | [], [], _ => .nil
  | [], _ :: _, h => by cases h
  | _ :: _, [], h => by cases h
  | u :: us, n :: ns, h => by
    obtain ⟨h1, h2⟩ := List.cons.inj h
    refine .cons ?_ (vals_of us ns h2)
    unfold valI at h1
    split at h1
    · cases h1
      exact ⟨_, rfl⟩
    · cases h1
section
variable {P : Program} {w : World} {K : PySem.W.Frag} {mg : Str → Option Value} {base h : Heap} {C f d : Addr} {x qual : Str} {st : Stmt} {j k : Nat} {sp : Sp} {i : Int}
theorem dfn_of (X : K.In h) (G : h.Ns mainGlobals mg) (e : DfK K x st f) : Dfn K mg x st := by
  obtain ⟨a, oc, od, kV, dc, pm, an, cd, ct, sl, l, c, kp⟩ := e
  exact ⟨f, _, fun_mk l c kp, PySem.W.mg_of X G a⟩
theorem mdf_of (e : MtK K C x qual st f) : MDf K C x qual st := by
  obtain ⟨a, i, oc, od, kV, dc, pm, an, cd, ct, sl, l, c, kp⟩ := e
  exact ⟨f, _, fun_mk l c kp, ⟨a, i, kp⟩⟩
theorem gi_of (X : K.In h) (G : h.Ns mainGlobals mg) (e : IntK K x i) : GI mg x i := by
  obtain ⟨t, a⟩ := e
  exact ⟨t, PySem.W.mg_of X G a⟩
theorem gt_of {ns : List Int} (X : K.In h) (G : h.Ns mainGlobals mg) (e : TupK K x ns) (hz : ns.length ≤ 1000) : GT K mg x ns := by
  obtain ⟨a, od, its, n, sl, e1, e2, e3⟩ := e
  have v := vals_of _ _ e3
  refine ⟨a, PySem.W.mg_of X G e1, fun H => .inr ⟨_, its, n, e2, rfl, rfl, ?_, v⟩⟩
  have h1 := v.length
  rw [List.length_map] at h1
  have h2 : its.size = its.toList.length := rfl
  have h3 : (1000 : Nat) ≤ sizeLine := by decide
  omega
theorem heldf_of (c : Cal P w K mg base j x sp) (m : mg x = some (.ref f)) (hj : j ≤ k) : Heldf P w K mg base k f sp := by
  obtain ⟨f', fd, ps, F, hm, kp, b⟩ := c
  rw [m] at hm
  cases hm
  exact ⟨fd, ps, F.mono hj, kp, b⟩
theorem kdi_of {kvs : List (Int × Value)} (e : DcK K x d kvs) : KDI K d kvs := by
  obtain ⟨_, es, n, e1, e2, e3⟩ := e
  exact ⟨⟨es, n, e1, e2⟩, e3⟩
end
theorem tab_CHANGES {P : Program} {w : World} {K : PySem.W.Frag} {mg : Str → Option Value} {base h : Heap} {C d f1 f2 f3 f4 f5 f6 : Addr} (X : K.In h) (G : h.Ns mainGlobals mg) (e : DcK K "CHANGES" d [(1, Value.ref f1), (2, Value.ref f2), (3, Value.ref f3), (4, Value.ref f4), (5, Value.ref f5), (6, Value.ref f6)])
    (c1 : Heldf P w K mg base 4 f1 (spChg K C 1))
    (c2 : Heldf P w K mg base 4 f2 (spChg K C 2))
    (c3 : Heldf P w K mg base 4 f3 (spChg K C 3))
    (c4 : Heldf P w K mg base 4 f4 (spChg K C 4))
    (c5 : Heldf P w K mg base 4 f5 (spChg K C 5))
    (c6 : Heldf P w K mg base 4 f6 (spChg K C 6))
    : Tab P w K mg base 4 "CHANGES" chN (spChg K C) := by
  refine ⟨d, _, PySem.W.mg_of X G e.1, kdi_of e, fun n hn => ?_, fun n hn => ?_⟩
  · simp only [chN, List.mem_cons, List.not_mem_nil, or_false] at hn
    rcases hn with rfl | rfl | rfl | rfl | rfl | rfl
    · exact ⟨f1, rfl, c1⟩
    · exact ⟨f2, rfl, c2⟩
    · exact ⟨f3, rfl, c3⟩
    · exact ⟨f4, rfl, c4⟩
    · exact ⟨f5, rfl, c5⟩
    · exact ⟨f6, rfl, c6⟩
  · simp only [chN, List.mem_cons, List.not_mem_nil, or_false, not_or] at hn
    simp only [getI]
    repeat rw [if_neg (by omega)]
theorem tab_LOOKS {P : Program} {w : World} {K : PySem.W.Frag} {mg : Str → Option Value} {base h : Heap} {C d f7 f8 f9 f10 f11 f12 f13 f14 f15 f16 : Addr} (X : K.In h) (G : h.Ns mainGlobals mg) (e : DcK K "LOOKS" d [(7, Value.ref f7), (8, Value.ref f8), (9, Value.ref f9), (10, Value.ref f10), (11, Value.ref f11), (12, Value.ref f12), (13, Value.ref f13), (14, Value.ref f14), (15, Value.ref f15), (16, Value.ref f16)])
    (c7 : Heldf P w K mg base 4 f7 (spLook K C 7))
    (c8 : Heldf P w K mg base 4 f8 (spLook K C 8))
    (c9 : Heldf P w K mg base 4 f9 (spLook K C 9))
    (c10 : Heldf P w K mg base 4 f10 (spLook K C 10))
    (c11 : Heldf P w K mg base 4 f11 (spLook K C 11))
    (c12 : Heldf P w K mg base 4 f12 (spLook K C 12))
    (c13 : Heldf P w K mg base 4 f13 (spLook K C 13))
    (c14 : Heldf P w K mg base 4 f14 (spLook K C 14))
    (c15 : Heldf P w K mg base 4 f15 (spLook K C 15))
    (c16 : Heldf P w K mg base 4 f16 (spLook K C 16))
    : Tab P w K mg base 4 "LOOKS" lookN (spLook K C) := by
  refine ⟨d, _, PySem.W.mg_of X G e.1, kdi_of e, fun n hn => ?_, fun n hn => ?_⟩
  · simp only [lookN, List.mem_cons, List.not_mem_nil, or_false] at hn
    rcases hn with rfl | rfl | rfl | rfl | rfl | rfl | rfl | rfl | rfl | rfl
    · exact ⟨f7, rfl, c7⟩
    · exact ⟨f8, rfl, c8⟩
    · exact ⟨f9, rfl, c9⟩
    · exact ⟨f10, rfl, c10⟩
    · exact ⟨f11, rfl, c11⟩
    · exact ⟨f12, rfl, c12⟩
    · exact ⟨f13, rfl, c13⟩
    · exact ⟨f14, rfl, c14⟩
    · exact ⟨f15, rfl, c15⟩
    · exact ⟨f16, rfl, c16⟩
  · simp only [lookN, List.mem_cons, List.not_mem_nil, or_false, not_or] at hn
    simp only [getI]
    repeat rw [if_neg (by omega)]
theorem tab_WAYS {P : Program} {w : World} {K : PySem.W.Frag} {mg : Str → Option Value} {base h : Heap} {C d f17 f18 f19 f20 f21 f22 : Addr} (X : K.In h) (G : h.Ns mainGlobals mg) (e : DcK K "WAYS" d [(17, Value.ref f17), (18, Value.ref f18), (19, Value.ref f19), (20, Value.ref f20), (21, Value.ref f21), (22, Value.ref f22)])
    (c17 : Heldf P w K mg base 6 f17 (spLook K C 17))
    (c18 : Heldf P w K mg base 6 f18 (spLook K C 18))
    (c19 : Heldf P w K mg base 6 f19 (spLook K C 19))
    (c20 : Heldf P w K mg base 6 f20 (spLook K C 20))
    (c21 : Heldf P w K mg base 6 f21 (spLook K C 21))
    (c22 : Heldf P w K mg base 6 f22 (spLook K C 22))
    : Tab P w K mg base 6 "WAYS" wayN (spLook K C) := by
  refine ⟨d, _, PySem.W.mg_of X G e.1, kdi_of e, fun n hn => ?_, fun n hn => ?_⟩
  · simp only [wayN, List.mem_cons, List.not_mem_nil, or_false] at hn
    rcases hn with rfl | rfl | rfl | rfl | rfl | rfl
    · exact ⟨f17, rfl, c17⟩
    · exact ⟨f18, rfl, c18⟩
    · exact ⟨f19, rfl, c19⟩
    · exact ⟨f20, rfl, c20⟩
    · exact ⟨f21, rfl, c21⟩
    · exact ⟨f22, rfl, c22⟩
  · simp only [wayN, List.mem_cons, List.not_mem_nil, or_false, not_or] at hn
    simp only [getI]
    repeat rw [if_neg (by omega)]
theorem tab_HISTORY {P : Program} {w : World} {K : PySem.W.Frag} {mg : Str → Option Value} {base h : Heap} {C d f23 f24 : Addr} (X : K.In h) (G : h.Ns mainGlobals mg) (e : DcK K "HISTORY" d [(23, Value.ref f23), (24, Value.ref f24)])
    (c23 : Heldf P w K mg base 2 f23 (spFull K C 23))
    (c24 : Heldf P w K mg base 2 f24 (spFull K C 24))
    : Tab P w K mg base 2 "HISTORY" hisN (spFull K C) := by
  refine ⟨d, _, PySem.W.mg_of X G e.1, kdi_of e, fun n hn => ?_, fun n hn => ?_⟩
  · simp only [hisN, List.mem_cons, List.not_mem_nil, or_false] at hn
    rcases hn with rfl | rfl
    · exact ⟨f23, rfl, c23⟩
    · exact ⟨f24, rfl, c24⟩
  · simp only [hisN, List.mem_cons, List.not_mem_nil, or_false, not_or] at hn
    simp only [getI]
    repeat rw [if_neg (by omega)]
theorem all_mk {P : Program} {w : World} {K : PySem.W.Frag} {h : Heap} {mg : Str → Option Value} {fa C : Addr} (X : K.In h) (G : h.Ns mainGlobals mg) (hfa : mg "answers" = some (.ref fa))
    {f_common f_lowest f_plus f_minus f_times f_half f_is_factor f_speed_of f_told f_is_near f_put f_drop f_move f_more f_leg f_unleg f_change f_back f_state f_leader f_heard f_events f_factor f_speed f_tells f_both_there f_between f_apart f_square f_sooner f_ever f_sameat f_faster f_gone_on f_shown_over f_way f_end f_shows f_straight f_heard_at_ends f_older f_meet f_answer_of f_answers g_init g_has_event g_has_way g_all_held g_remember g_take_back d_CHANGES d_LOOKS d_WAYS d_HISTORY : Addr}
    (e_common : DfK K "common" s_common f_common)
    (e_lowest : DfK K "lowest" s_lowest f_lowest)
    (e_plus : DfK K "plus" s_plus f_plus)
    (e_minus : DfK K "minus" s_minus f_minus)
    (e_times : DfK K "times" s_times f_times)
    (e_half : DfK K "half" s_half f_half)
    (e_is_factor : DfK K "is_factor" s_is_factor f_is_factor)
    (e_speed_of : DfK K "speed_of" s_speed_of f_speed_of)
    (e_told : DfK K "told" s_told f_told)
    (e_is_near : DfK K "is_near" s_is_near f_is_near)
    (e_put : DfK K "put" s_put f_put)
    (e_drop : DfK K "drop" s_drop f_drop)
    (e_move : DfK K "move" s_move f_move)
    (e_more : DfK K "more" s_more f_more)
    (e_leg : DfK K "leg" s_leg f_leg)
    (e_unleg : DfK K "unleg" s_unleg f_unleg)
    (e_change : DfK K "change" s_change f_change)
    (e_back : DfK K "back" s_back f_back)
    (e_state : DfK K "state" s_state f_state)
    (e_leader : DfK K "leader" s_leader f_leader)
    (e_heard : DfK K "heard" s_heard f_heard)
    (e_events : DfK K "events" s_events f_events)
    (e_factor : DfK K "factor" s_factor f_factor)
    (e_speed : DfK K "speed" s_speed f_speed)
    (e_tells : DfK K "tells" s_tells f_tells)
    (e_both_there : DfK K "both_there" s_both_there f_both_there)
    (e_between : DfK K "between" s_between f_between)
    (e_apart : DfK K "apart" s_apart f_apart)
    (e_square : DfK K "square" s_square f_square)
    (e_sooner : DfK K "sooner" s_sooner f_sooner)
    (e_ever : DfK K "ever" s_ever f_ever)
    (e_sameat : DfK K "sameat" s_sameat f_sameat)
    (e_faster : DfK K "faster" s_faster f_faster)
    (e_gone_on : DfK K "gone_on" s_gone_on f_gone_on)
    (e_shown_over : DfK K "shown_over" s_shown_over f_shown_over)
    (e_way : DfK K "way" s_way f_way)
    (e_end : DfK K "end" s_end f_end)
    (e_shows : DfK K "shows" s_shows f_shows)
    (e_straight : DfK K "straight" s_straight f_straight)
    (e_heard_at_ends : DfK K "heard_at_ends" s_heard_at_ends f_heard_at_ends)
    (e_older : DfK K "older" s_older f_older)
    (e_meet : DfK K "meet" s_meet f_meet)
    (e_answer_of : DfK K "answer_of" s_answer_of f_answer_of)
    (e_answers : DfK K "answers" s_answers f_answers)
    (b_len : PySem.W.nsIn K mainGlobals "len" = some none)
    (b_list : PySem.W.nsIn K mainGlobals "list" = some none)
    (b_sum : PySem.W.nsIn K mainGlobals "sum" = some none)
    (b_abs : PySem.W.nsIn K mainGlobals "abs" = some none)
    (aC : PySem.W.nsIn K mainGlobals "World" = some (some (.ref C)))
    (pg : PySem.W.plainGet K C Str.empty = true)
    (hd : PySem.W.hasDictIn K C = true)
    (po : PySem.W.plainOver K C = true)
    (sa : PySem.W.findIn K (.ref C) "__setattr__" = some (some (.builtin "object.__setattr__")))
    (mk : PySem.W.makesIn K C = true)
    (kc : PySem.W.keepIn K (.ref C) = true)
    (nE : PySem.W.findIn K (.ref C) "events" = some none)
    (nF : PySem.W.findIn K (.ref C) "factor" = some none)
    (nW : PySem.W.findIn K (.ref C) "ways" = some none)
    (nP : PySem.W.findIn K (.ref C) "past" = some none)
    (m_init : MtK K C "__init__" "World.__init__" s_World_init g_init)
    (m_has_event : MtK K C "has_event" "World.has_event" s_World_has_event g_has_event)
    (m_has_way : MtK K C "has_way" "World.has_way" s_World_has_way g_has_way)
    (m_all_held : MtK K C "all_held" "World.all_held" s_World_all_held g_all_held)
    (m_remember : MtK K C "remember" "World.remember" s_World_remember g_remember)
    (m_take_back : MtK K C "take_back" "World.take_back" s_World_take_back g_take_back)
    (i_GREATEST_GIVEN : IntK K "GREATEST_GIVEN" 9)
    (i_NO_SUCH : IntK K "NO_SUCH" (-2))
    (i_NO_CHANGE : IntK K "NO_CHANGE" (-6))
    (i_NO_LEG : IntK K "NO_LEG" (-6))
    (i_NOT_BEGUN : IntK K "NOT_BEGUN" (-11))
    (i_OUT_OF_RANGE : IntK K "OUT_OF_RANGE" (-22))
    (i_TOO_MANY : IntK K "TOO_MANY" (-28))
    (i_THERE_IS_NONE : IntK K "THERE_IS_NONE" (-33))
    (i_TOO_GREAT : IntK K "TOO_GREAT" (-75))
    (i_FARTHEST : IntK K "FARTHEST" 99)
    (i_MOST_EVENTS : IntK K "MOST_EVENTS" 8)
    (i_GREATEST_PART : IntK K "GREATEST_PART" 999)
    (i_MOST_LEGS : IntK K "MOST_LEGS" 6)
    (i_MOST_SHOWN : IntK K "MOST_SHOWN" 99)
    (i_SAME : IntK K "SAME" 0)
    (i_AT_SECOND : IntK K "AT_SECOND" 1)
    (i_AT_FIRST : IntK K "AT_FIRST" 2)
    (i_AT_NEITHER : IntK K "AT_NEITHER" 3)
    (i_MOST_TAKEN_BACK : IntK K "MOST_TAKEN_BACK" 10)
    (i_BEGIN : IntK K "BEGIN" 0)
    (t_EVER : TupK K "EVER" [1, 0, 2, 3])
    (t_ARGUMENTS : TupK K "ARGUMENTS" argI)
    (k_CHANGES : DcK K "CHANGES" d_CHANGES [(1, .ref f_put), (2, .ref f_drop), (3, .ref f_move), (4, .ref f_more), (5, .ref f_leg), (6, .ref f_unleg)])
    (k_LOOKS : DcK K "LOOKS" d_LOOKS [(7, .ref f_events), (8, .ref f_factor), (9, .ref f_speed), (10, .ref f_tells), (11, .ref f_apart), (12, .ref f_square), (13, .ref f_sooner), (14, .ref f_ever), (15, .ref f_sameat), (16, .ref f_faster)])
    (k_WAYS : DcK K "WAYS" d_WAYS [(17, .ref f_way), (18, .ref f_end), (19, .ref f_shows), (20, .ref f_straight), (21, .ref f_older), (22, .ref f_meet)])
    (k_HISTORY : DcK K "HISTORY" d_HISTORY [(23, .ref f_back), (24, .ref f_state)])
    : ∃ fd : FuncData, (∀ (s : Shared) (us : List Value), us.length = (["calls"] : List Str).length → BindsTo s fd ⟨us, []⟩ ((["calls"] : List Str).zip us)) ∧ ∀ base : Heap, K.In base → base.Ns mainGlobals mg → FnOk P w K mg base CX0 8 fa fd ["calls"] (spAns K) := by
  obtain ⟨aA, oc, od, kV, dc, pm, an, cd, ct, sl, lA, cA, kA⟩ := e_answers
  have e := hfa.symm.trans (PySem.W.mg_of X G aA)
  cases e
  refine ⟨PySem.W.fnOf "answers" "answers" (defArgs s_answers) (defBody s_answers) (defScope s_answers) .none kV dc pm an cd ct, fun s us hu => match us, hu with | [_], _ => .of_eq rfl, fun base _ _ => ?_⟩
  have T : Txt K mg C := ⟨⟨pg, hd, po, sa⟩, nE, nF, nW, nP, PySem.W.mg_none_of X G b_len, PySem.W.mg_none_of X G b_list, PySem.W.mg_none_of X G b_sum⟩
  have F_common : Dfn K mg "common" s_common := dfn_of X G e_common
  have F_lowest : Dfn K mg "lowest" s_lowest := dfn_of X G e_lowest
  have F_plus : Dfn K mg "plus" s_plus := dfn_of X G e_plus
  have F_minus : Dfn K mg "minus" s_minus := dfn_of X G e_minus
  have F_times : Dfn K mg "times" s_times := dfn_of X G e_times
  have F_half : Dfn K mg "half" s_half := dfn_of X G e_half
  have F_is_factor : Dfn K mg "is_factor" s_is_factor := dfn_of X G e_is_factor
  have F_speed_of : Dfn K mg "speed_of" s_speed_of := dfn_of X G e_speed_of
  have F_told : Dfn K mg "told" s_told := dfn_of X G e_told
  have F_is_near : Dfn K mg "is_near" s_is_near := dfn_of X G e_is_near
  have F_put : Dfn K mg "put" s_put := dfn_of X G e_put
  have F_drop : Dfn K mg "drop" s_drop := dfn_of X G e_drop
  have F_move : Dfn K mg "move" s_move := dfn_of X G e_move
  have F_more : Dfn K mg "more" s_more := dfn_of X G e_more
  have F_leg : Dfn K mg "leg" s_leg := dfn_of X G e_leg
  have F_unleg : Dfn K mg "unleg" s_unleg := dfn_of X G e_unleg
  have F_change : Dfn K mg "change" s_change := dfn_of X G e_change
  have F_back : Dfn K mg "back" s_back := dfn_of X G e_back
  have F_state : Dfn K mg "state" s_state := dfn_of X G e_state
  have F_leader : Dfn K mg "leader" s_leader := dfn_of X G e_leader
  have F_heard : Dfn K mg "heard" s_heard := dfn_of X G e_heard
  have F_events : Dfn K mg "events" s_events := dfn_of X G e_events
  have F_factor : Dfn K mg "factor" s_factor := dfn_of X G e_factor
  have F_speed : Dfn K mg "speed" s_speed := dfn_of X G e_speed
  have F_tells : Dfn K mg "tells" s_tells := dfn_of X G e_tells
  have F_both_there : Dfn K mg "both_there" s_both_there := dfn_of X G e_both_there
  have F_between : Dfn K mg "between" s_between := dfn_of X G e_between
  have F_apart : Dfn K mg "apart" s_apart := dfn_of X G e_apart
  have F_square : Dfn K mg "square" s_square := dfn_of X G e_square
  have F_sooner : Dfn K mg "sooner" s_sooner := dfn_of X G e_sooner
  have F_ever : Dfn K mg "ever" s_ever := dfn_of X G e_ever
  have F_sameat : Dfn K mg "sameat" s_sameat := dfn_of X G e_sameat
  have F_faster : Dfn K mg "faster" s_faster := dfn_of X G e_faster
  have F_gone_on : Dfn K mg "gone_on" s_gone_on := dfn_of X G e_gone_on
  have F_shown_over : Dfn K mg "shown_over" s_shown_over := dfn_of X G e_shown_over
  have F_way : Dfn K mg "way" s_way := dfn_of X G e_way
  have F_end : Dfn K mg "end" s_end := dfn_of X G e_end
  have F_shows : Dfn K mg "shows" s_shows := dfn_of X G e_shows
  have F_straight : Dfn K mg "straight" s_straight := dfn_of X G e_straight
  have F_heard_at_ends : Dfn K mg "heard_at_ends" s_heard_at_ends := dfn_of X G e_heard_at_ends
  have F_older : Dfn K mg "older" s_older := dfn_of X G e_older
  have F_meet : Dfn K mg "meet" s_meet := dfn_of X G e_meet
  have F_answer_of : Dfn K mg "answer_of" s_answer_of := dfn_of X G e_answer_of
  have M_init := mdf_of m_init
  have M_has_event := mdf_of m_has_event
  have M_has_way := mdf_of m_has_way
  have M_all_held := mdf_of m_all_held
  have M_remember := mdf_of m_remember
  have M_take_back := mdf_of m_take_back
  have I_GREATEST_GIVEN := gi_of X G i_GREATEST_GIVEN
  have I_NO_SUCH := gi_of X G i_NO_SUCH
  have I_NO_CHANGE := gi_of X G i_NO_CHANGE
  have I_NO_LEG := gi_of X G i_NO_LEG
  have I_NOT_BEGUN := gi_of X G i_NOT_BEGUN
  have I_OUT_OF_RANGE := gi_of X G i_OUT_OF_RANGE
  have I_TOO_MANY := gi_of X G i_TOO_MANY
  have I_THERE_IS_NONE := gi_of X G i_THERE_IS_NONE
  have I_TOO_GREAT := gi_of X G i_TOO_GREAT
  have I_FARTHEST := gi_of X G i_FARTHEST
  have I_MOST_EVENTS := gi_of X G i_MOST_EVENTS
  have I_GREATEST_PART := gi_of X G i_GREATEST_PART
  have I_MOST_LEGS := gi_of X G i_MOST_LEGS
  have I_MOST_SHOWN := gi_of X G i_MOST_SHOWN
  have I_SAME := gi_of X G i_SAME
  have I_AT_SECOND := gi_of X G i_AT_SECOND
  have I_AT_FIRST := gi_of X G i_AT_FIRST
  have I_AT_NEITHER := gi_of X G i_AT_NEITHER
  have I_MOST_TAKEN_BACK := gi_of X G i_MOST_TAKEN_BACK
  have I_BEGIN := gi_of X G i_BEGIN
  have T_EVER := gt_of X G t_EVER (by decide)
  have T_ARGUMENTS := gt_of X G t_ARGUMENTS (by decide)
  have c_common := ok_common (P := P) (w := w) (base := base) F_common
  have c_lowest := ok_lowest F_lowest (PySem.W.mg_none_of X G b_abs) c_common
  have c_plus := ok_plus F_plus c_lowest
  have c_minus := ok_minus F_minus c_plus
  have c_times := ok_times F_times c_lowest
  have c_half := ok_half F_half c_lowest
  have c_is_factor := ok_is_factor (P := P) (w := w) (base := base) F_is_factor I_GREATEST_GIVEN
  have c_speed_of := ok_speed_of F_speed_of c_lowest
  have c_told := ok_told F_told c_lowest
  have c_is_near := ok_is_near (P := P) (w := w) (base := base) F_is_near I_FARTHEST
  have c_leader := ok_leader (P := P) (w := w) (base := base) F_leader
  have c_heard := ok_heard (P := P) (w := w) (base := base) F_heard I_SAME I_AT_SECOND I_AT_FIRST I_AT_NEITHER
  have m_hasE := ok_hasE (P := P) (w := w) (base := base) M_has_event T
  have m_hasW := ok_hasW (P := P) (w := w) (base := base) M_has_way T
  have m_all := ok_all (P := P) (w := w) (base := base) M_all_held T
  have m_rem := ok_rem (P := P) (w := w) (base := base) M_remember T I_MOST_TAKEN_BACK
  have m_take := ok_take (P := P) (w := w) (base := base) M_take_back T
  have m_ini := ok_init (P := P) (w := w) (base := base) M_init T
  have c_put := ok_put F_put T I_OUT_OF_RANGE I_TOO_MANY I_MOST_EVENTS c_is_near
  have c_drop := ok_drop F_drop T I_NO_SUCH m_hasE
  have c_move := ok_move F_move T I_OUT_OF_RANGE c_is_factor c_lowest
  have c_more := ok_more F_more T I_OUT_OF_RANGE I_TOO_GREAT I_GREATEST_PART c_is_factor c_times
  have c_leg := ok_leg F_leg T I_NO_SUCH I_OUT_OF_RANGE I_TOO_MANY I_MOST_LEGS I_MOST_SHOWN m_hasW c_is_factor c_lowest
  have c_unleg := ok_unleg F_unleg T I_NO_SUCH I_NO_LEG m_hasW
  have c_both := ok_both F_both_there T m_hasE
  have c_betw := ok_betw (P := P) (w := w) (base := base) F_between T
  have c_events := ok_events (P := P) (w := w) (base := base) F_events T
  have c_factor := ok_factor (P := P) (w := w) (base := base) F_factor T
  have c_speed := ok_speed F_speed T c_speed_of
  have c_tells := ok_tells F_tells T I_NO_SUCH m_hasE c_told
  have c_apart := ok_apart F_apart T I_NO_SUCH c_both c_betw c_told
  have c_square := ok_square F_square T I_NO_SUCH c_both c_betw
  have c_sooner := ok_sooner F_sooner T I_NO_SUCH c_both c_betw c_told c_leader
  have c_ever := ok_ever F_ever T I_NO_SUCH c_both c_betw c_heard T_EVER
  have c_sameat := ok_sameat F_sameat T I_NO_SUCH I_OUT_OF_RANGE c_both c_betw c_is_factor c_told
  have c_faster := ok_faster F_faster T I_OUT_OF_RANGE c_is_factor c_lowest c_times c_speed_of
  have c_gone := ok_gone F_gone_on c_lowest c_plus
  have c_shown := ok_shown (P := P) (w := w) (base := base) F_shown_over (PySem.W.mg_none_of X G b_sum)
  have c_way := ok_way F_way T I_NO_SUCH m_hasW
  have c_end := ok_end F_end T I_NO_SUCH m_hasW c_gone c_plus c_minus c_half
  have c_shows := ok_shows F_shows T I_NO_SUCH m_hasW c_shown
  have c_straight := ok_straight F_straight T I_NO_SUCH m_hasW c_gone c_times
  have c_ends := ok_ends F_heard_at_ends T c_gone c_minus c_heard
  have c_meet := ok_meet F_meet T c_ends
  have c_older := ok_older F_older T I_SAME I_THERE_IS_NONE c_ends c_shown c_leader
  have T_CH := tab_CHANGES (P := P) (w := w) (base := base) (C := C) X G k_CHANGES (heldf_of c_put (PySem.W.mg_of X G e_put.1) (by decide)) (heldf_of c_drop (PySem.W.mg_of X G e_drop.1) (by decide)) (heldf_of c_move (PySem.W.mg_of X G e_move.1) (by decide)) (heldf_of c_more (PySem.W.mg_of X G e_more.1) (by decide)) (heldf_of c_leg (PySem.W.mg_of X G e_leg.1) (by decide)) (heldf_of c_unleg (PySem.W.mg_of X G e_unleg.1) (by decide))
  have T_LO := tab_LOOKS (P := P) (w := w) (base := base) (C := C) X G k_LOOKS (heldf_of c_events (PySem.W.mg_of X G e_events.1) (by decide)) (heldf_of c_factor (PySem.W.mg_of X G e_factor.1) (by decide)) (heldf_of c_speed (PySem.W.mg_of X G e_speed.1) (by decide)) (heldf_of c_tells (PySem.W.mg_of X G e_tells.1) (by decide)) (heldf_of c_apart (PySem.W.mg_of X G e_apart.1) (by decide)) (heldf_of c_square (PySem.W.mg_of X G e_square.1) (by decide)) (heldf_of c_sooner (PySem.W.mg_of X G e_sooner.1) (by decide)) (heldf_of c_ever (PySem.W.mg_of X G e_ever.1) (by decide)) (heldf_of c_sameat (PySem.W.mg_of X G e_sameat.1) (by decide)) (heldf_of c_faster (PySem.W.mg_of X G e_faster.1) (by decide))
  have T_WA := tab_WAYS (P := P) (w := w) (base := base) (C := C) X G k_WAYS (heldf_of c_way (PySem.W.mg_of X G e_way.1) (by decide)) (heldf_of c_end (PySem.W.mg_of X G e_end.1) (by decide)) (heldf_of c_shows (PySem.W.mg_of X G e_shows.1) (by decide)) (heldf_of c_straight (PySem.W.mg_of X G e_straight.1) (by decide)) (heldf_of c_older (PySem.W.mg_of X G e_older.1) (by decide)) (heldf_of c_meet (PySem.W.mg_of X G e_meet.1) (by decide))
  have c_change := ok_change F_change T m_all m_rem T_CH
  have c_back := ok_back F_back T I_NO_CHANGE m_take
  have c_state := ok_state (P := P) (w := w) (base := base) F_state T
  have T_HI := tab_HISTORY (P := P) (w := w) (base := base) (C := C) X G k_HISTORY (heldf_of c_back (PySem.W.mg_of X G e_back.1) (by decide)) (heldf_of c_state (PySem.W.mg_of X G e_state.1) (by decide))
  have c_one := ok_answer_of F_answer_of I_NOT_BEGUN I_BEGIN T_CH T_LO T_WA T_HI c_change
  obtain ⟨fi, fdi, psi, Gi, mi, bi⟩ := m_ini
  exact ok_answers (fun_mk lA cA kA) T I_BEGIN T_ARGUMENTS (PySem.W.mg_of X G aC) ⟨mk, mi.at_, mi.fn, kc⟩ Gi bi c_one

theorem all_raw {P : Program} {w : World} {K : PySem.W.Frag} {h : Heap} {mg : Str → Option Value} {fa C : Addr} (X : K.In h) (G : h.Ns mainGlobals mg) (hfa : mg "answers" = some (.ref fa))
    {f_common f_lowest f_plus f_minus f_times f_half f_is_factor f_speed_of f_told f_is_near f_put f_drop f_move f_more f_leg f_unleg f_change f_back f_state f_leader f_heard f_events f_factor f_speed f_tells f_both_there f_between f_apart f_square f_sooner f_ever f_sameat f_faster f_gone_on f_shown_over f_way f_end f_shows f_straight f_heard_at_ends f_older f_meet f_answer_of f_answers g_init g_has_event g_has_way g_all_held g_remember g_take_back d_CHANGES d_LOOKS d_WAYS d_HISTORY : Addr}
    {oc_common kV_common dc_common pm_common cd_common ct_common : Value} {od_common an_common : Option Addr} {sl_common : Array (Option Value)}
    {oc_lowest kV_lowest dc_lowest pm_lowest cd_lowest ct_lowest : Value} {od_lowest an_lowest : Option Addr} {sl_lowest : Array (Option Value)}
    {oc_plus kV_plus dc_plus pm_plus cd_plus ct_plus : Value} {od_plus an_plus : Option Addr} {sl_plus : Array (Option Value)}
    {oc_minus kV_minus dc_minus pm_minus cd_minus ct_minus : Value} {od_minus an_minus : Option Addr} {sl_minus : Array (Option Value)}
    {oc_times kV_times dc_times pm_times cd_times ct_times : Value} {od_times an_times : Option Addr} {sl_times : Array (Option Value)}
    {oc_half kV_half dc_half pm_half cd_half ct_half : Value} {od_half an_half : Option Addr} {sl_half : Array (Option Value)}
    {oc_is_factor kV_is_factor dc_is_factor pm_is_factor cd_is_factor ct_is_factor : Value} {od_is_factor an_is_factor : Option Addr} {sl_is_factor : Array (Option Value)}
    {oc_speed_of kV_speed_of dc_speed_of pm_speed_of cd_speed_of ct_speed_of : Value} {od_speed_of an_speed_of : Option Addr} {sl_speed_of : Array (Option Value)}
    {oc_told kV_told dc_told pm_told cd_told ct_told : Value} {od_told an_told : Option Addr} {sl_told : Array (Option Value)}
    {oc_is_near kV_is_near dc_is_near pm_is_near cd_is_near ct_is_near : Value} {od_is_near an_is_near : Option Addr} {sl_is_near : Array (Option Value)}
    {oc_put kV_put dc_put pm_put cd_put ct_put : Value} {od_put an_put : Option Addr} {sl_put : Array (Option Value)}
    {oc_drop kV_drop dc_drop pm_drop cd_drop ct_drop : Value} {od_drop an_drop : Option Addr} {sl_drop : Array (Option Value)}
    {oc_move kV_move dc_move pm_move cd_move ct_move : Value} {od_move an_move : Option Addr} {sl_move : Array (Option Value)}
    {oc_more kV_more dc_more pm_more cd_more ct_more : Value} {od_more an_more : Option Addr} {sl_more : Array (Option Value)}
    {oc_leg kV_leg dc_leg pm_leg cd_leg ct_leg : Value} {od_leg an_leg : Option Addr} {sl_leg : Array (Option Value)}
    {oc_unleg kV_unleg dc_unleg pm_unleg cd_unleg ct_unleg : Value} {od_unleg an_unleg : Option Addr} {sl_unleg : Array (Option Value)}
    {oc_change kV_change dc_change pm_change cd_change ct_change : Value} {od_change an_change : Option Addr} {sl_change : Array (Option Value)}
    {oc_back kV_back dc_back pm_back cd_back ct_back : Value} {od_back an_back : Option Addr} {sl_back : Array (Option Value)}
    {oc_state kV_state dc_state pm_state cd_state ct_state : Value} {od_state an_state : Option Addr} {sl_state : Array (Option Value)}
    {oc_leader kV_leader dc_leader pm_leader cd_leader ct_leader : Value} {od_leader an_leader : Option Addr} {sl_leader : Array (Option Value)}
    {oc_heard kV_heard dc_heard pm_heard cd_heard ct_heard : Value} {od_heard an_heard : Option Addr} {sl_heard : Array (Option Value)}
    {oc_events kV_events dc_events pm_events cd_events ct_events : Value} {od_events an_events : Option Addr} {sl_events : Array (Option Value)}
    {oc_factor kV_factor dc_factor pm_factor cd_factor ct_factor : Value} {od_factor an_factor : Option Addr} {sl_factor : Array (Option Value)}
    {oc_speed kV_speed dc_speed pm_speed cd_speed ct_speed : Value} {od_speed an_speed : Option Addr} {sl_speed : Array (Option Value)}
    {oc_tells kV_tells dc_tells pm_tells cd_tells ct_tells : Value} {od_tells an_tells : Option Addr} {sl_tells : Array (Option Value)}
    {oc_both_there kV_both_there dc_both_there pm_both_there cd_both_there ct_both_there : Value} {od_both_there an_both_there : Option Addr} {sl_both_there : Array (Option Value)}
    {oc_between kV_between dc_between pm_between cd_between ct_between : Value} {od_between an_between : Option Addr} {sl_between : Array (Option Value)}
    {oc_apart kV_apart dc_apart pm_apart cd_apart ct_apart : Value} {od_apart an_apart : Option Addr} {sl_apart : Array (Option Value)}
    {oc_square kV_square dc_square pm_square cd_square ct_square : Value} {od_square an_square : Option Addr} {sl_square : Array (Option Value)}
    {oc_sooner kV_sooner dc_sooner pm_sooner cd_sooner ct_sooner : Value} {od_sooner an_sooner : Option Addr} {sl_sooner : Array (Option Value)}
    {oc_ever kV_ever dc_ever pm_ever cd_ever ct_ever : Value} {od_ever an_ever : Option Addr} {sl_ever : Array (Option Value)}
    {oc_sameat kV_sameat dc_sameat pm_sameat cd_sameat ct_sameat : Value} {od_sameat an_sameat : Option Addr} {sl_sameat : Array (Option Value)}
    {oc_faster kV_faster dc_faster pm_faster cd_faster ct_faster : Value} {od_faster an_faster : Option Addr} {sl_faster : Array (Option Value)}
    {oc_gone_on kV_gone_on dc_gone_on pm_gone_on cd_gone_on ct_gone_on : Value} {od_gone_on an_gone_on : Option Addr} {sl_gone_on : Array (Option Value)}
    {oc_shown_over kV_shown_over dc_shown_over pm_shown_over cd_shown_over ct_shown_over : Value} {od_shown_over an_shown_over : Option Addr} {sl_shown_over : Array (Option Value)}
    {oc_way kV_way dc_way pm_way cd_way ct_way : Value} {od_way an_way : Option Addr} {sl_way : Array (Option Value)}
    {oc_end kV_end dc_end pm_end cd_end ct_end : Value} {od_end an_end : Option Addr} {sl_end : Array (Option Value)}
    {oc_shows kV_shows dc_shows pm_shows cd_shows ct_shows : Value} {od_shows an_shows : Option Addr} {sl_shows : Array (Option Value)}
    {oc_straight kV_straight dc_straight pm_straight cd_straight ct_straight : Value} {od_straight an_straight : Option Addr} {sl_straight : Array (Option Value)}
    {oc_heard_at_ends kV_heard_at_ends dc_heard_at_ends pm_heard_at_ends cd_heard_at_ends ct_heard_at_ends : Value} {od_heard_at_ends an_heard_at_ends : Option Addr} {sl_heard_at_ends : Array (Option Value)}
    {oc_older kV_older dc_older pm_older cd_older ct_older : Value} {od_older an_older : Option Addr} {sl_older : Array (Option Value)}
    {oc_meet kV_meet dc_meet pm_meet cd_meet ct_meet : Value} {od_meet an_meet : Option Addr} {sl_meet : Array (Option Value)}
    {oc_answer_of kV_answer_of dc_answer_of pm_answer_of cd_answer_of ct_answer_of : Value} {od_answer_of an_answer_of : Option Addr} {sl_answer_of : Array (Option Value)}
    {oc_answers kV_answers dc_answers pm_answers cd_answers ct_answers : Value} {od_answers an_answers : Option Addr} {sl_answers : Array (Option Value)}
    {oc_minit kV_minit dc_minit pm_minit cd_minit ct_minit : Value} {od_minit an_minit : Option Addr} {sl_minit : Array (Option Value)}
    {oc_mhas_event kV_mhas_event dc_mhas_event pm_mhas_event cd_mhas_event ct_mhas_event : Value} {od_mhas_event an_mhas_event : Option Addr} {sl_mhas_event : Array (Option Value)}
    {oc_mhas_way kV_mhas_way dc_mhas_way pm_mhas_way cd_mhas_way ct_mhas_way : Value} {od_mhas_way an_mhas_way : Option Addr} {sl_mhas_way : Array (Option Value)}
    {oc_mall_held kV_mall_held dc_mall_held pm_mall_held cd_mall_held ct_mall_held : Value} {od_mall_held an_mall_held : Option Addr} {sl_mall_held : Array (Option Value)}
    {oc_mremember kV_mremember dc_mremember pm_mremember cd_mremember ct_mremember : Value} {od_mremember an_mremember : Option Addr} {sl_mremember : Array (Option Value)}
    {oc_mtake_back kV_mtake_back dc_mtake_back pm_mtake_back cd_mtake_back ct_mtake_back : Value} {od_mtake_back an_mtake_back : Option Addr} {sl_mtake_back : Array (Option Value)}
    {n_GREATEST_GIVEN : Int} {t_GREATEST_GIVEN : Tok}
    {n_NO_SUCH : Int} {t_NO_SUCH : Tok}
    {n_NO_CHANGE : Int} {t_NO_CHANGE : Tok}
    {n_NO_LEG : Int} {t_NO_LEG : Tok}
    {n_NOT_BEGUN : Int} {t_NOT_BEGUN : Tok}
    {n_OUT_OF_RANGE : Int} {t_OUT_OF_RANGE : Tok}
    {n_TOO_MANY : Int} {t_TOO_MANY : Tok}
    {n_THERE_IS_NONE : Int} {t_THERE_IS_NONE : Tok}
    {n_TOO_GREAT : Int} {t_TOO_GREAT : Tok}
    {n_FARTHEST : Int} {t_FARTHEST : Tok}
    {n_MOST_EVENTS : Int} {t_MOST_EVENTS : Tok}
    {n_GREATEST_PART : Int} {t_GREATEST_PART : Tok}
    {n_MOST_LEGS : Int} {t_MOST_LEGS : Tok}
    {n_MOST_SHOWN : Int} {t_MOST_SHOWN : Tok}
    {n_SAME : Int} {t_SAME : Tok}
    {n_AT_SECOND : Int} {t_AT_SECOND : Tok}
    {n_AT_FIRST : Int} {t_AT_FIRST : Tok}
    {n_AT_NEITHER : Int} {t_AT_NEITHER : Tok}
    {n_MOST_TAKEN_BACK : Int} {t_MOST_TAKEN_BACK : Tok}
    {n_BEGIN : Int} {t_BEGIN : Tok}
    {ta_EVER : Addr} {to_EVER : Option Addr} {ti_EVER : Array Value} {tn_EVER : Nat} {ts_EVER : Array (Option Value)}
    {ta_ARGUMENTS : Addr} {to_ARGUMENTS : Option Addr} {ti_ARGUMENTS : Array Value} {tn_ARGUMENTS : Nat} {ts_ARGUMENTS : Array (Option Value)}
    {de_CHANGES : Array DictEntry} {dn_CHANGES : Nat}
    {de_LOOKS : Array DictEntry} {dn_LOOKS : Nat}
    {de_WAYS : Array DictEntry} {dn_WAYS : Nat}
    {de_HISTORY : Array DictEntry} {dn_HISTORY : Nat}
    (a_common : PySem.W.nsIn K mainGlobals "common" = some (some (.ref f_common)))
    (l_common : K.lookup f_common = some ⟨oc_common, od_common, .func (PySem.W.fnOf "common" "common" (defArgs s_common) (defBody s_common) (defScope s_common) .none kV_common dc_common pm_common an_common cd_common ct_common), sl_common⟩)
    (c_common : PySem.W.codeIn K cd_common "common" = true)
    (v_common : PySem.W.keepIn K (.ref f_common) = true)
    (a_lowest : PySem.W.nsIn K mainGlobals "lowest" = some (some (.ref f_lowest)))
    (l_lowest : K.lookup f_lowest = some ⟨oc_lowest, od_lowest, .func (PySem.W.fnOf "lowest" "lowest" (defArgs s_lowest) (defBody s_lowest) (defScope s_lowest) .none kV_lowest dc_lowest pm_lowest an_lowest cd_lowest ct_lowest), sl_lowest⟩)
    (c_lowest : PySem.W.codeIn K cd_lowest "lowest" = true)
    (v_lowest : PySem.W.keepIn K (.ref f_lowest) = true)
    (a_plus : PySem.W.nsIn K mainGlobals "plus" = some (some (.ref f_plus)))
    (l_plus : K.lookup f_plus = some ⟨oc_plus, od_plus, .func (PySem.W.fnOf "plus" "plus" (defArgs s_plus) (defBody s_plus) (defScope s_plus) .none kV_plus dc_plus pm_plus an_plus cd_plus ct_plus), sl_plus⟩)
    (c_plus : PySem.W.codeIn K cd_plus "plus" = true)
    (v_plus : PySem.W.keepIn K (.ref f_plus) = true)
    (a_minus : PySem.W.nsIn K mainGlobals "minus" = some (some (.ref f_minus)))
    (l_minus : K.lookup f_minus = some ⟨oc_minus, od_minus, .func (PySem.W.fnOf "minus" "minus" (defArgs s_minus) (defBody s_minus) (defScope s_minus) .none kV_minus dc_minus pm_minus an_minus cd_minus ct_minus), sl_minus⟩)
    (c_minus : PySem.W.codeIn K cd_minus "minus" = true)
    (v_minus : PySem.W.keepIn K (.ref f_minus) = true)
    (a_times : PySem.W.nsIn K mainGlobals "times" = some (some (.ref f_times)))
    (l_times : K.lookup f_times = some ⟨oc_times, od_times, .func (PySem.W.fnOf "times" "times" (defArgs s_times) (defBody s_times) (defScope s_times) .none kV_times dc_times pm_times an_times cd_times ct_times), sl_times⟩)
    (c_times : PySem.W.codeIn K cd_times "times" = true)
    (v_times : PySem.W.keepIn K (.ref f_times) = true)
    (a_half : PySem.W.nsIn K mainGlobals "half" = some (some (.ref f_half)))
    (l_half : K.lookup f_half = some ⟨oc_half, od_half, .func (PySem.W.fnOf "half" "half" (defArgs s_half) (defBody s_half) (defScope s_half) .none kV_half dc_half pm_half an_half cd_half ct_half), sl_half⟩)
    (c_half : PySem.W.codeIn K cd_half "half" = true)
    (v_half : PySem.W.keepIn K (.ref f_half) = true)
    (a_is_factor : PySem.W.nsIn K mainGlobals "is_factor" = some (some (.ref f_is_factor)))
    (l_is_factor : K.lookup f_is_factor = some ⟨oc_is_factor, od_is_factor, .func (PySem.W.fnOf "is_factor" "is_factor" (defArgs s_is_factor) (defBody s_is_factor) (defScope s_is_factor) .none kV_is_factor dc_is_factor pm_is_factor an_is_factor cd_is_factor ct_is_factor), sl_is_factor⟩)
    (c_is_factor : PySem.W.codeIn K cd_is_factor "is_factor" = true)
    (v_is_factor : PySem.W.keepIn K (.ref f_is_factor) = true)
    (a_speed_of : PySem.W.nsIn K mainGlobals "speed_of" = some (some (.ref f_speed_of)))
    (l_speed_of : K.lookup f_speed_of = some ⟨oc_speed_of, od_speed_of, .func (PySem.W.fnOf "speed_of" "speed_of" (defArgs s_speed_of) (defBody s_speed_of) (defScope s_speed_of) .none kV_speed_of dc_speed_of pm_speed_of an_speed_of cd_speed_of ct_speed_of), sl_speed_of⟩)
    (c_speed_of : PySem.W.codeIn K cd_speed_of "speed_of" = true)
    (v_speed_of : PySem.W.keepIn K (.ref f_speed_of) = true)
    (a_told : PySem.W.nsIn K mainGlobals "told" = some (some (.ref f_told)))
    (l_told : K.lookup f_told = some ⟨oc_told, od_told, .func (PySem.W.fnOf "told" "told" (defArgs s_told) (defBody s_told) (defScope s_told) .none kV_told dc_told pm_told an_told cd_told ct_told), sl_told⟩)
    (c_told : PySem.W.codeIn K cd_told "told" = true)
    (v_told : PySem.W.keepIn K (.ref f_told) = true)
    (a_is_near : PySem.W.nsIn K mainGlobals "is_near" = some (some (.ref f_is_near)))
    (l_is_near : K.lookup f_is_near = some ⟨oc_is_near, od_is_near, .func (PySem.W.fnOf "is_near" "is_near" (defArgs s_is_near) (defBody s_is_near) (defScope s_is_near) .none kV_is_near dc_is_near pm_is_near an_is_near cd_is_near ct_is_near), sl_is_near⟩)
    (c_is_near : PySem.W.codeIn K cd_is_near "is_near" = true)
    (v_is_near : PySem.W.keepIn K (.ref f_is_near) = true)
    (a_put : PySem.W.nsIn K mainGlobals "put" = some (some (.ref f_put)))
    (l_put : K.lookup f_put = some ⟨oc_put, od_put, .func (PySem.W.fnOf "put" "put" (defArgs s_put) (defBody s_put) (defScope s_put) .none kV_put dc_put pm_put an_put cd_put ct_put), sl_put⟩)
    (c_put : PySem.W.codeIn K cd_put "put" = true)
    (v_put : PySem.W.keepIn K (.ref f_put) = true)
    (a_drop : PySem.W.nsIn K mainGlobals "drop" = some (some (.ref f_drop)))
    (l_drop : K.lookup f_drop = some ⟨oc_drop, od_drop, .func (PySem.W.fnOf "drop" "drop" (defArgs s_drop) (defBody s_drop) (defScope s_drop) .none kV_drop dc_drop pm_drop an_drop cd_drop ct_drop), sl_drop⟩)
    (c_drop : PySem.W.codeIn K cd_drop "drop" = true)
    (v_drop : PySem.W.keepIn K (.ref f_drop) = true)
    (a_move : PySem.W.nsIn K mainGlobals "move" = some (some (.ref f_move)))
    (l_move : K.lookup f_move = some ⟨oc_move, od_move, .func (PySem.W.fnOf "move" "move" (defArgs s_move) (defBody s_move) (defScope s_move) .none kV_move dc_move pm_move an_move cd_move ct_move), sl_move⟩)
    (c_move : PySem.W.codeIn K cd_move "move" = true)
    (v_move : PySem.W.keepIn K (.ref f_move) = true)
    (a_more : PySem.W.nsIn K mainGlobals "more" = some (some (.ref f_more)))
    (l_more : K.lookup f_more = some ⟨oc_more, od_more, .func (PySem.W.fnOf "more" "more" (defArgs s_more) (defBody s_more) (defScope s_more) .none kV_more dc_more pm_more an_more cd_more ct_more), sl_more⟩)
    (c_more : PySem.W.codeIn K cd_more "more" = true)
    (v_more : PySem.W.keepIn K (.ref f_more) = true)
    (a_leg : PySem.W.nsIn K mainGlobals "leg" = some (some (.ref f_leg)))
    (l_leg : K.lookup f_leg = some ⟨oc_leg, od_leg, .func (PySem.W.fnOf "leg" "leg" (defArgs s_leg) (defBody s_leg) (defScope s_leg) .none kV_leg dc_leg pm_leg an_leg cd_leg ct_leg), sl_leg⟩)
    (c_leg : PySem.W.codeIn K cd_leg "leg" = true)
    (v_leg : PySem.W.keepIn K (.ref f_leg) = true)
    (a_unleg : PySem.W.nsIn K mainGlobals "unleg" = some (some (.ref f_unleg)))
    (l_unleg : K.lookup f_unleg = some ⟨oc_unleg, od_unleg, .func (PySem.W.fnOf "unleg" "unleg" (defArgs s_unleg) (defBody s_unleg) (defScope s_unleg) .none kV_unleg dc_unleg pm_unleg an_unleg cd_unleg ct_unleg), sl_unleg⟩)
    (c_unleg : PySem.W.codeIn K cd_unleg "unleg" = true)
    (v_unleg : PySem.W.keepIn K (.ref f_unleg) = true)
    (a_change : PySem.W.nsIn K mainGlobals "change" = some (some (.ref f_change)))
    (l_change : K.lookup f_change = some ⟨oc_change, od_change, .func (PySem.W.fnOf "change" "change" (defArgs s_change) (defBody s_change) (defScope s_change) .none kV_change dc_change pm_change an_change cd_change ct_change), sl_change⟩)
    (c_change : PySem.W.codeIn K cd_change "change" = true)
    (v_change : PySem.W.keepIn K (.ref f_change) = true)
    (a_back : PySem.W.nsIn K mainGlobals "back" = some (some (.ref f_back)))
    (l_back : K.lookup f_back = some ⟨oc_back, od_back, .func (PySem.W.fnOf "back" "back" (defArgs s_back) (defBody s_back) (defScope s_back) .none kV_back dc_back pm_back an_back cd_back ct_back), sl_back⟩)
    (c_back : PySem.W.codeIn K cd_back "back" = true)
    (v_back : PySem.W.keepIn K (.ref f_back) = true)
    (a_state : PySem.W.nsIn K mainGlobals "state" = some (some (.ref f_state)))
    (l_state : K.lookup f_state = some ⟨oc_state, od_state, .func (PySem.W.fnOf "state" "state" (defArgs s_state) (defBody s_state) (defScope s_state) .none kV_state dc_state pm_state an_state cd_state ct_state), sl_state⟩)
    (c_state : PySem.W.codeIn K cd_state "state" = true)
    (v_state : PySem.W.keepIn K (.ref f_state) = true)
    (a_leader : PySem.W.nsIn K mainGlobals "leader" = some (some (.ref f_leader)))
    (l_leader : K.lookup f_leader = some ⟨oc_leader, od_leader, .func (PySem.W.fnOf "leader" "leader" (defArgs s_leader) (defBody s_leader) (defScope s_leader) .none kV_leader dc_leader pm_leader an_leader cd_leader ct_leader), sl_leader⟩)
    (c_leader : PySem.W.codeIn K cd_leader "leader" = true)
    (v_leader : PySem.W.keepIn K (.ref f_leader) = true)
    (a_heard : PySem.W.nsIn K mainGlobals "heard" = some (some (.ref f_heard)))
    (l_heard : K.lookup f_heard = some ⟨oc_heard, od_heard, .func (PySem.W.fnOf "heard" "heard" (defArgs s_heard) (defBody s_heard) (defScope s_heard) .none kV_heard dc_heard pm_heard an_heard cd_heard ct_heard), sl_heard⟩)
    (c_heard : PySem.W.codeIn K cd_heard "heard" = true)
    (v_heard : PySem.W.keepIn K (.ref f_heard) = true)
    (a_events : PySem.W.nsIn K mainGlobals "events" = some (some (.ref f_events)))
    (l_events : K.lookup f_events = some ⟨oc_events, od_events, .func (PySem.W.fnOf "events" "events" (defArgs s_events) (defBody s_events) (defScope s_events) .none kV_events dc_events pm_events an_events cd_events ct_events), sl_events⟩)
    (c_events : PySem.W.codeIn K cd_events "events" = true)
    (v_events : PySem.W.keepIn K (.ref f_events) = true)
    (a_factor : PySem.W.nsIn K mainGlobals "factor" = some (some (.ref f_factor)))
    (l_factor : K.lookup f_factor = some ⟨oc_factor, od_factor, .func (PySem.W.fnOf "factor" "factor" (defArgs s_factor) (defBody s_factor) (defScope s_factor) .none kV_factor dc_factor pm_factor an_factor cd_factor ct_factor), sl_factor⟩)
    (c_factor : PySem.W.codeIn K cd_factor "factor" = true)
    (v_factor : PySem.W.keepIn K (.ref f_factor) = true)
    (a_speed : PySem.W.nsIn K mainGlobals "speed" = some (some (.ref f_speed)))
    (l_speed : K.lookup f_speed = some ⟨oc_speed, od_speed, .func (PySem.W.fnOf "speed" "speed" (defArgs s_speed) (defBody s_speed) (defScope s_speed) .none kV_speed dc_speed pm_speed an_speed cd_speed ct_speed), sl_speed⟩)
    (c_speed : PySem.W.codeIn K cd_speed "speed" = true)
    (v_speed : PySem.W.keepIn K (.ref f_speed) = true)
    (a_tells : PySem.W.nsIn K mainGlobals "tells" = some (some (.ref f_tells)))
    (l_tells : K.lookup f_tells = some ⟨oc_tells, od_tells, .func (PySem.W.fnOf "tells" "tells" (defArgs s_tells) (defBody s_tells) (defScope s_tells) .none kV_tells dc_tells pm_tells an_tells cd_tells ct_tells), sl_tells⟩)
    (c_tells : PySem.W.codeIn K cd_tells "tells" = true)
    (v_tells : PySem.W.keepIn K (.ref f_tells) = true)
    (a_both_there : PySem.W.nsIn K mainGlobals "both_there" = some (some (.ref f_both_there)))
    (l_both_there : K.lookup f_both_there = some ⟨oc_both_there, od_both_there, .func (PySem.W.fnOf "both_there" "both_there" (defArgs s_both_there) (defBody s_both_there) (defScope s_both_there) .none kV_both_there dc_both_there pm_both_there an_both_there cd_both_there ct_both_there), sl_both_there⟩)
    (c_both_there : PySem.W.codeIn K cd_both_there "both_there" = true)
    (v_both_there : PySem.W.keepIn K (.ref f_both_there) = true)
    (a_between : PySem.W.nsIn K mainGlobals "between" = some (some (.ref f_between)))
    (l_between : K.lookup f_between = some ⟨oc_between, od_between, .func (PySem.W.fnOf "between" "between" (defArgs s_between) (defBody s_between) (defScope s_between) .none kV_between dc_between pm_between an_between cd_between ct_between), sl_between⟩)
    (c_between : PySem.W.codeIn K cd_between "between" = true)
    (v_between : PySem.W.keepIn K (.ref f_between) = true)
    (a_apart : PySem.W.nsIn K mainGlobals "apart" = some (some (.ref f_apart)))
    (l_apart : K.lookup f_apart = some ⟨oc_apart, od_apart, .func (PySem.W.fnOf "apart" "apart" (defArgs s_apart) (defBody s_apart) (defScope s_apart) .none kV_apart dc_apart pm_apart an_apart cd_apart ct_apart), sl_apart⟩)
    (c_apart : PySem.W.codeIn K cd_apart "apart" = true)
    (v_apart : PySem.W.keepIn K (.ref f_apart) = true)
    (a_square : PySem.W.nsIn K mainGlobals "square" = some (some (.ref f_square)))
    (l_square : K.lookup f_square = some ⟨oc_square, od_square, .func (PySem.W.fnOf "square" "square" (defArgs s_square) (defBody s_square) (defScope s_square) .none kV_square dc_square pm_square an_square cd_square ct_square), sl_square⟩)
    (c_square : PySem.W.codeIn K cd_square "square" = true)
    (v_square : PySem.W.keepIn K (.ref f_square) = true)
    (a_sooner : PySem.W.nsIn K mainGlobals "sooner" = some (some (.ref f_sooner)))
    (l_sooner : K.lookup f_sooner = some ⟨oc_sooner, od_sooner, .func (PySem.W.fnOf "sooner" "sooner" (defArgs s_sooner) (defBody s_sooner) (defScope s_sooner) .none kV_sooner dc_sooner pm_sooner an_sooner cd_sooner ct_sooner), sl_sooner⟩)
    (c_sooner : PySem.W.codeIn K cd_sooner "sooner" = true)
    (v_sooner : PySem.W.keepIn K (.ref f_sooner) = true)
    (a_ever : PySem.W.nsIn K mainGlobals "ever" = some (some (.ref f_ever)))
    (l_ever : K.lookup f_ever = some ⟨oc_ever, od_ever, .func (PySem.W.fnOf "ever" "ever" (defArgs s_ever) (defBody s_ever) (defScope s_ever) .none kV_ever dc_ever pm_ever an_ever cd_ever ct_ever), sl_ever⟩)
    (c_ever : PySem.W.codeIn K cd_ever "ever" = true)
    (v_ever : PySem.W.keepIn K (.ref f_ever) = true)
    (a_sameat : PySem.W.nsIn K mainGlobals "sameat" = some (some (.ref f_sameat)))
    (l_sameat : K.lookup f_sameat = some ⟨oc_sameat, od_sameat, .func (PySem.W.fnOf "sameat" "sameat" (defArgs s_sameat) (defBody s_sameat) (defScope s_sameat) .none kV_sameat dc_sameat pm_sameat an_sameat cd_sameat ct_sameat), sl_sameat⟩)
    (c_sameat : PySem.W.codeIn K cd_sameat "sameat" = true)
    (v_sameat : PySem.W.keepIn K (.ref f_sameat) = true)
    (a_faster : PySem.W.nsIn K mainGlobals "faster" = some (some (.ref f_faster)))
    (l_faster : K.lookup f_faster = some ⟨oc_faster, od_faster, .func (PySem.W.fnOf "faster" "faster" (defArgs s_faster) (defBody s_faster) (defScope s_faster) .none kV_faster dc_faster pm_faster an_faster cd_faster ct_faster), sl_faster⟩)
    (c_faster : PySem.W.codeIn K cd_faster "faster" = true)
    (v_faster : PySem.W.keepIn K (.ref f_faster) = true)
    (a_gone_on : PySem.W.nsIn K mainGlobals "gone_on" = some (some (.ref f_gone_on)))
    (l_gone_on : K.lookup f_gone_on = some ⟨oc_gone_on, od_gone_on, .func (PySem.W.fnOf "gone_on" "gone_on" (defArgs s_gone_on) (defBody s_gone_on) (defScope s_gone_on) .none kV_gone_on dc_gone_on pm_gone_on an_gone_on cd_gone_on ct_gone_on), sl_gone_on⟩)
    (c_gone_on : PySem.W.codeIn K cd_gone_on "gone_on" = true)
    (v_gone_on : PySem.W.keepIn K (.ref f_gone_on) = true)
    (a_shown_over : PySem.W.nsIn K mainGlobals "shown_over" = some (some (.ref f_shown_over)))
    (l_shown_over : K.lookup f_shown_over = some ⟨oc_shown_over, od_shown_over, .func (PySem.W.fnOf "shown_over" "shown_over" (defArgs s_shown_over) (defBody s_shown_over) (defScope s_shown_over) .none kV_shown_over dc_shown_over pm_shown_over an_shown_over cd_shown_over ct_shown_over), sl_shown_over⟩)
    (c_shown_over : PySem.W.codeIn K cd_shown_over "shown_over" = true)
    (v_shown_over : PySem.W.keepIn K (.ref f_shown_over) = true)
    (a_way : PySem.W.nsIn K mainGlobals "way" = some (some (.ref f_way)))
    (l_way : K.lookup f_way = some ⟨oc_way, od_way, .func (PySem.W.fnOf "way" "way" (defArgs s_way) (defBody s_way) (defScope s_way) .none kV_way dc_way pm_way an_way cd_way ct_way), sl_way⟩)
    (c_way : PySem.W.codeIn K cd_way "way" = true)
    (v_way : PySem.W.keepIn K (.ref f_way) = true)
    (a_end : PySem.W.nsIn K mainGlobals "end" = some (some (.ref f_end)))
    (l_end : K.lookup f_end = some ⟨oc_end, od_end, .func (PySem.W.fnOf "end" "end" (defArgs s_end) (defBody s_end) (defScope s_end) .none kV_end dc_end pm_end an_end cd_end ct_end), sl_end⟩)
    (c_end : PySem.W.codeIn K cd_end "end" = true)
    (v_end : PySem.W.keepIn K (.ref f_end) = true)
    (a_shows : PySem.W.nsIn K mainGlobals "shows" = some (some (.ref f_shows)))
    (l_shows : K.lookup f_shows = some ⟨oc_shows, od_shows, .func (PySem.W.fnOf "shows" "shows" (defArgs s_shows) (defBody s_shows) (defScope s_shows) .none kV_shows dc_shows pm_shows an_shows cd_shows ct_shows), sl_shows⟩)
    (c_shows : PySem.W.codeIn K cd_shows "shows" = true)
    (v_shows : PySem.W.keepIn K (.ref f_shows) = true)
    (a_straight : PySem.W.nsIn K mainGlobals "straight" = some (some (.ref f_straight)))
    (l_straight : K.lookup f_straight = some ⟨oc_straight, od_straight, .func (PySem.W.fnOf "straight" "straight" (defArgs s_straight) (defBody s_straight) (defScope s_straight) .none kV_straight dc_straight pm_straight an_straight cd_straight ct_straight), sl_straight⟩)
    (c_straight : PySem.W.codeIn K cd_straight "straight" = true)
    (v_straight : PySem.W.keepIn K (.ref f_straight) = true)
    (a_heard_at_ends : PySem.W.nsIn K mainGlobals "heard_at_ends" = some (some (.ref f_heard_at_ends)))
    (l_heard_at_ends : K.lookup f_heard_at_ends = some ⟨oc_heard_at_ends, od_heard_at_ends, .func (PySem.W.fnOf "heard_at_ends" "heard_at_ends" (defArgs s_heard_at_ends) (defBody s_heard_at_ends) (defScope s_heard_at_ends) .none kV_heard_at_ends dc_heard_at_ends pm_heard_at_ends an_heard_at_ends cd_heard_at_ends ct_heard_at_ends), sl_heard_at_ends⟩)
    (c_heard_at_ends : PySem.W.codeIn K cd_heard_at_ends "heard_at_ends" = true)
    (v_heard_at_ends : PySem.W.keepIn K (.ref f_heard_at_ends) = true)
    (a_older : PySem.W.nsIn K mainGlobals "older" = some (some (.ref f_older)))
    (l_older : K.lookup f_older = some ⟨oc_older, od_older, .func (PySem.W.fnOf "older" "older" (defArgs s_older) (defBody s_older) (defScope s_older) .none kV_older dc_older pm_older an_older cd_older ct_older), sl_older⟩)
    (c_older : PySem.W.codeIn K cd_older "older" = true)
    (v_older : PySem.W.keepIn K (.ref f_older) = true)
    (a_meet : PySem.W.nsIn K mainGlobals "meet" = some (some (.ref f_meet)))
    (l_meet : K.lookup f_meet = some ⟨oc_meet, od_meet, .func (PySem.W.fnOf "meet" "meet" (defArgs s_meet) (defBody s_meet) (defScope s_meet) .none kV_meet dc_meet pm_meet an_meet cd_meet ct_meet), sl_meet⟩)
    (c_meet : PySem.W.codeIn K cd_meet "meet" = true)
    (v_meet : PySem.W.keepIn K (.ref f_meet) = true)
    (a_answer_of : PySem.W.nsIn K mainGlobals "answer_of" = some (some (.ref f_answer_of)))
    (l_answer_of : K.lookup f_answer_of = some ⟨oc_answer_of, od_answer_of, .func (PySem.W.fnOf "answer_of" "answer_of" (defArgs s_answer_of) (defBody s_answer_of) (defScope s_answer_of) .none kV_answer_of dc_answer_of pm_answer_of an_answer_of cd_answer_of ct_answer_of), sl_answer_of⟩)
    (c_answer_of : PySem.W.codeIn K cd_answer_of "answer_of" = true)
    (v_answer_of : PySem.W.keepIn K (.ref f_answer_of) = true)
    (a_answers : PySem.W.nsIn K mainGlobals "answers" = some (some (.ref f_answers)))
    (l_answers : K.lookup f_answers = some ⟨oc_answers, od_answers, .func (PySem.W.fnOf "answers" "answers" (defArgs s_answers) (defBody s_answers) (defScope s_answers) .none kV_answers dc_answers pm_answers an_answers cd_answers ct_answers), sl_answers⟩)
    (c_answers : PySem.W.codeIn K cd_answers "answers" = true)
    (v_answers : PySem.W.keepIn K (.ref f_answers) = true)
    (b_len : PySem.W.nsIn K mainGlobals "len" = some none)
    (b_list : PySem.W.nsIn K mainGlobals "list" = some none)
    (b_sum : PySem.W.nsIn K mainGlobals "sum" = some none)
    (b_abs : PySem.W.nsIn K mainGlobals "abs" = some none)
    (aC : PySem.W.nsIn K mainGlobals "World" = some (some (.ref C)))
    (pg : PySem.W.plainGet K C Str.empty = true)
    (hd : PySem.W.hasDictIn K C = true)
    (po : PySem.W.plainOver K C = true)
    (sa : PySem.W.findIn K (.ref C) "__setattr__" = some (some (.builtin "object.__setattr__")))
    (mk : PySem.W.makesIn K C = true)
    (kc : PySem.W.keepIn K (.ref C) = true)
    (nE : PySem.W.findIn K (.ref C) "events" = some none)
    (nF : PySem.W.findIn K (.ref C) "factor" = some none)
    (nW : PySem.W.findIn K (.ref C) "ways" = some none)
    (nP : PySem.W.findIn K (.ref C) "past" = some none)
    (a_minit : PySem.W.findIn K (.ref C) "__init__" = some (some (.ref g_init)))
    (i_minit : PySem.W.isFn K (.ref g_init) = true)
    (l_minit : K.lookup g_init = some ⟨oc_minit, od_minit, .func (PySem.W.fnOf "__init__" "World.__init__" (defArgs s_World_init) (defBody s_World_init) (defScope s_World_init) .none kV_minit dc_minit pm_minit an_minit cd_minit ct_minit), sl_minit⟩)
    (c_minit : PySem.W.codeIn K cd_minit "World.__init__" = true)
    (v_minit : PySem.W.keepIn K (.ref g_init) = true)
    (a_mhas_event : PySem.W.findIn K (.ref C) "has_event" = some (some (.ref g_has_event)))
    (i_mhas_event : PySem.W.isFn K (.ref g_has_event) = true)
    (l_mhas_event : K.lookup g_has_event = some ⟨oc_mhas_event, od_mhas_event, .func (PySem.W.fnOf "has_event" "World.has_event" (defArgs s_World_has_event) (defBody s_World_has_event) (defScope s_World_has_event) .none kV_mhas_event dc_mhas_event pm_mhas_event an_mhas_event cd_mhas_event ct_mhas_event), sl_mhas_event⟩)
    (c_mhas_event : PySem.W.codeIn K cd_mhas_event "World.has_event" = true)
    (v_mhas_event : PySem.W.keepIn K (.ref g_has_event) = true)
    (a_mhas_way : PySem.W.findIn K (.ref C) "has_way" = some (some (.ref g_has_way)))
    (i_mhas_way : PySem.W.isFn K (.ref g_has_way) = true)
    (l_mhas_way : K.lookup g_has_way = some ⟨oc_mhas_way, od_mhas_way, .func (PySem.W.fnOf "has_way" "World.has_way" (defArgs s_World_has_way) (defBody s_World_has_way) (defScope s_World_has_way) .none kV_mhas_way dc_mhas_way pm_mhas_way an_mhas_way cd_mhas_way ct_mhas_way), sl_mhas_way⟩)
    (c_mhas_way : PySem.W.codeIn K cd_mhas_way "World.has_way" = true)
    (v_mhas_way : PySem.W.keepIn K (.ref g_has_way) = true)
    (a_mall_held : PySem.W.findIn K (.ref C) "all_held" = some (some (.ref g_all_held)))
    (i_mall_held : PySem.W.isFn K (.ref g_all_held) = true)
    (l_mall_held : K.lookup g_all_held = some ⟨oc_mall_held, od_mall_held, .func (PySem.W.fnOf "all_held" "World.all_held" (defArgs s_World_all_held) (defBody s_World_all_held) (defScope s_World_all_held) .none kV_mall_held dc_mall_held pm_mall_held an_mall_held cd_mall_held ct_mall_held), sl_mall_held⟩)
    (c_mall_held : PySem.W.codeIn K cd_mall_held "World.all_held" = true)
    (v_mall_held : PySem.W.keepIn K (.ref g_all_held) = true)
    (a_mremember : PySem.W.findIn K (.ref C) "remember" = some (some (.ref g_remember)))
    (i_mremember : PySem.W.isFn K (.ref g_remember) = true)
    (l_mremember : K.lookup g_remember = some ⟨oc_mremember, od_mremember, .func (PySem.W.fnOf "remember" "World.remember" (defArgs s_World_remember) (defBody s_World_remember) (defScope s_World_remember) .none kV_mremember dc_mremember pm_mremember an_mremember cd_mremember ct_mremember), sl_mremember⟩)
    (c_mremember : PySem.W.codeIn K cd_mremember "World.remember" = true)
    (v_mremember : PySem.W.keepIn K (.ref g_remember) = true)
    (a_mtake_back : PySem.W.findIn K (.ref C) "take_back" = some (some (.ref g_take_back)))
    (i_mtake_back : PySem.W.isFn K (.ref g_take_back) = true)
    (l_mtake_back : K.lookup g_take_back = some ⟨oc_mtake_back, od_mtake_back, .func (PySem.W.fnOf "take_back" "World.take_back" (defArgs s_World_take_back) (defBody s_World_take_back) (defScope s_World_take_back) .none kV_mtake_back dc_mtake_back pm_mtake_back an_mtake_back cd_mtake_back ct_mtake_back), sl_mtake_back⟩)
    (c_mtake_back : PySem.W.codeIn K cd_mtake_back "World.take_back" = true)
    (v_mtake_back : PySem.W.keepIn K (.ref g_take_back) = true)
    (i_GREATEST_GIVEN : PySem.W.nsIn K mainGlobals "GREATEST_GIVEN" = some (some (.int n_GREATEST_GIVEN t_GREATEST_GIVEN)))
    (e_GREATEST_GIVEN : n_GREATEST_GIVEN = 9)
    (i_NO_SUCH : PySem.W.nsIn K mainGlobals "NO_SUCH" = some (some (.int n_NO_SUCH t_NO_SUCH)))
    (e_NO_SUCH : n_NO_SUCH = (-2))
    (i_NO_CHANGE : PySem.W.nsIn K mainGlobals "NO_CHANGE" = some (some (.int n_NO_CHANGE t_NO_CHANGE)))
    (e_NO_CHANGE : n_NO_CHANGE = (-6))
    (i_NO_LEG : PySem.W.nsIn K mainGlobals "NO_LEG" = some (some (.int n_NO_LEG t_NO_LEG)))
    (e_NO_LEG : n_NO_LEG = (-6))
    (i_NOT_BEGUN : PySem.W.nsIn K mainGlobals "NOT_BEGUN" = some (some (.int n_NOT_BEGUN t_NOT_BEGUN)))
    (e_NOT_BEGUN : n_NOT_BEGUN = (-11))
    (i_OUT_OF_RANGE : PySem.W.nsIn K mainGlobals "OUT_OF_RANGE" = some (some (.int n_OUT_OF_RANGE t_OUT_OF_RANGE)))
    (e_OUT_OF_RANGE : n_OUT_OF_RANGE = (-22))
    (i_TOO_MANY : PySem.W.nsIn K mainGlobals "TOO_MANY" = some (some (.int n_TOO_MANY t_TOO_MANY)))
    (e_TOO_MANY : n_TOO_MANY = (-28))
    (i_THERE_IS_NONE : PySem.W.nsIn K mainGlobals "THERE_IS_NONE" = some (some (.int n_THERE_IS_NONE t_THERE_IS_NONE)))
    (e_THERE_IS_NONE : n_THERE_IS_NONE = (-33))
    (i_TOO_GREAT : PySem.W.nsIn K mainGlobals "TOO_GREAT" = some (some (.int n_TOO_GREAT t_TOO_GREAT)))
    (e_TOO_GREAT : n_TOO_GREAT = (-75))
    (i_FARTHEST : PySem.W.nsIn K mainGlobals "FARTHEST" = some (some (.int n_FARTHEST t_FARTHEST)))
    (e_FARTHEST : n_FARTHEST = 99)
    (i_MOST_EVENTS : PySem.W.nsIn K mainGlobals "MOST_EVENTS" = some (some (.int n_MOST_EVENTS t_MOST_EVENTS)))
    (e_MOST_EVENTS : n_MOST_EVENTS = 8)
    (i_GREATEST_PART : PySem.W.nsIn K mainGlobals "GREATEST_PART" = some (some (.int n_GREATEST_PART t_GREATEST_PART)))
    (e_GREATEST_PART : n_GREATEST_PART = 999)
    (i_MOST_LEGS : PySem.W.nsIn K mainGlobals "MOST_LEGS" = some (some (.int n_MOST_LEGS t_MOST_LEGS)))
    (e_MOST_LEGS : n_MOST_LEGS = 6)
    (i_MOST_SHOWN : PySem.W.nsIn K mainGlobals "MOST_SHOWN" = some (some (.int n_MOST_SHOWN t_MOST_SHOWN)))
    (e_MOST_SHOWN : n_MOST_SHOWN = 99)
    (i_SAME : PySem.W.nsIn K mainGlobals "SAME" = some (some (.int n_SAME t_SAME)))
    (e_SAME : n_SAME = 0)
    (i_AT_SECOND : PySem.W.nsIn K mainGlobals "AT_SECOND" = some (some (.int n_AT_SECOND t_AT_SECOND)))
    (e_AT_SECOND : n_AT_SECOND = 1)
    (i_AT_FIRST : PySem.W.nsIn K mainGlobals "AT_FIRST" = some (some (.int n_AT_FIRST t_AT_FIRST)))
    (e_AT_FIRST : n_AT_FIRST = 2)
    (i_AT_NEITHER : PySem.W.nsIn K mainGlobals "AT_NEITHER" = some (some (.int n_AT_NEITHER t_AT_NEITHER)))
    (e_AT_NEITHER : n_AT_NEITHER = 3)
    (i_MOST_TAKEN_BACK : PySem.W.nsIn K mainGlobals "MOST_TAKEN_BACK" = some (some (.int n_MOST_TAKEN_BACK t_MOST_TAKEN_BACK)))
    (e_MOST_TAKEN_BACK : n_MOST_TAKEN_BACK = 10)
    (i_BEGIN : PySem.W.nsIn K mainGlobals "BEGIN" = some (some (.int n_BEGIN t_BEGIN)))
    (e_BEGIN : n_BEGIN = 0)
    (i_EVER : PySem.W.nsIn K mainGlobals "EVER" = some (some (.ref ta_EVER)))
    (l_EVER : K.lookup ta_EVER = some ⟨.type "tuple", to_EVER, .seq ti_EVER tn_EVER, ts_EVER⟩)
    (e_EVER : ti_EVER.toList.map valI = ([1, 0, 2, 3] : List Int).map some)
    (i_ARGUMENTS : PySem.W.nsIn K mainGlobals "ARGUMENTS" = some (some (.ref ta_ARGUMENTS)))
    (l_ARGUMENTS : K.lookup ta_ARGUMENTS = some ⟨.type "tuple", to_ARGUMENTS, .seq ti_ARGUMENTS tn_ARGUMENTS, ts_ARGUMENTS⟩)
    (e_ARGUMENTS : ti_ARGUMENTS.toList.map valI = (argI : List Int).map some)
    (i_CHANGES : PySem.W.nsIn K mainGlobals "CHANGES" = some (some (.ref d_CHANGES)))
    (l_CHANGES : K.lookup d_CHANGES = some ⟨.type "dict", none, .dict de_CHANGES dn_CHANGES, #[]⟩)
    (e_CHANGES : de_CHANGES.toList.map entI = ([(1, .ref f_put), (2, .ref f_drop), (3, .ref f_move), (4, .ref f_more), (5, .ref f_leg), (6, .ref f_unleg)] : List (Int × Value)).map (fun p => (p.1, hashInt p.1, p.2)))
    (s_CHANGES : (d_CHANGES == sysModules) = false)
    (i_LOOKS : PySem.W.nsIn K mainGlobals "LOOKS" = some (some (.ref d_LOOKS)))
    (l_LOOKS : K.lookup d_LOOKS = some ⟨.type "dict", none, .dict de_LOOKS dn_LOOKS, #[]⟩)
    (e_LOOKS : de_LOOKS.toList.map entI = ([(7, .ref f_events), (8, .ref f_factor), (9, .ref f_speed), (10, .ref f_tells), (11, .ref f_apart), (12, .ref f_square), (13, .ref f_sooner), (14, .ref f_ever), (15, .ref f_sameat), (16, .ref f_faster)] : List (Int × Value)).map (fun p => (p.1, hashInt p.1, p.2)))
    (s_LOOKS : (d_LOOKS == sysModules) = false)
    (i_WAYS : PySem.W.nsIn K mainGlobals "WAYS" = some (some (.ref d_WAYS)))
    (l_WAYS : K.lookup d_WAYS = some ⟨.type "dict", none, .dict de_WAYS dn_WAYS, #[]⟩)
    (e_WAYS : de_WAYS.toList.map entI = ([(17, .ref f_way), (18, .ref f_end), (19, .ref f_shows), (20, .ref f_straight), (21, .ref f_older), (22, .ref f_meet)] : List (Int × Value)).map (fun p => (p.1, hashInt p.1, p.2)))
    (s_WAYS : (d_WAYS == sysModules) = false)
    (i_HISTORY : PySem.W.nsIn K mainGlobals "HISTORY" = some (some (.ref d_HISTORY)))
    (l_HISTORY : K.lookup d_HISTORY = some ⟨.type "dict", none, .dict de_HISTORY dn_HISTORY, #[]⟩)
    (e_HISTORY : de_HISTORY.toList.map entI = ([(23, .ref f_back), (24, .ref f_state)] : List (Int × Value)).map (fun p => (p.1, hashInt p.1, p.2)))
    (s_HISTORY : (d_HISTORY == sysModules) = false)
    : ∃ fd : FuncData, (∀ (s : Shared) (us : List Value), us.length = (["calls"] : List Str).length → BindsTo s fd ⟨us, []⟩ ((["calls"] : List Str).zip us)) ∧ ∀ base : Heap, K.In base → base.Ns mainGlobals mg → FnOk P w K mg base CX0 8 fa fd ["calls"] (spAns K) :=
  all_mk X G hfa ⟨a_common, _, _, _, _, _, _, _, _, _, l_common, c_common, v_common⟩ ⟨a_lowest, _, _, _, _, _, _, _, _, _, l_lowest, c_lowest, v_lowest⟩ ⟨a_plus, _, _, _, _, _, _, _, _, _, l_plus, c_plus, v_plus⟩ ⟨a_minus, _, _, _, _, _, _, _, _, _, l_minus, c_minus, v_minus⟩ ⟨a_times, _, _, _, _, _, _, _, _, _, l_times, c_times, v_times⟩ ⟨a_half, _, _, _, _, _, _, _, _, _, l_half, c_half, v_half⟩ ⟨a_is_factor, _, _, _, _, _, _, _, _, _, l_is_factor, c_is_factor, v_is_factor⟩ ⟨a_speed_of, _, _, _, _, _, _, _, _, _, l_speed_of, c_speed_of, v_speed_of⟩ ⟨a_told, _, _, _, _, _, _, _, _, _, l_told, c_told, v_told⟩ ⟨a_is_near, _, _, _, _, _, _, _, _, _, l_is_near, c_is_near, v_is_near⟩ ⟨a_put, _, _, _, _, _, _, _, _, _, l_put, c_put, v_put⟩ ⟨a_drop, _, _, _, _, _, _, _, _, _, l_drop, c_drop, v_drop⟩ ⟨a_move, _, _, _, _, _, _, _, _, _, l_move, c_move, v_move⟩ ⟨a_more, _, _, _, _, _, _, _, _, _, l_more, c_more, v_more⟩ ⟨a_leg, _, _, _, _, _, _, _, _, _, l_leg, c_leg, v_leg⟩ ⟨a_unleg, _, _, _, _, _, _, _, _, _, l_unleg, c_unleg, v_unleg⟩ ⟨a_change, _, _, _, _, _, _, _, _, _, l_change, c_change, v_change⟩ ⟨a_back, _, _, _, _, _, _, _, _, _, l_back, c_back, v_back⟩ ⟨a_state, _, _, _, _, _, _, _, _, _, l_state, c_state, v_state⟩ ⟨a_leader, _, _, _, _, _, _, _, _, _, l_leader, c_leader, v_leader⟩ ⟨a_heard, _, _, _, _, _, _, _, _, _, l_heard, c_heard, v_heard⟩ ⟨a_events, _, _, _, _, _, _, _, _, _, l_events, c_events, v_events⟩ ⟨a_factor, _, _, _, _, _, _, _, _, _, l_factor, c_factor, v_factor⟩ ⟨a_speed, _, _, _, _, _, _, _, _, _, l_speed, c_speed, v_speed⟩ ⟨a_tells, _, _, _, _, _, _, _, _, _, l_tells, c_tells, v_tells⟩ ⟨a_both_there, _, _, _, _, _, _, _, _, _, l_both_there, c_both_there, v_both_there⟩ ⟨a_between, _, _, _, _, _, _, _, _, _, l_between, c_between, v_between⟩ ⟨a_apart, _, _, _, _, _, _, _, _, _, l_apart, c_apart, v_apart⟩ ⟨a_square, _, _, _, _, _, _, _, _, _, l_square, c_square, v_square⟩ ⟨a_sooner, _, _, _, _, _, _, _, _, _, l_sooner, c_sooner, v_sooner⟩ ⟨a_ever, _, _, _, _, _, _, _, _, _, l_ever, c_ever, v_ever⟩ ⟨a_sameat, _, _, _, _, _, _, _, _, _, l_sameat, c_sameat, v_sameat⟩ ⟨a_faster, _, _, _, _, _, _, _, _, _, l_faster, c_faster, v_faster⟩ ⟨a_gone_on, _, _, _, _, _, _, _, _, _, l_gone_on, c_gone_on, v_gone_on⟩ ⟨a_shown_over, _, _, _, _, _, _, _, _, _, l_shown_over, c_shown_over, v_shown_over⟩ ⟨a_way, _, _, _, _, _, _, _, _, _, l_way, c_way, v_way⟩ ⟨a_end, _, _, _, _, _, _, _, _, _, l_end, c_end, v_end⟩ ⟨a_shows, _, _, _, _, _, _, _, _, _, l_shows, c_shows, v_shows⟩ ⟨a_straight, _, _, _, _, _, _, _, _, _, l_straight, c_straight, v_straight⟩ ⟨a_heard_at_ends, _, _, _, _, _, _, _, _, _, l_heard_at_ends, c_heard_at_ends, v_heard_at_ends⟩ ⟨a_older, _, _, _, _, _, _, _, _, _, l_older, c_older, v_older⟩ ⟨a_meet, _, _, _, _, _, _, _, _, _, l_meet, c_meet, v_meet⟩ ⟨a_answer_of, _, _, _, _, _, _, _, _, _, l_answer_of, c_answer_of, v_answer_of⟩ ⟨a_answers, _, _, _, _, _, _, _, _, _, l_answers, c_answers, v_answers⟩ b_len b_list b_sum b_abs aC pg hd po sa mk kc nE nF nW nP ⟨a_minit, i_minit, _, _, _, _, _, _, _, _, _, l_minit, c_minit, v_minit⟩ ⟨a_mhas_event, i_mhas_event, _, _, _, _, _, _, _, _, _, l_mhas_event, c_mhas_event, v_mhas_event⟩ ⟨a_mhas_way, i_mhas_way, _, _, _, _, _, _, _, _, _, l_mhas_way, c_mhas_way, v_mhas_way⟩ ⟨a_mall_held, i_mall_held, _, _, _, _, _, _, _, _, _, l_mall_held, c_mall_held, v_mall_held⟩ ⟨a_mremember, i_mremember, _, _, _, _, _, _, _, _, _, l_mremember, c_mremember, v_mremember⟩ ⟨a_mtake_back, i_mtake_back, _, _, _, _, _, _, _, _, _, l_mtake_back, c_mtake_back, v_mtake_back⟩ ⟨_, e_GREATEST_GIVEN ▸ i_GREATEST_GIVEN⟩ ⟨_, e_NO_SUCH ▸ i_NO_SUCH⟩ ⟨_, e_NO_CHANGE ▸ i_NO_CHANGE⟩ ⟨_, e_NO_LEG ▸ i_NO_LEG⟩ ⟨_, e_NOT_BEGUN ▸ i_NOT_BEGUN⟩ ⟨_, e_OUT_OF_RANGE ▸ i_OUT_OF_RANGE⟩ ⟨_, e_TOO_MANY ▸ i_TOO_MANY⟩ ⟨_, e_THERE_IS_NONE ▸ i_THERE_IS_NONE⟩ ⟨_, e_TOO_GREAT ▸ i_TOO_GREAT⟩ ⟨_, e_FARTHEST ▸ i_FARTHEST⟩ ⟨_, e_MOST_EVENTS ▸ i_MOST_EVENTS⟩ ⟨_, e_GREATEST_PART ▸ i_GREATEST_PART⟩ ⟨_, e_MOST_LEGS ▸ i_MOST_LEGS⟩ ⟨_, e_MOST_SHOWN ▸ i_MOST_SHOWN⟩ ⟨_, e_SAME ▸ i_SAME⟩ ⟨_, e_AT_SECOND ▸ i_AT_SECOND⟩ ⟨_, e_AT_FIRST ▸ i_AT_FIRST⟩ ⟨_, e_AT_NEITHER ▸ i_AT_NEITHER⟩ ⟨_, e_MOST_TAKEN_BACK ▸ i_MOST_TAKEN_BACK⟩ ⟨_, e_BEGIN ▸ i_BEGIN⟩ ⟨_, _, _, _, _, i_EVER, l_EVER, e_EVER⟩ ⟨_, _, _, _, _, i_ARGUMENTS, l_ARGUMENTS, e_ARGUMENTS⟩ ⟨i_CHANGES, _, _, l_CHANGES, e_CHANGES, s_CHANGES⟩ ⟨i_LOOKS, _, _, l_LOOKS, e_LOOKS, s_LOOKS⟩ ⟨i_WAYS, _, _, l_WAYS, e_WAYS, s_WAYS⟩ ⟨i_HISTORY, _, _, l_HISTORY, e_HISTORY, s_HISTORY⟩
end MC
open PySem PySem.W PyProof.Rows
set_option maxRecDepth 100000 in
set_option maxHeartbeats 8000000 in
theorem PySem.Challenge.cw_movingclocks_s01_answers_holds : PySem.Challenge.rw_movingclocks_s01_answers.Holds := by
  w_on; k_headS; (case hw => exact ⟨[.list [.int 0]], by decide +kernel, by decide +kernel⟩)
  k_fillS
  refine L2.walk_specK (r := PySem.Challenge.rw_movingclocks_s01_answers) (k := 8) (CX := L2.CX0) (ps := ["calls"]) (sp := MC.spAns) (by decide +kernel) rfl rfl ⟨rfl, by decide, by decide⟩ (fun w h Y => PySem.W.kIn_of Y) ?F ?S (fun _ _ _ _ z => z)
  case F =>
    intro w mg fa h Y KX G hmg
    refine' MC.all_raw KX G hmg ?a_common ?l_common ?c_common ?v_common ?a_lowest ?l_lowest ?c_lowest ?v_lowest ?a_plus ?l_plus ?c_plus ?v_plus ?a_minus ?l_minus ?c_minus ?v_minus ?a_times ?l_times ?c_times ?v_times ?a_half ?l_half ?c_half ?v_half ?a_is_factor ?l_is_factor ?c_is_factor ?v_is_factor ?a_speed_of ?l_speed_of ?c_speed_of ?v_speed_of ?a_told ?l_told ?c_told ?v_told ?a_is_near ?l_is_near ?c_is_near ?v_is_near ?a_put ?l_put ?c_put ?v_put ?a_drop ?l_drop ?c_drop ?v_drop ?a_move ?l_move ?c_move ?v_move ?a_more ?l_more ?c_more ?v_more ?a_leg ?l_leg ?c_leg ?v_leg ?a_unleg ?l_unleg ?c_unleg ?v_unleg ?a_change ?l_change ?c_change ?v_change ?a_back ?l_back ?c_back ?v_back ?a_state ?l_state ?c_state ?v_state ?a_leader ?l_leader ?c_leader ?v_leader ?a_heard ?l_heard ?c_heard ?v_heard ?a_events ?l_events ?c_events ?v_events ?a_factor ?l_factor ?c_factor ?v_factor ?a_speed ?l_speed ?c_speed ?v_speed ?a_tells ?l_tells ?c_tells ?v_tells ?a_both_there ?l_both_there ?c_both_there ?v_both_there ?a_between ?l_between ?c_between ?v_between ?a_apart ?l_apart ?c_apart ?v_apart ?a_square ?l_square ?c_square ?v_square ?a_sooner ?l_sooner ?c_sooner ?v_sooner ?a_ever ?l_ever ?c_ever ?v_ever ?a_sameat ?l_sameat ?c_sameat ?v_sameat ?a_faster ?l_faster ?c_faster ?v_faster ?a_gone_on ?l_gone_on ?c_gone_on ?v_gone_on ?a_shown_over ?l_shown_over ?c_shown_over ?v_shown_over ?a_way ?l_way ?c_way ?v_way ?a_end ?l_end ?c_end ?v_end ?a_shows ?l_shows ?c_shows ?v_shows ?a_straight ?l_straight ?c_straight ?v_straight ?a_heard_at_ends ?l_heard_at_ends ?c_heard_at_ends ?v_heard_at_ends ?a_older ?l_older ?c_older ?v_older ?a_meet ?l_meet ?c_meet ?v_meet ?a_answer_of ?l_answer_of ?c_answer_of ?v_answer_of ?a_answers ?l_answers ?c_answers ?v_answers ?b_len ?b_list ?b_sum ?b_abs ?aC ?pg ?hd ?po ?sa ?mk ?kc ?nE ?nF ?nW ?nP ?a_minit ?i_minit ?l_minit ?c_minit ?v_minit ?a_mhas_event ?i_mhas_event ?l_mhas_event ?c_mhas_event ?v_mhas_event ?a_mhas_way ?i_mhas_way ?l_mhas_way ?c_mhas_way ?v_mhas_way ?a_mall_held ?i_mall_held ?l_mall_held ?c_mall_held ?v_mall_held ?a_mremember ?i_mremember ?l_mremember ?c_mremember ?v_mremember ?a_mtake_back ?i_mtake_back ?l_mtake_back ?c_mtake_back ?v_mtake_back ?i_GREATEST_GIVEN ?e_GREATEST_GIVEN ?i_NO_SUCH ?e_NO_SUCH ?i_NO_CHANGE ?e_NO_CHANGE ?i_NO_LEG ?e_NO_LEG ?i_NOT_BEGUN ?e_NOT_BEGUN ?i_OUT_OF_RANGE ?e_OUT_OF_RANGE ?i_TOO_MANY ?e_TOO_MANY ?i_THERE_IS_NONE ?e_THERE_IS_NONE ?i_TOO_GREAT ?e_TOO_GREAT ?i_FARTHEST ?e_FARTHEST ?i_MOST_EVENTS ?e_MOST_EVENTS ?i_GREATEST_PART ?e_GREATEST_PART ?i_MOST_LEGS ?e_MOST_LEGS ?i_MOST_SHOWN ?e_MOST_SHOWN ?i_SAME ?e_SAME ?i_AT_SECOND ?e_AT_SECOND ?i_AT_FIRST ?e_AT_FIRST ?i_AT_NEITHER ?e_AT_NEITHER ?i_MOST_TAKEN_BACK ?e_MOST_TAKEN_BACK ?i_BEGIN ?e_BEGIN ?i_EVER ?l_EVER ?e_EVER ?i_ARGUMENTS ?l_ARGUMENTS ?e_ARGUMENTS ?i_CHANGES ?l_CHANGES ?e_CHANGES ?s_CHANGES ?i_LOOKS ?l_LOOKS ?e_LOOKS ?s_LOOKS ?i_WAYS ?l_WAYS ?e_WAYS ?s_WAYS ?i_HISTORY ?l_HISTORY ?e_HISTORY ?s_HISTORY
    (case a_common => k_is)
    (case l_common => k_is)
    (case c_common => k_is)
    (case v_common => k_is)
    (case a_lowest => k_is)
    (case l_lowest => k_is)
    (case c_lowest => k_is)
    (case v_lowest => k_is)
    (case a_plus => k_is)
    (case l_plus => k_is)
    (case c_plus => k_is)
    (case v_plus => k_is)
    (case a_minus => k_is)
    (case l_minus => k_is)
    (case c_minus => k_is)
    (case v_minus => k_is)
    (case a_times => k_is)
    (case l_times => k_is)
    (case c_times => k_is)
    (case v_times => k_is)
    (case a_half => k_is)
    (case l_half => k_is)
    (case c_half => k_is)
    (case v_half => k_is)
    (case a_is_factor => k_is)
    (case l_is_factor => k_is)
    (case c_is_factor => k_is)
    (case v_is_factor => k_is)
    (case a_speed_of => k_is)
    (case l_speed_of => k_is)
    (case c_speed_of => k_is)
    (case v_speed_of => k_is)
    (case a_told => k_is)
    (case l_told => k_is)
    (case c_told => k_is)
    (case v_told => k_is)
    (case a_is_near => k_is)
    (case l_is_near => k_is)
    (case c_is_near => k_is)
    (case v_is_near => k_is)
    (case a_put => k_is)
    (case l_put => k_is)
    (case c_put => k_is)
    (case v_put => k_is)
    (case a_drop => k_is)
    (case l_drop => k_is)
    (case c_drop => k_is)
    (case v_drop => k_is)
    (case a_move => k_is)
    (case l_move => k_is)
    (case c_move => k_is)
    (case v_move => k_is)
    (case a_more => k_is)
    (case l_more => k_is)
    (case c_more => k_is)
    (case v_more => k_is)
    (case a_leg => k_is)
    (case l_leg => k_is)
    (case c_leg => k_is)
    (case v_leg => k_is)
    (case a_unleg => k_is)
    (case l_unleg => k_is)
    (case c_unleg => k_is)
    (case v_unleg => k_is)
    (case a_change => k_is)
    (case l_change => k_is)
    (case c_change => k_is)
    (case v_change => k_is)
    (case a_back => k_is)
    (case l_back => k_is)
    (case c_back => k_is)
    (case v_back => k_is)
    (case a_state => k_is)
    (case l_state => k_is)
    (case c_state => k_is)
    (case v_state => k_is)
    (case a_leader => k_is)
    (case l_leader => k_is)
    (case c_leader => k_is)
    (case v_leader => k_is)
    (case a_heard => k_is)
    (case l_heard => k_is)
    (case c_heard => k_is)
    (case v_heard => k_is)
    (case a_events => k_is)
    (case l_events => k_is)
    (case c_events => k_is)
    (case v_events => k_is)
    (case a_factor => k_is)
    (case l_factor => k_is)
    (case c_factor => k_is)
    (case v_factor => k_is)
    (case a_speed => k_is)
    (case l_speed => k_is)
    (case c_speed => k_is)
    (case v_speed => k_is)
    (case a_tells => k_is)
    (case l_tells => k_is)
    (case c_tells => k_is)
    (case v_tells => k_is)
    (case a_both_there => k_is)
    (case l_both_there => k_is)
    (case c_both_there => k_is)
    (case v_both_there => k_is)
    (case a_between => k_is)
    (case l_between => k_is)
    (case c_between => k_is)
    (case v_between => k_is)
    (case a_apart => k_is)
    (case l_apart => k_is)
    (case c_apart => k_is)
    (case v_apart => k_is)
    (case a_square => k_is)
    (case l_square => k_is)
    (case c_square => k_is)
    (case v_square => k_is)
    (case a_sooner => k_is)
    (case l_sooner => k_is)
    (case c_sooner => k_is)
    (case v_sooner => k_is)
    (case a_ever => k_is)
    (case l_ever => k_is)
    (case c_ever => k_is)
    (case v_ever => k_is)
    (case a_sameat => k_is)
    (case l_sameat => k_is)
    (case c_sameat => k_is)
    (case v_sameat => k_is)
    (case a_faster => k_is)
    (case l_faster => k_is)
    (case c_faster => k_is)
    (case v_faster => k_is)
    (case a_gone_on => k_is)
    (case l_gone_on => k_is)
    (case c_gone_on => k_is)
    (case v_gone_on => k_is)
    (case a_shown_over => k_is)
    (case l_shown_over => k_is)
    (case c_shown_over => k_is)
    (case v_shown_over => k_is)
    (case a_way => k_is)
    (case l_way => k_is)
    (case c_way => k_is)
    (case v_way => k_is)
    (case a_end => k_is)
    (case l_end => k_is)
    (case c_end => k_is)
    (case v_end => k_is)
    (case a_shows => k_is)
    (case l_shows => k_is)
    (case c_shows => k_is)
    (case v_shows => k_is)
    (case a_straight => k_is)
    (case l_straight => k_is)
    (case c_straight => k_is)
    (case v_straight => k_is)
    (case a_heard_at_ends => k_is)
    (case l_heard_at_ends => k_is)
    (case c_heard_at_ends => k_is)
    (case v_heard_at_ends => k_is)
    (case a_older => k_is)
    (case l_older => k_is)
    (case c_older => k_is)
    (case v_older => k_is)
    (case a_meet => k_is)
    (case l_meet => k_is)
    (case c_meet => k_is)
    (case v_meet => k_is)
    (case a_answer_of => k_is)
    (case l_answer_of => k_is)
    (case c_answer_of => k_is)
    (case v_answer_of => k_is)
    (case a_answers => k_is)
    (case l_answers => k_is)
    (case c_answers => k_is)
    (case v_answers => k_is)
    (case b_len => k_is)
    (case b_list => k_is)
    (case b_sum => k_is)
    (case b_abs => k_is)
    (case aC => k_is)
    (case pg => k_is)
    (case hd => k_is)
    (case po => k_is)
    (case sa => k_is)
    (case mk => k_is)
    (case kc => k_is)
    (case nE => k_is)
    (case nF => k_is)
    (case nW => k_is)
    (case nP => k_is)
    (case a_minit => k_is)
    (case i_minit => k_is)
    (case l_minit => k_is)
    (case c_minit => k_is)
    (case v_minit => k_is)
    (case a_mhas_event => k_is)
    (case i_mhas_event => k_is)
    (case l_mhas_event => k_is)
    (case c_mhas_event => k_is)
    (case v_mhas_event => k_is)
    (case a_mhas_way => k_is)
    (case i_mhas_way => k_is)
    (case l_mhas_way => k_is)
    (case c_mhas_way => k_is)
    (case v_mhas_way => k_is)
    (case a_mall_held => k_is)
    (case i_mall_held => k_is)
    (case l_mall_held => k_is)
    (case c_mall_held => k_is)
    (case v_mall_held => k_is)
    (case a_mremember => k_is)
    (case i_mremember => k_is)
    (case l_mremember => k_is)
    (case c_mremember => k_is)
    (case v_mremember => k_is)
    (case a_mtake_back => k_is)
    (case i_mtake_back => k_is)
    (case l_mtake_back => k_is)
    (case c_mtake_back => k_is)
    (case v_mtake_back => k_is)
    (case i_GREATEST_GIVEN => k_is)
    (case e_GREATEST_GIVEN => rfl)
    (case i_NO_SUCH => k_is)
    (case e_NO_SUCH => rfl)
    (case i_NO_CHANGE => k_is)
    (case e_NO_CHANGE => rfl)
    (case i_NO_LEG => k_is)
    (case e_NO_LEG => rfl)
    (case i_NOT_BEGUN => k_is)
    (case e_NOT_BEGUN => rfl)
    (case i_OUT_OF_RANGE => k_is)
    (case e_OUT_OF_RANGE => rfl)
    (case i_TOO_MANY => k_is)
    (case e_TOO_MANY => rfl)
    (case i_THERE_IS_NONE => k_is)
    (case e_THERE_IS_NONE => rfl)
    (case i_TOO_GREAT => k_is)
    (case e_TOO_GREAT => rfl)
    (case i_FARTHEST => k_is)
    (case e_FARTHEST => rfl)
    (case i_MOST_EVENTS => k_is)
    (case e_MOST_EVENTS => rfl)
    (case i_GREATEST_PART => k_is)
    (case e_GREATEST_PART => rfl)
    (case i_MOST_LEGS => k_is)
    (case e_MOST_LEGS => rfl)
    (case i_MOST_SHOWN => k_is)
    (case e_MOST_SHOWN => rfl)
    (case i_SAME => k_is)
    (case e_SAME => rfl)
    (case i_AT_SECOND => k_is)
    (case e_AT_SECOND => rfl)
    (case i_AT_FIRST => k_is)
    (case e_AT_FIRST => rfl)
    (case i_AT_NEITHER => k_is)
    (case e_AT_NEITHER => rfl)
    (case i_MOST_TAKEN_BACK => k_is)
    (case e_MOST_TAKEN_BACK => rfl)
    (case i_BEGIN => k_is)
    (case e_BEGIN => rfl)
    (case i_EVER => k_is)
    (case l_EVER => k_is)
    (case e_EVER => rfl)
    (case i_ARGUMENTS => k_is)
    (case l_ARGUMENTS => k_is)
    (case e_ARGUMENTS => rfl)
    (case i_CHANGES => k_is)
    (case l_CHANGES => k_is)
    (case e_CHANGES => rfl)
    (case s_CHANGES => rfl)
    (case i_LOOKS => k_is)
    (case l_LOOKS => k_is)
    (case e_LOOKS => rfl)
    (case s_LOOKS => rfl)
    (case i_WAYS => k_is)
    (case l_WAYS => k_is)
    (case e_WAYS => rfl)
    (case s_WAYS => rfl)
    (case i_HISTORY => k_is)
    (case l_HISTORY => k_is)
    (case e_HISTORY => rfl)
    (case s_HISTORY => rfl)
  case S =>
    intro K H xs a hO hwi hask hx
    cases hx with
    | cons h1 h2 =>
      cases h2
      cases h1 with
      | lst hs ha =>
        have e := L2.ints_dw a.1 _ ha
        subst e
        have q : ((Codec.inLen 0 1280 a.1 && a.1.all (Codec.inInt (-2147483648) 4294967295)) && true) = true := hwi
        rw [Bool.and_eq_true, Bool.and_eq_true] at q
        exact ⟨_, a.1, rfl, hs, hask, (Codec.inNat_iff.mp q.1.1).2, fun H' p hp => .lst (L2.SqL.of hp) (L2.dw_ints _)⟩
