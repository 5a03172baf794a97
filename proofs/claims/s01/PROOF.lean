import PyProof.Rows.All
import Wide.All
import OpenK.AllK
import Wide.FinOn
import Open.SpecLaws
import KE.OsGo
import HandS.ForSpec
import HandS.Comp
import HandS.CallLocal
import HandS.Conv
import PySem.Challenge.RW_productsofall_s01_answers
set_option Elab.async false
set_option maxRecDepth 100000
set_option maxHeartbeats 2000000
namespace Pr
/-! ### how often: the fuel is enough -/
theorem half_lt {p n f : Nat} (hp : 2 ≤ p) (h : n < 2 ^ (f + 1)) : n / p < 2 ^ f := by
  have h1 : n / p ≤ n / 2 := Nat.div_le_div_left hp (by decide)
  rw [Nat.pow_succ] at h
  omega
theorem timesOf_zero (p f : Nat) : Kp267.timesOf p f 0 = 0 := by
  cases f <;> rfl
theorem timesOf_fuel {p : Nat} (hp : 2 ≤ p) : ∀ (f g n : Nat), n < 2 ^ f → n < 2 ^ g → Kp267.timesOf p f n = Kp267.timesOf p g n
  | 0, g, n, h, _ => by
    have e : n = 0 := by simpa using h
    subst e
    rw [timesOf_zero, timesOf_zero]
  | f + 1, 0, n, _, h => by
    have e : n = 0 := by simpa using h
    subst e
    rw [timesOf_zero, timesOf_zero]
  | f + 1, g + 1, n, h, k => by
    show (if n = 0 then 0 else n / p + Kp267.timesOf p f (n / p)) = (if n = 0 then 0 else n / p + Kp267.timesOf p g (n / p))
    rw [timesOf_fuel hp f g (n / p) (half_lt hp h) (half_lt hp k)]
theorem times_zero (p : Nat) : Kp267.times p 0 = 0 := rfl
theorem times_step {p n : Nat} (hp : 2 ≤ p) (h0 : n ≠ 0) (h : n < 2 ^ 24) : Kp267.times p n = n / p + Kp267.times p (n / p) := by
  show (if n = 0 then 0 else n / p + Kp267.timesOf p 23 (n / p)) = n / p + Kp267.timesOf p 24 (n / p)
  rw [if_neg h0, timesOf_fuel hp 23 24 (n / p) (half_lt hp h) (Nat.lt_trans (half_lt hp h) (by decide))]
theorem timesOf_mono (p : Nat) : ∀ (f : Nat) {n m : Nat}, n ≤ m → Kp267.timesOf p f n ≤ Kp267.timesOf p f m
  | 0, _, _, _ => Nat.le_refl _
  | f + 1, n, m, h => by
    show (if n = 0 then 0 else n / p + Kp267.timesOf p f (n / p)) ≤ (if m = 0 then 0 else m / p + Kp267.timesOf p f (m / p))
    by_cases n0 : n = 0
    · rw [if_pos n0]
      exact Nat.zero_le _
    · rw [if_neg n0, if_neg (by omega)]
      exact Nat.add_le_add (Nat.div_le_div_right h) (timesOf_mono p f (Nat.div_le_div_right h))
theorem times_mono (p : Nat) {n m : Nat} (h : n ≤ m) : Kp267.times p n ≤ Kp267.times p m := timesOf_mono p 24 h
theorem timesOf_le {p : Nat} (hp : 2 ≤ p) : ∀ (f n : Nat), Kp267.timesOf p f n ≤ n
  | 0, n => Nat.zero_le n
  | f + 1, n => by
    show (if n = 0 then 0 else n / p + Kp267.timesOf p f (n / p)) ≤ n
    by_cases n0 : n = 0
    · rw [if_pos n0]
      exact Nat.zero_le _
    · rw [if_neg n0]
      have h1 := timesOf_le hp f (n / p)
      have h2 : n / p ≤ n / 2 := Nat.div_le_div_left hp (by decide)
      omega
theorem times_le {p : Nat} (hp : 2 ≤ p) (n : Nat) : Kp267.times p n ≤ n := timesOf_le hp 24 n
/-! ### what is left -/
def neg (p a : Nat) : Nat := (p - a) % p
theorem neg_lt {p a : Nat} (hp : 0 < p) : neg p a < p := Nat.mod_lt _ hp
theorem neg_add {p a : Nat} (h : a < p) : (neg p a + a) % p = 0 := by
  unfold neg
  rw [Nat.mod_add_mod, Nat.sub_add_cancel (Nat.le_of_lt h), Nat.mod_self]
theorem neg_one {p x y : Nat} (hx : x < p) (hy : y < p) (h : (x + y) % p = 0) : x = neg p y := by
  unfold neg
  obtain ⟨q, hq⟩ := Nat.dvd_of_mod_eq_zero h
  have q2 : q < 2 := by
    apply Nat.lt_of_not_le
    intro h2
    have := Nat.mul_le_mul_left p h2
    omega
  have q01 : q = 0 ∨ q = 1 := by omega
  rcases q01 with rfl | rfl
  · have e : x = 0 ∧ y = 0 := by omega
    rw [e.1, e.2, Nat.sub_zero, Nat.mod_self]
  · have e : p - y = x := by omega
    rw [e, Nat.mod_eq_of_lt hx]
theorem neg_neg {p a : Nat} (h : a < p) : neg p (neg p a) = a :=
  (neg_one h (neg_lt (by omega)) (by rw [Nat.add_comm]; exact neg_add h)).symm
theorem neg_mul {p a : Nat} (h : a < p) (s : Nat) : neg p a * s % p = neg p (a * s % p) := by
  have hp : 0 < p := by omega
  refine neg_one (Nat.mod_lt _ hp) (Nat.mod_lt _ hp) ?_
  rw [← Nat.add_mod, ← Nat.add_mul, Nat.mul_mod, neg_add h, Nat.zero_mul, Nat.zero_mod]
theorem pred_mul {p a : Nat} (h : a < p) : a * (p - 1) % p = neg p a := by
  have hp : 0 < p := by omega
  refine neg_one (Nat.mod_lt _ hp) h ?_
  rw [Nat.mod_add_mod]
  have e : a * (p - 1) + a = a * p := by
    have : a * (p - 1) + a * 1 = a * (p - 1 + 1) := (Nat.mul_add a (p - 1) 1).symm
    rw [Nat.mul_one] at this
    rw [this, Nat.sub_add_cancel hp]
  rw [e, Nat.mul_mod_left]
theorem small_prod (p : Nat) : ∀ d, Kp267.small p d = Kp267.prod d % p
  | 0 => rfl
  | d + 1 => by
    show (d + 1) * Kp267.small p d % p = (d + 1) * Kp267.prod d % p
    rw [small_prod p d, Nat.mul_mod_mod]
def fold (p : Nat) (a : Nat) (l : List Nat) : Nat := l.foldl (fun (a d : Nat) => a * Kp267.small p d % p) a
theorem fold_lt {p : Nat} : ∀ (l : List Nat) {a : Nat}, a < p → fold p a l < p
  | [], _, h => h
  | d :: l, a, h => fold_lt l (a := a * Kp267.small p d % p) (Nat.mod_lt _ (by omega))
theorem fold_neg {p : Nat} : ∀ (l : List Nat) {a : Nat}, a < p → fold p (neg p a) l = neg p (fold p a l)
  | [], _, _ => rfl
  | d :: l, a, h => by
    show fold p (neg p a * Kp267.small p d % p) l = neg p (fold p (a * Kp267.small p d % p) l)
    rw [neg_mul h, fold_neg l (Nat.mod_lt _ (by omega))]
/-- what comes out from a number so far and what is still to divide -/
def fin (p f a n : Nat) : Nat := if Kp267.timesOf p f n % 2 = 0 then fold p a (Kp266.digitsOf p f n) else neg p (fold p a (Kp266.digitsOf p f n))
def turn (p a n : Nat) : Nat := (if n / p % 2 = 1 then a * (p - 1) % p else a) * Kp267.prod (n % p) % p
theorem digitsOf_zero (p f : Nat) : Kp266.digitsOf p f 0 = [] := by
  cases f <;> rfl
theorem digitsOf_fuel {p : Nat} (hp : 2 ≤ p) : ∀ (f g n : Nat), n < 2 ^ f → n < 2 ^ g → Kp266.digitsOf p f n = Kp266.digitsOf p g n
  | 0, g, n, h, _ => by
    have e : n = 0 := by simpa using h
    subst e
    rw [digitsOf_zero, digitsOf_zero]
  | f + 1, 0, n, _, h => by
    have e : n = 0 := by simpa using h
    subst e
    rw [digitsOf_zero, digitsOf_zero]
  | f + 1, g + 1, n, h, k => by
    show (if n = 0 then [] else n % p :: Kp266.digitsOf p f (n / p)) = (if n = 0 then [] else n % p :: Kp266.digitsOf p g (n / p))
    rw [digitsOf_fuel hp f g (n / p) (half_lt hp h) (half_lt hp k)]
theorem turn_lt {p a n : Nat} (hp : 0 < p) : turn p a n < p := Nat.mod_lt _ hp
theorem fin_turn {p a n f : Nat} (hp : 2 ≤ p) (ha : a < p) (h0 : n ≠ 0) : fin p (f + 1) a n = fin p f (turn p a n) (n / p) := by
  have e1 : Kp267.timesOf p (f + 1) n = n / p + Kp267.timesOf p f (n / p) := if_neg h0
  have e2 : Kp266.digitsOf p (f + 1) n = n % p :: Kp266.digitsOf p f (n / p) := if_neg h0
  unfold fin
  rw [e1, e2]
  have e3 : ∀ l, fold p a (n % p :: l) = fold p (a * Kp267.small p (n % p) % p) l := fun _ => rfl
  rw [e3]
  generalize Kp266.digitsOf p f (n / p) = l
  generalize ht : Kp267.timesOf p f (n / p) = t
  have sm : ∀ b, b * Kp267.prod (n % p) % p = b * Kp267.small p (n % p) % p := fun b => by
    rw [small_prod, Nat.mul_mod_mod]
  unfold turn
  rw [sm]
  have lt1 : a * Kp267.small p (n % p) % p < p := Nat.mod_lt _ (by omega)
  by_cases c : n / p % 2 = 1
  · rw [if_pos c, pred_mul ha, neg_mul ha, fold_neg l lt1]
    by_cases d : t % 2 = 0
    · rw [if_pos d, if_neg (by omega)]
    · rw [if_neg d, if_pos (by omega), neg_neg (fold_lt l lt1)]
  · rw [if_neg c]
    by_cases d : t % 2 = 0
    · rw [if_pos d, if_pos (by omega)]
    · rw [if_neg d, if_neg (by omega)]
theorem fin_step {p a n : Nat} (hp : 2 ≤ p) (ha : a < p) (h0 : n ≠ 0) (h : n < 2 ^ 24) : fin p 24 a n = fin p 24 (turn p a n) (n / p) := by
  rw [fin_turn (f := 23) hp ha h0]
  unfold fin
  rw [timesOf_fuel hp 23 24 (n / p) (half_lt hp h) (Nat.lt_trans (half_lt hp h) (by decide)), digitsOf_fuel hp 23 24 (n / p) (half_lt hp h) (Nat.lt_trans (half_lt hp h) (by decide))]
theorem fin_zero (p a : Nat) : fin p 24 a 0 = a := rfl
theorem rest_fin {p : Nat} (hp : 2 ≤ p) (n : Nat) : Kp267.rest p n = fin p 24 1 n := by
  have e : 1 % p = 1 := Nat.mod_eq_of_lt hp
  unfold Kp267.rest fin
  rw [e]
  rfl
/-! ### the least -/
theorem find_range {P : Nat → Bool} : ∀ {n i : Nat}, i < n → (∀ m, m < i → P m = false) → P i = true → (List.range n).find? P = some i
  | n, i, hi, hm, hp => by
    rw [List.find?_range_eq_some]
    exact ⟨hp, by simpa using hi, fun j hj => by simp [hm j hj]⟩
theorem least_some {p k i : Nat} (hi : i < 700) (hm : ∀ m, m < i → ¬ k ≤ Kp267.times p m) (h : k ≤ Kp267.times p i) : Kp267.least p k = some i :=
  find_range hi (fun m q => decide_eq_false (hm m q)) (decide_eq_true h)
theorem least_none {p k : Nat} (hm : ∀ m, m < 700 → ¬ k ≤ Kp267.times p m) : Kp267.least p k = none := by
  unfold Kp267.least
  rw [List.find?_eq_none]
  intro x hx
  simp only [List.mem_range] at hx
  simp [hm x hx]
/-! ### prime or not, by trial -/
def trial (n : Nat) : Nat → Nat → Bool
  | 0, _ => true
  | f + 1, d => if d * d ≤ n then (if n % d = 0 then false else trial n f (d + 1)) else true
theorem trial_is : ∀ n, n < 100 → (decide (2 ≤ n) && trial n 100 2) = Kp266.isPrime n := by decide +kernel
theorem okP_is (n : Nat) : Kp266.okP n = (decide (n < 100) && (decide (2 ≤ n) && trial n 100 2)) := by
  unfold Kp266.okP
  by_cases h : n < 100
  · rw [trial_is n h]
  · rw [decide_eq_false h] <;> rfl
/-! ### the primes of a base -/
def strip (d : Nat) : Nat → Nat → Nat → Nat × Nat
  | 0, n, o => (n, o)
  | f + 1, n, o => if n % d = 0 then strip d f (n / d) (o + 1) else (n, o)
structure Pt where
  num : Nat
  div : Nat
  parts : List (Nat × Nat)
def pstep (s : Pt) : Pt := if s.num ≤ 1 then s else
  let x := strip s.div 7 s.num 0
  ⟨x.1, s.div + 1, if 0 < x.2 then s.parts ++ [(s.div, x.2)] else s.parts⟩
def pst (b : Nat) : Nat → Pt
  | 0 => ⟨b, 2, []⟩
  | i + 1 => pstep (pst b i)
theorem pst_all : ∀ b, b < 101 → (pst b 100).num ≤ 1 ∧ (2 ≤ b → (pst b 100).parts = Kp267.parts b) := by decide +kernel
theorem pst_stays {b i : Nat} (h : (pst b i).num ≤ 1) : ∀ k, pst b (i + k) = pst b i
  | 0 => rfl
  | k + 1 => by
    show pstep (pst b (i + k)) = pst b i
    rw [pst_stays h k]
    exact if_pos h
end Pr

namespace Pr
/-! ### the list of calls, read from the left -/
theorem whole_id (c : List (List Int)) : PyKp267.whole c = c := by
  unfold PyKp267.whole
  split <;> rfl
theorem map_whole (cs : List (List (List Int))) : cs.map PyKp267.whole = cs := by
  have e : PyKp267.whole = id := funext whole_id
  rw [e, List.map_id]
/-- how many numbers stand behind a call's own -/
def behind : Nat → Nat
  | 6 => 2
  | 7 => 2
  | 10 => 2
  | 13 => 0
  | _ => 1
theorem shape_some {p : Int} {x : Nat × Nat} (h : PyKp267.shape p = some x) : ∃ c : Nat, c < 14 ∧ p = (c : Int) ∧ x = (behind c, 0) := by
  unfold PyKp267.shape at h
  by_cases h0 : p = 0
  · rw [if_pos h0] at h
    exact ⟨0, by decide, h0, (Option.some.inj h).symm⟩
  rw [if_neg h0] at h
  by_cases h1 : p = 1
  · rw [if_pos h1] at h
    exact ⟨1, by decide, h1, (Option.some.inj h).symm⟩
  rw [if_neg h1] at h
  by_cases h2 : p = 2
  · rw [if_pos h2] at h
    exact ⟨2, by decide, h2, (Option.some.inj h).symm⟩
  rw [if_neg h2] at h
  by_cases h3 : p = 3
  · rw [if_pos h3] at h
    exact ⟨3, by decide, h3, (Option.some.inj h).symm⟩
  rw [if_neg h3] at h
  by_cases h4 : p = 4
  · rw [if_pos h4] at h
    exact ⟨4, by decide, h4, (Option.some.inj h).symm⟩
  rw [if_neg h4] at h
  by_cases h5 : p = 5
  · rw [if_pos h5] at h
    exact ⟨5, by decide, h5, (Option.some.inj h).symm⟩
  rw [if_neg h5] at h
  by_cases h6 : p = 6
  · rw [if_pos h6] at h
    exact ⟨6, by decide, h6, (Option.some.inj h).symm⟩
  rw [if_neg h6] at h
  by_cases h7 : p = 7
  · rw [if_pos h7] at h
    exact ⟨7, by decide, h7, (Option.some.inj h).symm⟩
  rw [if_neg h7] at h
  by_cases h8 : p = 8
  · rw [if_pos h8] at h
    exact ⟨8, by decide, h8, (Option.some.inj h).symm⟩
  rw [if_neg h8] at h
  by_cases h9 : p = 9
  · rw [if_pos h9] at h
    exact ⟨9, by decide, h9, (Option.some.inj h).symm⟩
  rw [if_neg h9] at h
  by_cases h10 : p = 10
  · rw [if_pos h10] at h
    exact ⟨10, by decide, h10, (Option.some.inj h).symm⟩
  rw [if_neg h10] at h
  by_cases h11 : p = 11
  · rw [if_pos h11] at h
    exact ⟨11, by decide, h11, (Option.some.inj h).symm⟩
  rw [if_neg h11] at h
  by_cases h12 : p = 12
  · rw [if_pos h12] at h
    exact ⟨12, by decide, h12, (Option.some.inj h).symm⟩
  rw [if_neg h12] at h
  by_cases h13 : p = 13
  · rw [if_pos h13] at h
    exact ⟨13, by decide, h13, (Option.some.inj h).symm⟩
  rw [if_neg h13] at h
  cases h
/-- what is told so far and what the rest will tell is the whole answer -/
structure Goes (l : List Int) (st : Kp267.State) (out rest : List Int) (f : Nat) : Prop where
  ex : ∃ cs, PyFlat.calls PyKp267.shape f rest = some cs ∧ out ++ PyFlat.told (PyFlat.played Kp267Neutral.step st cs) = PyKp267.answers l
theorem asked_raw {l : List Int} (h : PyKp267.answers_asked l = true) : ∃ cs, PyFlat.calls PyKp267.shape l.length l = some cs ∧ (PyKp267.answers l).length ≤ 10000000 := by
  unfold PyKp267.answers_asked at h
  split at h
  · cases h
  · rename_i raw e
    refine ⟨raw, e, ?_⟩
    simp only [Bool.and_eq_true] at h
    exact of_decide_eq_true h.2
theorem goes_start {l : List Int} (h : PyKp267.answers_asked l = true) : Goes l none [] l l.length := by
  obtain ⟨cs, e, _⟩ := asked_raw h
  refine ⟨cs, e, ?_⟩
  unfold PyKp267.answers PyKp267.calls
  rw [e]
  show _ = PyFlat.told (PyFlat.played Kp267Neutral.step Kp267Neutral.start (cs.map PyKp267.whole))
  rw [map_whole]
  rfl
theorem goes_end {l out : List Int} {st : Kp267.State} {f : Nat} (g : Goes l st out [] f) : out = PyKp267.answers l := by
  obtain ⟨cs, e, q⟩ := g.ex
  have : cs = [] := by
    cases f <;> exact (Option.some.inj e).symm
  subst this
  rw [← q]
  exact (List.append_nil out).symm
theorem goes_len {l out rest : List Int} {st : Kp267.State} {f : Nat} (g : Goes l st out rest f) (h : PyKp267.answers_asked l = true) : out.length ≤ 10000000 := by
  obtain ⟨cs, _, q⟩ := g.ex
  obtain ⟨_, _, k⟩ := asked_raw h
  rw [← q, List.length_append] at k
  omega
/-- one call's answer in the list: how many, then these -/
def said (a : List Int) : List Int := (a.length : Int) :: a
theorem goes_step {l out r : List Int} {p : Int} {st : Kp267.State} {f : Nat} (g : Goes l st out (p :: r) f) :
    ∃ c : Nat, c < 14 ∧ p = (c : Int) ∧ behind c ≤ r.length ∧
      Goes l (Kp267Neutral.step st [p :: r.take (behind c)]).1 (out ++ said (Kp267Neutral.step st [p :: r.take (behind c)]).2) (r.drop (behind c)) (f - 1) := by
  obtain ⟨cs, e, q⟩ := g.ex
  cases f with
  | zero => cases e
  | succ f =>
    have e0 : PyFlat.calls PyKp267.shape (f + 1) (p :: r) = (match PyFlat.call PyKp267.shape (p :: r) with
      | none => none
      | some (c, t) => match PyFlat.calls PyKp267.shape f t with
        | none => none
        | some cs => some (c :: cs)) := rfl
    have e1 : PyFlat.call PyKp267.shape (p :: r) = (match PyKp267.shape p with
      | none => none
      | some (n, k) => if r.length < n then none else match PyFlat.rows k (r.drop n) with
        | none => none
        | some (xs, t) => some ((p :: r.take n) :: xs, t)) := rfl
    rw [e0, e1] at e
    cases hs : PyKp267.shape p with
    | none =>
      rw [hs] at e
      cases e
    | some x =>
      obtain ⟨c, hc, hp, hx⟩ := shape_some hs
      subst hx
      rw [hs] at e
      dsimp only at e
      by_cases hl : r.length < behind c
      · rw [if_pos hl] at e
        cases e
      · rw [if_neg hl] at e
        dsimp only [PyFlat.rows] at e
        cases hr : PyFlat.calls PyKp267.shape f (r.drop (behind c)) with
        | none =>
          rw [hr] at e
          cases e
        | some cs' =>
          rw [hr] at e
          dsimp only at e
          have e' := Option.some.inj e
          subst e'
          refine ⟨c, hc, hp, by omega, ⟨cs', hr, ?_⟩⟩
          rw [← q]
          rw [List.append_assoc]
          rfl
/-! ### what a call is worth, by its number -/
theorem drop_more {l : List Int} {i n : Nat} {p : Int} {r : List Int} (h : l.drop i = p :: r) : l.drop (i + 1 + n) = r.drop n := by
  rw [← List.drop_drop, ← List.drop_drop, h]
  rfl
/-- the answer of a call by its number, the state and its numbers -/
def ans (c : Nat) (st : Kp267.State) (ns : List Int) : List Int := (Kp267Neutral.step st [(c : Int) :: ns]).2
def nxt (c : Nat) (st : Kp267.State) (ns : List Int) : Kp267.State := (Kp267Neutral.step st [(c : Int) :: ns]).1
theorem ans_begin (st : Kp267.State) (a : Int) : ans 0 st [a] = [if Kp266.okP a.toNat then (a.toNat : Int) else -22] := by
  show (_ :: _ : List Int) = _
  simp only [Kp267.step]
  split <;> rfl
theorem nxt_begin (st : Kp267.State) (a : Int) : nxt 0 st [a] = if Kp266.okP a.toNat then some a.toNat else st := by
  show (Kp267.step st (.begin_ a.toNat)).1 = _
  simp only [Kp267.step]
  split <;> rfl
theorem ans_prime (p : Nat) (a : Int) : ans 1 (some p) [a] = [if Kp266.okP a.toNat then (p : Int) else -22] := by
  show (_ :: _ : List Int) = _
  simp only [Kp267.step]
  split <;> rfl
theorem nxt_prime (p : Nat) (a : Int) : nxt 1 (some p) [a] = if Kp266.okP a.toNat then some a.toNat else some p := by
  show (Kp267.step (some p) (.prime a.toNat)).1 = _
  simp only [Kp267.step]
  split <;> rfl
theorem ans_prod (p : Nat) (a : Int) : ans 2 (some p) [a] = [if 20 < a.toNat then -22 else (Kp267.prod a.toNat : Int)] := by
  show (_ :: _ : List Int) = _
  simp only [Kp267.step]
  split <;> rfl
theorem ans_times (p : Nat) (a : Int) : ans 3 (some p) [a] = [if 1000000 < a.toNat then -22 else (Kp267.times p a.toNat : Int)] := by
  show (_ :: _ : List Int) = _
  simp only [Kp267.step]
  repeat' split
  all_goals first | rfl | (exfalso; simp only [Kp267.MOST] at *; omega)
theorem ans_rest (p : Nat) (a : Int) : ans 4 (some p) [a] = [if 1000000 < a.toNat then -22 else (Kp267.rest p a.toNat : Int)] := by
  show (_ :: _ : List Int) = _
  simp only [Kp267.step]
  repeat' split
  all_goals first | rfl | (exfalso; simp only [Kp267.MOST] at *; omega)
theorem ans_least (p : Nat) (a : Int) : ans 5 (some p) [a] = if 600 < a.toNat then [-22] else match Kp267.least p a.toNat with
    | some n => [(n : Int), (Kp267.times p n : Int)]
    | none => [-33] := by
  show (_ :: _ : List Int) = _
  simp only [Kp267.step]
  split
  · rfl
  · cases Kp267.least p a.toNat <;> rfl
theorem ans_noughts (p : Nat) (a b : Int) : ans 6 (some p) [a, b] = [if a.toNat < 2 ∨ 100 < a.toNat ∨ 1000000 < b.toNat then -22 else (Kp267.noughts a.toNat b.toNat : Int)] := by
  show (_ :: _ : List Int) = _
  simp only [Kp267.step]
  repeat' split
  all_goals first | rfl | (exfalso; simp only [Kp267.MOST] at *; omega)
theorem ans_span (p : Nat) (a b : Int) : ans 7 (some p) [a, b] = [if a.toNat = 0 ∨ 1000000 < b.toNat ∨ b.toNat < a.toNat then -22 else (Kp267.span p a.toNat b.toNat : Int)] := by
  show (_ :: _ : List Int) = _
  simp only [Kp267.step]
  repeat' split
  all_goals first | rfl | (exfalso; simp only [Kp267.MOST] at *; omega)
theorem ans_gaps (p : Nat) (a : Int) : ans 8 (some p) [a] = if 60 < a.toNat then [-22] else ((Kp267.gaps p a.toNat).length : Int) :: (Kp267.gaps p a.toNat).map fun (x : Nat) => (x : Int) := by
  show (_ :: _ : List Int) = _
  simp only [Kp267.step]
  split <;> rfl
def odds (n : Nat) : List Nat := (Kp267.primes n).filter fun q => Kp267.times q n % 2 != 0
theorem ans_square (p : Nat) (a : Int) : ans 9 (some p) [a] = if 60 < a.toNat then [-22] else ((odds a.toNat).length : Int) :: (odds a.toNat).map fun (x : Nat) => (x : Int) := by
  show (_ :: _ : List Int) = _
  simp only [Kp267.step]
  split <;> rfl
def divs (n m : Nat) : Bool := (Kp267.primes m).all fun q => decide (2 * Kp267.times q m ≤ Kp267.times q n)
theorem ans_twice (p : Nat) (a b : Int) : ans 10 (some p) [a, b] = [if 1000000 < a.toNat ∨ 60 < b.toNat then -22 else if divs a.toNat b.toNat then 1 else 0] := by
  show (_ :: _ : List Int) = _
  simp only [Kp267.step]
  by_cases h : 1000000 < a.toNat ∨ 60 < b.toNat
  · rw [if_pos h, if_pos (show Kp267.MOST < a.toNat ∨ 60 < b.toNat from h)]
    rfl
  · rw [if_neg h, if_neg (show ¬ (Kp267.MOST < a.toNat ∨ 60 < b.toNat) from h)]
    rfl
def pairs (b : Nat) : List Int := ((Kp267.parts b).flatMap fun z => [z.1, z.2]).map fun (x : Nat) => (x : Int)
theorem ans_parts (p : Nat) (a : Int) : ans 11 (some p) [a] = if a.toNat < 2 ∨ 100 < a.toNat then [-22] else ((Kp267.parts a.toNat).length : Int) :: pairs a.toNat := by
  show (_ :: _ : List Int) = _
  simp only [Kp267.step]
  split <;> rfl
theorem ans_jumps (p : Nat) (a : Int) : ans 12 (some p) [a] = if a.toNat = 0 ∨ 1000000 < a.toNat then [-22] else
    [((Kp267.times p a.toNat - Kp267.times p (a.toNat - 1) : Nat) : Int), (Kp267.times p (a.toNat - 1) : Int), (Kp267.times p a.toNat : Int)] := by
  show (_ :: _ : List Int) = _
  simp only [Kp267.step]
  repeat' split
  all_goals first | rfl | (exfalso; simp only [Kp267.MOST] at *; omega)
theorem ans_told (p : Nat) : ans 13 (some p) [] = [(p : Int)] := rfl
/-- all but begin, ahead of a begin -/
theorem ans_new {c : Nat} {ns : List Int} (h0 : c ≠ 0) (hc : c < 14) (hl : ns.length = behind c) : ans c none ns = [-11] ∧ nxt c none ns = none := by
  have k : c = 1 ∨ c = 2 ∨ c = 3 ∨ c = 4 ∨ c = 5 ∨ c = 6 ∨ c = 7 ∨ c = 8 ∨ c = 9 ∨ c = 10 ∨ c = 11 ∨ c = 12 ∨ c = 13 := by omega
  rcases k with rfl | rfl | rfl | rfl | rfl | rfl | rfl | rfl | rfl | rfl | rfl | rfl | rfl
  all_goals
    match ns, hl with
    | [], h => first | exact ⟨rfl, rfl⟩ | cases h
    | [a], h => first | exact ⟨rfl, rfl⟩ | cases h
    | [a, b], h => first | exact ⟨rfl, rfl⟩ | cases h
    | _ :: _ :: _ :: _, h => cases h
/-- all but begin and prime leave the prime as it was -/
theorem nxt_same {c : Nat} {p : Nat} {ns : List Int} (h0 : 2 ≤ c) (hc : c < 14) (hl : ns.length = behind c) : nxt c (some p) ns = some p := by
  have k : c = 2 ∨ c = 3 ∨ c = 4 ∨ c = 5 ∨ c = 6 ∨ c = 7 ∨ c = 8 ∨ c = 9 ∨ c = 10 ∨ c = 11 ∨ c = 12 ∨ c = 13 := by omega
  rcases k with rfl | rfl | rfl | rfl | rfl | rfl | rfl | rfl | rfl | rfl | rfl | rfl
  all_goals
    match ns, hl with
    | [], h => first | exact rfl | cases h
    | [a], h => first | exact rfl | cases h
    | [a, b], h => first | exact rfl | cases h
    | _ :: _ :: _ :: _, h => cases h
end Pr

namespace Pr
/-! ### the primes up to a number, by turns -/
theorem primes_zero : Kp267.primes 0 = [] := by decide +kernel
def upTo (i : Nat) : List Nat := (List.range (i + 2)).filter Kp266.isPrime
theorem upTo_zero : upTo 0 = [] := by decide +kernel
theorem upTo_succ (i : Nat) : upTo (i + 1) = if Kp266.isPrime (i + 2) then upTo i ++ [i + 2] else upTo i := by
  unfold upTo
  rw [List.range_succ, List.filter_append]
  by_cases h : Kp266.isPrime (i + 2) = true
  · rw [if_pos h, List.filter_cons_of_pos h]
    rfl
  · rw [if_neg h, List.filter_cons_of_neg h]
    exact List.append_nil _
theorem upTo_is {n : Nat} : upTo (n - 1) = Kp267.primes n := by
  cases n with
  | zero => rw [primes_zero]; exact upTo_zero
  | succ n => rfl
theorem upTo_len (i : Nat) : (upTo i).length ≤ i + 2 := by
  unfold upTo
  refine Nat.le_trans (List.length_filter_le _ _) ?_
  rw [List.length_range]
  exact Nat.le_refl _
theorem primes_len (n : Nat) : (Kp267.primes n).length ≤ n + 1 := by
  unfold Kp267.primes
  refine Nat.le_trans (List.length_filter_le _ _) ?_
  rw [List.length_range]
  exact Nat.le_refl _
theorem primes_mem {n q : Nat} (h : q ∈ Kp267.primes n) : 2 ≤ q ∧ q ≤ n := by
  unfold Kp267.primes at h
  rw [List.mem_filter, List.mem_range] at h
  refine ⟨?_, by omega⟩
  have h2 := h.2
  unfold Kp266.isPrime at h2
  rw [Bool.and_eq_true] at h2
  exact of_decide_eq_true h2.1
theorem isPrime_is {n : Nat} (h : n < 100) : (decide (2 ≤ n) && trial n 100 2) = Kp266.isPrime n := trial_is n h
/-! ### the primes that divide it an odd number of times, by turns -/
def oddQ (n q : Nat) : Bool := Kp267.times q n % 2 != 0
def oddOf (n i : Nat) : List Nat := ((Kp267.primes n).take i).filter (oddQ n)
theorem oddOf_zero (n : Nat) : oddOf n 0 = [] := rfl
theorem oddOf_succ {n i q : Nat} (h : (Kp267.primes n)[i]? = some q) : oddOf n (i + 1) = if oddQ n q then oddOf n i ++ [q] else oddOf n i := by
  unfold oddOf
  rw [List.take_add_one, h, List.filter_append]
  by_cases c : oddQ n q = true
  · rw [if_pos c]
    show _ ++ List.filter (oddQ n) [q] = _
    rw [List.filter_cons_of_pos c]
    rfl
  · rw [if_neg c]
    show _ ++ List.filter (oddQ n) [q] = _
    rw [List.filter_cons_of_neg c]
    exact List.append_nil _
theorem oddOf_all (n : Nat) : oddOf n (Kp267.primes n).length = odds n := by
  unfold oddOf odds
  rw [List.take_length]
  rfl
theorem oddOf_len (n i : Nat) : (oddOf n i).length ≤ n + 1 := by
  unfold oddOf
  refine Nat.le_trans (List.length_filter_le _ _) ?_
  rw [List.length_take]
  have := primes_len n
  omega
theorem odds_len (n : Nat) : (odds n).length ≤ n + 1 := by
  rw [← oddOf_all]
  exact oddOf_len n _
/-! ### what is leapt over, by turns -/
def mid (t u : Nat) : List Nat := (List.range (u - (t + 1))).map fun i => t + 1 + i
theorem range_split {t u : Nat} (h : t ≤ u) : List.range (u + 1) = List.range (t + 1) ++ (List.range (u - t)).map fun i => t + 1 + i := by
  have e : u + 1 = (t + 1) + (u - t) := by omega
  rw [e, List.range_add]
theorem any_succ (f : Nat → Bool) (n : Nat) : (List.range (n + 1)).any f = ((List.range n).any f || f n) := by
  rw [List.range_succ, List.any_append]
  simp
theorem mid_is {t u : Nat} (h : t ≤ u) : ((List.range (u - t)).map fun i => t + 1 + i).filter (fun k => k != u) = mid t u := by
  unfold mid
  rcases Nat.lt_or_ge t u with c | c
  · obtain ⟨d, rfl⟩ : ∃ d, u = t + 1 + d := ⟨u - (t + 1), by omega⟩
    have e1 : t + 1 + d - t = d + 1 := by omega
    have e2 : t + 1 + d - (t + 1) = d := by omega
    rw [e1, e2, List.range_succ, List.map_append, List.filter_append]
    have l2 : List.filter (fun k => k != t + 1 + d) (List.map (fun i => t + 1 + i) [d]) = [] := by simp
    rw [l2, List.append_nil, List.filter_eq_self]
    intro k hk
    obtain ⟨i, hi, rfl⟩ := List.mem_map.mp hk
    rw [List.mem_range] at hi
    simp
    omega
  · have e1 : u - t = 0 := by omega
    have e2 : u - (t + 1) = 0 := by omega
    rw [e1, e2]
    rfl
theorem gaps_zero (p : Nat) : Kp267.gaps p 0 = [] := rfl
theorem gaps_succ (p n : Nat) : Kp267.gaps p (n + 1) = Kp267.gaps p n ++ mid (Kp267.times p n) (Kp267.times p (n + 1)) := by
  have hm : Kp267.times p n ≤ Kp267.times p (n + 1) := times_mono p (Nat.le_succ n)
  unfold Kp267.gaps
  rw [range_split hm, List.filter_append]
  congr 1
  · refine List.filter_congr fun k hk => ?_
    rw [List.mem_range] at hk
    rw [any_succ _ (n + 1)]
    by_cases c : Kp267.times p (n + 1) = k
    · have e : Kp267.times p n = k := by omega
      have a : ((List.range (n + 1)).any fun m => Kp267.times p m == k) = true := by
        rw [List.any_eq_true]
        exact ⟨n, List.mem_range.mpr (Nat.lt_succ_self n), by simp [e]⟩
      rw [a]
      rfl
    · have b : (Kp267.times p (n + 1) == k) = false := by simp [c]
      rw [b, Bool.or_false]
  · rw [← mid_is hm]
    refine List.filter_congr fun k hk => ?_
    obtain ⟨i, hi, rfl⟩ := List.mem_map.mp hk
    rw [any_succ _ (n + 1)]
    have low : ((List.range (n + 1)).any fun m => Kp267.times p m == Kp267.times p n + 1 + i) = false := by
      rw [List.any_eq_false]
      intro m hmm
      rw [List.mem_range] at hmm
      have := times_mono p (Nat.le_of_lt_succ hmm)
      simp
      omega
    rw [low, Bool.false_or]
    by_cases c : Kp267.times p (n + 1) = Kp267.times p n + 1 + i
    · rw [← c]
      simp
    · have c' : ¬ Kp267.times p n + 1 + i = Kp267.times p (n + 1) := fun z => c z.symm
      have b1 : (Kp267.times p (n + 1) == Kp267.times p n + 1 + i) = false := beq_eq_false_iff_ne.mpr c
      have b2 : (Kp267.times p n + 1 + i != Kp267.times p (n + 1)) = true := bne_iff_ne.mpr c'
      rw [b1, b2]
      rfl
theorem gaps_len (p n : Nat) (hp : 2 ≤ p) : (Kp267.gaps p n).length ≤ n + 1 := by
  unfold Kp267.gaps
  refine Nat.le_trans (List.length_filter_le _ _) ?_
  rw [List.length_range]
  have := times_le hp n
  omega
/-! ### all primes, by turns -/
def divQ (n m q : Nat) : Bool := decide (2 * Kp267.times q m ≤ Kp267.times q n)
theorem divs_true {n m : Nat} (h : ∀ (i q : Nat), (Kp267.primes m)[i]? = some q → 2 * Kp267.times q m ≤ Kp267.times q n) : divs n m = true := by
  unfold divs
  rw [List.all_eq_true]
  intro q hq
  obtain ⟨i, hi⟩ := List.getElem?_of_mem hq
  exact decide_eq_true (h i q hi)
theorem divs_false {n m i q : Nat} (h : (Kp267.primes m)[i]? = some q) (g : ¬ 2 * Kp267.times q m ≤ Kp267.times q n) : divs n m = false := by
  unfold divs
  rw [List.all_eq_false]
  exact ⟨q, List.mem_of_getElem? h, by rw [decide_eq_false g]; exact Bool.false_ne_true⟩
/-! ### each prime and how often, flat, by turns -/
def flat (l : List (Nat × Nat)) : List Nat := l.flatMap fun z => [z.1, z.2]
theorem flat_zero (l : List (Nat × Nat)) : flat (l.take 0) = [] := rfl
theorem flat_succ {l : List (Nat × Nat)} {i : Nat} {z : Nat × Nat} (h : l[i]? = some z) : flat (l.take (i + 1)) = flat (l.take i) ++ [z.1, z.2] := by
  unfold flat
  rw [List.take_add_one, h, List.flatMap_append]
  rfl
theorem flat_len : ∀ l : List (Nat × Nat), (flat l).length = 2 * l.length
  | [] => rfl
  | z :: l => by
    show (z.1 :: z.2 :: flat l).length = 2 * (l.length + 1)
    have := flat_len l
    simp only [List.length_cons]
    omega
theorem flat_all (b : Nat) : (flat (Kp267.parts b)).map (fun (x : Nat) => (x : Int)) = pairs b := rfl
end Pr

namespace Pr
open PySem PySem.Spec PyProof.Rows L2
/-! ### a call of whatever expression gives a def -/
def tCallE (S : Addr → Sp → Prop) (tf : TE) (t : TA) : TE := fun σ H Q => tf σ H fun v H1 => ∃ f sp, v = .ref f ∧ S f sp ∧ t σ H1 fun vs H2 => sp vs H2 Q E0
theorem pe_callE {X : Cx} {k : Nat} {S : Addr → Sp → Prop} {fe e : Expr} {es : List Expr} {pos : Pos} {tf : TE} {t : TA} (hf : PE X fe tf) (A : ∀ f sp, S f sp → Held X.prog X.w X.K X.mg X.base k f sp) (hr : Room k X.A) (ha : PA X (e :: es) t)
    (ht : eval (.Call fe (e :: es) [] pos) X.env = (do callWith pos (← eval fe X.env) [] (backTo pos (starEach (e :: es) X.env)) (backToKw pos (keywordEach [] X.env))) := by rfl)
    (he : starEach (e :: es) X.env = (false, eval e X.env) :: starEach es X.env := by rfl) (hpl : (backTo pos (starEach es X.env)).any (·.1) = false := by rfl) : PE X (.Call fe (e :: es) [] pos) (tCallE S tf t) := by
  refine ⟨fun pins s σ H Q I h => ?_⟩
  refine Call_ (thn (hf.run pins s σ H _ I h) fun u s1 ⟨y, H1, I1, ry, f, sp, ey, hS, q⟩ => ?_) ht
  subst ey
  obtain rfl : u = Value.ref f := ry
  obtain ⟨fd, ps, F, hk, hb⟩ := (A f sp hS).ex
  refine PySem.W.callWith_K (h₀ := X.base) I.ok.mod.kin hk (thn (ha.run pos pins s1 σ H1 _ I1 q) fun us s2 ⟨vs, H2, I2, r, q2⟩ => ⟨I2.kIn, ?_⟩) he hpl
  refine run_fn (dvs := []) F hr hb .nil pass0 I2 r ?_
  rw [List.append_nil]
  exact q2
/-! ### a def by its global name -/
structure Cl (P : Program) (w : World) (K : PySem.W.Frag) (mg : Str → Option Value) (base : Heap) (k : Nat) (x : Str) (sp : Sp) : Prop where
  ex : ∃ (f : Addr) (fd : FuncData) (ps : List Str), FnOk P w K mg base CX0 k f fd ps sp ∧ mg x = some (.ref f) ∧ PySem.W.keepIn K (.ref f) = true ∧ Binds K fd ps []
def tCallP (sp : Sp) (t : TA) : TE := fun σ H Q => t σ H fun vs H1 => sp vs H1 Q E0
theorem pe_cl {X : Cx} {k j : Nat} {x : Str} {sp : Sp} {e : Expr} {es : List Expr} {p pos : Pos} {t : TA} (c : Cl X.prog X.w X.K X.mg X.base k x sp) (hr : Room j X.A) (hk : k ≤ j) (hg : Gl X x) (ha : PA X (e :: es) t)
    (hdb : (x == ("__debug__" : Str)) = false := by decide) (he : starEach (e :: es) X.env = (false, eval e X.env) :: starEach es X.env := by rfl) (hpl : (backTo pos (starEach es X.env)).any (·.1) = false := by rfl) :
    PE X (.Call (.Name x p) (e :: es) [] pos) (tCallP sp t) := by
  obtain ⟨f, fd, ps, F, hm, kp, b⟩ := c.ex
  have r := pe_call F (hr.mono hk) hg hm kp b .nil (pass0 (X := X)) ha hdb he hpl (pos := pos) (p := p)
  have e0 : tCall sp [] E0 t = tCallP sp t := by
    funext σ H Q
    show t σ H (fun vs H1 => sp (vs ++ []) H1 Q E0) = t σ H fun vs H1 => sp vs H1 Q E0
    congr 1
    funext vs H1
    rw [List.append_nil]
  rw [← e0]
  exact r
/-! ### tests -/
theorem if_true_of {b : Bool} {U W : Prop} (e : b = true) (u : U) : (if b = true then U else W) := by
  subst e
  exact u
theorem if_false_of {b : Bool} {U W : Prop} (e : b = false) (z : W) : (if b = true then U else W) := by
  subst e
  exact z
theorem if_dec {c : Prop} [Decidable c] {A B : Prop} (h1 : c → A) (h2 : ¬ c → B) : if decide c = true then A else B := by
  by_cases h : c
  · exact if_true_of (decide_eq_true h) (h1 h)
  · exact if_false_of (decide_eq_false h) (h2 h)
/-! ### the text -/
def top (i : Nat) : Stmt := PySem.Challenge.pw_productsofall_s01_answers.main.body.getD i (.Pass ⟨0, 0, 0, 0⟩)
abbrev sIsp : Stmt := top 1
abbrev sPup : Stmt := top 2
abbrev sPts : Stmt := top 3
abbrev sPrd : Stmt := top 4
abbrev sHow : Stmt := top 5
abbrev sHfr : Stmt := top 6
abbrev sLeft : Stmt := top 7
abbrev sNou : Stmt := top 8
abbrev sLpt : Stmt := top 9
abbrev sOdd : Stmt := top 10
abbrev sSqd : Stmt := top 11
abbrev sInit : Stmt := inClass (top 28) 0
abbrev sMay : Stmt := top 29
abbrev sMyb : Stmt := top 30
end Pr

namespace Pr
open PySem PySem.Spec PyProof.Rows L2
/-! ### how_often -/
def spHow : Sp := fun vs H Q _ => ∃ p n : Nat, vs = [.int (p : Int), .int (n : Int)] ∧ 2 ≤ p ∧ p < 1000 ∧ n < 2 ^ 24 ∧ Q (.int (Kp267.times p n : Int)) H
theorem scHow : FnScope ["prime", "n", "often"] ["prime", "n"] (defScope sHow) := ⟨rfl, rfl, rfl, by decide +kernel, rfl, by decide +kernel, by decide +kernel⟩
section
variable {P : Program} {w : World} {K : PySem.W.Frag} {mg : Str → Option Value} {base : Heap}
theorem ok_how {f : Addr} {fd : FuncData} (F : Fun K "how_often" "how_often" sHow f fd) : FnOk P w K mg base CX0 1 f fd ["prime", "n"] spHow := by
  refine F.ok scHow (fun vs H Q E h => ?_) (fun cdv A outer s H vs Q E hr h => ⟨_, pss_cons (ps_set (i := 2) scHow.nd rfl (Or.inl rfl) pe_int)
      (pss_cons (ps_while PassesOwn.never (pt_cmpR op_gt (pv 1) pe_int (nomark _))
        (pss_cons (ps_set (i := 1) scHow.nd rfl (Or.inl rfl) (pe_op op_fdiv (pv 1) (pv 0)))
          (pss_one (ps_aug (i := 2) scHow.nd rfl (Or.inl rfl) (pv 1) ip_add))))
      (pss_one (ps_ret (pv 2)))), ?_⟩)
  · obtain ⟨p, n, rfl, _⟩ := h
    rfl
  · obtain ⟨p, n, rfl, hp, hp2, hn, q⟩ := h
    refine ⟨fun m σ H' => ∃ o : Nat, σ = [some (.int (p : Int)), some (.int (m : Int)), some (.int (o : Int))] ∧ H' = H ∧ m ≤ n ∧ o + Kp267.times p m = Kp267.times p n, ⟨n, 0, rfl, rfl, Nat.le_refl _, Nat.zero_add _⟩, ?_⟩
    rintro m σ H' ⟨o, rfl, rfl, hm, e⟩
    refine ⟨_, rfl, _, _, rfl, rfl, _, rfl, if_dec (fun c => ?_) (fun c => ?_)⟩
    · refine ⟨_, fun _ _ x => x, ?_⟩
      refine ⟨_, rfl, _, rfl, _, _, rfl, rfl, ⟨by omega, by omega⟩, ?_⟩
      refine ⟨_, rfl, _, rfl, _, _, rfl, rfl, m / p, ?_, o + m / p, ?_, rfl, ?_, ?_⟩
      · exact Nat.div_lt_self (by omega) hp
      · rfl
      · exact Nat.le_trans (Nat.div_le_self _ _) hm
      · rw [← e, times_step hp (by omega : m ≠ 0) (by omega), Nat.add_assoc]
    · have m0 : m = 0 := by omega
      subst m0
      refine ⟨_, rfl, ?_⟩
      rw [times_zero, Nat.add_zero] at e
      rw [e]
      exact q
end
end Pr

namespace Pr
open PySem PySem.Spec PyProof.Rows L2
/-! ### is_prime -/
def spIsp : Sp := fun vs H Q _ => ∃ n : Nat, vs = [.int (n : Int)] ∧ n < 100 ∧ Q (.bl (decide (2 ≤ n) && trial n 100 2)) H
theorem scIsp : FnScope ["number", "divisor"] ["number"] (defScope sIsp) := ⟨rfl, rfl, rfl, by decide +kernel, rfl, by decide +kernel, by decide +kernel⟩
section
variable {P : Program} {w : World} {K : PySem.W.Frag} {mg : Str → Option Value} {base : Heap}
theorem ok_isp {f : Addr} {fd : FuncData} (F : Fun K "is_prime" "is_prime" sIsp f fd) : FnOk P w K mg base CX0 1 f fd ["number"] spIsp := by
  refine F.ok scIsp (fun vs H Q E h => ?_) (fun cdv A outer s H vs Q E hr h => ⟨_, pss_cons (ps_if (pt_cmpR op_lt (pv 0) pe_int (nomark _)) (pss_one (ps_ret pe_bl)) pss_nil)
      (pss_cons (ps_set (i := 1) scIsp.nd rfl (Or.inl rfl) pe_int)
      (pss_cons (ps_while PassesOwn.never (pt_cmpR op_le (pe_op op_mul (pv 1) (pv 1)) (pv 0) (nomark _))
        (pss_cons (ps_if (pt_cmpR op_eq (pe_op op_mod (pv 0) (pv 1)) pe_int (nomark _)) (pss_one (ps_ret pe_bl)) pss_nil)
          (pss_one (ps_aug (i := 1) scIsp.nd rfl (Or.inl rfl) pe_int ip_add))))
      (pss_one (ps_ret pe_bl)))), ?_⟩)
  · obtain ⟨n, rfl, _⟩ := h
    rfl
  · obtain ⟨n, rfl, hn, q⟩ := h
    refine ⟨_, rfl, _, _, rfl, rfl, _, rfl, if_dec (fun c => ?_) (fun c => ?_)⟩
    · rw [decide_eq_false (by omega : ¬ 2 ≤ n)] at q
      exact q
    · rw [decide_eq_true (by omega : 2 ≤ n), Bool.true_and] at q
      refine ⟨fun m σ H' => ∃ d : Nat, σ = [some (.int (n : Int)), some (.int (d : Int))] ∧ H' = H ∧ 2 ≤ d ∧ d + m = 102 ∧ trial n m d = trial n 100 2, ⟨100, 2, rfl, rfl, by decide, rfl, rfl⟩, ?_⟩
      rintro m σ H' ⟨d, rfl, rfl, hd, hm, e⟩
      refine ⟨_, rfl, _, rfl, _, _, rfl, rfl, Or.inl ⟨by omega, by omega⟩, _, rfl, _, _, rfl, rfl, _, rfl, if_dec (fun c => ?_) (fun c => ?_)⟩
      · have c' : d * d ≤ n := by exact_mod_cast c
        have d10 : d < 10 := by
          apply Nat.lt_of_not_le
          intro h10
          have := Nat.mul_le_mul h10 h10
          omega
        obtain ⟨m, rfl⟩ : ∃ k, m = k + 1 := ⟨m - 1, by omega⟩
        have e2 : trial n (m + 1) d = if n % d = 0 then false else trial n m (d + 1) := if_pos c'
        refine ⟨fun σ' H2 => ∃ m', m' < m + 1 ∧ ∃ d : Nat, σ' = [some (.int (n : Int)), some (.int (d : Int))] ∧ H2 = H' ∧ 2 ≤ d ∧ d + m' = 102 ∧ trial n m' d = trial n 100 2, fun _ _ x => x, ?_⟩
        refine ⟨_, rfl, _, rfl, _, _, rfl, rfl, by omega, rfl, _, rfl, if_dec (fun g => ?_) (fun g => ?_)⟩
        · have g' : n % d = 0 := by
            have := V.int.inj g
            exact_mod_cast this
          rw [if_pos g'] at e2
          rw [← e, e2] at q
          exact q
        · have g' : ¬ n % d = 0 := fun z => g (by
            show V.int _ = V.int _
            congr 1
            exact_mod_cast z)
          rw [if_neg g'] at e2
          refine ⟨_, rfl, _, _, rfl, rfl, m, by omega, d + 1, rfl, rfl, by omega, by omega, ?_⟩
          rw [← e2, e]
      · have c' : ¬ d * d ≤ n := fun z => c (by exact_mod_cast z)
        have e2 : trial n m d = true := by
          cases m with
          | zero => rfl
          | succ m => exact if_neg c'
        rw [← e, e2] at q
        exact q
end
end Pr

namespace Pr
open PySem PySem.Spec PyProof.Rows L2
/-! ### product_up_to -/
def spPrd : Sp := fun vs H Q _ => ∃ n : Nat, vs = [.int (n : Int)] ∧ n < 1000 ∧ Q (.int (Kp267.prod n : Int)) H
theorem scPrd : FnScope ["n", "product", "factor"] ["n"] (defScope sPrd) := ⟨rfl, rfl, rfl, by decide +kernel, rfl, by decide +kernel, by decide +kernel⟩
section
variable {P : Program} {w : World} {K : PySem.W.Frag} {mg : Str → Option Value} {base : Heap}
theorem ok_prd {f : Addr} {fd : FuncData} (F : Fun K "product_up_to" "product_up_to" sPrd f fd) (mr : mg "range" = none) : FnOk P w K mg base CX0 1 f fd ["n"] spPrd := by
  refine F.ok scPrd (fun vs H Q E h => ?_) (fun cdv A outer s H vs Q E hr h => ⟨_, pss_cons (ps_set (i := 1) scPrd.nd rfl (Or.inl rfl) pe_int)
      (pss_cons (ps_for PassesOwn.never rfl (pi_range2 (by rfl) mr (pa_cons pe_int (pa_cons (pe_op op_add (pv 0) pe_int) pa_nil))) (pg_name (i := 2) scPrd.nd rfl (Or.inl rfl))
        (pss_one (ps_set (i := 1) scPrd.nd rfl (Or.inl rfl) (pe_op op_mul (pv 1) (pv 2)))))
      (pss_one (ps_ret (pv 1)))), ?_⟩)
  · obtain ⟨n, rfl, _⟩ := h
    rfl
  · obtain ⟨n, rfl, hn, q⟩ := h
    refine ⟨_, rfl, _, _, rfl, rfl, 2, ((n : Int) + 1), rfl, ⟨by omega, by omega, by omega, by omega⟩, ?_⟩
    refine for_range (lo := 2) (n := ((n : Int) + 1 - 2).toNat) (fun i σ H' => ∃ v, σ = [some (.int (n : Int)), some (.int (Kp267.prod (i + 1) : Int)), v] ∧ H' = H) ⟨none, rfl, rfl⟩ ?_ ?_
    · rintro i σ H' hi ⟨v, rfl, rfl⟩
      refine ⟨_, rfl, _, rfl, _, _, rfl, rfl, Or.inr ⟨by omega, by omega⟩, some (.int (2 + (i : Int))), ?_, rfl⟩
      have e : ((Kp267.prod (i + 1) : Nat) : Int) * (2 + (i : Int)) = ((Kp267.prod (i + 1 + 1) : Nat) : Int) := by
        show _ = (((i + 1 + 1) * Kp267.prod (i + 1) : Nat) : Int)
        rw [Int.natCast_mul, Int.mul_comm]
        congr 1
        omega
      rw [← e]
      rfl
    · rintro σ H' ⟨v, rfl, rfl⟩
      refine ⟨_, rfl, ?_⟩
      have e : Kp267.prod (((n : Int) + 1 - 2).toNat + 1) = Kp267.prod n := by
        cases n with
        | zero => rfl
        | succ n =>
          have : (((n + 1 : Nat) : Int) + 1 - 2).toNat = n := by omega
          rw [this]
      rw [e]
      exact q
end
end Pr

namespace Pr
open PySem PySem.Spec PyProof.Rows L2
/-! ### what_is_left -/
def spLeft : Sp := fun vs H Q _ => ∃ p n : Nat, vs = [.int (p : Int), .int (n : Int)] ∧ 2 ≤ p ∧ p < 1000 ∧ n < 2 ^ 24 ∧ Q (.int (Kp267.rest p n : Int)) H
theorem scLeft : FnScope ["prime", "n", "left"] ["prime", "n"] (defScope sLeft) := ⟨rfl, rfl, rfl, by decide +kernel, rfl, by decide +kernel, by decide +kernel⟩
section
variable {P : Program} {w : World} {K : PySem.W.Frag} {mg : Str → Option Value} {base : Heap}
theorem ok_left {f : Addr} {fd : FuncData} (F : Fun K "what_is_left" "what_is_left" sLeft f fd) (cP : Cl P w K mg base 1 "product_up_to" spPrd) : FnOk P w K mg base CX0 2 f fd ["prime", "n"] spLeft := by
  refine F.ok scLeft (fun vs H Q E h => ?_) (fun cdv A outer s H vs Q E hr h => ⟨_, pss_cons (ps_set (i := 2) scLeft.nd rfl (Or.inl rfl) pe_int)
      (pss_cons (ps_while PassesOwn.never (pt_cmpR op_gt (pv 1) pe_int (nomark _))
        (pss_cons (ps_if (pt_cmpR op_eq (pe_op op_mod (pe_op op_fdiv (pv 1) (pv 0)) pe_int) pe_int (nomark _))
            (pss_one (ps_set (i := 2) scLeft.nd rfl (Or.inl rfl) (pe_op op_mod (pe_op op_mul (pv 2) (pe_op op_sub (pv 0) pe_int)) (pv 0)))) pss_nil)
        (pss_cons (ps_set (i := 2) scLeft.nd rfl (Or.inl rfl) (pe_op op_mod (pe_op op_mul (pv 2) (pe_cl cP hr (Nat.le_refl _) (by rfl) (pa_cons (pe_op op_mod (pv 1) (pv 0)) pa_nil))) (pv 0)))
        (pss_one (ps_set (i := 1) scLeft.nd rfl (Or.inl rfl) (pe_op op_fdiv (pv 1) (pv 0)))))))
      (pss_one (ps_ret (pv 2)))), ?_⟩)
  · obtain ⟨p, n, rfl, _⟩ := h
    rfl
  · obtain ⟨p, n, rfl, hp, hp2, hn, q⟩ := h
    rw [rest_fin hp] at q
    refine ⟨fun m σ H' => ∃ a : Nat, σ = [some (.int (p : Int)), some (.int (m : Int)), some (.int (a : Int))] ∧ H' = H ∧ m ≤ n ∧ a < p ∧ fin p 24 a m = fin p 24 1 n, ⟨n, 1, rfl, rfl, Nat.le_refl _, hp, rfl⟩, ?_⟩
    rintro m σ H' ⟨a, rfl, rfl, hm, ha, e⟩
    refine ⟨_, rfl, _, _, rfl, rfl, _, rfl, if_dec (fun c => ?_) (fun c => ?_)⟩
    · have m0 : m ≠ 0 := by omega
      refine ⟨fun σ' H2 => ∃ m', m' < m ∧ ∃ a : Nat, σ' = [some (.int (p : Int)), some (.int (m' : Int)), some (.int (a : Int))] ∧ H2 = H' ∧ m' ≤ n ∧ a < p ∧ fin p 24 a m' = fin p 24 1 n, fun _ _ x => x, ?_⟩
      have ml : m % p < p := Nat.mod_lt _ (by omega)
      -- the last two statements, from whatever stands in left
      have fini : ∀ b : Nat, b < p → turn p a m = b * Kp267.prod (m % p) % p → ∀ D : Ends, (∀ σ' H2, (∃ m', m' < m ∧ ∃ a : Nat, σ' = [some (.int (p : Int)), some (.int (m' : Int)), some (.int (a : Int))] ∧ H2 = H' ∧ m' ≤ n ∧ a < p ∧ fin p 24 a m' = fin p 24 1 n) → D.nx σ' H2) →
          tSeq (tAsg (tOp (rI (fun _ j => 0 < j) fun i j => .int (i % j)) (tOp (rI CMul fun i j => .int (i * j)) (tVar 2) (tCallP spPrd (tCons (tOp (rI (fun _ j => 0 < j) fun i j => .int (i % j)) (tVar 1) (tVar 0)) tNil))) (tVar 0)) (gName 2))
            (tAsg (tOp (rI CDiv fun i j => .int (i / j)) (tVar 1) (tVar 0)) (gName 1)) D [some (.int (p : Int)), some (.int (m : Int)), some (.int (b : Int))] H' := by
        intro b hb eb D hD
        refine ⟨_, rfl, _, rfl, _, rfl, _, _, rfl, rfl, by omega, m % p, rfl, by omega, _, _, rfl, rfl, Or.inl ⟨by omega, by omega⟩, _, rfl, _, _, rfl, rfl, by omega, ?_⟩
        refine ⟨_, rfl, _, rfl, _, _, rfl, rfl, ⟨by omega, by omega⟩, ?_⟩
        refine hD _ _ ⟨m / p, Nat.div_lt_self (by omega) hp, turn p a m, ?_, rfl, Nat.le_trans (Nat.div_le_self _ _) hm, turn_lt (by omega), ?_⟩
        · rw [eb]
          rfl
        · rw [← e, fin_step hp ha m0 (by omega)]
      refine ⟨_, rfl, _, rfl, _, _, rfl, rfl, ⟨by omega, by omega⟩, _, _, rfl, rfl, (by show (0 : Int) < 2; decide), rfl, _, rfl, if_dec (fun g => ?_) (fun g => ?_)⟩
      · have g' : m / p % 2 = 1 := by
          have := V.int.inj g
          exact_mod_cast this
        refine ⟨_, rfl, _, rfl, _, _, rfl, rfl, _, _, rfl, rfl, Or.inl ⟨by omega, by omega⟩, _, rfl, _, _, rfl, rfl, by omega, ?_⟩
        have e5 : ((a : Int) * ((p : Int) - 1)) % (p : Int) = ((a * (p - 1) % p : Nat) : Int) := by
          have e6 : (p : Int) - 1 = ((p - 1 : Nat) : Int) := by omega
          rw [e6]
          rfl
        have e7 := fini (a * (p - 1) % p) (Nat.mod_lt _ (by omega)) (by unfold turn; rw [if_pos g'])
        rw [← e5] at e7
        exact e7 _ (fun _ _ x => x)
      · have g' : ¬ m / p % 2 = 1 := fun z => g (by
          show V.int _ = V.int _
          congr 1
          exact_mod_cast z)
        refine fini a ha ?_ _ (fun _ _ x => x)
        unfold turn
        rw [if_neg g']
    · have m0 : m = 0 := by omega
      subst m0
      refine ⟨_, rfl, ?_⟩
      rw [fin_zero] at e
      rw [e]
      exact q
end
end Pr

namespace Pr
open PySem PySem.Spec PyProof.Rows L2
/-! ### a list of pairs -/
def PairsAt (H : Hp) : List Addr → List (Nat × Nat) → Prop
  | [], [] => True
  | t :: ts, x :: xs => H t = some (.tup [.int (x.1 : Int), .int (x.2 : Int)]) ∧ PairsAt H ts xs
  | _, _ => False
theorem PairsAt.mono {H H' : Hp} (h : ∀ b ys, H b = some (.tup ys) → H' b = some (.tup ys)) : ∀ {ts : List Addr} {xs : List (Nat × Nat)}, PairsAt H ts xs → PairsAt H' ts xs
  | [], [], _ => trivial
  | _ :: _, _ :: _, ⟨a, b⟩ => ⟨h _ _ a, PairsAt.mono h b⟩
theorem PairsAt.more {H : Hp} {t : Addr} {x : Nat × Nat} (e : H t = some (.tup [.int (x.1 : Int), .int (x.2 : Int)])) : ∀ {ts : List Addr} {xs : List (Nat × Nat)}, PairsAt H ts xs → PairsAt H (ts ++ [t]) (xs ++ [x])
  | [], [], _ => ⟨e, trivial⟩
  | _ :: _, _ :: _, ⟨a, b⟩ => ⟨a, PairsAt.more e b⟩
theorem PairsAt.len {H : Hp} : ∀ {ts : List Addr} {xs : List (Nat × Nat)}, PairsAt H ts xs → ts.length = xs.length
  | [], [], _ => rfl
  | _ :: _, _ :: _, ⟨_, b⟩ => congrArg (· + 1) (PairsAt.len b)
theorem PairsAt.get {H : Hp} : ∀ {ts : List Addr} {xs : List (Nat × Nat)} {i : Nat} {t : Addr}, PairsAt H ts xs → ts[i]? = some t → ∃ x, xs[i]? = some x ∧ H t = some (.tup [.int (x.1 : Int), .int (x.2 : Int)])
  | _ :: _, x :: _, 0, _, ⟨a, _⟩, h => ⟨x, rfl, by cases h; exact a⟩
  | _ :: ts, _ :: xs, i + 1, _, ⟨_, b⟩, h => PairsAt.get (ts := ts) (xs := xs) (i := i) b (by simpa using h)
theorem strip_le (d : Nat) : ∀ (f n o : Nat), (strip d f n o).1 ≤ n
  | 0, n, o => Nat.le_refl n
  | f + 1, n, o => by
    show (if n % d = 0 then strip d f (n / d) (o + 1) else (n, o)).1 ≤ n
    split
    · exact Nat.le_trans (strip_le d f _ _) (Nat.div_le_self _ _)
    · exact Nat.le_refl n
/-! ### prime_parts -/
def spPts : Sp := fun vs H Q _ => ∃ b : Nat, vs = [.int (b : Int)] ∧ 2 ≤ b ∧ b < 101 ∧
  ∀ (H' : Hp) (q : Addr) (ts : List Addr), Same H H' → H q = none → H' q = some (.lst (ts.map V.ref)) → PairsAt H' ts (Kp267.parts b) → Q (.ref q) H'
theorem scPts : FnScope ["number", "parts", "divisor", "often"] ["number"] (defScope sPts) := ⟨rfl, rfl, rfl, by decide +kernel, rfl, by decide +kernel, by decide +kernel⟩
structure PtsAt (b : Nat) (H : Hp) (q : Addr) (i m : Nat) (σ : L2.St) (H' : Hp) : Prop where
  im : i + m = 100
  ex : ∃ (ts : List Addr) (v : Option V), σ = [some (.int ((pst b i).num : Int)), some (.ref q), some (.int ((pst b i).div : Int)), v] ∧ H' q = some (.lst (ts.map V.ref)) ∧ PairsAt H' ts (pst b i).parts ∧ ts.length ≤ i
  sm : Same H H'
  dv : (pst b i).div = i + 2
  nm : (pst b i).num ≤ 100
section
variable {P : Program} {w : World} {K : PySem.W.Frag} {mg : Str → Option Value} {base : Heap}
theorem ok_pts {f : Addr} {fd : FuncData} (F : Fun K "prime_parts" "prime_parts" sPts f fd) : FnOk P w K mg base CX0 1 f fd ["number"] spPts := by
  refine F.ok scPts (fun vs H Q E h => ?_) (fun cdv A outer s H vs Q E hr h => ⟨_, pss_cons (ps_set (i := 1) scPts.nd rfl (Or.inl rfl) (pe_lst pa_nil))
      (pss_cons (ps_set (i := 2) scPts.nd rfl (Or.inl rfl) pe_int)
      (pss_cons (ps_while PassesOwn.never (pt_cmpR op_gt (pv 0) pe_int (nomark _))
        (pss_cons (ps_set (i := 3) scPts.nd rfl (Or.inl rfl) pe_int)
        (pss_cons (ps_while PassesOwn.never (pt_cmpR op_eq (pe_op op_mod (pv 0) (pv 2)) pe_int (nomark _))
          (pss_cons (ps_set (i := 0) scPts.nd rfl (Or.inl rfl) (pe_op op_fdiv (pv 0) (pv 2)))
            (pss_one (ps_aug (i := 3) scPts.nd rfl (Or.inl rfl) pe_int ip_add))))
        (pss_cons (ps_if (pt_cmpR op_gt (pv 3) pe_int (nomark _))
            (pss_one (ps_expr (pe_bm PySem.F.plainAttrs_list PySem.F.slot_list_append PySem.F.type_list_append mt_append (pv 1) (pa_cons (pe_tup (pa_cons (pv 2) (pa_cons (pv 3) pa_nil))) pa_nil)))) pss_nil)
        (pss_one (ps_aug (i := 2) scPts.nd rfl (Or.inl rfl) pe_int ip_add))))))
      (pss_one (ps_ret (pv 1))))), ?_⟩)
  · obtain ⟨n, rfl, _⟩ := h
    rfl
  · obtain ⟨b, rfl, hb, hb2, k⟩ := h
    refine ⟨(by show 0 ≤ sizeLine; decide), fun q nq => ?_⟩
    have s0 : Same H (upd H q (.lst [])) := fun c o e => by
      rw [upd_ne (ne_of_none e nq)]
      exact e
    refine ⟨fun m σ H' => ∃ i, PtsAt b H q i m σ H', ⟨100, 0, rfl, ⟨[], none, rfl, upd_same, trivial, Nat.le_refl _⟩, s0, rfl, show b ≤ 100 by omega⟩, ?_⟩
    rintro m σ H' ⟨i, im, ⟨ts, v, rfl, hq, pa, tl⟩, sm, dv, nm⟩
    refine ⟨_, rfl, _, _, rfl, rfl, _, rfl, if_dec (fun c => ?_) (fun c => ?_)⟩
    · -- a turn
      have c1 : ¬ (pst b i).num ≤ 1 := by omega
      have m0 : m ≠ 0 := by
        intro z
        subst z
        have : i = 100 := by omega
        subst this
        exact c1 (pst_all b hb2).1
      have nx : pst b (i + 1) = ⟨(strip (pst b i).div 7 (pst b i).num 0).1, (pst b i).div + 1, if 0 < (strip (pst b i).div 7 (pst b i).num 0).2 then (pst b i).parts ++ [((pst b i).div, (strip (pst b i).div 7 (pst b i).num 0).2)] else (pst b i).parts⟩ := if_neg c1
      refine ⟨fun σ' H2 => ∃ m', m' < m ∧ ∃ i', PtsAt b H q i' m' σ' H2, fun _ _ x => x, ?_⟩
      generalize hnum : (pst b i).num = num at *
      generalize hdiv : (pst b i).div = d at *
      generalize hpar : (pst b i).parts = par at *
      refine ⟨fun m2 σ2 H2 => ∃ o f : Nat, σ2 = [some (.int (m2 : Int)), some (.ref q), some (.int (d : Int)), some (.int (o : Int))] ∧ H2 = H' ∧ 0 < m2 ∧ m2 < 2 ^ f ∧ m2 ≤ 100 ∧ strip d f m2 o = strip d 7 num 0, ⟨num, 0, 7, rfl, rfl, by omega, by omega, nm, rfl⟩, ?_⟩
      rintro m2 σ2 H2 ⟨o, f, rfl, rfl, h0, hf, hm2, est⟩
      refine ⟨_, rfl, _, rfl, _, _, rfl, rfl, (by omega), rfl, _, rfl, if_dec (fun g => ?_) (fun g => ?_)⟩
      · have g' : m2 % d = 0 := by
          have := V.int.inj g
          exact_mod_cast this
        have dm : d ≤ m2 := Nat.le_of_dvd h0 (Nat.dvd_of_mod_eq_zero g')
        cases f with
        | zero => simp at hf; omega
        | succ f =>
          have e1 : strip d (f + 1) m2 o = strip d f (m2 / d) (o + 1) := if_pos g'
          refine ⟨_, fun _ _ x => x, ?_⟩
          refine ⟨_, rfl, _, rfl, _, _, rfl, rfl, ⟨by omega, by omega⟩, ?_⟩
          refine ⟨_, rfl, _, _, rfl, rfl, m2 / d, Nat.div_lt_self h0 (by omega), o + 1, f, rfl, rfl, Nat.div_pos dm (by omega), half_lt (by omega) hf, Nat.le_trans (Nat.div_le_self _ _) hm2, ?_⟩
          rw [← est, e1]
      · have g' : ¬ m2 % d = 0 := fun z => g (by
          show V.int _ = V.int _
          congr 1
          exact_mod_cast z)
        have e1 : strip d f m2 o = (m2, o) := by
          cases f with
          | zero => rfl
          | succ f => exact if_neg g'
        rw [e1] at est
        rw [← est] at nx
        refine ⟨_, rfl, _, _, rfl, rfl, _, rfl, if_dec (fun u => ?_) (fun u => ?_)⟩
        · have u' : 0 < o := by omega
          rw [if_pos u'] at nx
          refine ⟨_, rfl, Or.inl ⟨rfl, _, SqL.of hq⟩, _, rfl, _, rfl, (by show 2 ≤ sizeLine; decide), fun t ht => ?_⟩
          have qt : q ≠ t := ne_of_none hq ht
          refine ⟨q, _, _, rfl, rfl, (upd_ne qt).trans hq, (by rw [List.length_map]; exact small1000 (by omega)), ?_⟩
          refine ⟨_, rfl, _, _, rfl, rfl, m - 1, by omega, i + 1, by omega, ⟨ts ++ [t], some (.int (o : Int)), ?_, ?_, ?_, ?_⟩, ?_, ?_, ?_⟩
          · rw [nx]
            rfl
          · rw [upd_same, List.map_append]
            rfl
          · rw [nx]
            refine PairsAt.more ?_ (PairsAt.mono ?_ pa)
            · rw [upd_ne (Ne.symm qt), upd_same]
            · intro c ys e
              have n1 : c ≠ q := by
                rintro rfl
                rw [hq] at e
                cases e
              rw [upd_ne n1, upd_ne (ne_of_none e ht)]
              exact e
          · rw [List.length_append]
            show ts.length + 1 ≤ i + 1
            omega
          · intro c x e
            have e2 := sm c x e
            have n1 : c ≠ q := ne_of_none e nq
            rw [upd_ne n1, upd_ne (ne_of_none e2 ht)]
            exact e2
          · rw [nx]
            show d + 1 = _
            omega
          · rw [nx]
            exact hm2
        · have u' : ¬ 0 < o := by omega
          rw [if_neg u'] at nx
          refine ⟨_, rfl, _, _, rfl, rfl, m - 1, by omega, i + 1, by omega, ⟨ts, some (.int (o : Int)), ?_, hq, ?_, by omega⟩, sm, ?_, ?_⟩
          · rw [nx]
            rfl
          · rw [nx]
            exact pa
          · rw [nx]
            show d + 1 = _
            omega
          · rw [nx]
            exact hm2
    · have c1 : (pst b i).num ≤ 1 := by omega
      have e1 : (pst b i).parts = Kp267.parts b := by
        rw [← (pst_all b hb2).2 hb, ← im, pst_stays c1]
      refine ⟨_, rfl, k _ q ts sm nq hq ?_⟩
      rw [← e1]
      exact pa
end
end Pr

namespace Pr
open PySem PySem.Spec PyProof.Rows L2
/-! ### noughts_at_end -/
def quots (n : Nat) (l : List (Nat × Nat)) : List Nat := l.map fun z => Kp267.times z.1 n / z.2
def least1 : List Nat → Nat
  | [] => 0
  | a :: l => l.foldl (fun (m v : Nat) => min m v) a
theorem noughts_is (b n : Nat) : Kp267.noughts b n = least1 (quots n (Kp267.parts b)) := by
  unfold Kp267.noughts quots
  cases (Kp267.parts b).map fun z => Kp267.times z.1 n / z.2 <;> rfl
theorem foldmin_le : ∀ (l : List Nat) (a : Nat), l.foldl (fun (m v : Nat) => min m v) a ≤ a ∧ ∀ y ∈ l, l.foldl (fun (m v : Nat) => min m v) a ≤ y
  | [], a => ⟨Nat.le_refl a, fun _ h => absurd h (by simp)⟩
  | x :: l, a => by
    have h := foldmin_le l (min a x)
    refine ⟨Nat.le_trans h.1 (Nat.min_le_left _ _), fun y hy => ?_⟩
    rcases List.mem_cons.mp hy with rfl | hy
    · exact Nat.le_trans h.1 (Nat.min_le_right _ _)
    · exact h.2 y hy
theorem foldmin_mem : ∀ (l : List Nat) (a : Nat), l.foldl (fun (m v : Nat) => min m v) a = a ∨ l.foldl (fun (m v : Nat) => min m v) a ∈ l
  | [], a => .inl rfl
  | x :: l, a => by
    rcases foldmin_mem l (min a x) with h | h
    · show List.foldl _ (min a x) l = a ∨ List.foldl _ (min a x) l ∈ x :: l
      rw [h]
      rcases Nat.le_total a x with c | c
      · exact .inl (Nat.min_eq_left c)
      · rw [Nat.min_eq_right c]
        exact .inr (List.Mem.head _)
    · exact .inr (List.Mem.tail _ h)
/-- the least of a list is one of its items that none is below -/
theorem least1_is {l : List Nat} {m : Int} (hm : m ∈ l.map fun (x : Nat) => (x : Int)) (hl : ∀ y ∈ l.map (fun (x : Nat) => (x : Int)), m ≤ y) : m = (least1 l : Int) := by
  cases l with
  | nil => simp at hm
  | cons a l =>
    show m = ((l.foldl (fun (m v : Nat) => min m v) a : Nat) : Int)
    generalize hg : l.foldl (fun (m v : Nat) => min m v) a = g
    have h1 := foldmin_le l a
    have h2 := foldmin_mem l a
    rw [hg] at h1 h2
    obtain ⟨x, hx, rfl⟩ := List.mem_map.mp hm
    have g1 : (x : Int) ≤ (g : Int) := by
      refine hl _ (List.mem_map.mpr ⟨g, ?_, rfl⟩)
      rcases h2 with h | h
      · rw [h]
        exact List.Mem.head _
      · exact List.Mem.tail _ h
    have g2 : g ≤ x := by
      rcases List.mem_cons.mp hx with rfl | hx
      · exact h1.1
      · exact h1.2 x hx
    omega
theorem parts_ok : ∀ b, b < 101 → (2 ≤ b → Kp267.parts b ≠ []) ∧ (Kp267.parts b).all (fun z => decide (2 ≤ z.1 ∧ z.1 < 1000 ∧ 0 < z.2 ∧ z.2 < 1000)) = true := by decide +kernel
theorem parts_short : ∀ b, b < 101 → (Kp267.parts b).length ≤ 1000 := by decide +kernel
theorem take_more {α : Type} {l : List α} {i : Nat} {x : α} (h : l[i]? = some x) : l.take (i + 1) = l.take i ++ [x] := by
  rw [List.take_add_one, h]
  rfl
def spNou : Sp := fun vs H Q _ => ∃ b n : Nat, vs = [.int (b : Int), .int (n : Int)] ∧ 2 ≤ b ∧ b < 101 ∧ n < 2 ^ 24 ∧ ∀ H', Same H H' → Q (.int (Kp267.noughts b n : Int)) H'
theorem scNou : FnScope ["base", "n", "prime", "often"] ["base", "n"] (defScope sNou) := ⟨rfl, rfl, rfl, by decide +kernel, rfl, by decide +kernel, by decide +kernel⟩
section
variable {P : Program} {w : World} {K : PySem.W.Frag} {mg : Str → Option Value} {base : Heap}
theorem ok_nou {f : Addr} {fd : FuncData} (F : Fun K "noughts_at_end" "noughts_at_end" sNou f fd) (mm : mg "min" = none) (cH : Cl P w K mg base 1 "how_often" spHow) (cP : Cl P w K mg base 1 "prime_parts" spPts) : FnOk P w K mg base CX0 2 f fd ["base", "n"] spNou := by
  refine F.ok scNou (fun vs H Q E h => ?_) (fun cdv A outer s H vs Q E hr h => ⟨_, pss_one (ps_ret (pe_callB (cr_min rfl) (by rfl) mm (by decide +kernel)
      (pa_cons (pe_lc (own := [("prime", 2), ("often", 3)]) (g := gTup K 2 (gCons (gName 2) (gCons (gName 3) gNil))) (tt := tYes) rfl scNou.nd (pi_list (pe_cl cP hr (Nat.le_refl _) (by rfl) (pa_cons (pv 0) pa_nil)))
        (blkOk_by (N := ["base", "n", "prime", "often"]) (sc := defScope sNou) (by decide +kernel))
        (fun _ _ _ _ _ => pg_tup (n := 2) rfl (pgs_cons (pg_name (i := 2) scNou.nd rfl (Or.inl rfl) (Or.inr rfl)) (pgs_cons (pg_name (i := 3) scNou.nd rfl (Or.inl rfl) (Or.inr rfl)) pgs_nil)))
        (fun _ _ _ _ _ => pts_nil)
        (fun _ _ _ _ _ => pe_op op_fdiv (pe_cl cH hr (Nat.le_refl _) (by rfl) (pa_cons (pv 2) (pa_cons (pv 1) pa_nil))) (pv 3))) pa_nil))), ?_⟩)
  · obtain ⟨b, n, rfl, _⟩ := h
    rfl
  · obtain ⟨b, n, rfl, hb, hb2, hn, k⟩ := h
    refine ⟨_, rfl, b, rfl, hb, hb2, fun H1 q ts s1 nq hq pa => ⟨q, rfl, ⟨_, SqL.of hq⟩, fun D nD => ?_⟩⟩
    have qD : q ≠ D := ne_of_none hq nD
    have po := (parts_ok b hb2)
    generalize hl : Kp267.parts b = l at *
    have hlen : ts.length = l.length := pa.len
    refine lc_list (K := K) (a := q) (xs := ts.map V.ref) (fun i H' => Same H1 H' ∧ H' D = some (.lst (((quots n l).take i).map fun (x : Nat) => V.int (x : Int)))) ?_ ?_ ?_ ?_
    · refine ⟨fun c o e => ?_, upd_same⟩
      rw [upd_ne (ne_of_none e nD)]
      exact e
    · rintro i H' _ ⟨sm, _⟩
      exact sm.seq (SqL.of hq)
    · rintro i x H' hi ⟨sm, hD⟩
      rw [List.getElem?_map] at hi
      cases et : ts[i]? with
      | none =>
        rw [et] at hi
        cases hi
      | some t =>
        rw [et] at hi
        cases hi
        obtain ⟨z, hz, ht⟩ := pa.get et
        have zo := of_decide_eq_true (List.all_eq_true.mp po.2 z (List.mem_of_getElem? hz))
        have hq2 : (quots n l)[i]? = some (Kp267.times z.1 n / z.2) := by
          unfold quots
          rw [List.getElem?_map, hz]
          rfl
        refine ⟨t, _, rfl, SqT.of (sm _ _ ht), rfl, _, _, rfl, _, _, rfl, rfl, rfl, ?_⟩
        refine ⟨_, rfl, _, rfl, z.1, n, rfl, zo.1, zo.2.1, hn, _, rfl, _, _, rfl, rfl, ⟨by omega, by omega⟩, _, hD, ?_, ?_, ?_⟩
        · rw [List.length_map, List.length_take]
          refine small1000 ?_
          have : i < l.length := by
            rcases Nat.lt_or_ge i l.length with h | h
            · exact h
            · rw [List.getElem?_eq_none h] at hz
              cases hz
          have l1000 : l.length ≤ 1000 := by
            rw [← hl]
            exact parts_short b hb2
          omega
        · intro c o e
          rw [upd_ne (ne_of_none e nD)]
          exact sm c o e
        · rw [upd_same, take_more hq2, List.map_append]
          rfl
    · rintro H' ⟨sm, hD⟩
      have e1 : (quots n l).take (ts.map V.ref).length = quots n l := by
        rw [List.length_map, hlen]
        refine List.take_of_length_le ?_
        unfold quots
        rw [List.length_map]
        exact Nat.le_refl _
      rw [e1] at hD
      have e2 : ((quots n l).map fun (x : Nat) => V.int (x : Int)) = ((quots n l).map fun (x : Nat) => (x : Int)).map V.int := by
        rw [List.map_map]
        rfl
      rw [e2] at hD
      refine ⟨D, (quots n l).map fun (x : Nat) => (x : Int), rfl, SqL.of hD, ?_, fun m hm hle => ?_⟩
      · rw [List.length_map]
        unfold quots
        rw [List.length_map]
        exact List.length_pos_iff.mpr (po.1 hb)
      · have k2 := k H' (s1.trans sm)
        rw [noughts_is, hl, ← least1_is hm hle] at k2
        exact k2
end
end Pr

namespace Pr
open PySem PySem.Spec PyProof.Rows L2
/-! ### the object, its prime -/
abbrev iv (n : Nat) : V := .int (n : Int)
def num : Kp267.State → Int
  | none => 0
  | some p => (p : Int)
def chF (n : Int) : List (Str × V) := [("prime", .int n)]
def ChAt (C : Addr) (H : Hp) (x : Addr) (n : Int) : Prop := ∃ dx, H x = some (.ins C dx (chF n))
def Good (st : Kp267.State) : Prop := ∀ p, st = some p → Kp266.okP p = true
theorem okP_lt {p : Nat} (h : Kp266.okP p = true) : 2 ≤ p ∧ p < 100 := by
  rw [okP_is] at h
  simp only [Bool.and_eq_true, decide_eq_true_eq] at h
  exact ⟨h.2.1, h.1⟩
theorem chF_get (n : Int) : (chF n).lookup ("prime" : Str) = some (.int n) := by
  unfold chF
  rw [List.lookup_cons, beq_self_eq_true]
theorem chF_put (n m : Int) : putF "prime" (.int m) (chF n) = chF m := if_pos rfl
/-! ### a number of the file's top -/
def Gi (mg : Str → Option Value) (x : Str) (i : Int) : Prop := ∃ t, mg x = some (.int i t)
theorem pe_gi {X : Cx} {x : Str} {i : Int} {pos : Pos} (hg : Gl X x) (h : Gi X.mg x i) (hd : (x == ("__debug__" : Str)) = false := by decide) : PE X (.Name x pos) (tC (.int i)) := by
  obtain ⟨t, hm⟩ := h
  exact pe_glob hg hm ⟨_, rfl⟩ hd
structure Txt (K : PySem.W.Frag) (mg : Str → Option Value) (C : Addr) : Prop where
  cl : Cls K C
  nP : NoAttr K C "prime"
  gC : mg "Chosen" = some (.ref C)
  gNB : Gi mg "NOT_BEGUN" (-11)
  gOB : Gi mg "OUT_OF_BOUNDS" (-22)
  gNS : Gi mg "NO_SUCH_NUMBER" (-33)
  gPB : Gi mg "PRIMES_BELOW" 100
  gHN : Gi mg "HIGHEST_NUMBER" 1000000
  gHP : Gi mg "HIGHEST_OF_PROD" 20
  gHL : Gi mg "HIGHEST_OF_LEAST" 600
  gLB : Gi mg "LEAST_IS_BELOW" 700
  gHG : Gi mg "HIGHEST_OF_GAPS" 60
  gHS : Gi mg "HIGHEST_OF_SQUARE" 60
  gHT : Gi mg "HIGHEST_TAKEN_TWICE" 60
  gLo : Gi mg "LOWEST_BASE" 2
  gHi : Gi mg "HIGHEST_BASE" 100
  gBe : Gi mg "BEGIN" 0
  rg : mg "range" = none
  ln : mg "len" = none
/-! ### what a call's def promises -/
def cs (ns : List Nat) : List Int := ns.map fun (n : Nat) => (n : Int)
def spStep (C : Addr) (c : Nat) : Sp := fun vs H Q _ => ∃ (x a : Addr) (st : Kp267.State) (ns : List Nat), vs = [.ref x, .ref a] ∧ ChAt C H x (num st) ∧ Good st ∧ H a = some (.lst (ns.map iv)) ∧ ns.length = behind c ∧ (c ≠ 0 → st ≠ none) ∧
  ∀ (H' : Hp) (p : Addr), H p = none → H' p = some (.lst ((ans c st (cs ns)).map V.int)) → ChAt C H' x (num (nxt c st (cs ns))) → (∀ b o, H b = some o → b ≠ x → H' b = some o) → Q (.ref p) H'
theorem cs_len (ns : List Nat) : (cs ns).length = ns.length := List.length_map _
/-- all but begin and prime leave the object as it was -/
theorem step_keep {C : Addr} {c : Nat} {vs : List V} {H : Hp} {Q : VK} {E : XK} (hc : 2 ≤ c) (hc2 : c < 14) (h : spStep C c vs H Q E) :
    ∃ (x a : Addr) (p : Nat) (ns : List Nat), vs = [.ref x, .ref a] ∧ ChAt C H x (p : Int) ∧ 2 ≤ p ∧ p < 100 ∧ H a = some (.lst (ns.map iv)) ∧ ns.length = behind c ∧
      ∀ (H' : Hp) (q : Addr), Same H H' → H q = none → H' q = some (.lst ((ans c (some p) (cs ns)).map V.int)) → Q (.ref q) H' := by
  obtain ⟨x, a, st, ns, rfl, hx, gd, ha, hl, h0, k⟩ := h
  cases st with
  | none => exact absurd rfl (h0 (by omega))
  | some p =>
    have hp := okP_lt (gd p rfl)
    refine ⟨x, a, p, ns, rfl, hx, hp.1, hp.2, ha, hl, fun H' q sm nq hq => k H' q nq hq ?_ fun b o e _ => sm b o e⟩
    obtain ⟨dx, e⟩ := hx
    rw [nxt_same hc hc2 ((cs_len ns).trans hl)]
    exact ⟨dx, sm _ _ e⟩
theorem one_of {ns : List Nat} (h : ns.length = 1) : ∃ n, ns = [n] := by
  match ns, h with
  | [n], _ => exact ⟨n, rfl⟩
theorem two_of {ns : List Nat} (h : ns.length = 2) : ∃ n m, ns = [n, m] := by
  match ns, h with
  | [n, m], _ => exact ⟨n, m, rfl⟩
theorem new_same {H : Hp} {p : Addr} {o : HO} (h : H p = none) : Same H (upd H p o) := fun c u e => by
  rw [upd_ne (ne_of_none e h)]
  exact e
/-! ### may_be_chosen, __init__ -/
def spMay : Sp := fun vs H Q _ => ∃ n : Nat, vs = [iv n] ∧ Q (.bl (Kp266.okP n)) H
theorem scMay : FnScope ["number"] ["number"] (defScope sMay) := ⟨rfl, rfl, rfl, by decide +kernel, rfl, by decide +kernel, by decide +kernel⟩
def spMyb : Sp := fun vs H Q _ => ∃ n : Nat, vs = [iv n] ∧ Q (.bl (decide (2 ≤ n ∧ n ≤ 100))) H
theorem scMyb : FnScope ["number"] ["number"] (defScope sMyb) := ⟨rfl, rfl, rfl, by decide +kernel, rfl, by decide +kernel, by decide +kernel⟩
def spInit (C : Addr) : Sp := fun vs H Q _ => ∃ p dx : Addr, vs = [.ref p] ∧ H p = some (.ins C dx []) ∧
  ∀ H' : Hp, ChAt C H' p 0 → (∀ b o, H b = some o → b ≠ p → H' b = some o) → Q .non H'
theorem scInit : FnScope ["self"] ["self"] (defScope sInit) := ⟨rfl, rfl, rfl, by decide +kernel, rfl, by decide +kernel, by decide +kernel⟩
section
variable {P : Program} {w : World} {K : PySem.W.Frag} {mg : Str → Option Value} {base : Heap} {C : Addr}
theorem ok_may {f : Addr} {fd : FuncData} (F : Fun K "may_be_chosen" "may_be_chosen" sMay f fd) (T : Txt K mg C) (cI : Cl P w K mg base 1 "is_prime" spIsp) : FnOk P w K mg base CX0 2 f fd ["number"] spMay := by
  refine F.ok scMay (fun vs H Q E h => ?_) (fun cdv A outer s H vs Q E hr h => ⟨_, pss_one (ps_ret (pe_and (pe_cmpR op_lt (pv 0) (pe_gi (by rfl) T.gPB) (nomark _)) (pe_one (pe_cl cI hr (Nat.le_refl _) (by rfl) (pa_cons (pv 0) pa_nil))))), ?_⟩)
  · obtain ⟨n, rfl, _⟩ := h
    rfl
  · obtain ⟨n, rfl, q⟩ := h
    rw [okP_is] at q
    refine ⟨_, rfl, _, _, rfl, rfl, _, rfl, if_dec (fun c => ?_) (fun c => ?_)⟩
    · have c' : n < 100 := by omega
      rw [decide_eq_true c', Bool.true_and] at q
      exact ⟨_, rfl, n, rfl, c', q⟩
    · have c' : ¬ n < 100 := by omega
      rw [decide_eq_false c'] at q
      exact q
theorem ok_myb {f : Addr} {fd : FuncData} (F : Fun K "may_be_base" "may_be_base" sMyb f fd) (T : Txt K mg C) : FnOk P w K mg base CX0 1 f fd ["number"] spMyb := by
  refine F.ok scMyb (fun vs H Q E h => ?_) (fun cdv A outer s H vs Q E hr h => ⟨_, pss_one (ps_ret (pe_and (pe_cmpR op_le (pe_gi (by rfl) T.gLo) (pv 0) (nomark _)) (pe_one (pe_cmpR op_le (pv 0) (pe_gi (by rfl) T.gHi) (nomark _))))), ?_⟩)
  · obtain ⟨n, rfl, _⟩ := h
    rfl
  · obtain ⟨n, rfl, q⟩ := h
    refine ⟨_, rfl, _, _, rfl, rfl, _, rfl, if_dec (fun c => ?_) (fun c => ?_)⟩
    · refine ⟨_, rfl, _, _, rfl, rfl, ?_⟩
      have e : decide ((n : Int) ≤ 100) = decide (2 ≤ n ∧ n ≤ 100) := decide_eq_decide.mpr (by omega)
      show Q (.bl (decide ((n : Int) ≤ 100))) H
      rw [e]
      exact q
    · rw [decide_eq_false (by omega : ¬ (2 ≤ n ∧ n ≤ 100))] at q
      exact q
theorem ok_init {f : Addr} {fd : FuncData} (F : Fun K "__init__" "Chosen.__init__" sInit f fd) (T : Txt K mg C) : FnOk P w K mg base CX0 1 f fd ["self"] (spInit C) := by
  refine F.ok scInit (fun vs H Q E h => ?_) (fun cdv A outer s H vs Q E hr h => ⟨_, pss_one (ps_fld (pv 0) pe_int rfl), ?_⟩)
  · obtain ⟨p, dx, rfl, _⟩ := h
    rfl
  · obtain ⟨p, dx, rfl, hp, k⟩ := h
    refine ⟨_, rfl, p, C, dx, _, rfl, hp, T.cl, T.nP, (by show 0 < 1000; decide), ?_⟩
    refine k _ ⟨dx, upd_same⟩ fun b o e hb => ?_
    rw [upd_ne hb]
    exact e
end
end Pr

namespace Pr
open PySem PySem.Spec PyProof.Rows L2
/-! ### primes_up_to -/
def spPup : Sp := fun vs H Q _ => ∃ n : Nat, vs = [iv n] ∧ n ≤ 60 ∧ ∀ (H' : Hp) (q : Addr), Same H H' → H q = none → H' q = some (.lst ((Kp267.primes n).map iv)) → Q (.ref q) H'
theorem scPup : FnScope ["n", "number"] ["n"] (defScope sPup) := ⟨rfl, rfl, rfl, by decide +kernel, rfl, by decide +kernel, by decide +kernel⟩
/-! ### how_often_from -/
def spHfr : Sp := fun vs H Q _ => ∃ p a b : Nat, vs = [iv p, iv a, iv b] ∧ 2 ≤ p ∧ p < 1000 ∧ 1 ≤ a ∧ a ≤ b ∧ b < 2 ^ 24 ∧ Q (iv (Kp267.span p a b)) H
theorem scHfr : FnScope ["prime", "first", "last"] ["prime", "first", "last"] (defScope sHfr) := ⟨rfl, rfl, rfl, by decide +kernel, rfl, by decide +kernel, by decide +kernel⟩
/-! ### leapt_over -/
def spLpt : Sp := fun vs H Q _ => ∃ p n : Nat, vs = [iv p, iv n] ∧ 2 ≤ p ∧ p < 1000 ∧ n ≤ 60 ∧ ∀ (H' : Hp) (q : Addr), Same H H' → H q = none → H' q = some (.lst ((Kp267.gaps p n).map iv)) → Q (.ref q) H'
theorem scLpt : FnScope ["prime", "n", "leapt", "before", "number", "often"] ["prime", "n"] (defScope sLpt) := ⟨rfl, rfl, rfl, by decide +kernel, rfl, by decide +kernel, by decide +kernel⟩
/-! ### odd_primes -/
def spOdd : Sp := fun vs H Q _ => ∃ n : Nat, vs = [iv n] ∧ n ≤ 60 ∧ ∀ (H' : Hp) (q : Addr), Same H H' → H q = none → H' q = some (.lst ((odds n).map iv)) → Q (.ref q) H'
theorem scOdd : FnScope ["n", "prime"] ["n"] (defScope sOdd) := ⟨rfl, rfl, rfl, by decide +kernel, rfl, by decide +kernel, by decide +kernel⟩
/-! ### square_divides -/
def spSqd : Sp := fun vs H Q _ => ∃ m n : Nat, vs = [iv m, iv n] ∧ m ≤ 60 ∧ n < 2 ^ 24 ∧ ∀ H' : Hp, Same H H' → Q (.bl (divs n m)) H'
theorem scSqd : FnScope ["m", "n", "prime"] ["m", "n"] (defScope sSqd) := ⟨rfl, rfl, rfl, by decide +kernel, rfl, by decide +kernel, by decide +kernel⟩
theorem rgV_mid (t u : Nat) : rgV ((t : Int) + 1) (u : Int) = (mid t u).map iv := by
  unfold rgV mid
  have e : ((u : Int) - ((t : Int) + 1)).toNat = u - (t + 1) := by omega
  rw [e, List.map_map]
  refine List.map_congr_left fun i _ => ?_
  show V.int ((t : Int) + 1 + (i : Int)) = V.int ((t + 1 + i : Nat) : Int)
  congr 1
section
variable {P : Program} {w : World} {K : PySem.W.Frag} {mg : Str → Option Value} {base : Heap}
theorem ok_pup {f : Addr} {fd : FuncData} (F : Fun K "primes_up_to" "primes_up_to" sPup f fd) (mr : mg "range" = none) (cI : Cl P w K mg base 1 "is_prime" spIsp) : FnOk P w K mg base CX0 2 f fd ["n"] spPup := by
  refine F.ok scPup (fun vs H Q E h => ?_) (fun cdv A outer s H vs Q E hr h => ⟨_, pss_one (ps_ret
      (pe_lc (own := [("number", 1)]) (g := gName 1) rfl scPup.nd (pi_range2 (by rfl) mr (pa_cons pe_int (pa_cons (pe_op op_add (pv 0) pe_int) pa_nil)))
        (blkOk_by (N := ["n", "number"]) (sc := defScope sPup) (by decide +kernel))
        (fun _ _ _ _ _ => pg_name (i := 1) scPup.nd rfl (Or.inl rfl) (Or.inr rfl))
        (fun _ _ _ _ _ => pts_one (pt_val (pe_cl cI hr (Nat.le_refl _) (by rfl) (pa_cons (pv 1) pa_nil))))
        (fun _ _ _ _ _ => pv 1))), ?_⟩)
  · obtain ⟨n, rfl, _⟩ := h
    rfl
  · obtain ⟨n, rfl, hn, k⟩ := h
    refine ⟨_, rfl, _, _, rfl, rfl, 2, ((n : Int) + 1), rfl, ⟨by omega, by omega, by omega, by omega⟩, fun D nD => ?_⟩
    have en : ((n : Int) + 1 - 2).toNat = n - 1 := by omega
    refine lc_range (lo := 2) (n := ((n : Int) + 1 - 2).toNat) (fun i H' => Same H H' ∧ H' D = some (.lst ((upTo i).map iv))) ?_ ?_ ?_
    · refine ⟨new_same nD, ?_⟩
      rw [upd_same, upTo_zero]
      rfl
    · rintro i H' hi ⟨sm, hD⟩
      have e2 : (2 : Int) + (i : Int) = ((i + 2 : Nat) : Int) := by omega
      refine ⟨rfl, _, rfl, i + 2, ?_, by omega, _, rfl, ?_⟩
      · rw [e2]
      · rw [isPrime_is (by omega)]
        by_cases c : Kp266.isPrime (i + 2) = true
        · refine if_true_of c ⟨_, rfl, _, hD, ?_, ?_, ?_⟩
          · rw [List.length_map]
            have := upTo_len i
            exact small1000 (by omega)
          · intro b o e
            rw [upd_ne (ne_of_none e nD)]
            exact sm b o e
          · rw [upd_same, upTo_succ, if_pos c, List.map_append, e2]
            rfl
        · refine if_false_of (Bool.eq_false_iff.mpr c) ⟨sm, ?_⟩
          rw [upTo_succ, if_neg c]
          exact hD
    · rintro H' ⟨sm, hD⟩
      rw [en, upTo_is] at hD
      exact k H' D sm nD hD
theorem ok_hfr {f : Addr} {fd : FuncData} (F : Fun K "how_often_from" "how_often_from" sHfr f fd) (cH : Cl P w K mg base 1 "how_often" spHow) : FnOk P w K mg base CX0 2 f fd ["prime", "first", "last"] spHfr := by
  refine F.ok scHfr (fun vs H Q E h => ?_) (fun cdv A outer s H vs Q E hr h => ⟨_, pss_one (ps_ret
      (pe_op op_sub (pe_cl cH hr (Nat.le_refl _) (by rfl) (pa_cons (pv 0) (pa_cons (pv 2) pa_nil))) (pe_cl cH hr (Nat.le_refl _) (by rfl) (pa_cons (pv 0) (pa_cons (pe_op op_sub (pv 1) pe_int) pa_nil))))), ?_⟩)
  · obtain ⟨p, a, b, rfl, _⟩ := h
    rfl
  · obtain ⟨p, a, b, rfl, hp, hp2, ha, hab, hb, q⟩ := h
    have e1 : ((a : Int) - 1) = ((a - 1 : Nat) : Int) := by omega
    refine ⟨_, rfl, _, rfl, p, b, rfl, hp, hp2, hb, _, rfl, _, rfl, _, _, rfl, rfl, p, a - 1, by (show [iv p, V.int ((a : Int) - 1)] = [iv p, iv (a - 1)]; rw [e1]), hp, hp2, by omega, _, _, rfl, rfl, ?_⟩
    have hm : Kp267.times p (a - 1) ≤ Kp267.times p b := times_mono p (by omega)
    have e2 : ((Kp267.times p b : Nat) : Int) - ((Kp267.times p (a - 1) : Nat) : Int) = ((Kp267.span p a b : Nat) : Int) := by
      unfold Kp267.span
      omega
    show Q (.int (((Kp267.times p b : Nat) : Int) - ((Kp267.times p (a - 1) : Nat) : Int))) H
    rw [e2]
    exact q
theorem ok_lpt {f : Addr} {fd : FuncData} (F : Fun K "leapt_over" "leapt_over" sLpt f fd) (mr : mg "range" = none) (ml : mg "list" = none) (cH : Cl P w K mg base 1 "how_often" spHow) : FnOk P w K mg base CX0 2 f fd ["prime", "n"] spLpt := by
  refine F.ok scLpt (fun vs H Q E h => ?_) (fun cdv A outer s H vs Q E hr h => ⟨_, pss_cons (ps_set (i := 2) scLpt.nd rfl (Or.inl rfl) (pe_lst pa_nil))
      (pss_cons (ps_set (i := 3) scLpt.nd rfl (Or.inl rfl) pe_int)
      (pss_cons (ps_for PassesOwn.never rfl (pi_range2 (by rfl) mr (pa_cons pe_int (pa_cons (pe_op op_add (pv 1) pe_int) pa_nil))) (pg_name (i := 4) scLpt.nd rfl (Or.inl rfl))
        (pss_cons (ps_set (i := 5) scLpt.nd rfl (Or.inl rfl) (pe_cl cH hr (Nat.le_refl _) (by rfl) (pa_cons (pv 0) (pa_cons (pv 4) pa_nil))))
        (pss_cons (ps_expr (pe_bm PySem.F.plainAttrs_list PySem.F.slot_list_extend PySem.F.type_list_extend mt_extend (pv 2) (pa_cons (pe_listRg rfl (by rfl) ml (prg_2 (by rfl) mr (pe_op op_add (pv 3) pe_int) (pv 5))) pa_nil)))
        (pss_one (ps_set (i := 3) scLpt.nd rfl (Or.inl rfl) (pv 5))))))
      (pss_one (ps_ret (pv 2))))), ?_⟩)
  · obtain ⟨p, n, rfl, _⟩ := h
    rfl
  · obtain ⟨p, n, rfl, hp, hp2, hn, k⟩ := h
    refine ⟨(by show 0 ≤ sizeLine; decide), fun q nq => ?_⟩
    have en : ((n : Int) + 1 - 1).toNat = n := by omega
    refine ⟨_, rfl, _, _, rfl, rfl, 1, ((n : Int) + 1), rfl, ⟨by omega, by omega, by omega, by omega⟩, ?_⟩
    refine for_range (lo := 1) (n := ((n : Int) + 1 - 1).toNat) (fun i σ H' => ∃ v4 v5, σ = [some (iv p), some (iv n), some (.ref q), some (iv (Kp267.times p i)), v4, v5] ∧ Same H H' ∧ H' q = some (.lst ((Kp267.gaps p i).map iv))) ⟨none, none, rfl, new_same nq, ?_⟩ ?_ ?_
    · rw [upd_same]
      rfl
    · rintro i σ H' hi ⟨v4, v5, rfl, sm, hq⟩
      have e1 : (1 : Int) + (i : Int) = ((i + 1 : Nat) : Int) := by omega
      have tl := times_le hp i
      have tl2 := times_le hp (i + 1)
      refine ⟨_, rfl, _, rfl, p, i + 1, by rw [e1], hp, hp2, by omega, ?_⟩
      refine ⟨_, rfl, Or.inl ⟨rfl, _, SqL.of hq⟩, _, rfl, _, _, rfl, rfl, _, rfl, _, _, rfl, rfl, RgOk.of_le (by omega) (by omega) (by omega) (by omega), fun t nt => ?_⟩
      have qt : q ≠ t := ne_of_none hq nt
      refine ⟨q, t, _, _, rfl, rfl, (upd_ne qt).trans hq, upd_same, ?_, ?_⟩
      · rw [List.length_map, rgV_length]
        have := gaps_len p i hp
        exact Nat.le_of_lt (small1000 (by omega))
      · refine ⟨_, rfl, some (.int (1 + (i : Int))), some (iv (Kp267.times p (i + 1))), rfl, ?_, ?_⟩
        · intro b o e
          rw [upd_ne (ne_of_none e nq), upd_ne (ne_of_none (sm b o e) nt)]
          exact sm b o e
        · rw [upd_same, gaps_succ, List.map_append, rgV_mid]
    · rintro σ H' ⟨v4, v5, rfl, sm, hq⟩
      rw [en] at hq
      exact ⟨_, rfl, k H' q sm nq hq⟩
theorem ok_odd {f : Addr} {fd : FuncData} (F : Fun K "odd_primes" "odd_primes" sOdd f fd) (cP : Cl P w K mg base 2 "primes_up_to" spPup) (cH : Cl P w K mg base 1 "how_often" spHow) : FnOk P w K mg base CX0 3 f fd ["n"] spOdd := by
  refine F.ok scOdd (fun vs H Q E h => ?_) (fun cdv A outer s H vs Q E hr h => ⟨_, pss_one (ps_ret
      (pe_lc (own := [("prime", 1)]) (g := gName 1) rfl scOdd.nd (pi_list (pe_cl cP hr (by decide) (by rfl) (pa_cons (pv 0) pa_nil)))
        (blkOk_by (N := ["n", "prime"]) (sc := defScope sOdd) (by decide +kernel))
        (fun _ _ _ _ _ => pg_name (i := 1) scOdd.nd rfl (Or.inl rfl) (Or.inr rfl))
        (fun _ _ _ _ _ => pts_one (pt_cmpR op_eq (pe_op op_mod (pe_cl cH hr (by decide) (by rfl) (pa_cons (pv 1) (pa_cons (pv 0) pa_nil))) pe_int) pe_int (nomark _)))
        (fun _ _ _ _ _ => pv 1))), ?_⟩)
  · obtain ⟨n, rfl, _⟩ := h
    rfl
  · obtain ⟨n, rfl, hn, k⟩ := h
    refine ⟨_, rfl, n, rfl, hn, fun H1 q s1 nq hq => ⟨q, rfl, ⟨_, SqL.of hq⟩, fun D nD => ?_⟩⟩
    have qD : q ≠ D := ne_of_none hq nD
    have nD0 : H D = none := s1.free nD
    have hlen : ((Kp267.primes n).map iv).length = (Kp267.primes n).length := List.length_map _
    refine lc_list (K := K) (a := q) (xs := (Kp267.primes n).map iv) (fun i H' => Same H1 H' ∧ H' D = some (.lst ((oddOf n i).map iv))) ⟨new_same nD, ?_⟩ ?_ ?_ ?_
    · rw [upd_same]
      rfl
    · rintro i H' _ ⟨sm, _⟩
      exact sm.seq (SqL.of hq)
    · rintro i x H' hi ⟨sm, hD⟩
      rw [List.getElem?_map] at hi
      cases eq : (Kp267.primes n)[i]? with
      | none =>
        rw [eq] at hi
        cases hi
      | some z =>
        rw [eq] at hi
        cases hi
        have zm := primes_mem (List.mem_of_getElem? eq)
        refine ⟨rfl, _, rfl, _, rfl, z, n, rfl, zm.1, by omega, by omega, _, _, rfl, rfl, (by show (0 : Int) < 2; decide), rfl, _, rfl, ?_⟩
        have ho : (decide (V.int (((Kp267.times z n : Nat) : Int) % 2) = V.int 1)) = oddQ n z := by
          unfold oddQ
          by_cases c : Kp267.times z n % 2 = 1
          · rw [decide_eq_true (by congr 1; omega), bne_iff_ne.mpr (by omega)]
          · rw [decide_eq_false (fun y => c (by have := V.int.inj y; omega))]
            have : Kp267.times z n % 2 = 0 := by omega
            rw [this]
            rfl
        by_cases c : oddQ n z = true
        · refine if_true_of (ho.trans c) ⟨_, rfl, _, hD, ?_, ?_, ?_⟩
          · rw [List.length_map]
            have := oddOf_len n i
            exact small1000 (by omega)
          · intro b o e
            rw [upd_ne (ne_of_none e nD)]
            exact sm b o e
          · rw [upd_same, oddOf_succ eq, if_pos c, List.map_append]
            rfl
        · refine if_false_of (ho.trans (Bool.eq_false_iff.mpr c)) ⟨sm, ?_⟩
          rw [oddOf_succ eq, if_neg c]
          exact hD
    · rintro H' ⟨sm, hD⟩
      rw [hlen, oddOf_all] at hD
      exact k H' D (s1.trans sm) nD0 hD
theorem ok_sqd {f : Addr} {fd : FuncData} (F : Fun K "square_divides" "square_divides" sSqd f fd) (cP : Cl P w K mg base 2 "primes_up_to" spPup) (cH : Cl P w K mg base 1 "how_often" spHow) : FnOk P w K mg base CX0 3 f fd ["m", "n"] spSqd := by
  refine F.ok scSqd (fun vs H Q E h => ?_) (fun cdv A outer s H vs Q E hr h => ⟨_, pss_cons (ps_for PassesOwn.never rfl (pi_list (pe_cl cP hr (by decide) (by rfl) (pa_cons (pv 0) pa_nil))) (pg_name (i := 2) scSqd.nd rfl (Or.inl rfl))
        (pss_one (ps_if (pt_cmpR op_gt (pe_op op_mul pe_int (pe_cl cH hr (by decide) (by rfl) (pa_cons (pv 2) (pa_cons (pv 0) pa_nil)))) (pe_cl cH hr (by decide) (by rfl) (pa_cons (pv 2) (pa_cons (pv 1) pa_nil))) (nomark _)) (pss_one (ps_ret pe_bl)) pss_nil)))
      (pss_one (ps_ret pe_bl)), ?_⟩)
  · obtain ⟨m, n, rfl, _⟩ := h
    rfl
  · obtain ⟨m, n, rfl, hm, hn, k⟩ := h
    refine ⟨_, rfl, m, rfl, hm, fun H1 q s1 nq hq => ⟨q, rfl, ⟨_, SqL.of hq⟩, ?_⟩⟩
    have hlen : ((Kp267.primes m).map iv).length = (Kp267.primes m).length := List.length_map _
    refine for_list (K := K) (a := q) (xs := (Kp267.primes m).map iv) (fun i σ H' => ∃ v, σ = [some (iv m), some (iv n), v] ∧ H' = H1 ∧ ∀ (j z : Nat), j < i → (Kp267.primes m)[j]? = some z → 2 * Kp267.times z m ≤ Kp267.times z n) ⟨none, rfl, rfl, fun j z hj => absurd hj (Nat.not_lt_zero j)⟩ ?_ ?_ ?_
    · rintro i σ H' _ ⟨v, rfl, rfl, _⟩
      exact SqL.of hq
    · rintro i x σ H' hi ⟨v, rfl, rfl, hj⟩
      rw [List.getElem?_map] at hi
      cases eq : (Kp267.primes m)[i]? with
      | none =>
        rw [eq] at hi
        cases hi
      | some z =>
        rw [eq] at hi
        cases hi
        have zm := primes_mem (List.mem_of_getElem? eq)
        refine ⟨_, rfl, _, rfl, z, m, rfl, zm.1, by omega, by omega, _, _, rfl, rfl, Or.inl ⟨by decide, by decide⟩, _, rfl, _, rfl, z, n, rfl, zm.1, by omega, hn, _, _, rfl, rfl, _, rfl, if_dec (fun g => ?_) (fun g => ?_)⟩
        · have kk := k _ s1
          rw [divs_false eq (by omega)] at kk
          exact kk
        · refine ⟨_, rfl, rfl, fun j y h1 h2 => ?_⟩
          rcases Nat.lt_or_ge j i with c | c
          · exact hj j y c h2
          · have : j = i := by omega
            subst this
            rw [eq] at h2
            cases h2
            omega
    · rintro σ H' ⟨v, rfl, rfl, hj⟩
      have kk := k _ s1
      rw [divs_true (fun i z h2 => hj i z (by
        rw [hlen]
        exact (List.getElem?_eq_some_iff.mp h2).1) h2)] at kk
      exact kk
end
end Pr

namespace Pr
open PySem PySem.Spec PyProof.Rows L2
abbrev sBeg : Stmt := top 31
abbrev sPri : Stmt := top 32
abbrev sPro : Stmt := top 33
abbrev sTim : Stmt := top 34
abbrev sRes : Stmt := top 35
abbrev sLea : Stmt := top 36
abbrev sNgt : Stmt := top 37
theorem scBeg : FnScope ["chosen", "numbers"] ["chosen", "numbers"] (defScope sBeg) := ⟨rfl, rfl, rfl, by decide +kernel, rfl, by decide +kernel, by decide +kernel⟩
theorem scPri : FnScope ["chosen", "numbers", "before"] ["chosen", "numbers"] (defScope sPri) := ⟨rfl, rfl, rfl, by decide +kernel, rfl, by decide +kernel, by decide +kernel⟩
theorem scPro : FnScope ["chosen", "numbers", "n"] ["chosen", "numbers"] (defScope sPro) := ⟨rfl, rfl, rfl, by decide +kernel, rfl, by decide +kernel, by decide +kernel⟩
theorem scTim : FnScope ["chosen", "numbers", "n"] ["chosen", "numbers"] (defScope sTim) := ⟨rfl, rfl, rfl, by decide +kernel, rfl, by decide +kernel, by decide +kernel⟩
theorem scRes : FnScope ["chosen", "numbers", "n"] ["chosen", "numbers"] (defScope sRes) := ⟨rfl, rfl, rfl, by decide +kernel, rfl, by decide +kernel, by decide +kernel⟩
theorem scLea : FnScope ["chosen", "numbers", "wanted", "n", "often"] ["chosen", "numbers"] (defScope sLea) := ⟨rfl, rfl, rfl, by decide +kernel, rfl, by decide +kernel, by decide +kernel⟩
theorem scNgt : FnScope ["chosen", "numbers", "base", "n"] ["chosen", "numbers"] (defScope sNgt) := ⟨rfl, rfl, rfl, by decide +kernel, rfl, by decide +kernel, by decide +kernel⟩
theorem len2 {C : Addr} {c : Nat} (vs : List V) (H : Hp) (Q : VK) (E : XK) (h : spStep C c vs H Q E) : vs.length = (["chosen", "numbers"] : List Str).length := by
  obtain ⟨x, a, st, ns, rfl, _⟩ := h
  rfl
section
variable {P : Program} {w : World} {K : PySem.W.Frag} {mg : Str → Option Value} {base : Heap} {C : Addr}
theorem ok_beg {f : Addr} {fd : FuncData} (F : Fun K "answer_begin" "answer_begin" sBeg f fd) (T : Txt K mg C) (cM : Cl P w K mg base 2 "may_be_chosen" spMay) : FnOk P w K mg base CX0 4 f fd ["chosen", "numbers"] (spStep C 0) := by
  refine F.ok scBeg len2 (fun cdv A outer s H vs Q E hr h => ⟨_, pss_cons (ps_if (pt_not (pt_val (pe_cl cM hr (by decide) (by rfl) (pa_cons (pe_ix ix_list (pv 1) pe_int (fun _ _ => rfl)) pa_nil)))) (pss_one (ps_ret (pe_lst (pa_cons (pe_gi (by rfl) T.gOB) pa_nil)))) pss_nil)
      (pss_cons (ps_fld (pv 0) (pe_ix ix_list (pv 1) pe_int (fun _ _ => rfl)) rfl)
      (pss_one (ps_ret (pe_lst (pa_cons (pe_fld (pv 0) rfl) pa_nil))))), ?_⟩)
  obtain ⟨x, a, st, ns, rfl, hx, gd, ha, hl, _, k⟩ := h
  obtain ⟨n, rfl⟩ := one_of hl
  have e1 : ans 0 st (cs [n]) = [if Kp266.okP n then (n : Int) else -22] := ans_begin st n
  have e2 : nxt 0 st (cs [n]) = if Kp266.okP n then some n else st := nxt_begin st n
  rw [e1, e2] at k
  refine ⟨_, rfl, a, _, 0, iv n, rfl, rfl, SqL.of ha, rfl, n, rfl, _, rfl, ?_⟩
  cases hp : Kp266.okP n with
  | false =>
    rw [hp] at k
    refine ⟨(by show 1 ≤ sizeLine; decide), fun p np => k _ p np upd_same ?_ ?_⟩
    · obtain ⟨dx, e⟩ := hx
      exact ⟨dx, new_same np _ _ e⟩
    · exact fun b o e _ => new_same np _ _ e
  | true =>
    rw [hp] at k
    obtain ⟨dx, e⟩ := hx
    refine ⟨_, rfl, a, _, 0, iv n, rfl, rfl, SqL.of ha, rfl, _, rfl, x, C, dx, _, rfl, e, T.cl, T.nP, (by show 1 < 1000; decide), ?_⟩
    refine ⟨_, rfl, x, C, dx, _, _, rfl, upd_same, T.cl, T.nP, (by rw [chF_put]; exact chF_get _), (by show 1 ≤ sizeLine; decide), fun p np => ?_⟩
    have px : p ≠ x := by
      rintro rfl
      rw [upd_same] at np
      cases np
    rw [upd_ne px] at np
    refine k _ p np upd_same ⟨dx, ?_⟩ ?_
    · rw [upd_ne (Ne.symm px), upd_same, chF_put]
      rfl
    · intro b o eb hb
      rw [upd_ne (ne_of_none eb np), upd_ne hb]
      exact eb
theorem ok_pri {f : Addr} {fd : FuncData} (F : Fun K "answer_prime" "answer_prime" sPri f fd) (T : Txt K mg C) (cM : Cl P w K mg base 2 "may_be_chosen" spMay) : FnOk P w K mg base CX0 4 f fd ["chosen", "numbers"] (spStep C 1) := by
  refine F.ok scPri len2 (fun cdv A outer s H vs Q E hr h => ⟨_, pss_cons (ps_if (pt_not (pt_val (pe_cl cM hr (by decide) (by rfl) (pa_cons (pe_ix ix_list (pv 1) pe_int (fun _ _ => rfl)) pa_nil)))) (pss_one (ps_ret (pe_lst (pa_cons (pe_gi (by rfl) T.gOB) pa_nil)))) pss_nil)
      (pss_cons (ps_set (i := 2) scPri.nd rfl (Or.inl rfl) (pe_fld (pv 0) rfl))
      (pss_cons (ps_fld (pv 0) (pe_ix ix_list (pv 1) pe_int (fun _ _ => rfl)) rfl)
      (pss_one (ps_ret (pe_lst (pa_cons (pv 2) pa_nil)))))), ?_⟩)
  obtain ⟨x, a, st, ns, rfl, hx, gd, ha, hl, h0, k⟩ := h
  obtain ⟨n, rfl⟩ := one_of hl
  cases st with
  | none => exact absurd rfl (h0 (by decide))
  | some q =>
    have e1 : ans 1 (some q) (cs [n]) = [if Kp266.okP n then (q : Int) else -22] := ans_prime q n
    have e2 : nxt 1 (some q) (cs [n]) = if Kp266.okP n then some n else some q := nxt_prime q n
    rw [e1, e2] at k
    refine ⟨_, rfl, a, _, 0, iv n, rfl, rfl, SqL.of ha, rfl, n, rfl, _, rfl, ?_⟩
    cases hp : Kp266.okP n with
    | false =>
      rw [hp] at k
      refine ⟨(by show 1 ≤ sizeLine; decide), fun p np => k _ p np upd_same ?_ ?_⟩
      · obtain ⟨dx, e⟩ := hx
        exact ⟨dx, new_same np _ _ e⟩
      · exact fun b o e _ => new_same np _ _ e
    | true =>
      rw [hp] at k
      obtain ⟨dx, e⟩ := hx
      refine ⟨_, rfl, x, C, dx, _, _, rfl, e, T.cl, T.nP, chF_get _, ?_⟩
      refine ⟨_, rfl, a, _, 0, iv n, rfl, rfl, SqL.of ha, rfl, _, rfl, x, C, dx, _, rfl, e, T.cl, T.nP, (by show 1 < 1000; decide), ?_⟩
      refine ⟨_, rfl, (by show 1 ≤ sizeLine; decide), fun p np => ?_⟩
      have px : p ≠ x := by
        rintro rfl
        rw [upd_same] at np
        cases np
      rw [upd_ne px] at np
      refine k _ p np upd_same ⟨dx, ?_⟩ ?_
      · rw [upd_ne (Ne.symm px), upd_same, chF_put]
        rfl
      · intro b o eb hb
        rw [upd_ne (ne_of_none eb np), upd_ne hb]
        exact eb
theorem ok_pro {f : Addr} {fd : FuncData} (F : Fun K "answer_prod" "answer_prod" sPro f fd) (T : Txt K mg C) (cP : Cl P w K mg base 1 "product_up_to" spPrd) : FnOk P w K mg base CX0 4 f fd ["chosen", "numbers"] (spStep C 2) := by
  refine F.ok scPro len2 (fun cdv A outer s H vs Q E hr h => ⟨_, pss_cons (ps_set (i := 2) scPro.nd rfl (Or.inl rfl) (pe_ix ix_list (pv 1) pe_int (fun _ _ => rfl)))
      (pss_cons (ps_if (pt_cmpR op_gt (pv 2) (pe_gi (by rfl) T.gHP) (nomark _)) (pss_one (ps_ret (pe_lst (pa_cons (pe_gi (by rfl) T.gOB) pa_nil)))) pss_nil)
      (pss_one (ps_ret (pe_lst (pa_cons (pe_cl cP hr (by decide) (by rfl) (pa_cons (pv 2) pa_nil)) pa_nil))))), ?_⟩)
  obtain ⟨x, a, p, ns, rfl, hx, hp, hp2, ha, hl, k⟩ := step_keep (by decide) (by decide) h
  obtain ⟨n, rfl⟩ := one_of hl
  have e1 : ans 2 (some p) (cs [n]) = [if 20 < n then -22 else (Kp267.prod n : Int)] := ans_prod p n
  rw [e1] at k
  refine ⟨_, rfl, a, _, 0, iv n, rfl, rfl, SqL.of ha, rfl, ?_⟩
  refine ⟨_, rfl, _, _, rfl, rfl, _, rfl, if_dec (fun c => ?_) (fun c => ?_)⟩
  · rw [if_pos (by omega)] at k
    exact ⟨(by show 1 ≤ sizeLine; decide), fun q nq => k _ q (new_same nq) nq upd_same⟩
  · rw [if_neg (by omega)] at k
    exact ⟨_, rfl, n, rfl, by omega, (by show 1 ≤ sizeLine; decide), fun q nq => k _ q (new_same nq) nq upd_same⟩
theorem ok_tim {f : Addr} {fd : FuncData} (F : Fun K "answer_times" "answer_times" sTim f fd) (T : Txt K mg C) (cH : Cl P w K mg base 1 "how_often" spHow) : FnOk P w K mg base CX0 4 f fd ["chosen", "numbers"] (spStep C 3) := by
  refine F.ok scTim len2 (fun cdv A outer s H vs Q E hr h => ⟨_, pss_cons (ps_set (i := 2) scTim.nd rfl (Or.inl rfl) (pe_ix ix_list (pv 1) pe_int (fun _ _ => rfl)))
      (pss_cons (ps_if (pt_cmpR op_gt (pv 2) (pe_gi (by rfl) T.gHN) (nomark _)) (pss_one (ps_ret (pe_lst (pa_cons (pe_gi (by rfl) T.gOB) pa_nil)))) pss_nil)
      (pss_one (ps_ret (pe_lst (pa_cons (pe_cl cH hr (by decide) (by rfl) (pa_cons (pe_fld (pv 0) rfl) (pa_cons (pv 2) pa_nil))) pa_nil))))), ?_⟩)
  obtain ⟨x, a, p, ns, rfl, ⟨dx, hx⟩, hp, hp2, ha, hl, k⟩ := step_keep (by decide) (by decide) h
  obtain ⟨n, rfl⟩ := one_of hl
  have e1 : ans 3 (some p) (cs [n]) = [if 1000000 < n then -22 else (Kp267.times p n : Int)] := ans_times p n
  rw [e1] at k
  refine ⟨_, rfl, a, _, 0, iv n, rfl, rfl, SqL.of ha, rfl, ?_⟩
  refine ⟨_, rfl, _, _, rfl, rfl, _, rfl, if_dec (fun c => ?_) (fun c => ?_)⟩
  · rw [if_pos (by omega)] at k
    exact ⟨(by show 1 ≤ sizeLine; decide), fun q nq => k _ q (new_same nq) nq upd_same⟩
  · rw [if_neg (by omega)] at k
    exact ⟨_, rfl, x, C, dx, _, _, rfl, hx, T.cl, T.nP, chF_get _, _, rfl, p, n, rfl, hp, by omega, by omega, (by show 1 ≤ sizeLine; decide), fun q nq => k _ q (new_same nq) nq upd_same⟩
theorem ok_res {f : Addr} {fd : FuncData} (F : Fun K "answer_rest" "answer_rest" sRes f fd) (T : Txt K mg C) (cL : Cl P w K mg base 2 "what_is_left" spLeft) : FnOk P w K mg base CX0 4 f fd ["chosen", "numbers"] (spStep C 4) := by
  refine F.ok scRes len2 (fun cdv A outer s H vs Q E hr h => ⟨_, pss_cons (ps_set (i := 2) scRes.nd rfl (Or.inl rfl) (pe_ix ix_list (pv 1) pe_int (fun _ _ => rfl)))
      (pss_cons (ps_if (pt_cmpR op_gt (pv 2) (pe_gi (by rfl) T.gHN) (nomark _)) (pss_one (ps_ret (pe_lst (pa_cons (pe_gi (by rfl) T.gOB) pa_nil)))) pss_nil)
      (pss_one (ps_ret (pe_lst (pa_cons (pe_cl cL hr (by decide) (by rfl) (pa_cons (pe_fld (pv 0) rfl) (pa_cons (pv 2) pa_nil))) pa_nil))))), ?_⟩)
  obtain ⟨x, a, p, ns, rfl, ⟨dx, hx⟩, hp, hp2, ha, hl, k⟩ := step_keep (by decide) (by decide) h
  obtain ⟨n, rfl⟩ := one_of hl
  have e1 : ans 4 (some p) (cs [n]) = [if 1000000 < n then -22 else (Kp267.rest p n : Int)] := ans_rest p n
  rw [e1] at k
  refine ⟨_, rfl, a, _, 0, iv n, rfl, rfl, SqL.of ha, rfl, ?_⟩
  refine ⟨_, rfl, _, _, rfl, rfl, _, rfl, if_dec (fun c => ?_) (fun c => ?_)⟩
  · rw [if_pos (by omega)] at k
    exact ⟨(by show 1 ≤ sizeLine; decide), fun q nq => k _ q (new_same nq) nq upd_same⟩
  · rw [if_neg (by omega)] at k
    exact ⟨_, rfl, x, C, dx, _, _, rfl, hx, T.cl, T.nP, chF_get _, _, rfl, p, n, rfl, hp, by omega, by omega, (by show 1 ≤ sizeLine; decide), fun q nq => k _ q (new_same nq) nq upd_same⟩
theorem ok_lea {f : Addr} {fd : FuncData} (F : Fun K "answer_least" "answer_least" sLea f fd) (T : Txt K mg C) (cH : Cl P w K mg base 1 "how_often" spHow) : FnOk P w K mg base CX0 4 f fd ["chosen", "numbers"] (spStep C 5) := by
  refine F.ok scLea len2 (fun cdv A outer s H vs Q E hr h => ⟨_, pss_cons (ps_set (i := 2) scLea.nd rfl (Or.inl rfl) (pe_ix ix_list (pv 1) pe_int (fun _ _ => rfl)))
      (pss_cons (ps_if (pt_cmpR op_gt (pv 2) (pe_gi (by rfl) T.gHL) (nomark _)) (pss_one (ps_ret (pe_lst (pa_cons (pe_gi (by rfl) T.gOB) pa_nil)))) pss_nil)
      (pss_cons (ps_for PassesOwn.never rfl (pi_range1 (by rfl) T.rg (pa_cons (pe_gi (by rfl) T.gLB) pa_nil)) (pg_name (i := 3) scLea.nd rfl (Or.inl rfl))
        (pss_cons (ps_set (i := 4) scLea.nd rfl (Or.inl rfl) (pe_cl cH hr (by decide) (by rfl) (pa_cons (pe_fld (pv 0) rfl) (pa_cons (pv 3) pa_nil))))
        (pss_one (ps_if (pt_cmpR op_ge (pv 4) (pv 2) (nomark _)) (pss_one (ps_ret (pe_lst (pa_cons (pv 3) (pa_cons (pv 4) pa_nil))))) pss_nil))))
      (pss_one (ps_ret (pe_lst (pa_cons (pe_gi (by rfl) T.gNS) pa_nil)))))), ?_⟩)
  obtain ⟨x, a, p, ns, rfl, ⟨dx, hx⟩, hp, hp2, ha, hl, k⟩ := step_keep (by decide) (by decide) h
  obtain ⟨n, rfl⟩ := one_of hl
  have e1 : ans 5 (some p) (cs [n]) = if 600 < n then [-22] else match Kp267.least p n with
    | some m => [(m : Int), (Kp267.times p m : Int)]
    | none => [-33] := ans_least p n
  rw [e1] at k
  refine ⟨_, rfl, a, _, 0, iv n, rfl, rfl, SqL.of ha, rfl, ?_⟩
  refine ⟨_, rfl, _, _, rfl, rfl, _, rfl, if_dec (fun c => ?_) (fun c => ?_)⟩
  · rw [if_pos (by omega)] at k
    exact ⟨(by show 1 ≤ sizeLine; decide), fun q nq => k _ q (new_same nq) nq upd_same⟩
  · rw [if_neg (by omega)] at k
    refine ⟨700, rfl, by decide, by decide, for_range (n := 700) (fun i σ H' => ∃ v u, σ = [some (.ref x), some (.ref a), some (iv n), v, u] ∧ H' = H ∧ ∀ m, m < i → ¬ n ≤ Kp267.times p m) ⟨none, none, rfl, rfl, fun m hm => absurd hm (Nat.not_lt_zero m)⟩ ?_ ?_⟩
    · rintro i σ H' hi ⟨v, u, rfl, rfl, hm⟩
      refine ⟨_, rfl, x, C, dx, _, _, rfl, hx, T.cl, T.nP, chF_get _, _, rfl, p, i, (by rw [Int.zero_add]), hp, by omega, by omega, ?_⟩
      refine ⟨_, rfl, _, rfl, _, _, rfl, rfl, _, rfl, if_dec (fun g => ?_) (fun g => ?_)⟩
      · have g' : n ≤ Kp267.times p i := by omega
        rw [least_some hi hm g'] at k
        refine ⟨_, rfl, _, rfl, (by show 2 ≤ sizeLine; decide), fun q nq => k _ q (new_same nq) nq ?_⟩
        rw [upd_same, Int.zero_add]
        rfl
      · have g' : ¬ n ≤ Kp267.times p i := by omega
        refine ⟨_, _, rfl, rfl, fun m h2 => ?_⟩
        rcases Nat.lt_or_ge m i with h3 | h3
        · exact hm m h3
        · have : m = i := by omega
          subst this
          exact g'
    · rintro σ H' ⟨v, u, rfl, rfl, hm⟩
      rw [least_none hm] at k
      exact ⟨(by show 1 ≤ sizeLine; decide), fun q nq => k _ q (new_same nq) nq upd_same⟩
theorem ok_ngt {f : Addr} {fd : FuncData} (F : Fun K "answer_noughts" "answer_noughts" sNgt f fd) (T : Txt K mg C) (cB : Cl P w K mg base 1 "may_be_base" spMyb) (cN : Cl P w K mg base 2 "noughts_at_end" spNou) : FnOk P w K mg base CX0 4 f fd ["chosen", "numbers"] (spStep C 6) := by
  refine F.ok scNgt len2 (fun cdv A outer s H vs Q E hr h => ⟨_, pss_cons (ps_set (i := 2) scNgt.nd rfl (Or.inl rfl) (pe_ix ix_list (pv 1) pe_int (fun _ _ => rfl)))
      (pss_cons (ps_set (i := 3) scNgt.nd rfl (Or.inl rfl) (pe_ix ix_list (pv 1) pe_int (fun _ _ => rfl)))
      (pss_cons (ps_if (PW.pt (pw_or (pt_not (pt_val (pe_cl cB hr (by decide) (by rfl) (pa_cons (pv 2) pa_nil)))) (pw_or1 (pt_cmpR op_gt (pv 3) (pe_gi (by rfl) T.gHN) (nomark _)))))
        (pss_one (ps_ret (pe_lst (pa_cons (pe_gi (by rfl) T.gOB) pa_nil)))) pss_nil)
      (pss_one (ps_ret (pe_lst (pa_cons (pe_cl cN hr (by decide) (by rfl) (pa_cons (pv 2) (pa_cons (pv 3) pa_nil))) pa_nil)))))), ?_⟩)
  obtain ⟨x, a, p, ns, rfl, ⟨dx, hx⟩, hp, hp2, ha, hl, k⟩ := step_keep (by decide) (by decide) h
  obtain ⟨b, n, rfl⟩ := two_of hl
  have e1 : ans 6 (some p) (cs [b, n]) = [if b < 2 ∨ 100 < b ∨ 1000000 < n then -22 else (Kp267.noughts b n : Int)] := ans_noughts p b n
  rw [e1] at k
  refine ⟨_, rfl, a, _, 0, iv b, rfl, rfl, SqL.of ha, rfl, ?_⟩
  refine ⟨_, rfl, a, _, 1, iv n, rfl, rfl, SqL.of ha, rfl, ?_⟩
  refine ⟨_, rfl, b, rfl, _, rfl, ?_⟩
  by_cases c : 2 ≤ b ∧ b ≤ 100
  · refine if_false_of (by rw [decide_eq_true c]; rfl) ?_
    refine ⟨_, rfl, _, _, rfl, rfl, _, rfl, if_dec (fun c3 => ?_) (fun c3 => ?_)⟩
    · rw [if_pos (by omega)] at k
      exact ⟨(by show 1 ≤ sizeLine; decide), fun q nq => k _ q (new_same nq) nq upd_same⟩
    · rw [if_neg (by omega)] at k
      refine ⟨_, rfl, _, rfl, b, n, rfl, by omega, by omega, by omega, fun H1 s1 => ⟨(by show 1 ≤ sizeLine; decide), fun q nq => ?_⟩⟩
      exact k _ q (s1.trans (new_same nq)) (s1.free nq) upd_same
  · refine if_true_of (by rw [decide_eq_false c]; rfl) ?_
    rw [if_pos (by omega)] at k
    exact ⟨(by show 1 ≤ sizeLine; decide), fun q nq => k _ q (new_same nq) nq upd_same⟩
end
end Pr

namespace Pr
open PySem PySem.Spec PyProof.Rows L2
abbrev sSpa : Stmt := top 38
abbrev sGap : Stmt := top 39
abbrev sSqu : Stmt := top 40
abbrev sTwi : Stmt := top 41
abbrev sPar : Stmt := top 42
abbrev sJum : Stmt := top 43
abbrev sTol : Stmt := top 44
theorem scSpa : FnScope ["chosen", "numbers", "first", "last"] ["chosen", "numbers"] (defScope sSpa) := ⟨rfl, rfl, rfl, by decide +kernel, rfl, by decide +kernel, by decide +kernel⟩
theorem scGap : FnScope ["chosen", "numbers", "n", "leapt"] ["chosen", "numbers"] (defScope sGap) := ⟨rfl, rfl, rfl, by decide +kernel, rfl, by decide +kernel, by decide +kernel⟩
theorem scSqu : FnScope ["chosen", "numbers", "n", "odd"] ["chosen", "numbers"] (defScope sSqu) := ⟨rfl, rfl, rfl, by decide +kernel, rfl, by decide +kernel, by decide +kernel⟩
theorem scTwi : FnScope ["chosen", "numbers", "n", "m"] ["chosen", "numbers"] (defScope sTwi) := ⟨rfl, rfl, rfl, by decide +kernel, rfl, by decide +kernel, by decide +kernel⟩
theorem scPar : FnScope ["chosen", "numbers", "base", "parts", "answer", "prime", "often"] ["chosen", "numbers"] (defScope sPar) := ⟨rfl, rfl, rfl, by decide +kernel, rfl, by decide +kernel, by decide +kernel⟩
theorem scJum : FnScope ["chosen", "numbers", "n", "before", "often"] ["chosen", "numbers"] (defScope sJum) := ⟨rfl, rfl, rfl, by decide +kernel, rfl, by decide +kernel, by decide +kernel⟩
theorem scTol : FnScope ["chosen", "numbers"] ["chosen", "numbers"] (defScope sTol) := ⟨rfl, rfl, rfl, by decide +kernel, rfl, by decide +kernel, by decide +kernel⟩
theorem iv_ints (l : List Nat) : (l.map fun (x : Nat) => (x : Int)).map V.int = l.map iv := by
  rw [List.map_map]
  rfl
section
variable {P : Program} {w : World} {K : PySem.W.Frag} {mg : Str → Option Value} {base : Heap} {C : Addr}
theorem ok_spa {f : Addr} {fd : FuncData} (F : Fun K "answer_span" "answer_span" sSpa f fd) (T : Txt K mg C) (cF : Cl P w K mg base 2 "how_often_from" spHfr) : FnOk P w K mg base CX0 4 f fd ["chosen", "numbers"] (spStep C 7) := by
  refine F.ok scSpa len2 (fun cdv A outer s H vs Q E hr h => ⟨_, pss_cons (ps_set (i := 2) scSpa.nd rfl (Or.inl rfl) (pe_ix ix_list (pv 1) pe_int (fun _ _ => rfl)))
      (pss_cons (ps_set (i := 3) scSpa.nd rfl (Or.inl rfl) (pe_ix ix_list (pv 1) pe_int (fun _ _ => rfl)))
      (pss_cons (ps_if (PW.pt (pw_or (pt_cmpR op_eq (pv 2) pe_int (nomark _)) (pw_or (pt_cmpR op_lt (pv 3) (pv 2) (nomark _)) (pw_or1 (pt_cmpR op_gt (pv 3) (pe_gi (by rfl) T.gHN) (nomark _))))))
        (pss_one (ps_ret (pe_lst (pa_cons (pe_gi (by rfl) T.gOB) pa_nil)))) pss_nil)
      (pss_one (ps_ret (pe_lst (pa_cons (pe_cl cF hr (by decide) (by rfl) (pa_cons (pe_fld (pv 0) rfl) (pa_cons (pv 2) (pa_cons (pv 3) pa_nil)))) pa_nil)))))), ?_⟩)
  obtain ⟨x, a, p, ns, rfl, ⟨dx, hx⟩, hp, hp2, ha, hl, k⟩ := step_keep (by decide) (by decide) h
  obtain ⟨u, v, rfl⟩ := two_of hl
  have e1 : ans 7 (some p) (cs [u, v]) = [if u = 0 ∨ 1000000 < v ∨ v < u then -22 else (Kp267.span p u v : Int)] := ans_span p u v
  rw [e1] at k
  have bad : (u = 0 ∨ 1000000 < v ∨ v < u) → ∀ q, H q = none → Q (.ref q) (upd H q (.lst [.int (-22)])) := by
    intro c q nq
    rw [if_pos c] at k
    exact k _ q (new_same nq) nq upd_same
  refine ⟨_, rfl, a, _, 0, iv u, rfl, rfl, SqL.of ha, rfl, ?_⟩
  refine ⟨_, rfl, a, _, 1, iv v, rfl, rfl, SqL.of ha, rfl, ?_⟩
  refine ⟨_, rfl, rfl, _, rfl, if_dec (fun c => ?_) (fun c => ?_)⟩
  · have c' : u = 0 := by
      have := V.int.inj c
      omega
    exact ⟨(by show 1 ≤ sizeLine; decide), bad (.inl c')⟩
  · have c' : u ≠ 0 := fun z => c (by rw [z]; rfl)
    refine ⟨_, rfl, _, rfl, _, _, rfl, rfl, _, rfl, if_dec (fun c2 => ?_) (fun c2 => ?_)⟩
    · exact ⟨(by show 1 ≤ sizeLine; decide), bad (.inr (.inr (by omega)))⟩
    · refine ⟨_, rfl, _, _, rfl, rfl, _, rfl, if_dec (fun c3 => ?_) (fun c3 => ?_)⟩
      · exact ⟨(by show 1 ≤ sizeLine; decide), bad (.inr (.inl (by omega)))⟩
      · rw [if_neg (by omega)] at k
        exact ⟨_, rfl, x, C, dx, _, _, rfl, hx, T.cl, T.nP, chF_get _, _, rfl, _, rfl, p, u, v, rfl, hp, by omega, by omega, by omega, by omega, (by show 1 ≤ sizeLine; decide), fun q nq => k _ q (new_same nq) nq upd_same⟩
theorem ok_gap {f : Addr} {fd : FuncData} (F : Fun K "answer_gaps" "answer_gaps" sGap f fd) (T : Txt K mg C) (cL : Cl P w K mg base 2 "leapt_over" spLpt) : FnOk P w K mg base CX0 4 f fd ["chosen", "numbers"] (spStep C 8) := by
  refine F.ok scGap len2 (fun cdv A outer s H vs Q E hr h => ⟨_, pss_cons (ps_set (i := 2) scGap.nd rfl (Or.inl rfl) (pe_ix ix_list (pv 1) pe_int (fun _ _ => rfl)))
      (pss_cons (ps_if (pt_cmpR op_gt (pv 2) (pe_gi (by rfl) T.gHG) (nomark _)) (pss_one (ps_ret (pe_lst (pa_cons (pe_gi (by rfl) T.gOB) pa_nil)))) pss_nil)
      (pss_cons (ps_set (i := 3) scGap.nd rfl (Or.inl rfl) (pe_cl cL hr (by decide) (by rfl) (pa_cons (pe_fld (pv 0) rfl) (pa_cons (pv 2) pa_nil))))
      (pss_one (ps_ret (pe_op op_cat (pe_lst (pa_cons (pe_callB call_len_seq (by rfl) T.ln PySem.boot_len (pa_cons (pv 3) pa_nil)) pa_nil)) (pv 3)))))), ?_⟩)
  obtain ⟨x, a, p, ns, rfl, ⟨dx, hx⟩, hp, hp2, ha, hl, k⟩ := step_keep (by decide) (by decide) h
  obtain ⟨n, rfl⟩ := one_of hl
  have e1 : ans 8 (some p) (cs [n]) = if 60 < n then [-22] else ((Kp267.gaps p n).length : Int) :: (Kp267.gaps p n).map fun (x : Nat) => (x : Int) := ans_gaps p n
  rw [e1] at k
  refine ⟨_, rfl, a, _, 0, iv n, rfl, rfl, SqL.of ha, rfl, ?_⟩
  refine ⟨_, rfl, _, _, rfl, rfl, _, rfl, if_dec (fun c => ?_) (fun c => ?_)⟩
  · rw [if_pos (by omega)] at k
    exact ⟨(by show 1 ≤ sizeLine; decide), fun q nq => k _ q (new_same nq) nq upd_same⟩
  · rw [if_neg (by omega)] at k
    refine ⟨_, rfl, x, C, dx, _, _, rfl, hx, T.cl, T.nP, chF_get _, _, rfl, p, n, rfl, hp, by omega, by omega, fun H1 g s1 ng hg => ?_⟩
    refine ⟨_, rfl, g, _, rfl, Or.inl (SqL.of hg), (by show 1 ≤ sizeLine; decide), fun t nt => ?_⟩
    have gt : g ≠ t := ne_of_none hg nt
    refine ⟨_, rfl, t, g, _, _, rfl, rfl, upd_same, (upd_ne gt).trans hg, ?_, fun q nq => ?_⟩
    · rw [List.length_map]
      have := gaps_len p n hp
      show 1 + (Kp267.gaps p n).length ≤ sizeLine
      exact Nat.le_of_lt (small1000 (by omega))
    · have s2 : Same H (upd H1 t (.lst [.int ((List.map iv (Kp267.gaps p n)).length : Int)])) := s1.trans (new_same nt)
      refine k _ q (s2.trans (new_same nq)) (s2.free nq) ?_
      rw [upd_same, List.map_cons, iv_ints, List.length_map]
      rfl
theorem ok_squ {f : Addr} {fd : FuncData} (F : Fun K "answer_square" "answer_square" sSqu f fd) (T : Txt K mg C) (cO : Cl P w K mg base 3 "odd_primes" spOdd) : FnOk P w K mg base CX0 4 f fd ["chosen", "numbers"] (spStep C 9) := by
  refine F.ok scSqu len2 (fun cdv A outer s H vs Q E hr h => ⟨_, pss_cons (ps_set (i := 2) scSqu.nd rfl (Or.inl rfl) (pe_ix ix_list (pv 1) pe_int (fun _ _ => rfl)))
      (pss_cons (ps_if (pt_cmpR op_gt (pv 2) (pe_gi (by rfl) T.gHS) (nomark _)) (pss_one (ps_ret (pe_lst (pa_cons (pe_gi (by rfl) T.gOB) pa_nil)))) pss_nil)
      (pss_cons (ps_set (i := 3) scSqu.nd rfl (Or.inl rfl) (pe_cl cO hr (by decide) (by rfl) (pa_cons (pv 2) pa_nil)))
      (pss_one (ps_ret (pe_op op_cat (pe_lst (pa_cons (pe_callB call_len_seq (by rfl) T.ln PySem.boot_len (pa_cons (pv 3) pa_nil)) pa_nil)) (pv 3)))))), ?_⟩)
  obtain ⟨x, a, p, ns, rfl, hx, hp, hp2, ha, hl, k⟩ := step_keep (by decide) (by decide) h
  obtain ⟨n, rfl⟩ := one_of hl
  have e1 : ans 9 (some p) (cs [n]) = if 60 < n then [-22] else ((odds n).length : Int) :: (odds n).map fun (x : Nat) => (x : Int) := ans_square p n
  rw [e1] at k
  refine ⟨_, rfl, a, _, 0, iv n, rfl, rfl, SqL.of ha, rfl, ?_⟩
  refine ⟨_, rfl, _, _, rfl, rfl, _, rfl, if_dec (fun c => ?_) (fun c => ?_)⟩
  · rw [if_pos (by omega)] at k
    exact ⟨(by show 1 ≤ sizeLine; decide), fun q nq => k _ q (new_same nq) nq upd_same⟩
  · rw [if_neg (by omega)] at k
    refine ⟨_, rfl, n, rfl, by omega, fun H1 g s1 ng hg => ?_⟩
    refine ⟨_, rfl, g, _, rfl, Or.inl (SqL.of hg), (by show 1 ≤ sizeLine; decide), fun t nt => ?_⟩
    have gt : g ≠ t := ne_of_none hg nt
    refine ⟨_, rfl, t, g, _, _, rfl, rfl, upd_same, (upd_ne gt).trans hg, ?_, fun q nq => ?_⟩
    · rw [List.length_map]
      have := odds_len n
      show 1 + (odds n).length ≤ sizeLine
      exact Nat.le_of_lt (small1000 (by omega))
    · have s2 : Same H (upd H1 t (.lst [.int ((List.map iv (odds n)).length : Int)])) := s1.trans (new_same nt)
      refine k _ q (s2.trans (new_same nq)) (s2.free nq) ?_
      rw [upd_same, List.map_cons, iv_ints, List.length_map]
      rfl
theorem ok_twi {f : Addr} {fd : FuncData} (F : Fun K "answer_twice" "answer_twice" sTwi f fd) (T : Txt K mg C) (cS : Cl P w K mg base 3 "square_divides" spSqd) : FnOk P w K mg base CX0 4 f fd ["chosen", "numbers"] (spStep C 10) := by
  refine F.ok scTwi len2 (fun cdv A outer s H vs Q E hr h => ⟨_, pss_cons (ps_set (i := 2) scTwi.nd rfl (Or.inl rfl) (pe_ix ix_list (pv 1) pe_int (fun _ _ => rfl)))
      (pss_cons (ps_set (i := 3) scTwi.nd rfl (Or.inl rfl) (pe_ix ix_list (pv 1) pe_int (fun _ _ => rfl)))
      (pss_cons (ps_if (PW.pt (pw_or (pt_cmpR op_gt (pv 3) (pe_gi (by rfl) T.gHT) (nomark _)) (pw_or1 (pt_cmpR op_gt (pv 2) (pe_gi (by rfl) T.gHN) (nomark _)))))
        (pss_one (ps_ret (pe_lst (pa_cons (pe_gi (by rfl) T.gOB) pa_nil)))) pss_nil)
      (pss_one (ps_ret (pe_lst (pa_cons (pe_ifExp (pt_val (pe_cl cS hr (by decide) (by rfl) (pa_cons (pv 3) (pa_cons (pv 2) pa_nil)))) pe_int pe_int) pa_nil)))))), ?_⟩)
  obtain ⟨x, a, p, ns, rfl, ⟨dx, hx⟩, hp, hp2, ha, hl, k⟩ := step_keep (by decide) (by decide) h
  obtain ⟨n, m, rfl⟩ := two_of hl
  have e1 : ans 10 (some p) (cs [n, m]) = [if 1000000 < n ∨ 60 < m then -22 else if divs n m then 1 else 0] := ans_twice p n m
  rw [e1] at k
  refine ⟨_, rfl, a, _, 0, iv n, rfl, rfl, SqL.of ha, rfl, ?_⟩
  refine ⟨_, rfl, a, _, 1, iv m, rfl, rfl, SqL.of ha, rfl, ?_⟩
  refine ⟨_, rfl, _, _, rfl, rfl, _, rfl, if_dec (fun c => ?_) (fun c => ?_)⟩
  · rw [if_pos (by omega)] at k
    exact ⟨(by show 1 ≤ sizeLine; decide), fun q nq => k _ q (new_same nq) nq upd_same⟩
  · refine ⟨_, rfl, _, _, rfl, rfl, _, rfl, if_dec (fun c2 => ?_) (fun c2 => ?_)⟩
    · rw [if_pos (by omega)] at k
      exact ⟨(by show 1 ≤ sizeLine; decide), fun q nq => k _ q (new_same nq) nq upd_same⟩
    · rw [if_neg (by omega)] at k
      refine ⟨_, rfl, _, rfl, m, n, rfl, by omega, by omega, fun H1 s1 => ⟨_, rfl, ?_⟩⟩
      cases hd : divs n m with
      | true =>
        rw [hd] at k
        exact if_true_of rfl ⟨(by show 1 ≤ sizeLine; decide), fun q nq => k _ q (s1.trans (new_same nq)) (s1.free nq) upd_same⟩
      | false =>
        rw [hd] at k
        exact if_false_of rfl ⟨(by show 1 ≤ sizeLine; decide), fun q nq => k _ q (s1.trans (new_same nq)) (s1.free nq) upd_same⟩
theorem ok_par {f : Addr} {fd : FuncData} (F : Fun K "answer_parts" "answer_parts" sPar f fd) (T : Txt K mg C) (cB : Cl P w K mg base 1 "may_be_base" spMyb) (cP : Cl P w K mg base 1 "prime_parts" spPts) : FnOk P w K mg base CX0 4 f fd ["chosen", "numbers"] (spStep C 11) := by
  refine F.ok scPar len2 (fun cdv A outer s H vs Q E hr h => ⟨_, pss_cons (ps_set (i := 2) scPar.nd rfl (Or.inl rfl) (pe_ix ix_list (pv 1) pe_int (fun _ _ => rfl)))
      (pss_cons (ps_if (pt_not (pt_val (pe_cl cB hr (by decide) (by rfl) (pa_cons (pv 2) pa_nil)))) (pss_one (ps_ret (pe_lst (pa_cons (pe_gi (by rfl) T.gOB) pa_nil)))) pss_nil)
      (pss_cons (ps_set (i := 3) scPar.nd rfl (Or.inl rfl) (pe_cl cP hr (by decide) (by rfl) (pa_cons (pv 2) pa_nil)))
      (pss_cons (ps_set (i := 4) scPar.nd rfl (Or.inl rfl) (pe_lst (pa_cons (pe_callB call_len_seq (by rfl) T.ln PySem.boot_len (pa_cons (pv 3) pa_nil)) pa_nil)))
      (pss_cons (ps_for PassesOwn.never rfl (pi_list (pv 3)) (pg_tup (n := 2) rfl (pgs_cons (pg_name (i := 5) scPar.nd rfl (Or.inl rfl)) (pgs_cons (pg_name (i := 6) scPar.nd rfl (Or.inl rfl)) pgs_nil)))
        (pss_one (ps_expr (pe_bm PySem.F.plainAttrs_list PySem.F.slot_list_extend PySem.F.type_list_extend mt_extend (pv 4) (pa_cons (pe_lst (pa_cons (pv 5) (pa_cons (pv 6) pa_nil))) pa_nil)))))
      (pss_one (ps_ret (pv 4))))))), ?_⟩)
  obtain ⟨x, a, p, ns, rfl, hx, hp, hp2, ha, hl, k⟩ := step_keep (by decide) (by decide) h
  obtain ⟨b, rfl⟩ := one_of hl
  have e1 : ans 11 (some p) (cs [b]) = if b < 2 ∨ 100 < b then [-22] else ((Kp267.parts b).length : Int) :: pairs b := ans_parts p b
  rw [e1] at k
  refine ⟨_, rfl, a, _, 0, iv b, rfl, rfl, SqL.of ha, rfl, ?_⟩
  refine ⟨_, rfl, b, rfl, _, rfl, ?_⟩
  by_cases c : 2 ≤ b ∧ b ≤ 100
  · refine if_false_of (by rw [decide_eq_true c]; rfl) ?_
    rw [if_neg (by omega)] at k
    refine ⟨_, rfl, b, rfl, by omega, by omega, fun H1 g ts s1 ng hg pa => ?_⟩
    have hlen : ts.length = (Kp267.parts b).length := pa.len
    have pl := parts_short b (by omega)
    refine ⟨_, rfl, g, _, rfl, Or.inl (SqL.of hg), (by show 1 ≤ sizeLine; decide), fun t nt => ?_⟩
    have gt : g ≠ t := ne_of_none hg nt
    have nt0 : H t = none := s1.free nt
    have em : (List.map V.ref ts).length = (Kp267.parts b).length := (List.length_map _).trans hlen
    rw [em]
    refine ⟨_, rfl, g, rfl, ⟨_, SqL.of ((upd_ne gt).trans hg)⟩, ?_⟩
    refine for_list (K := K) (a := g) (xs := ts.map V.ref) (fun i σ H' => ∃ v5 v6, σ = [some (.ref x), some (.ref a), some (iv b), some (.ref g), some (.ref t), v5, v6] ∧ Same H1 H' ∧ H' t = some (.lst (iv (Kp267.parts b).length :: (flat ((Kp267.parts b).take i)).map iv))) ⟨none, none, rfl, new_same nt, ?_⟩ ?_ ?_ ?_
    · rw [upd_same]
      rfl
    · rintro i σ H' _ ⟨v5, v6, rfl, sm, _⟩
      exact sm.seq (SqL.of hg)
    · rintro i y σ H' hi ⟨v5, v6, rfl, sm, ht⟩
      rw [List.getElem?_map] at hi
      cases et : ts[i]? with
      | none =>
        rw [et] at hi
        cases hi
      | some u =>
        rw [et] at hi
        cases hi
        obtain ⟨z, hz, hu⟩ := pa.get et
        refine ⟨u, _, rfl, SqT.of (sm _ _ hu), rfl, _, _, rfl, _, _, rfl, rfl, ?_⟩
        refine ⟨_, rfl, Or.inl ⟨rfl, _, SqL.of ht⟩, _, rfl, _, rfl, (by show 2 ≤ sizeLine; decide), fun r nr => ?_⟩
        have tr : t ≠ r := ne_of_none ht nr
        refine ⟨t, r, _, _, rfl, rfl, (upd_ne tr).trans ht, upd_same, ?_, some (iv z.1), some (iv z.2), rfl, ?_, ?_⟩
        · rw [List.length_cons, List.length_map, flat_len, List.length_take]
          show 2 * min i (Kp267.parts b).length + 1 + 2 ≤ sizeLine
          have : (5000 : Nat) ≤ sizeLine := by decide
          omega
        · intro d o e
          rw [upd_ne (ne_of_none e nt), upd_ne (ne_of_none (sm d o e) nr)]
          exact sm d o e
        · rw [upd_same, flat_succ hz, List.map_append]
          rfl
    · rintro σ H' ⟨v5, v6, rfl, sm, ht⟩
      rw [em, List.take_length] at ht
      refine ⟨_, rfl, k H' t (s1.trans sm) nt0 ?_⟩
      rw [ht, List.map_cons, ← flat_all, iv_ints]
  · refine if_true_of (by rw [decide_eq_false c]; rfl) ?_
    rw [if_pos (by omega)] at k
    exact ⟨(by show 1 ≤ sizeLine; decide), fun q nq => k _ q (new_same nq) nq upd_same⟩
theorem ok_jum {f : Addr} {fd : FuncData} (F : Fun K "answer_jumps" "answer_jumps" sJum f fd) (T : Txt K mg C) (cH : Cl P w K mg base 1 "how_often" spHow) : FnOk P w K mg base CX0 4 f fd ["chosen", "numbers"] (spStep C 12) := by
  refine F.ok scJum len2 (fun cdv A outer s H vs Q E hr h => ⟨_, pss_cons (ps_set (i := 2) scJum.nd rfl (Or.inl rfl) (pe_ix ix_list (pv 1) pe_int (fun _ _ => rfl)))
      (pss_cons (ps_if (PW.pt (pw_or (pt_cmpR op_eq (pv 2) pe_int (nomark _)) (pw_or1 (pt_cmpR op_gt (pv 2) (pe_gi (by rfl) T.gHN) (nomark _))))) (pss_one (ps_ret (pe_lst (pa_cons (pe_gi (by rfl) T.gOB) pa_nil)))) pss_nil)
      (pss_cons (ps_set (i := 3) scJum.nd rfl (Or.inl rfl) (pe_cl cH hr (by decide) (by rfl) (pa_cons (pe_fld (pv 0) rfl) (pa_cons (pe_op op_sub (pv 2) pe_int) pa_nil))))
      (pss_cons (ps_set (i := 4) scJum.nd rfl (Or.inl rfl) (pe_cl cH hr (by decide) (by rfl) (pa_cons (pe_fld (pv 0) rfl) (pa_cons (pv 2) pa_nil))))
      (pss_one (ps_ret (pe_lst (pa_cons (pe_op op_sub (pv 4) (pv 3)) (pa_cons (pv 3) (pa_cons (pv 4) pa_nil))))))))), ?_⟩)
  obtain ⟨x, a, p, ns, rfl, ⟨dx, hx⟩, hp, hp2, ha, hl, k⟩ := step_keep (by decide) (by decide) h
  obtain ⟨n, rfl⟩ := one_of hl
  have e1 : ans 12 (some p) (cs [n]) = if n = 0 ∨ 1000000 < n then [-22] else [((Kp267.times p n - Kp267.times p (n - 1) : Nat) : Int), (Kp267.times p (n - 1) : Int), (Kp267.times p n : Int)] := ans_jumps p n
  rw [e1] at k
  refine ⟨_, rfl, a, _, 0, iv n, rfl, rfl, SqL.of ha, rfl, ?_⟩
  refine ⟨_, rfl, rfl, _, rfl, if_dec (fun c => ?_) (fun c => ?_)⟩
  · have c' : n = 0 := by
      have := V.int.inj c
      omega
    rw [if_pos (.inl c')] at k
    exact ⟨(by show 1 ≤ sizeLine; decide), fun q nq => k _ q (new_same nq) nq upd_same⟩
  · have c' : n ≠ 0 := fun z => c (by rw [z]; rfl)
    refine ⟨_, rfl, _, _, rfl, rfl, _, rfl, if_dec (fun c2 => ?_) (fun c2 => ?_)⟩
    · rw [if_pos (by omega)] at k
      exact ⟨(by show 1 ≤ sizeLine; decide), fun q nq => k _ q (new_same nq) nq upd_same⟩
    · rw [if_neg (by omega)] at k
      have en : ((n : Int) - 1) = ((n - 1 : Nat) : Int) := by omega
      have hm : Kp267.times p (n - 1) ≤ Kp267.times p n := times_mono p (by omega)
      have es : ((Kp267.times p n : Nat) : Int) - ((Kp267.times p (n - 1) : Nat) : Int) = ((Kp267.times p n - Kp267.times p (n - 1) : Nat) : Int) := by omega
      refine ⟨_, rfl, x, C, dx, _, _, rfl, hx, T.cl, T.nP, chF_get _, _, rfl, _, _, rfl, rfl, p, n - 1, by (show [iv p, V.int ((n : Int) - 1)] = [iv p, iv (n - 1)]; rw [en]), hp, by omega, by omega, ?_⟩
      refine ⟨_, rfl, x, C, dx, _, _, rfl, hx, T.cl, T.nP, chF_get _, _, rfl, p, n, rfl, hp, by omega, by omega, ?_⟩
      refine ⟨_, rfl, _, rfl, _, _, rfl, rfl, _, rfl, _, rfl, (by show 3 ≤ sizeLine; decide), fun q nq => k _ q (new_same nq) nq ?_⟩
      rw [upd_same]
      show some (HO.lst [.int (((Kp267.times p n : Nat) : Int) - ((Kp267.times p (n - 1) : Nat) : Int)), iv (Kp267.times p (n - 1)), iv (Kp267.times p n)]) = _
      rw [es]
      rfl
theorem ok_tol {f : Addr} {fd : FuncData} (F : Fun K "answer_told" "answer_told" sTol f fd) (T : Txt K mg C) : FnOk P w K mg base CX0 4 f fd ["chosen", "numbers"] (spStep C 13) := by
  refine F.ok scTol len2 (fun cdv A outer s H vs Q E hr h => ⟨_, pss_one (ps_ret (pe_lst (pa_cons (pe_fld (pv 0) rfl) pa_nil))), ?_⟩)
  obtain ⟨x, a, p, ns, rfl, ⟨dx, hx⟩, hp, hp2, ha, hl, k⟩ := step_keep (by decide) (by decide) h
  have e0 : ns = [] := List.eq_nil_of_length_eq_zero hl
  subst e0
  have e1 : ans 13 (some p) (cs []) = [(p : Int)] := ans_told p
  rw [e1] at k
  exact ⟨_, rfl, x, C, dx, _, _, rfl, hx, T.cl, T.nP, chF_get _, (by show 1 ≤ sizeLine; decide), fun q nq => k _ q (new_same nq) nq upd_same⟩
end
end Pr

namespace Pr
open PySem PySem.Spec PyProof.Rows L2
abbrev sCall : Stmt := top 46
abbrev sAns : Stmt := top 47
theorem nxt_one (c : Nat) (hc : c < 14) {st : Kp267.State} {ns : List Int} (hl : ns.length = behind c) (gd : Good st) : Good (nxt c st ns) := by
  by_cases h0 : c = 0
  · subst h0
    match ns, hl with
    | [a], _ =>
      rw [nxt_begin]
      intro p hp
      split at hp
      · cases hp
        assumption
      · exact gd p hp
  · cases st with
    | none =>
      rw [(ans_new h0 hc hl).2]
      exact gd
    | some q =>
      by_cases h1 : c = 1
      · subst h1
        match ns, hl with
        | [a], _ =>
          rw [nxt_prime]
          intro p hp
          split at hp
          · cases hp
            assumption
          · exact gd p hp
      · rw [nxt_same (by omega) hc hl]
        exact gd
/-! ### answer_call -/
def spCall (C : Addr) (cnt : Nat) : Sp := fun vs H Q _ => ∃ (x a : Addr) (c : Nat) (st : Kp267.State) (ns : List Nat), vs = [.ref x, iv c, .ref a] ∧ c < cnt ∧ c < 14 ∧ ChAt C H x (num st) ∧ Good st ∧ H a = some (.lst (ns.map iv)) ∧ ns.length = behind c ∧
  ∀ (H' : Hp) (p : Addr), H p = none → H' p = some (.lst ((ans c st (cs ns)).map V.int)) → ChAt C H' x (num (nxt c st (cs ns))) → (∀ b o, H b = some o → b ≠ x → H' b = some o) → Q (.ref p) H'
theorem scCall : FnScope ["chosen", "call", "numbers"] ["chosen", "call", "numbers"] (defScope sCall) := ⟨rfl, rfl, rfl, by decide +kernel, rfl, by decide +kernel, by decide +kernel⟩
/-- the table of defs, at aA -/
structure Tab (P : Program) (w : World) (K : PySem.W.Frag) (mg : Str → Option Value) (base : Heap) (C aA : Addr) (fs : List Addr) : Prop where
  mgA : mg "ANSWERING" = some (.ref aA)
  tup : ∀ H : Hp, SqT K H aA (fs.map V.ref)
  each : ∀ (c : Nat) (f : Addr), fs[c]? = some f → Held P w K mg base 4 f (spStep C c)
section
variable {P : Program} {w : World} {K : PySem.W.Frag} {mg : Str → Option Value} {base : Heap} {C : Addr}
theorem ok_call {f aA : Addr} {fd : FuncData} {fs : List Addr} (F : Fun K "answer_call" "answer_call" sCall f fd) (T : Txt K mg C) (B : Tab P w K mg base C aA fs) : FnOk P w K mg base CX0 5 f fd ["chosen", "call", "numbers"] (spCall C fs.length) := by
  refine F.ok scCall (fun vs H Q E h => ?_) (fun cdv A outer s H vs Q E hr h => ⟨_, pss_cons (ps_if (PW.pt (pw_and (pt_cmpR op_ne (pv 1) (pe_gi (by rfl) T.gBe) (nomark _)) (pw_and1 (pt_cmpR op_eq (pe_fld (pv 0) rfl) pe_int (nomark _)))))
        (pss_one (ps_ret (pe_lst (pa_cons (pe_gi (by rfl) T.gNB) pa_nil)))) pss_nil)
      (pss_one (ps_ret (pe_callE (S := fun g sp => ∃ c, fs[c]? = some g ∧ sp = spStep C c) (pe_ix ix_tup (pe_glob (v := .ref aA) (by rfl) B.mgA rfl) (pv 1) (fun _ _ => rfl))
        (fun g sp ⟨c, hc, e⟩ => e ▸ B.each c g hc) hr (pa_cons (pv 0) (pa_cons (pv 2) pa_nil))))), ?_⟩)
  · obtain ⟨x, a, c, st, ns, rfl, _⟩ := h
    rfl
  · obtain ⟨x, a, c, st, ns, rfl, hc, hc14, hx, gd, ha, hl, k⟩ := h
    -- behind the first test
    have rest : (c ≠ 0 → st ≠ none) → tRet (tCallE (fun g sp => ∃ c, fs[c]? = some g ∧ sp = spStep C c) (tOp (rIxT K) (tC (.ref aA)) (tVar 1)) (tCons (tVar 0) (tCons (tVar 2) tNil))) { nx := fun _ H' => Q .non H', rt := Q } [some (.ref x), some (iv c), some (.ref a)] H := by
      intro h0
      obtain ⟨f, hf⟩ : ∃ f, fs[c]? = some f := ⟨fs[c], List.getElem?_eq_getElem hc⟩
      have hv : (fs.map V.ref)[c]? = some (V.ref f) := by
        rw [List.getElem?_map, hf]
        rfl
      exact ⟨_, rfl, aA, _, _, V.ref f, rfl, rfl, B.tup H, atI_nat hv, f, spStep C c, rfl, ⟨c, hf, rfl⟩, _, rfl, _, rfl, x, a, st, ns, rfl, hx, gd, ha, hl, h0, k⟩
    refine ⟨_, rfl, rfl, _, rfl, ?_⟩
    by_cases h0 : c = 0
    · subst h0
      refine if_false_of (by decide) ?_
      exact rest (fun z => absurd rfl z)
    · have e0 : (!decide (iv c = V.int 0)) = true := by
        have : ¬ iv c = V.int 0 := fun z => h0 (by
          have := V.int.inj z
          omega)
        rw [decide_eq_false this]
        rfl
      refine if_true_of e0 ?_
      obtain ⟨dx, e⟩ := hx
      refine ⟨_, rfl, x, C, dx, _, _, rfl, e, T.cl, T.nP, chF_get _, rfl, _, rfl, ?_⟩
      cases st with
      | none =>
        refine if_true_of (decide_eq_true rfl) ?_
        have en := ans_new (c := c) (ns := cs ns) h0 hc14 ((cs_len ns).trans hl)
        rw [en.1, en.2] at k
        refine ⟨(by show 1 ≤ sizeLine; decide), fun p np => k _ p np upd_same ⟨dx, new_same np _ _ e⟩ ?_⟩
        exact fun b o e _ => new_same np _ _ e
      | some q =>
        have hq := okP_lt (gd q rfl)
        refine if_false_of (decide_eq_false fun z => ?_) ?_
        · have := V.int.inj z
          have h2 : (q : Int) = 0 := this
          omega
        · exact rest (fun _ z => by cases z)
end
end Pr

namespace Pr
open PySem PySem.Spec PyProof.Rows L2
theorem cut_mid {xs : List V} {i j : Nat} (hi : i ≤ j) (hj : j ≤ xs.length) : cutV xs (some (i : Int)) (some (j : Int)) = (xs.drop i).take (j - i) := by
  unfold cutV
  rw [HT.sIx_nat, HT.sIx_nat, Nat.min_eq_left hj, Nat.min_eq_left (Nat.le_trans hi hj)]
/-- the numbers as they stand, none below nothing -/
theorem nats_of {l : List Int} (h : ∀ z ∈ l, 0 ≤ z) : l.map V.int = (l.map Int.toNat).map iv ∧ cs (l.map Int.toNat) = l := by
  constructor
  · rw [List.map_map]
    refine List.map_congr_left fun z hz => ?_
    show V.int z = V.int ((z.toNat : Nat) : Int)
    rw [Int.toNat_of_nonneg (h z hz)]
  · unfold cs
    rw [List.map_map]
    refine (List.map_congr_left fun z hz => ?_).trans (List.map_id l)
    exact Int.toNat_of_nonneg (h z hz)
def nb : List Nat := [1, 1, 1, 1, 1, 1, 2, 2, 1, 1, 2, 1, 1, 0]
theorem nb_get : ∀ c, c < 14 → nb[c]? = some (behind c) := by decide
def spAns (K : PySem.W.Frag) : Sp := fun vs H Q _ => ∃ (a : Addr) (ns : List Int), vs = [.ref a] ∧ SqL K H a (ns.map V.int) ∧ PyKp267.answers_asked ns = true ∧ (∀ z ∈ ns, 0 ≤ z) ∧
  ∀ (H' : Hp) (p : Addr), H' p = some (.lst ((PyKp267.answers ns).map V.int)) → Q (.ref p) H'
theorem scAns : FnScope ["calls", "chosen", "told", "at", "call", "behind", "answer"] ["calls"] (defScope sAns) := ⟨rfl, rfl, rfl, by decide +kernel, rfl, by decide +kernel, by decide +kernel⟩
structure RunAt (C : Addr) (ns : List Int) (a x t : Addr) (H : Hp) (m : Nat) (σ : L2.St) (H' : Hp) : Prop where
  ex : ∃ (i f : Nat) (st : Kp267.State) (out : List Int) (v4 v5 v6 : Option V), σ = [some (.ref a), some (.ref x), some (.ref t), some (iv i), v4, v5, v6] ∧ i + m = ns.length ∧
    ChAt C H' x (num st) ∧ Good st ∧ H' t = some (.lst (out.map V.int)) ∧ Goes ns st out (ns.drop i) f
  sm : Same H H'
section
variable {P : Program} {w : World} {K : PySem.W.Frag} {mg : Str → Option Value} {base : Heap} {C : Addr}
theorem ok_ans {f fI aN : Addr} {fd fdI : FuncData} {cnt : Nat} (F : Fun K "answers" "answers" sAns f fd) (T : Txt K mg C) (M : Mk K C fI) (GI : FnOk P w K mg base CX0 1 fI fdI ["self"] (spInit C)) (bI : Binds K fdI ["self"] [])
    (cC : Cl P w K mg base 5 "answer_call" (spCall C cnt)) (h14 : 14 ≤ cnt) (gN : mg "NUMBERS_BEHIND" = some (.ref aN)) (tN : ∀ H : Hp, SqT K H aN (nb.map iv)) : FnOk P w K mg base CX0 6 f fd ["calls"] (spAns K) := by
  refine F.ok scAns (fun vs H Q E h => ?_) (fun cdv A outer s H vs Q E hr h => ⟨_, pss_cons (ps_set (i := 1) scAns.nd rfl (Or.inl rfl) (pe_make0 M GI (hr.mono (by decide)) rfl T.gC bI .nil pass0))
      (pss_cons (ps_set (i := 2) scAns.nd rfl (Or.inl rfl) (pe_lst pa_nil))
      (pss_cons (ps_set (i := 3) scAns.nd rfl (Or.inl rfl) pe_int)
      (pss_cons (ps_while PassesOwn.never (pt_cmpR op_lt (pv 3) (pe_callB call_len_seq (by rfl) T.ln PySem.boot_len (pa_cons (pv 0) pa_nil)) (nomark _))
        (pss_cons (ps_set (i := 4) scAns.nd rfl (Or.inl rfl) (pe_ix ix_list (pv 0) (pv 3) (fun _ _ => rfl)))
        (pss_cons (ps_set (i := 5) scAns.nd rfl (Or.inl rfl) (pe_op op_add (pe_op op_add (pv 3) pe_int) (pe_ix ix_tup (pe_glob (v := .ref aN) (by rfl) gN rfl) (pv 4) (fun _ _ => rfl))))
        (pss_cons (ps_set (i := 6) scAns.nd rfl (Or.inl rfl) (pe_cl cC hr (Nat.le_refl _) (by rfl) (pa_cons (pv 1) (pa_cons (pv 4) (pa_cons (pe_slice sl_list (pv 0) (po_some (pe_op op_add (pv 3) pe_int)) (po_some (pv 5))) pa_nil)))))
        (pss_cons (ps_expr (pe_bm PySem.F.plainAttrs_list PySem.F.slot_list_append PySem.F.type_list_append mt_append (pv 2) (pa_cons (pe_callB call_len_seq (by rfl) T.ln PySem.boot_len (pa_cons (pv 6) pa_nil)) pa_nil)))
        (pss_cons (ps_expr (pe_bm PySem.F.plainAttrs_list PySem.F.slot_list_extend PySem.F.type_list_extend mt_extend (pv 2) (pa_cons (pv 6) pa_nil)))
        (pss_one (ps_set (i := 3) scAns.nd rfl (Or.inl rfl) (pv 5)))))))))
      (pss_one (ps_ret (pv 2)))))), ?_⟩)
  · obtain ⟨a, ns, rfl, _⟩ := h
    rfl
  · obtain ⟨a, ns, rfl, hS, hask, hnn, k⟩ := h
    intro x dx nx nd ne
    refine ⟨x, dx, rfl, upd_same, fun H1 J1 kp => ⟨rfl, ?_⟩⟩
    have s1 : Same H H1 := Same.made nx nd kp
    obtain ⟨dj, hj⟩ := J1
    refine ⟨(by show 0 ≤ sizeLine; decide), fun t nt => ?_⟩
    have xt : x ≠ t := ne_of_none hj nt
    have nt0 : H t = none := s1.free nt
    refine ⟨RunAt C ns a x t H, ⟨ns.length, ⟨0, ns.length, none, [], none, none, none, rfl, Nat.zero_add _, ⟨dj, (upd_ne xt).trans hj⟩, (fun p z => by cases z), upd_same, goes_start hask⟩, s1.trans (new_same nt)⟩, ?_⟩
    rintro m σ H2 ⟨⟨i, fu, st, out, v4, v5, v6, rfl, im, hx, gd, ht, go⟩, sm⟩
    have hS2 := sm.seq hS
    refine ⟨_, rfl, _, rfl, a, _, rfl, Or.inl hS2, _, _, rfl, rfl, _, rfl, if_dec (fun c => ?_) (fun c => ?_)⟩
    · rw [List.length_map] at c
      have ci : i < ns.length := by omega
      have hdrop : ns.drop i = ns[i] :: ns.drop (i + 1) := List.drop_eq_getElem_cons ci
      have hlen : (ns.drop (i + 1)).length = ns.length - (i + 1) := List.length_drop
      generalize hr0 : ns.drop (i + 1) = r at *
      have hat : ns[i]? = some ns[i] := List.getElem?_eq_getElem ci
      generalize ns[i] = z at *
      rw [hdrop] at go
      obtain ⟨c, c14, rfl, cb, go2⟩ := goes_step go
      refine ⟨_, fun _ _ y => y, ?_⟩
      refine ⟨_, rfl, _, rfl, a, _, (i : Int), iv c, rfl, rfl, hS2, atI_nat (by rw [List.getElem?_map, hat]; rfl), ?_⟩
      refine ⟨_, rfl, _, _, rfl, rfl, _, rfl, aN, _, (c : Int), iv (behind c), rfl, rfl, tN H2, atI_nat (by rw [List.getElem?_map, nb_get c c14]; rfl), _, _, rfl, rfl, ?_⟩
      refine ⟨_, rfl, _, rfl, _, rfl, _, rfl, _, _, rfl, rfl, _, rfl, _, rfl, _, rfl, a, _, rfl, hS2, fun q nq => ?_⟩
      have e1 : cutV (ns.map V.int) (some ((i : Int) + 1)) (some ((i : Int) + 1 + (behind c : Int))) = (r.take (behind c)).map V.int := by
        have e2 : (i : Int) + 1 = ((i + 1 : Nat) : Int) := by omega
        have e3 : (i : Int) + 1 + (behind c : Int) = ((i + 1 + behind c : Nat) : Int) := by omega
        rw [e3, e2, cut_mid (by omega) (by rw [List.length_map]; omega), ← List.map_drop, hr0, ← List.map_take]
        congr 2
        omega
      rw [e1]
      have hnn2 : ∀ y ∈ r.take (behind c), 0 ≤ y := fun y hy => hnn y (by
        have h1 := List.mem_of_mem_take hy
        rw [← hr0] at h1
        exact List.mem_of_mem_drop h1)
      obtain ⟨w1, w2⟩ := nats_of hnn2
      have hl2 : ((r.take (behind c)).map Int.toNat).length = behind c := by
        rw [List.length_map, List.length_take]
        omega
      have xq : x ≠ q := by
        obtain ⟨d, e⟩ := hx
        exact ne_of_none e nq
      have tq : t ≠ q := ne_of_none ht nq
      refine ⟨x, q, c, st, (r.take (behind c)).map Int.toNat, rfl, by omega, c14, ?_, gd, ?_, hl2, fun H3 p np hp hx3 kp3 => ?_⟩
      · obtain ⟨d, e⟩ := hx
        exact ⟨d, (upd_ne xq).trans e⟩
      · rw [upd_same, w1]
      rw [w2] at hp hx3
      have ht3 : H3 t = some (.lst (out.map V.int)) := kp3 t _ ((upd_ne tq).trans ht) (by
        rintro rfl
        obtain ⟨d, e⟩ := hx
        rw [ht] at e
        cases e)
      have tp : t ≠ p := by
        rintro rfl
        rw [upd_ne tq, ht] at np
        cases np
      have px : p ≠ x := by
        rintro rfl
        obtain ⟨d, e⟩ := hx
        rw [upd_ne xq, e] at np
        cases np
      have tx : t ≠ x := by
        rintro rfl
        obtain ⟨d, e⟩ := hx
        rw [ht] at e
        cases e
      have hans : ans c st (r.take (behind c)) = (Kp267Neutral.step st [(c : Int) :: r.take (behind c)]).2 := rfl
      have hnxt : nxt c st (r.take (behind c)) = (Kp267Neutral.step st [(c : Int) :: r.take (behind c)]).1 := rfl
      have gl := goes_len go2 hask
      have gl2 : out.length + ((ans c st (r.take (behind c))).length + 1) ≤ 10000000 := by
        rw [List.length_append] at gl
        exact gl
      refine ⟨_, rfl, Or.inl ⟨rfl, _, SqL.of ht3⟩, _, rfl, p, _, rfl, Or.inl (SqL.of hp), t, _, _, rfl, rfl, ht3, (by rw [List.length_map]; show out.length < 2 ^ 24; omega), ?_⟩
      refine ⟨_, rfl, Or.inl ⟨rfl, _, SqL.of upd_same⟩, _, rfl, t, p, _, _, rfl, rfl, upd_same, (upd_ne (Ne.symm tp)).trans hp, ?_, ?_⟩
      · rw [List.length_append, List.length_map, List.length_map]
        show out.length + 1 + (ans c st (r.take (behind c))).length ≤ 2 ^ 24
        omega
      refine ⟨_, rfl, m - (1 + behind c), by omega, ⟨i + 1 + behind c, fu - 1, nxt c st (r.take (behind c)), out ++ said (ans c st (r.take (behind c))), some (iv c), some (.int ((i : Int) + 1 + (behind c : Int))), some (.ref p), ?_, by omega, ?_, ?_, ?_, ?_⟩, ?_⟩
      · have e3 : (i : Int) + 1 + (behind c : Int) = ((i + 1 + behind c : Nat) : Int) := by omega
        show [some (V.ref a), some (V.ref x), some (V.ref t), some (V.int ((i : Int) + 1 + (behind c : Int))), some (iv c), some (V.int ((i : Int) + 1 + (behind c : Int))), some (V.ref p)] = _
        rw [e3]
      · obtain ⟨d, e⟩ := hx3
        exact ⟨d, (upd_ne (Ne.symm tx)).trans ((upd_ne (Ne.symm tx)).trans e)⟩
      · exact nxt_one c c14 (by rw [List.length_take]; omega) gd
      · rw [upd_same, List.map_append, List.append_assoc]
        unfold said
        rw [List.length_map]
        rfl
      · have e5 : ns.drop (i + 1 + behind c) = r.drop (behind c) := by
          rw [← List.drop_drop, hr0]
        rw [e5]
        exact go2
      · intro b o e
        have bt : b ≠ t := ne_of_none e nt0
        have bx : b ≠ x := ne_of_none e nx
        rw [upd_ne bt, upd_ne bt]
        refine kp3 b o ?_ bx
        exact new_same nq _ _ (sm b o e)
    · rw [List.length_map] at c
      have ei : i = ns.length := by omega
      subst ei
      rw [List.drop_length] at go
      refine ⟨_, rfl, k _ t ?_⟩
      rw [← goes_end go]
      exact ht
end
end Pr

namespace Pr
open PySem PySem.Spec PyProof.Rows L2
open PySem.W (Codec)
theorem low_of {z : Int} (h : Codec.inInt 0 4294967295 z = true) : 0 ≤ z := (Codec.inInt_iff.mp h).1
theorem all_mk {P : Program} {w : World} {K : PySem.W.Frag} {h : Heap} {mg : Str → Option Value} {fa C aA aN f1 fpu f2 f3 f4 fhf f5 f6 flp fod fsq f7 fmb f10 f11 f12 f13 f14 f15 f16 f17 f18 f19 f20 f21 f22 f23 f30 f31 fI : Addr} (X : K.In h) (G : h.Ns mainGlobals mg) (hfa : mg "answers" = some (.ref fa))
    {od1 an1 odpu anpu od2 an2 od3 an3 od4 an4 odhf anhf od5 an5 od6 an6 odlp anlp odod anod odsq ansq od7 an7 odmb anmb od10 an10 od11 an11 od12 an12 od13 an13 od14 an14 od15 an15 od16 an16 od17 an17 od18 an18 od19 an19 od20 an20 od21 an21 od22 an22 od23 an23 od30 an30 od31 an31 odI anI odA odN : Option Addr} {sl1 slpu sl2 sl3 sl4 slhf sl5 sl6 sllp slod slsq sl7 slmb sl10 sl11 sl12 sl13 sl14 sl15 sl16 sl17 sl18 sl19 sl20 sl21 sl22 sl23 sl30 sl31 slI slA slN : Array (Option Value)} {oc1 kV1 dc1 pm1 cd1 ct1 ocpu kVpu dcpu pmpu cdpu ctpu oc2 kV2 dc2 pm2 cd2 ct2 oc3 kV3 dc3 pm3 cd3 ct3 oc4 kV4 dc4 pm4 cd4 ct4 ochf kVhf dchf pmhf cdhf cthf oc5 kV5 dc5 pm5 cd5 ct5 oc6 kV6 dc6 pm6 cd6 ct6 oclp kVlp dclp pmlp cdlp ctlp ocod kVod dcod pmod cdod ctod ocsq kVsq dcsq pmsq cdsq ctsq oc7 kV7 dc7 pm7 cd7 ct7 ocmb kVmb dcmb pmmb cdmb ctmb oc10 kV10 dc10 pm10 cd10 ct10 oc11 kV11 dc11 pm11 cd11 ct11 oc12 kV12 dc12 pm12 cd12 ct12 oc13 kV13 dc13 pm13 cd13 ct13 oc14 kV14 dc14 pm14 cd14 ct14 oc15 kV15 dc15 pm15 cd15 ct15 oc16 kV16 dc16 pm16 cd16 ct16 oc17 kV17 dc17 pm17 cd17 ct17 oc18 kV18 dc18 pm18 cd18 ct18 oc19 kV19 dc19 pm19 cd19 ct19 oc20 kV20 dc20 pm20 cd20 ct20 oc21 kV21 dc21 pm21 cd21 ct21 oc22 kV22 dc22 pm22 cd22 ct22 oc23 kV23 dc23 pm23 cd23 ct23 oc30 kV30 dc30 pm30 cd30 ct30 oc31 kV31 dc31 pm31 cd31 ct31 ocI kVI dcI pmI cdI ctI : Value} {nA nN : Nat} {tgNB tgOB tgNS tgPB tgHN tgHP tgHL tgLB tgHG tgHS tgHT tgLo tgHi tgBe u0 u1 u2 u3 u4 u5 u6 u7 u8 u9 u10 u11 u12 u13 : Nat}
    (a1 : PySem.W.nsIn K mainGlobals "is_prime" = some (some (.ref f1)))
    (l1 : K.lookup f1 = some ⟨oc1, od1, .func (PySem.W.fnOf "is_prime" "is_prime" (defArgs sIsp) (defBody sIsp) (defScope sIsp) .none kV1 dc1 pm1 an1 cd1 ct1), sl1⟩) (c1 : PySem.W.codeIn K cd1 "is_prime" = true) (k1 : PySem.W.keepIn K (.ref f1) = true)
    (apu : PySem.W.nsIn K mainGlobals "primes_up_to" = some (some (.ref fpu)))
    (lpu : K.lookup fpu = some ⟨ocpu, odpu, .func (PySem.W.fnOf "primes_up_to" "primes_up_to" (defArgs sPup) (defBody sPup) (defScope sPup) .none kVpu dcpu pmpu anpu cdpu ctpu), slpu⟩) (cpu : PySem.W.codeIn K cdpu "primes_up_to" = true) (kpu : PySem.W.keepIn K (.ref fpu) = true)
    (a2 : PySem.W.nsIn K mainGlobals "prime_parts" = some (some (.ref f2)))
    (l2 : K.lookup f2 = some ⟨oc2, od2, .func (PySem.W.fnOf "prime_parts" "prime_parts" (defArgs sPts) (defBody sPts) (defScope sPts) .none kV2 dc2 pm2 an2 cd2 ct2), sl2⟩) (c2 : PySem.W.codeIn K cd2 "prime_parts" = true) (k2 : PySem.W.keepIn K (.ref f2) = true)
    (a3 : PySem.W.nsIn K mainGlobals "product_up_to" = some (some (.ref f3)))
    (l3 : K.lookup f3 = some ⟨oc3, od3, .func (PySem.W.fnOf "product_up_to" "product_up_to" (defArgs sPrd) (defBody sPrd) (defScope sPrd) .none kV3 dc3 pm3 an3 cd3 ct3), sl3⟩) (c3 : PySem.W.codeIn K cd3 "product_up_to" = true) (k3 : PySem.W.keepIn K (.ref f3) = true)
    (a4 : PySem.W.nsIn K mainGlobals "how_often" = some (some (.ref f4)))
    (l4 : K.lookup f4 = some ⟨oc4, od4, .func (PySem.W.fnOf "how_often" "how_often" (defArgs sHow) (defBody sHow) (defScope sHow) .none kV4 dc4 pm4 an4 cd4 ct4), sl4⟩) (c4 : PySem.W.codeIn K cd4 "how_often" = true) (k4 : PySem.W.keepIn K (.ref f4) = true)
    (ahf : PySem.W.nsIn K mainGlobals "how_often_from" = some (some (.ref fhf)))
    (lhf : K.lookup fhf = some ⟨ochf, odhf, .func (PySem.W.fnOf "how_often_from" "how_often_from" (defArgs sHfr) (defBody sHfr) (defScope sHfr) .none kVhf dchf pmhf anhf cdhf cthf), slhf⟩) (chf : PySem.W.codeIn K cdhf "how_often_from" = true) (khf : PySem.W.keepIn K (.ref fhf) = true)
    (a5 : PySem.W.nsIn K mainGlobals "what_is_left" = some (some (.ref f5)))
    (l5 : K.lookup f5 = some ⟨oc5, od5, .func (PySem.W.fnOf "what_is_left" "what_is_left" (defArgs sLeft) (defBody sLeft) (defScope sLeft) .none kV5 dc5 pm5 an5 cd5 ct5), sl5⟩) (c5 : PySem.W.codeIn K cd5 "what_is_left" = true) (k5 : PySem.W.keepIn K (.ref f5) = true)
    (a6 : PySem.W.nsIn K mainGlobals "noughts_at_end" = some (some (.ref f6)))
    (l6 : K.lookup f6 = some ⟨oc6, od6, .func (PySem.W.fnOf "noughts_at_end" "noughts_at_end" (defArgs sNou) (defBody sNou) (defScope sNou) .none kV6 dc6 pm6 an6 cd6 ct6), sl6⟩) (c6 : PySem.W.codeIn K cd6 "noughts_at_end" = true) (k6 : PySem.W.keepIn K (.ref f6) = true)
    (alp : PySem.W.nsIn K mainGlobals "leapt_over" = some (some (.ref flp)))
    (llp : K.lookup flp = some ⟨oclp, odlp, .func (PySem.W.fnOf "leapt_over" "leapt_over" (defArgs sLpt) (defBody sLpt) (defScope sLpt) .none kVlp dclp pmlp anlp cdlp ctlp), sllp⟩) (clp : PySem.W.codeIn K cdlp "leapt_over" = true) (klp : PySem.W.keepIn K (.ref flp) = true)
    (aod : PySem.W.nsIn K mainGlobals "odd_primes" = some (some (.ref fod)))
    (lod : K.lookup fod = some ⟨ocod, odod, .func (PySem.W.fnOf "odd_primes" "odd_primes" (defArgs sOdd) (defBody sOdd) (defScope sOdd) .none kVod dcod pmod anod cdod ctod), slod⟩) (cod : PySem.W.codeIn K cdod "odd_primes" = true) (kod : PySem.W.keepIn K (.ref fod) = true)
    (asq : PySem.W.nsIn K mainGlobals "square_divides" = some (some (.ref fsq)))
    (lsq : K.lookup fsq = some ⟨ocsq, odsq, .func (PySem.W.fnOf "square_divides" "square_divides" (defArgs sSqd) (defBody sSqd) (defScope sSqd) .none kVsq dcsq pmsq ansq cdsq ctsq), slsq⟩) (csq : PySem.W.codeIn K cdsq "square_divides" = true) (ksq : PySem.W.keepIn K (.ref fsq) = true)
    (a7 : PySem.W.nsIn K mainGlobals "may_be_chosen" = some (some (.ref f7)))
    (l7 : K.lookup f7 = some ⟨oc7, od7, .func (PySem.W.fnOf "may_be_chosen" "may_be_chosen" (defArgs sMay) (defBody sMay) (defScope sMay) .none kV7 dc7 pm7 an7 cd7 ct7), sl7⟩) (c7 : PySem.W.codeIn K cd7 "may_be_chosen" = true) (k7 : PySem.W.keepIn K (.ref f7) = true)
    (amb : PySem.W.nsIn K mainGlobals "may_be_base" = some (some (.ref fmb)))
    (lmb : K.lookup fmb = some ⟨ocmb, odmb, .func (PySem.W.fnOf "may_be_base" "may_be_base" (defArgs sMyb) (defBody sMyb) (defScope sMyb) .none kVmb dcmb pmmb anmb cdmb ctmb), slmb⟩) (cmb : PySem.W.codeIn K cdmb "may_be_base" = true) (kmb : PySem.W.keepIn K (.ref fmb) = true)
    (a10 : PySem.W.nsIn K mainGlobals "answer_begin" = some (some (.ref f10)))
    (l10 : K.lookup f10 = some ⟨oc10, od10, .func (PySem.W.fnOf "answer_begin" "answer_begin" (defArgs sBeg) (defBody sBeg) (defScope sBeg) .none kV10 dc10 pm10 an10 cd10 ct10), sl10⟩) (c10 : PySem.W.codeIn K cd10 "answer_begin" = true) (k10 : PySem.W.keepIn K (.ref f10) = true)
    (a11 : PySem.W.nsIn K mainGlobals "answer_prime" = some (some (.ref f11)))
    (l11 : K.lookup f11 = some ⟨oc11, od11, .func (PySem.W.fnOf "answer_prime" "answer_prime" (defArgs sPri) (defBody sPri) (defScope sPri) .none kV11 dc11 pm11 an11 cd11 ct11), sl11⟩) (c11 : PySem.W.codeIn K cd11 "answer_prime" = true) (k11 : PySem.W.keepIn K (.ref f11) = true)
    (a12 : PySem.W.nsIn K mainGlobals "answer_prod" = some (some (.ref f12)))
    (l12 : K.lookup f12 = some ⟨oc12, od12, .func (PySem.W.fnOf "answer_prod" "answer_prod" (defArgs sPro) (defBody sPro) (defScope sPro) .none kV12 dc12 pm12 an12 cd12 ct12), sl12⟩) (c12 : PySem.W.codeIn K cd12 "answer_prod" = true) (k12 : PySem.W.keepIn K (.ref f12) = true)
    (a13 : PySem.W.nsIn K mainGlobals "answer_times" = some (some (.ref f13)))
    (l13 : K.lookup f13 = some ⟨oc13, od13, .func (PySem.W.fnOf "answer_times" "answer_times" (defArgs sTim) (defBody sTim) (defScope sTim) .none kV13 dc13 pm13 an13 cd13 ct13), sl13⟩) (c13 : PySem.W.codeIn K cd13 "answer_times" = true) (k13 : PySem.W.keepIn K (.ref f13) = true)
    (a14 : PySem.W.nsIn K mainGlobals "answer_rest" = some (some (.ref f14)))
    (l14 : K.lookup f14 = some ⟨oc14, od14, .func (PySem.W.fnOf "answer_rest" "answer_rest" (defArgs sRes) (defBody sRes) (defScope sRes) .none kV14 dc14 pm14 an14 cd14 ct14), sl14⟩) (c14 : PySem.W.codeIn K cd14 "answer_rest" = true) (k14 : PySem.W.keepIn K (.ref f14) = true)
    (a15 : PySem.W.nsIn K mainGlobals "answer_least" = some (some (.ref f15)))
    (l15 : K.lookup f15 = some ⟨oc15, od15, .func (PySem.W.fnOf "answer_least" "answer_least" (defArgs sLea) (defBody sLea) (defScope sLea) .none kV15 dc15 pm15 an15 cd15 ct15), sl15⟩) (c15 : PySem.W.codeIn K cd15 "answer_least" = true) (k15 : PySem.W.keepIn K (.ref f15) = true)
    (a16 : PySem.W.nsIn K mainGlobals "answer_noughts" = some (some (.ref f16)))
    (l16 : K.lookup f16 = some ⟨oc16, od16, .func (PySem.W.fnOf "answer_noughts" "answer_noughts" (defArgs sNgt) (defBody sNgt) (defScope sNgt) .none kV16 dc16 pm16 an16 cd16 ct16), sl16⟩) (c16 : PySem.W.codeIn K cd16 "answer_noughts" = true) (k16 : PySem.W.keepIn K (.ref f16) = true)
    (a17 : PySem.W.nsIn K mainGlobals "answer_span" = some (some (.ref f17)))
    (l17 : K.lookup f17 = some ⟨oc17, od17, .func (PySem.W.fnOf "answer_span" "answer_span" (defArgs sSpa) (defBody sSpa) (defScope sSpa) .none kV17 dc17 pm17 an17 cd17 ct17), sl17⟩) (c17 : PySem.W.codeIn K cd17 "answer_span" = true) (k17 : PySem.W.keepIn K (.ref f17) = true)
    (a18 : PySem.W.nsIn K mainGlobals "answer_gaps" = some (some (.ref f18)))
    (l18 : K.lookup f18 = some ⟨oc18, od18, .func (PySem.W.fnOf "answer_gaps" "answer_gaps" (defArgs sGap) (defBody sGap) (defScope sGap) .none kV18 dc18 pm18 an18 cd18 ct18), sl18⟩) (c18 : PySem.W.codeIn K cd18 "answer_gaps" = true) (k18 : PySem.W.keepIn K (.ref f18) = true)
    (a19 : PySem.W.nsIn K mainGlobals "answer_square" = some (some (.ref f19)))
    (l19 : K.lookup f19 = some ⟨oc19, od19, .func (PySem.W.fnOf "answer_square" "answer_square" (defArgs sSqu) (defBody sSqu) (defScope sSqu) .none kV19 dc19 pm19 an19 cd19 ct19), sl19⟩) (c19 : PySem.W.codeIn K cd19 "answer_square" = true) (k19 : PySem.W.keepIn K (.ref f19) = true)
    (a20 : PySem.W.nsIn K mainGlobals "answer_twice" = some (some (.ref f20)))
    (l20 : K.lookup f20 = some ⟨oc20, od20, .func (PySem.W.fnOf "answer_twice" "answer_twice" (defArgs sTwi) (defBody sTwi) (defScope sTwi) .none kV20 dc20 pm20 an20 cd20 ct20), sl20⟩) (c20 : PySem.W.codeIn K cd20 "answer_twice" = true) (k20 : PySem.W.keepIn K (.ref f20) = true)
    (a21 : PySem.W.nsIn K mainGlobals "answer_parts" = some (some (.ref f21)))
    (l21 : K.lookup f21 = some ⟨oc21, od21, .func (PySem.W.fnOf "answer_parts" "answer_parts" (defArgs sPar) (defBody sPar) (defScope sPar) .none kV21 dc21 pm21 an21 cd21 ct21), sl21⟩) (c21 : PySem.W.codeIn K cd21 "answer_parts" = true) (k21 : PySem.W.keepIn K (.ref f21) = true)
    (a22 : PySem.W.nsIn K mainGlobals "answer_jumps" = some (some (.ref f22)))
    (l22 : K.lookup f22 = some ⟨oc22, od22, .func (PySem.W.fnOf "answer_jumps" "answer_jumps" (defArgs sJum) (defBody sJum) (defScope sJum) .none kV22 dc22 pm22 an22 cd22 ct22), sl22⟩) (c22 : PySem.W.codeIn K cd22 "answer_jumps" = true) (k22 : PySem.W.keepIn K (.ref f22) = true)
    (a23 : PySem.W.nsIn K mainGlobals "answer_told" = some (some (.ref f23)))
    (l23 : K.lookup f23 = some ⟨oc23, od23, .func (PySem.W.fnOf "answer_told" "answer_told" (defArgs sTol) (defBody sTol) (defScope sTol) .none kV23 dc23 pm23 an23 cd23 ct23), sl23⟩) (c23 : PySem.W.codeIn K cd23 "answer_told" = true) (k23 : PySem.W.keepIn K (.ref f23) = true)
    (a30 : PySem.W.nsIn K mainGlobals "answer_call" = some (some (.ref f30)))
    (l30 : K.lookup f30 = some ⟨oc30, od30, .func (PySem.W.fnOf "answer_call" "answer_call" (defArgs sCall) (defBody sCall) (defScope sCall) .none kV30 dc30 pm30 an30 cd30 ct30), sl30⟩) (c30 : PySem.W.codeIn K cd30 "answer_call" = true) (k30 : PySem.W.keepIn K (.ref f30) = true)
    (a31 : PySem.W.nsIn K mainGlobals "answers" = some (some (.ref f31)))
    (l31 : K.lookup f31 = some ⟨oc31, od31, .func (PySem.W.fnOf "answers" "answers" (defArgs sAns) (defBody sAns) (defScope sAns) .none kV31 dc31 pm31 an31 cd31 ct31), sl31⟩) (c31 : PySem.W.codeIn K cd31 "answers" = true) (k31 : PySem.W.keepIn K (.ref f31) = true)
    (aI : PySem.W.findIn K (.ref C) "__init__" = some (some (.ref fI))) (iI : PySem.W.isFn K (.ref fI) = true)
    (lI : K.lookup fI = some ⟨ocI, odI, .func (PySem.W.fnOf "__init__" "Chosen.__init__" (defArgs sInit) (defBody sInit) (defScope sInit) .none kVI dcI pmI anI cdI ctI), slI⟩) (cI : PySem.W.codeIn K cdI "Chosen.__init__" = true) (kI : PySem.W.keepIn K (.ref fI) = true)
    (aC : PySem.W.nsIn K mainGlobals "Chosen" = some (some (.ref C))) (pg : PySem.W.plainGet K C Str.empty = true) (hd : PySem.W.hasDictIn K C = true) (po : PySem.W.plainOver K C = true) (sa : PySem.W.findIn K (.ref C) "__setattr__" = some (some (.builtin "object.__setattr__"))) (mk : PySem.W.makesIn K C = true) (kc : PySem.W.keepIn K (.ref C) = true) (nP : PySem.W.findIn K (.ref C) "prime" = some none)
    (gNB : PySem.W.nsIn K mainGlobals "NOT_BEGUN" = some (some (.int (-11) tgNB)))
    (gOB : PySem.W.nsIn K mainGlobals "OUT_OF_BOUNDS" = some (some (.int (-22) tgOB)))
    (gNS : PySem.W.nsIn K mainGlobals "NO_SUCH_NUMBER" = some (some (.int (-33) tgNS)))
    (gPB : PySem.W.nsIn K mainGlobals "PRIMES_BELOW" = some (some (.int (100) tgPB)))
    (gHN : PySem.W.nsIn K mainGlobals "HIGHEST_NUMBER" = some (some (.int (1000000) tgHN)))
    (gHP : PySem.W.nsIn K mainGlobals "HIGHEST_OF_PROD" = some (some (.int (20) tgHP)))
    (gHL : PySem.W.nsIn K mainGlobals "HIGHEST_OF_LEAST" = some (some (.int (600) tgHL)))
    (gLB : PySem.W.nsIn K mainGlobals "LEAST_IS_BELOW" = some (some (.int (700) tgLB)))
    (gHG : PySem.W.nsIn K mainGlobals "HIGHEST_OF_GAPS" = some (some (.int (60) tgHG)))
    (gHS : PySem.W.nsIn K mainGlobals "HIGHEST_OF_SQUARE" = some (some (.int (60) tgHS)))
    (gHT : PySem.W.nsIn K mainGlobals "HIGHEST_TAKEN_TWICE" = some (some (.int (60) tgHT)))
    (gLo : PySem.W.nsIn K mainGlobals "LOWEST_BASE" = some (some (.int (2) tgLo)))
    (gHi : PySem.W.nsIn K mainGlobals "HIGHEST_BASE" = some (some (.int (100) tgHi)))
    (gBe : PySem.W.nsIn K mainGlobals "BEGIN" = some (some (.int (0) tgBe)))
    (rg : PySem.W.nsIn K mainGlobals "range" = some none)
    (ln : PySem.W.nsIn K mainGlobals "len" = some none)
    (mm : PySem.W.nsIn K mainGlobals "min" = some none)
    (li : PySem.W.nsIn K mainGlobals "list" = some none)
    (aA0 : PySem.W.nsIn K mainGlobals "ANSWERING" = some (some (.ref aA))) (lA : K.lookup aA = some ⟨.type "tuple", odA, .seq #[.ref f10, .ref f11, .ref f12, .ref f13, .ref f14, .ref f15, .ref f16, .ref f17, .ref f18, .ref f19, .ref f20, .ref f21, .ref f22, .ref f23] nA, slA⟩)
    (aN0 : PySem.W.nsIn K mainGlobals "NUMBERS_BEHIND" = some (some (.ref aN))) (lN : K.lookup aN = some ⟨.type "tuple", odN, .seq #[.int 1 u0, .int 1 u1, .int 1 u2, .int 1 u3, .int 1 u4, .int 1 u5, .int 2 u6, .int 2 u7, .int 1 u8, .int 1 u9, .int 2 u10, .int 1 u11, .int 1 u12, .int 0 u13] nN, slN⟩) (h14 : 14 ≤ 14) :
    ∃ fd : FuncData, (∀ (s : Shared) (us : List Value), us.length = (["calls"] : List Str).length → BindsTo s fd ⟨us, []⟩ ((["calls"] : List Str).zip us)) ∧ ∀ base : Heap, K.In base → base.Ns mainGlobals mg → FnOk P w K mg base CX0 6 fa fd ["calls"] (spAns K) := by
  have e := hfa.symm.trans (PySem.W.mg_of X G a31)
  cases e
  have T : Txt K mg C := ⟨⟨pg, hd, po, sa⟩, nP, PySem.W.mg_of X G aC, ⟨_, PySem.W.mg_of X G gNB⟩, ⟨_, PySem.W.mg_of X G gOB⟩, ⟨_, PySem.W.mg_of X G gNS⟩, ⟨_, PySem.W.mg_of X G gPB⟩, ⟨_, PySem.W.mg_of X G gHN⟩, ⟨_, PySem.W.mg_of X G gHP⟩, ⟨_, PySem.W.mg_of X G gHL⟩, ⟨_, PySem.W.mg_of X G gLB⟩, ⟨_, PySem.W.mg_of X G gHG⟩, ⟨_, PySem.W.mg_of X G gHS⟩, ⟨_, PySem.W.mg_of X G gHT⟩, ⟨_, PySem.W.mg_of X G gLo⟩, ⟨_, PySem.W.mg_of X G gHi⟩, ⟨_, PySem.W.mg_of X G gBe⟩, PySem.W.mg_none_of X G rg, PySem.W.mg_none_of X G ln⟩
  have mn : mg "min" = none := PySem.W.mg_none_of X G mm
  have ml : mg "list" = none := PySem.W.mg_none_of X G li
  have F1 := fun_mk (st := sIsp) l1 c1 k1
  have Fpu := fun_mk (st := sPup) lpu cpu kpu
  have F2 := fun_mk (st := sPts) l2 c2 k2
  have F3 := fun_mk (st := sPrd) l3 c3 k3
  have F4 := fun_mk (st := sHow) l4 c4 k4
  have Fhf := fun_mk (st := sHfr) lhf chf khf
  have F5 := fun_mk (st := sLeft) l5 c5 k5
  have F6 := fun_mk (st := sNou) l6 c6 k6
  have Flp := fun_mk (st := sLpt) llp clp klp
  have Fod := fun_mk (st := sOdd) lod cod kod
  have Fsq := fun_mk (st := sSqd) lsq csq ksq
  have F7 := fun_mk (st := sMay) l7 c7 k7
  have Fmb := fun_mk (st := sMyb) lmb cmb kmb
  have F10 := fun_mk (st := sBeg) l10 c10 k10
  have F11 := fun_mk (st := sPri) l11 c11 k11
  have F12 := fun_mk (st := sPro) l12 c12 k12
  have F13 := fun_mk (st := sTim) l13 c13 k13
  have F14 := fun_mk (st := sRes) l14 c14 k14
  have F15 := fun_mk (st := sLea) l15 c15 k15
  have F16 := fun_mk (st := sNgt) l16 c16 k16
  have F17 := fun_mk (st := sSpa) l17 c17 k17
  have F18 := fun_mk (st := sGap) l18 c18 k18
  have F19 := fun_mk (st := sSqu) l19 c19 k19
  have F20 := fun_mk (st := sTwi) l20 c20 k20
  have F21 := fun_mk (st := sPar) l21 c21 k21
  have F22 := fun_mk (st := sJum) l22 c22 k22
  have F23 := fun_mk (st := sTol) l23 c23 k23
  have F30 := fun_mk (st := sCall) l30 c30 k30
  have F31 := fun_mk (st := sAns) l31 c31 k31
  have FI := fun_mk (st := sInit) lI cI kI
  have b1 := F1.binds (ps := ["number"]) fun _ _ _ _ _ _ us hl => match us, hl with | [_], _ => rfl
  have bpu := Fpu.binds (ps := ["n"]) fun _ _ _ _ _ _ us hl => match us, hl with | [_], _ => rfl
  have b2 := F2.binds (ps := ["number"]) fun _ _ _ _ _ _ us hl => match us, hl with | [_], _ => rfl
  have b3 := F3.binds (ps := ["n"]) fun _ _ _ _ _ _ us hl => match us, hl with | [_], _ => rfl
  have b4 := F4.binds (ps := ["prime", "n"]) fun _ _ _ _ _ _ us hl => match us, hl with | [_, _], _ => rfl
  have bhf := Fhf.binds (ps := ["prime", "first", "last"]) fun _ _ _ _ _ _ us hl => match us, hl with | [_, _, _], _ => rfl
  have b5 := F5.binds (ps := ["prime", "n"]) fun _ _ _ _ _ _ us hl => match us, hl with | [_, _], _ => rfl
  have b6 := F6.binds (ps := ["base", "n"]) fun _ _ _ _ _ _ us hl => match us, hl with | [_, _], _ => rfl
  have blp := Flp.binds (ps := ["prime", "n"]) fun _ _ _ _ _ _ us hl => match us, hl with | [_, _], _ => rfl
  have bod := Fod.binds (ps := ["n"]) fun _ _ _ _ _ _ us hl => match us, hl with | [_], _ => rfl
  have bsq := Fsq.binds (ps := ["m", "n"]) fun _ _ _ _ _ _ us hl => match us, hl with | [_, _], _ => rfl
  have b7 := F7.binds (ps := ["number"]) fun _ _ _ _ _ _ us hl => match us, hl with | [_], _ => rfl
  have bmb := Fmb.binds (ps := ["number"]) fun _ _ _ _ _ _ us hl => match us, hl with | [_], _ => rfl
  have b10 := F10.binds (ps := ["chosen", "numbers"]) fun _ _ _ _ _ _ us hl => match us, hl with | [_, _], _ => rfl
  have b11 := F11.binds (ps := ["chosen", "numbers"]) fun _ _ _ _ _ _ us hl => match us, hl with | [_, _], _ => rfl
  have b12 := F12.binds (ps := ["chosen", "numbers"]) fun _ _ _ _ _ _ us hl => match us, hl with | [_, _], _ => rfl
  have b13 := F13.binds (ps := ["chosen", "numbers"]) fun _ _ _ _ _ _ us hl => match us, hl with | [_, _], _ => rfl
  have b14 := F14.binds (ps := ["chosen", "numbers"]) fun _ _ _ _ _ _ us hl => match us, hl with | [_, _], _ => rfl
  have b15 := F15.binds (ps := ["chosen", "numbers"]) fun _ _ _ _ _ _ us hl => match us, hl with | [_, _], _ => rfl
  have b16 := F16.binds (ps := ["chosen", "numbers"]) fun _ _ _ _ _ _ us hl => match us, hl with | [_, _], _ => rfl
  have b17 := F17.binds (ps := ["chosen", "numbers"]) fun _ _ _ _ _ _ us hl => match us, hl with | [_, _], _ => rfl
  have b18 := F18.binds (ps := ["chosen", "numbers"]) fun _ _ _ _ _ _ us hl => match us, hl with | [_, _], _ => rfl
  have b19 := F19.binds (ps := ["chosen", "numbers"]) fun _ _ _ _ _ _ us hl => match us, hl with | [_, _], _ => rfl
  have b20 := F20.binds (ps := ["chosen", "numbers"]) fun _ _ _ _ _ _ us hl => match us, hl with | [_, _], _ => rfl
  have b21 := F21.binds (ps := ["chosen", "numbers"]) fun _ _ _ _ _ _ us hl => match us, hl with | [_, _], _ => rfl
  have b22 := F22.binds (ps := ["chosen", "numbers"]) fun _ _ _ _ _ _ us hl => match us, hl with | [_, _], _ => rfl
  have b23 := F23.binds (ps := ["chosen", "numbers"]) fun _ _ _ _ _ _ us hl => match us, hl with | [_, _], _ => rfl
  have b30 := F30.binds (ps := ["chosen", "call", "numbers"]) fun _ _ _ _ _ _ us hl => match us, hl with | [_, _, _], _ => rfl
  have bI := FI.binds (ps := ["self"]) fun _ _ _ _ _ _ us hl => match us, hl with | [_], _ => rfl
  have tA : ∀ H : Hp, SqT K H aA ([f10, f11, f12, f13, f14, f15, f16, f17, f18, f19, f20, f21, f22, f23].map V.ref) := fun H => Or.inr ⟨_, _, _, lA, rfl, rfl, by show 14 ≤ sizeLine; decide, .cons rfl (.cons rfl (.cons rfl (.cons rfl (.cons rfl (.cons rfl (.cons rfl (.cons rfl (.cons rfl (.cons rfl (.cons rfl (.cons rfl (.cons rfl (.cons rfl (.nil))))))))))))))⟩
  have tN : ∀ H : Hp, SqT K H aN (nb.map iv) := fun H => Or.inr ⟨_, _, _, lN, rfl, rfl, by show 14 ≤ sizeLine; decide, .cons ⟨_, rfl⟩ (.cons ⟨_, rfl⟩ (.cons ⟨_, rfl⟩ (.cons ⟨_, rfl⟩ (.cons ⟨_, rfl⟩ (.cons ⟨_, rfl⟩ (.cons ⟨_, rfl⟩ (.cons ⟨_, rfl⟩ (.cons ⟨_, rfl⟩ (.cons ⟨_, rfl⟩ (.cons ⟨_, rfl⟩ (.cons ⟨_, rfl⟩ (.cons ⟨_, rfl⟩ (.cons ⟨_, rfl⟩ (.nil))))))))))))))⟩
  refine ⟨PySem.W.fnOf "answers" "answers" (defArgs sAns) (defBody sAns) (defScope sAns) .none kV31 dc31 pm31 an31 cd31 ct31, fun s us hu => match us, hu with | [_], _ => .of_eq rfl, fun base _ _ => ?_⟩
  have C1 : Cl P w K mg base 1 "is_prime" spIsp := ⟨_, _, _, ok_isp F1, PySem.W.mg_of X G a1, k1, b1⟩
  have C2 : Cl P w K mg base 1 "prime_parts" spPts := ⟨_, _, _, ok_pts F2, PySem.W.mg_of X G a2, k2, b2⟩
  have C3 : Cl P w K mg base 1 "product_up_to" spPrd := ⟨_, _, _, ok_prd F3 T.rg, PySem.W.mg_of X G a3, k3, b3⟩
  have C4 : Cl P w K mg base 1 "how_often" spHow := ⟨_, _, _, ok_how F4, PySem.W.mg_of X G a4, k4, b4⟩
  have C5 : Cl P w K mg base 2 "what_is_left" spLeft := ⟨_, _, _, ok_left F5 C3, PySem.W.mg_of X G a5, k5, b5⟩
  have C6 : Cl P w K mg base 2 "noughts_at_end" spNou := ⟨_, _, _, ok_nou F6 mn C4 C2, PySem.W.mg_of X G a6, k6, b6⟩
  have C7 : Cl P w K mg base 2 "may_be_chosen" spMay := ⟨_, _, _, ok_may F7 T C1, PySem.W.mg_of X G a7, k7, b7⟩
  have Cmb : Cl P w K mg base 1 "may_be_base" spMyb := ⟨_, _, _, ok_myb Fmb T, PySem.W.mg_of X G amb, kmb, bmb⟩
  have Cpu : Cl P w K mg base 2 "primes_up_to" spPup := ⟨_, _, _, ok_pup Fpu T.rg C1, PySem.W.mg_of X G apu, kpu, bpu⟩
  have Chf : Cl P w K mg base 2 "how_often_from" spHfr := ⟨_, _, _, ok_hfr Fhf C4, PySem.W.mg_of X G ahf, khf, bhf⟩
  have Clp : Cl P w K mg base 2 "leapt_over" spLpt := ⟨_, _, _, ok_lpt Flp T.rg ml C4, PySem.W.mg_of X G alp, klp, blp⟩
  have Cod : Cl P w K mg base 3 "odd_primes" spOdd := ⟨_, _, _, ok_odd Fod Cpu C4, PySem.W.mg_of X G aod, kod, bod⟩
  have Csq : Cl P w K mg base 3 "square_divides" spSqd := ⟨_, _, _, ok_sqd Fsq Cpu C4, PySem.W.mg_of X G asq, ksq, bsq⟩
  have H10 : Held P w K mg base 4 f10 (spStep C 0) := ⟨_, _, ok_beg F10 T C7, k10, b10⟩
  have H11 : Held P w K mg base 4 f11 (spStep C 1) := ⟨_, _, ok_pri F11 T C7, k11, b11⟩
  have H12 : Held P w K mg base 4 f12 (spStep C 2) := ⟨_, _, ok_pro F12 T C3, k12, b12⟩
  have H13 : Held P w K mg base 4 f13 (spStep C 3) := ⟨_, _, ok_tim F13 T C4, k13, b13⟩
  have H14 : Held P w K mg base 4 f14 (spStep C 4) := ⟨_, _, ok_res F14 T C5, k14, b14⟩
  have H15 : Held P w K mg base 4 f15 (spStep C 5) := ⟨_, _, ok_lea F15 T C4, k15, b15⟩
  have H16 : Held P w K mg base 4 f16 (spStep C 6) := ⟨_, _, ok_ngt F16 T Cmb C6, k16, b16⟩
  have H17 : Held P w K mg base 4 f17 (spStep C 7) := ⟨_, _, ok_spa F17 T Chf, k17, b17⟩
  have H18 : Held P w K mg base 4 f18 (spStep C 8) := ⟨_, _, ok_gap F18 T Clp, k18, b18⟩
  have H19 : Held P w K mg base 4 f19 (spStep C 9) := ⟨_, _, ok_squ F19 T Cod, k19, b19⟩
  have H20 : Held P w K mg base 4 f20 (spStep C 10) := ⟨_, _, ok_twi F20 T Csq, k20, b20⟩
  have H21 : Held P w K mg base 4 f21 (spStep C 11) := ⟨_, _, ok_par F21 T Cmb C2, k21, b21⟩
  have H22 : Held P w K mg base 4 f22 (spStep C 12) := ⟨_, _, ok_jum F22 T C4, k22, b22⟩
  have H23 : Held P w K mg base 4 f23 (spStep C 13) := ⟨_, _, ok_tol F23 T, k23, b23⟩
  have B : Tab P w K mg base C aA [f10, f11, f12, f13, f14, f15, f16, f17, f18, f19, f20, f21, f22, f23] := ⟨PySem.W.mg_of X G aA0, tA, fun c f hf => ?_⟩
  · have C30 : Cl P w K mg base 5 "answer_call" (spCall C 14) := ⟨_, _, _, ok_call F30 T B, PySem.W.mg_of X G a30, k30, b30⟩
    exact ok_ans F31 T ⟨mk, aI, iI, kc⟩ (ok_init FI T) bI C30 h14 (PySem.W.mg_of X G aN0) tN
  · match c, hf with
    | 0, hf => cases hf; exact H10
    | 1, hf => cases hf; exact H11
    | 2, hf => cases hf; exact H12
    | 3, hf => cases hf; exact H13
    | 4, hf => cases hf; exact H14
    | 5, hf => cases hf; exact H15
    | 6, hf => cases hf; exact H16
    | 7, hf => cases hf; exact H17
    | 8, hf => cases hf; exact H18
    | 9, hf => cases hf; exact H19
    | 10, hf => cases hf; exact H20
    | 11, hf => cases hf; exact H21
    | 12, hf => cases hf; exact H22
    | 13, hf => cases hf; exact H23
    | n + 14, hf => exact absurd hf (by simp)
end Pr
open PySem PySem.W PyProof.Rows
set_option maxRecDepth 100000 in
set_option maxHeartbeats 8000000 in
theorem PySem.Challenge.cw_productsofall_s01_answers_holds : PySem.Challenge.rw_productsofall_s01_answers.Holds := by
  w_on; k_headS; (case hw => exact ⟨[.list [.int 13]], by decide +kernel, by decide +kernel⟩)
  k_fillS
  refine L2.walk_specK (r := PySem.Challenge.rw_productsofall_s01_answers) (k := 6) (CX := L2.CX0) (ps := ["calls"]) (sp := Pr.spAns) (by decide +kernel) rfl rfl ⟨rfl, by decide, by decide⟩ (fun w h Y => PySem.W.kIn_of Y) ?F ?S (fun _ _ _ _ z => z)
  case F =>
    intro w mg fa h Y KX G hmg
    refine' Pr.all_mk KX G hmg ?a1 ?l1 ?c1 ?k1 ?apu ?lpu ?cpu ?kpu ?a2 ?l2 ?c2 ?k2 ?a3 ?l3 ?c3 ?k3 ?a4 ?l4 ?c4 ?k4 ?ahf ?lhf ?chf ?khf ?a5 ?l5 ?c5 ?k5 ?a6 ?l6 ?c6 ?k6 ?alp ?llp ?clp ?klp ?aod ?lod ?cod ?kod ?asq ?lsq ?csq ?ksq ?a7 ?l7 ?c7 ?k7 ?amb ?lmb ?cmb ?kmb ?a10 ?l10 ?c10 ?k10 ?a11 ?l11 ?c11 ?k11 ?a12 ?l12 ?c12 ?k12 ?a13 ?l13 ?c13 ?k13 ?a14 ?l14 ?c14 ?k14 ?a15 ?l15 ?c15 ?k15 ?a16 ?l16 ?c16 ?k16 ?a17 ?l17 ?c17 ?k17 ?a18 ?l18 ?c18 ?k18 ?a19 ?l19 ?c19 ?k19 ?a20 ?l20 ?c20 ?k20 ?a21 ?l21 ?c21 ?k21 ?a22 ?l22 ?c22 ?k22 ?a23 ?l23 ?c23 ?k23 ?a30 ?l30 ?c30 ?k30 ?a31 ?l31 ?c31 ?k31 ?aI ?iI ?lI ?cI ?kI ?aC ?pg ?hd ?po ?sa ?mk ?kc ?nP ?gNB ?gOB ?gNS ?gPB ?gHN ?gHP ?gHL ?gLB ?gHG ?gHS ?gHT ?gLo ?gHi ?gBe ?rg ?ln ?mm ?li ?aA0 ?lA ?aN0 ?lN (by decide)
    (case aC => k_is)
    (case a1 => k_is)
    (case l1 => k_is)
    (case c1 => k_is)
    (case k1 => k_is)
    (case apu => k_is)
    (case lpu => k_is)
    (case cpu => k_is)
    (case kpu => k_is)
    (case a2 => k_is)
    (case l2 => k_is)
    (case c2 => k_is)
    (case k2 => k_is)
    (case a3 => k_is)
    (case l3 => k_is)
    (case c3 => k_is)
    (case k3 => k_is)
    (case a4 => k_is)
    (case l4 => k_is)
    (case c4 => k_is)
    (case k4 => k_is)
    (case ahf => k_is)
    (case lhf => k_is)
    (case chf => k_is)
    (case khf => k_is)
    (case a5 => k_is)
    (case l5 => k_is)
    (case c5 => k_is)
    (case k5 => k_is)
    (case a6 => k_is)
    (case l6 => k_is)
    (case c6 => k_is)
    (case k6 => k_is)
    (case alp => k_is)
    (case llp => k_is)
    (case clp => k_is)
    (case klp => k_is)
    (case aod => k_is)
    (case lod => k_is)
    (case cod => k_is)
    (case kod => k_is)
    (case asq => k_is)
    (case lsq => k_is)
    (case csq => k_is)
    (case ksq => k_is)
    (case a7 => k_is)
    (case l7 => k_is)
    (case c7 => k_is)
    (case k7 => k_is)
    (case amb => k_is)
    (case lmb => k_is)
    (case cmb => k_is)
    (case kmb => k_is)
    (case a10 => k_is)
    (case l10 => k_is)
    (case c10 => k_is)
    (case k10 => k_is)
    (case a11 => k_is)
    (case l11 => k_is)
    (case c11 => k_is)
    (case k11 => k_is)
    (case a12 => k_is)
    (case l12 => k_is)
    (case c12 => k_is)
    (case k12 => k_is)
    (case a13 => k_is)
    (case l13 => k_is)
    (case c13 => k_is)
    (case k13 => k_is)
    (case a14 => k_is)
    (case l14 => k_is)
    (case c14 => k_is)
    (case k14 => k_is)
    (case a15 => k_is)
    (case l15 => k_is)
    (case c15 => k_is)
    (case k15 => k_is)
    (case a16 => k_is)
    (case l16 => k_is)
    (case c16 => k_is)
    (case k16 => k_is)
    (case a17 => k_is)
    (case l17 => k_is)
    (case c17 => k_is)
    (case k17 => k_is)
    (case a18 => k_is)
    (case l18 => k_is)
    (case c18 => k_is)
    (case k18 => k_is)
    (case a19 => k_is)
    (case l19 => k_is)
    (case c19 => k_is)
    (case k19 => k_is)
    (case a20 => k_is)
    (case l20 => k_is)
    (case c20 => k_is)
    (case k20 => k_is)
    (case a21 => k_is)
    (case l21 => k_is)
    (case c21 => k_is)
    (case k21 => k_is)
    (case a22 => k_is)
    (case l22 => k_is)
    (case c22 => k_is)
    (case k22 => k_is)
    (case a23 => k_is)
    (case l23 => k_is)
    (case c23 => k_is)
    (case k23 => k_is)
    (case a30 => k_is)
    (case l30 => k_is)
    (case c30 => k_is)
    (case k30 => k_is)
    (case a31 => k_is)
    (case l31 => k_is)
    (case c31 => k_is)
    (case k31 => k_is)
    (case aI => k_is)
    (case iI => k_is)
    (case lI => k_is)
    (case cI => k_is)
    (case kI => k_is)
    (case pg => k_is)
    (case hd => k_is)
    (case po => k_is)
    (case sa => k_is)
    (case mk => k_is)
    (case kc => k_is)
    (case nP => k_is)
    (case gNB => k_is)
    (case gOB => k_is)
    (case gNS => k_is)
    (case gPB => k_is)
    (case gHN => k_is)
    (case gHP => k_is)
    (case gHL => k_is)
    (case gLB => k_is)
    (case gHG => k_is)
    (case gHS => k_is)
    (case gHT => k_is)
    (case gLo => k_is)
    (case gHi => k_is)
    (case gBe => k_is)
    (case rg => k_is)
    (case ln => k_is)
    (case mm => k_is)
    (case li => k_is)
    (case aA0 => k_is)
    (case lA => k_is)
    (case aN0 => k_is)
    (case lN => k_is)
  case S =>
    intro K H xs a hO hwi hask hx
    cases hx with
    | cons h1 h2 =>
      cases h2
      cases h1 with
      | lst hs ha =>
        have e := L2.ints_dw a.1 _ ha
        subst e
        have q : ((Codec.inLen 0 240 a.1 && a.1.all (Codec.inInt 0 4294967295)) && true) = true := hwi
        rw [Bool.and_eq_true, Bool.and_eq_true] at q
        have q2 : ∀ z ∈ a.1, 0 ≤ z := fun z hz => Pr.low_of (List.all_eq_true.mp q.1.2 z hz)
        exact ⟨_, a.1, rfl, hs, hask, q2, fun H' p hp => .lst (L2.SqL.of hp) (L2.dw_ints _)⟩

