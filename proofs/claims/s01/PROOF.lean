import PyProof.Rows.All
import Kv417Spec
import PyKv417
import Wide.All
import OpenK.AllK
import Wide.FinOn
import Open.SpecLaws
import KE.OsGo
import HandS.ForSpec
import HandS.Dict
import HandS.Iter
import HandS.Comp
import HandS.WordsDict
import HandS.Wide
import HandS.CallLocal
import HandS.Walk
import PySem.Challenge.RW_whohearddesk_s01_answers
set_option Elab.async false
set_option maxRecDepth 100000
set_option maxHeartbeats 4000000
/-! Pure facts about the specification's fractions, stations and what is known. -/
namespace Ma
open Kv413 (Event)
open Kv414 (Q Factor gcd')
open Kv415 (Station Point)
open Kv417 (Fact Letter Now)

/-! ### fractions -/
/-- told with a second number above 0, within bounds -/
structure B (a b : Nat) (q : Q) : Prop where
  pos : 0 < q.d
  num : q.n.natAbs ≤ a
  den : q.d ≤ b
theorem B.mono {a b c e : Nat} {q : Q} (h : B a b q) (h1 : a ≤ c) (h2 : b ≤ e) : B c e q := ⟨h.pos, Nat.le_trans h.num h1, Nat.le_trans h.den h2⟩
theorem gcd_pos {n : Int} {d : Nat} (h : 0 < d) : 0 < gcd' n d := Nat.gcd_pos_of_pos_right _ h
theorem red_eq {q : Q} (h : 0 < q.d) : q.red = ⟨q.n / (gcd' q.n q.d : Int), q.d / gcd' q.n q.d⟩ := by
  unfold Q.red
  have := gcd_pos (n := q.n) h
  simp only []
  rw [if_neg (by omega)]
theorem red_pos {q : Q} (h : 0 < q.d) : 0 < q.red.d := by
  rw [red_eq h]
  exact Nat.div_pos (Nat.le_of_dvd h (Nat.gcd_dvd_right _ _)) (gcd_pos h)
theorem natAbs_div_le (n : Int) (g : Nat) : (n / (g : Int)).natAbs ≤ n.natAbs := Int.natAbs_ediv_le_natAbs n g
theorem red_B {a b : Nat} {q : Q} (h : B a b q) : B a b q.red := by
  refine ⟨red_pos h.pos, ?_, ?_⟩
  · rw [red_eq h.pos]
    exact Nat.le_trans (natAbs_div_le _ _) h.num
  · rw [red_eq h.pos]
    exact Nat.le_trans (Nat.div_le_self _ _) h.den
/-- nothing in common -/
def Low (q : Q) : Prop := 0 < q.d ∧ Nat.gcd q.n.natAbs q.d = 1
theorem red_low {q : Q} (h : 0 < q.d) : Low q.red := by
  refine ⟨red_pos h, ?_⟩
  rw [red_eq h]
  have hg := gcd_pos (n := q.n) h
  have hl : gcd' q.n q.d ∣ q.n.natAbs := Nat.gcd_dvd_left _ _
  have hr : gcd' q.n q.d ∣ q.d := Nat.gcd_dvd_right _ _
  have e : (q.n / ((gcd' q.n q.d : Nat) : Int)).natAbs = q.n.natAbs / gcd' q.n q.d := by
    have hd : ((gcd' q.n q.d : Nat) : Int) ∣ q.n := Int.natAbs_dvd_natAbs.mp (by rw [Int.natAbs_natCast]; exact hl)
    rw [Int.natAbs_ediv_of_dvd hd, Int.natAbs_natCast]
  show Nat.gcd (q.n / ((gcd' q.n q.d : Nat) : Int)).natAbs (q.d / gcd' q.n q.d) = 1
  rw [e, Nat.gcd_div hl hr]
  exact Nat.div_self hg
theorem low_red {q : Q} (h : Low q) : q.red = q := by
  rw [red_eq h.1]
  have e : gcd' q.n q.d = 1 := h.2
  rw [e]
  cases q
  simp
theorem told_low {q : Q} (h : Low q) : q.told = [q.n, (q.d : Nat)] := by
  unfold Q.told
  rw [low_red h]
theorem low_of (z : Int) : Low (Q.of z) := ⟨Nat.one_pos, Nat.gcd_one_right _⟩
theorem red_one (z : Int) : Q.red ⟨z, 1⟩ = Q.of z := low_red (low_of z)
theorem add_comm (a b : Q) : a.add b = b.add a := by
  unfold Q.add
  rw [Int.add_comm, Nat.mul_comm]
theorem mul_comm (a b : Q) : a.mul b = b.mul a := by
  unfold Q.mul
  rw [Int.mul_comm, Nat.mul_comm]
theorem natAbs_mul_le {x y : Int} {a c : Nat} (h1 : x.natAbs ≤ a) (h2 : y.natAbs ≤ c) : (x * y).natAbs ≤ a * c := by
  rw [Int.natAbs_mul]
  exact Nat.mul_le_mul h1 h2
theorem raw_add {a b c e : Nat} {x y : Q} (h1 : B a b x) (h2 : B c e y) : B (a * e + c * b) (b * e) ⟨x.n * y.d + y.n * x.d, x.d * y.d⟩ := by
  refine ⟨Nat.mul_pos h1.pos h2.pos, ?_, Nat.mul_le_mul h1.den h2.den⟩
  refine Nat.le_trans (Int.natAbs_add_le _ _) (Nat.add_le_add ?_ ?_)
  · exact natAbs_mul_le h1.num (by rw [Int.natAbs_natCast]; exact h2.den)
  · exact natAbs_mul_le h2.num (by rw [Int.natAbs_natCast]; exact h1.den)
theorem raw_sub {a b c e : Nat} {x y : Q} (h1 : B a b x) (h2 : B c e y) : B (a * e + c * b) (b * e) ⟨x.n * y.d - y.n * x.d, x.d * y.d⟩ := by
  refine ⟨Nat.mul_pos h1.pos h2.pos, ?_, Nat.mul_le_mul h1.den h2.den⟩
  refine Nat.le_trans (Int.natAbs_sub_le _ _) (Nat.add_le_add ?_ ?_)
  · exact natAbs_mul_le h1.num (by rw [Int.natAbs_natCast]; exact h2.den)
  · exact natAbs_mul_le h2.num (by rw [Int.natAbs_natCast]; exact h1.den)
theorem raw_mul {a b c e : Nat} {x y : Q} (h1 : B a b x) (h2 : B c e y) : B (a * c) (b * e) ⟨x.n * y.n, x.d * y.d⟩ :=
  ⟨Nat.mul_pos h1.pos h2.pos, natAbs_mul_le h1.num h2.num, Nat.mul_le_mul h1.den h2.den⟩
theorem add_B {a b c e : Nat} {x y : Q} (h1 : B a b x) (h2 : B c e y) : B (a * e + c * b) (b * e) (x.add y) := red_B (raw_add h1 h2)
theorem sub_B {a b c e : Nat} {x y : Q} (h1 : B a b x) (h2 : B c e y) : B (a * e + c * b) (b * e) (x.sub y) := red_B (raw_sub h1 h2)
theorem mul_B {a b c e : Nat} {x y : Q} (h1 : B a b x) (h2 : B c e y) : B (a * c) (b * e) (x.mul y) := red_B (raw_mul h1 h2)
theorem add_low {x y : Q} (h1 : 0 < x.d) (h2 : 0 < y.d) : Low (x.add y) := red_low (Nat.mul_pos h1 h2)
theorem sub_low {x y : Q} (h1 : 0 < x.d) (h2 : 0 < y.d) : Low (x.sub y) := red_low (Nat.mul_pos h1 h2)
theorem mul_low {x y : Q} (h1 : 0 < x.d) (h2 : 0 < y.d) : Low (x.mul y) := red_low (Nat.mul_pos h1 h2)

/-! ### stations -/
structure OkS (a : Station) : Prop where
  t1 : -99 ≤ a.e.t
  t2 : a.e.t ≤ 99
  x1 : -99 ≤ a.e.x
  x2 : a.e.x ≤ 99
  p1 : 1 ≤ a.k.p
  p2 : a.k.p ≤ 9
  q1 : 1 ≤ a.k.q
  q2 : a.k.q ≤ 9
theorem up_B {a : Station} (h : OkS a) : B 9 9 a.k.up := ⟨h.q1, by show Int.natAbs (a.k.p : Int) ≤ 9; rw [Int.natAbs_natCast]; exact h.p2, h.q2⟩
theorem down_B {a : Station} (h : OkS a) : B 9 9 a.k.down := ⟨h.p1, by show Int.natAbs (a.k.q : Int) ≤ 9; rw [Int.natAbs_natCast]; exact h.q2, h.p2⟩
theorem u_B {a : Station} (h : OkS a) : B 198 1 (Q.of a.e.u) := ⟨Nat.one_pos, by
  have := h.t1; have := h.t2; have := h.x1; have := h.x2
  show (a.e.t - a.e.x).natAbs ≤ 198
  omega, Nat.le_refl 1⟩
theorem v_B {a : Station} (h : OkS a) : B 198 1 (Q.of a.e.v) := ⟨Nat.one_pos, by
  have := h.t1; have := h.t2; have := h.x1; have := h.x2
  show (a.e.t + a.e.x).natAbs ≤ 198
  omega, Nat.le_refl 1⟩
/-- a clock's number, as it is kept -/
structure OkC (s : Q) : Prop where
  b : B 999 99 s
  low : Low s
theorem t_ok {n : Int} {d : Nat} (h : Kv415.okT n d = true) : OkC (Kv415.t_ n d) := by
  unfold Kv415.okT at h
  simp only [Bool.and_eq_true, decide_eq_true_eq] at h
  obtain ⟨⟨⟨h1, h2⟩, h3⟩, h4⟩ := h
  exact ⟨red_B ⟨h3, by show n.natAbs ≤ 999; omega, h4⟩, red_low h3⟩
/-- a point that a station comes to -/
structure OkP (p : Point) : Prop where
  u : B 185409 891 p.u
  v : B 185409 891 p.v
  lu : Low p.u
  lv : Low p.v
theorem at_ok {a : Station} {s : Q} (h : OkS a) (hs : OkC s) : OkP (a.at_ s) := by
  have hd := mul_B (down_B h) hs.b
  have hu := mul_B (up_B h) hs.b
  refine ⟨(add_B (u_B h) hd).mono (by decide) (by decide), (add_B (v_B h) hu).mono (by decide) (by decide), add_low Nat.one_pos hd.pos, add_low Nat.one_pos hu.pos⟩
theorem atU_B {a : Station} {p : Point} (h : OkS a) (hp : OkP p) : B 3256443 8019 (a.atU p.u) :=
  (mul_B (sub_B hp.u (u_B h)) (up_B h)).mono (by decide) (by decide)
theorem atV_B {a : Station} {p : Point} (h : OkS a) (hp : OkP p) : B 3256443 8019 (a.atV p.v) :=
  (mul_B (sub_B hp.v (v_B h)) (down_B h)).mono (by decide) (by decide)
theorem atU_low {a : Station} {p : Point} (h : OkS a) (hp : OkP p) : Low (a.atU p.u) := mul_low (sub_B hp.u (u_B h)).pos (up_B h).pos
theorem atV_low {a : Station} {p : Point} (h : OkS a) (hp : OkP p) : Low (a.atV p.v) := mul_low (sub_B hp.v (v_B h)).pos (down_B h).pos
theorem hears_eq (a : Station) (p : Point) : a.hears p = if (a.atU p.u).le (a.atV p.v) then a.atV p.v else a.atU p.u := rfl
theorem till_eq (a : Station) (p : Point) : a.till p = if (a.atU p.u).le (a.atV p.v) then a.atU p.u else a.atV p.v := rfl
theorem hears_B {a : Station} {p : Point} (h : OkS a) (hp : OkP p) : B 3256443 8019 (a.hears p) := by
  rw [hears_eq]
  split
  · exact atV_B h hp
  · exact atU_B h hp
theorem hears_low {a : Station} {p : Point} (h : OkS a) (hp : OkP p) : Low (a.hears p) := by
  rw [hears_eq]
  split
  · exact atV_low h hp
  · exact atU_low h hp
theorem till_B {a : Station} {p : Point} (h : OkS a) (hp : OkP p) : B 3256443 8019 (a.till p) := by
  rw [till_eq]
  split
  · exact atU_B h hp
  · exact atV_B h hp
theorem till_low {a : Station} {p : Point} (h : OkS a) (hp : OkP p) : Low (a.till p) := by
  rw [till_eq]
  split
  · exact atU_low h hp
  · exact atV_low h hp
end Ma
namespace Ma
open Kv413 (Event)
open Kv414 (Q Factor gcd')
open Kv415 (Station Point)
open Kv417 (Fact Letter Now)

/-! ### what is known: by moments, letter after letter -/
section
variable (a : Now)
/-- fact f came to be at i when its clock showed no more than s -/
def ownB (f i : Nat) (s : Q) : Bool := (a.fact f).i == i && (a.fact f).s.le s
/-- letter m had come at i when its clock showed s -/
def comeB (m i : Nat) (s : Q) : Bool := (a.letter m).j == i && (a.comes m).le s
def inK : Nat → Nat → Q → Nat → Bool
  | 0, i, s, f => ownB a f i s
  | k + 1, i, s, f => ownB a f i s || (List.range a.letters.length).any fun m => comeB a m i s && inK k (a.letter m).i (a.letter m).s f
theorem contains_filter {n : Nat} {p : Nat → Bool} {f : Nat} : ((List.range n).filter p).contains f = (decide (f < n) && p f) := by
  rw [Bool.eq_iff_iff]
  simp
theorem knows_eq : ∀ (k i : Nat) (s : Q), a.knows k i s = (List.range a.facts.length).filter (inK a k i s)
  | 0, i, s => rfl
  | k + 1, i, s => by
    unfold Now.knows Kv417.merge
    apply List.filter_congr
    intro f hf
    have hl : f < a.facts.length := List.mem_range.mp hf
    show (List.any _ _) = (ownB a f i s || (List.range a.letters.length).any fun m => comeB a m i s && inK a k (a.letter m).i (a.letter m).s f)
    rw [List.any_cons, contains_filter, decide_eq_true hl, Bool.true_and, List.any_map, List.any_filter]
    congr 1
    refine List.any_congr rfl fun m => ?_
    show (_ && (a.knows k (a.letter m).i (a.letter m).s).contains f) = _
    rw [knows_eq k, contains_filter, decide_eq_true hl, Bool.true_and]
    rfl
theorem inK_own {k i : Nat} {s : Q} {f : Nat} (h : ownB a f i s = true) : inK a k i s f = true := by
  cases k with
  | zero => exact h
  | succ k =>
    show (ownB a f i s || _) = true
    rw [h]
    rfl
theorem inK_succ {k i : Nat} {s : Q} {f : Nat} : inK a (k + 1) i s f = true ↔ ownB a f i s = true ∨ ∃ m, m < a.letters.length ∧ comeB a m i s = true ∧ inK a k (a.letter m).i (a.letter m).s f = true := by
  show (ownB a f i s || (List.range a.letters.length).any fun m => comeB a m i s && inK a k (a.letter m).i (a.letter m).s f) = true ↔ _
  simp only [Bool.or_eq_true, List.any_eq_true, List.mem_range, Bool.and_eq_true]
theorem inK_more {f : Nat} : ∀ {k : Nat} {i : Nat} {s : Q}, inK a k i s f = true → inK a (k + 1) i s f = true
  | 0, _, _, h => inK_own a h
  | k + 1, i, s, h => by
    rcases (inK_succ a).mp h with h | ⟨m, h1, h2, h3⟩
    · exact inK_own a h
    · exact (inK_succ a).mpr (.inr ⟨m, h1, h2, inK_more h3⟩)
theorem inK_mono {f k l i : Nat} {s : Q} (h : k ≤ l) (g : inK a k i s f = true) : inK a l i s f = true := by
  induction h with
  | refl => exact g
  | step _ ih => exact inK_more a ih

/-- the moment where a letter is sent -/
def sentAt (m : Nat) : Nat × Q := ((a.letter m).i, (a.letter m).s)
/-- the moments behind one, by the letters followed, in their order -/
def moms (i : Nat) (s : Q) (F : List Nat) : List (Nat × Q) := (i, s) :: F.map (sentAt a)
structure Walked (i : Nat) (s : Q) (F : List Nat) (p t : Nat) : Prop where
  nd : F.Nodup
  lt : ∀ m ∈ F, m < a.letters.length
  deep : ∀ j mo, (moms a i s F)[j]? = some mo → ∀ k f, inK a k mo.1 mo.2 f = true → inK a (k + j) i s f = true
  closed : ∀ j mo, j < p → (moms a i s F)[j]? = some mo → ∀ m, m < a.letters.length → comeB a m mo.1 mo.2 = true → m ∈ F
  now : ∀ mo, (moms a i s F)[p]? = some mo → ∀ m, m < t → m < a.letters.length → comeB a m mo.1 mo.2 = true → m ∈ F
theorem moms_len (i : Nat) (s : Q) (F : List Nat) : (moms a i s F).length = F.length + 1 := by
  unfold moms
  rw [List.length_cons, List.length_map]
theorem nodup_len : ∀ {n : Nat} {F : List Nat}, F.Nodup → (∀ m ∈ F, m < n) → F.length ≤ n := by
  intro n
  induction n with
  | zero =>
    intro F _ h
    cases F with
    | nil => exact Nat.le_refl 0
    | cons x r => exact absurd (h x (List.mem_cons_self ..)) (Nat.not_lt_zero _)
  | succ n ih =>
    intro F hn h
    have h1 : (F.erase n).length ≤ n := ih (hn.erase n) fun m hm => by
      have hm2 := List.mem_of_mem_erase hm
      have := h m hm2
      have hne : m ≠ n := by
        intro e
        subst e
        exact (hn.not_mem_erase) hm
      omega
    rw [List.length_erase] at h1
    split at h1 <;> omega
variable {a}
theorem Walked.len {i : Nat} {s : Q} {F : List Nat} {p t : Nat} (h : Walked a i s F p t) : F.length ≤ a.letters.length := nodup_len h.nd h.lt
theorem walked_start (i : Nat) (s : Q) : Walked a i s [] 0 0 := by
  refine ⟨List.nodup_nil, fun m h => absurd h List.not_mem_nil, ?_, fun j mo h => absurd h (Nat.not_lt_zero _), fun mo _ m h => absurd h (Nat.not_lt_zero _)⟩
  intro j mo h k f g
  cases j with
  | zero =>
    cases h
    exact g
  | succ j => simp [moms] at h
theorem Walked.skip {i : Nat} {s : Q} {F : List Nat} {p t : Nat} {mo : Nat × Q} (h : Walked a i s F p t) (hm : (moms a i s F)[p]? = some mo) (ht : t ∈ F ∨ comeB a t mo.1 mo.2 = false) : Walked a i s F p (t + 1) := by
  refine ⟨h.nd, h.lt, h.deep, h.closed, fun mo' e m hlt hl hc => ?_⟩
  have e2 : mo' = mo := Option.some.inj (e.symm.trans hm)
  subst e2
  by_cases c : m = t
  · subst c
    rcases ht with g | g
    · exact g
    · rw [hc] at g
      cases g
  · exact h.now _ e m (by omega) hl hc
theorem moms_snoc (i : Nat) (s : Q) (F : List Nat) (m : Nat) : moms a i s (F ++ [m]) = moms a i s F ++ [sentAt a m] := by
  unfold moms
  rw [List.map_append]
  rfl
theorem Walked.take {i : Nat} {s : Q} {F : List Nat} {p t : Nat} {mo : Nat × Q} (h : Walked a i s F p t) (hm : (moms a i s F)[p]? = some mo) (hl : t < a.letters.length) (hn : t ∉ F) (hc : comeB a t mo.1 mo.2 = true) : Walked a i s (F ++ [t]) p (t + 1) := by
  have hp : p < (moms a i s F).length := (List.getElem?_eq_some_iff.mp hm).1
  have old : ∀ {j : Nat}, j < (moms a i s F).length → (moms a i s (F ++ [t]))[j]? = (moms a i s F)[j]? := by
    intro j hj
    rw [moms_snoc, List.getElem?_append_left hj]
  refine ⟨?_, ?_, ?_, ?_, ?_⟩
  · rw [List.nodup_append]
    refine ⟨h.nd, by simp, ?_⟩
    intro x hx y hy e
    rw [List.mem_singleton] at hy
    subst hy
    subst e
    exact hn hx
  · intro m hm'
    rw [List.mem_append, List.mem_singleton] at hm'
    rcases hm' with g | g
    · exact h.lt m g
    · subst g
      exact hl
  · intro j mo' e k f g
    by_cases c : j < (moms a i s F).length
    · rw [old c] at e
      exact h.deep j mo' e k f g
    · have hj : j < (moms a i s (F ++ [t])).length := (List.getElem?_eq_some_iff.mp e).1
      rw [moms_len, List.length_append, List.length_singleton] at hj
      have hF := moms_len a i s F
      have ej : j = (moms a i s F).length := by omega
      subst ej
      rw [moms_snoc, List.getElem?_append_right (Nat.le_refl _), Nat.sub_self] at e
      have e2 : sentAt a t = mo' := Option.some.inj e
      subst e2
      have g1 : inK a (k + 1) mo.1 mo.2 f = true := (inK_succ a).mpr (.inr ⟨t, hl, hc, g⟩)
      have g2 := h.deep p mo hm (k + 1) f g1
      exact inK_mono a (by omega) g2
  · intro j mo' hj e m hml hcm
    rw [old (by omega)] at e
    exact List.mem_append.mpr (.inl (h.closed j mo' hj e m hml hcm))
  · intro mo' e m hmt hml hcm
    rw [old hp] at e
    by_cases c : m = t
    · subst c
      exact List.mem_append.mpr (.inr (List.mem_singleton.mpr rfl))
    · exact List.mem_append.mpr (.inl (h.now mo' e m (by omega) hml hcm))
theorem Walked.next {i : Nat} {s : Q} {F : List Nat} {p : Nat} (h : Walked a i s F p a.letters.length) : Walked a i s F (p + 1) 0 := by
  refine ⟨h.nd, h.lt, h.deep, ?_, fun mo _ m g => absurd g (Nat.not_lt_zero _)⟩
  intro j mo hj e m hml hcm
  by_cases c : j = p
  · subst c
    exact h.now mo e m hml hml hcm
  · exact h.closed j mo (by omega) e m hml hcm
theorem Walked.all {i : Nat} {s : Q} {F : List Nat} {t : Nat} (h : Walked a i s F (F.length + 1) t) {f : Nat} : ∀ (k : Nat) (mo : Nat × Q), mo ∈ moms a i s F → inK a k mo.1 mo.2 f = true → ∃ mo' ∈ moms a i s F, ownB a f mo'.1 mo'.2 = true
  | 0, mo, hm, g => ⟨mo, hm, g⟩
  | k + 1, mo, hm, g => by
    rcases (inK_succ a).mp g with g | ⟨m, h1, h2, h3⟩
    · exact ⟨mo, hm, g⟩
    · obtain ⟨j, hj, e⟩ := List.mem_iff_getElem.mp hm
      have hl := hj
      rw [moms_len] at hl
      have hF : m ∈ F := h.closed j mo hl (List.getElem?_eq_some_iff.mpr ⟨hj, e⟩) m h1 h2
      have hmem : sentAt a m ∈ moms a i s F := List.mem_cons_of_mem _ (List.mem_map.mpr ⟨m, hF, rfl⟩)
      exact Walked.all h k (sentAt a m) hmem h3
/-- the walk's facts are those that are known -/
theorem Walked.done {i : Nat} {s : Q} {F : List Nat} {t : Nat} (h : Walked a i s F (F.length + 1) t) (f : Nat) : ((moms a i s F).any fun mo => ownB a f mo.1 mo.2) = inK a a.letters.length i s f := by
  rw [Bool.eq_iff_iff, List.any_eq_true]
  constructor
  · rintro ⟨mo, hm, g⟩
    obtain ⟨j, hj, e⟩ := List.mem_iff_getElem.mp hm
    have g2 := h.deep j mo (List.getElem?_eq_some_iff.mpr ⟨hj, e⟩) 0 f g
    rw [moms_len] at hj
    have := h.len
    exact inK_mono a (by omega) g2
  · intro g
    exact h.all _ (i, s) (List.mem_cons_self ..) g
theorem Walked.known {i : Nat} {s : Q} {F : List Nat} {t : Nat} (h : Walked a i s F (F.length + 1) t) : a.known i s = (List.range a.facts.length).filter fun f => (moms a i s F).any fun mo => ownB a f mo.1 mo.2 := by
  unfold Now.known
  rw [knows_eq]
  exact (List.filter_congr fun f _ => (h.done f).symm)
end
end Ma
namespace Ma
open Kv413 (Event)
open Kv414 (Q Factor gcd')
open Kv415 (Station Point)
open Kv417 (Fact Letter Now Abs Call)

/-! ### what holds of the numbers kept, call by call -/
structure OkN (n : Now) : Prop where
  st : ∀ a ∈ n.st, OkS a
  nst : n.st.length ≤ 4
  nf : n.facts.length ≤ 6
  nl : n.letters.length ≤ 6
  fi : ∀ f ∈ n.facts, f.i < n.st.length ∧ OkC f.s
  li : ∀ l ∈ n.letters, l.i < n.st.length ∧ l.j < n.st.length ∧ OkC l.s
structure OkA (a : Abs) : Prop where
  now : OkN a.now
  past : ∀ n ∈ a.past, OkN n
  len : a.past.length ≤ 10
theorem okN_new : OkN ⟨[], [], [], 0, 0⟩ := ⟨fun _ h => absurd h List.not_mem_nil, Nat.zero_le _, Nat.zero_le _, Nat.zero_le _, fun _ h => absurd h List.not_mem_nil, fun _ h => absurd h List.not_mem_nil⟩
theorem okA_new : OkA ⟨⟨[], [], [], 0, 0⟩, []⟩ := ⟨okN_new, fun _ h => absurd h List.not_mem_nil, Nat.zero_le _⟩
theorem OkA.to_ {a : Abs} (h : OkA a) {n : Now} (hn : OkN n) (x : Kv417.Ans) : OkA (a.to_ n x).1 := by
  refine ⟨hn, fun m hm => ?_, ?_⟩
  · have := List.mem_of_mem_take (show m ∈ (a.now :: a.past).take 10 from hm)
    rcases List.mem_cons.mp this with rfl | h2
    · exact h.now
    · exact h.past m h2
  · show ((a.now :: a.past).take 10).length ≤ 10
    rw [List.length_take]
    exact Nat.min_le_left _ _
theorem okS_new {t x : Int} {p q : Nat} (h1 : Kv414.ok t = true) (h2 : Kv414.ok x = true) (h3 : Kv414.okF p q = true) : OkS ⟨⟨t, x⟩, Factor.red ⟨p, q⟩⟩ := by
  unfold Kv414.ok at h1 h2
  unfold Kv414.okF at h3
  simp only [Bool.and_eq_true, decide_eq_true_eq] at h1 h2 h3
  obtain ⟨⟨⟨p1, p2⟩, q1⟩, q2⟩ := h3
  have hg : 0 < Nat.gcd p q := Nat.gcd_pos_of_pos_left _ p1
  have d1 : 0 < p / Nat.gcd p q := Nat.div_pos (Nat.le_of_dvd p1 (Nat.gcd_dvd_left _ _)) hg
  have d2 : 0 < q / Nat.gcd p q := Nat.div_pos (Nat.le_of_dvd q1 (Nat.gcd_dvd_right _ _)) hg
  exact ⟨h1.1, h1.2, h2.1, h2.2, d1, Nat.le_trans (Nat.div_le_self _ _) p2, d2, Nat.le_trans (Nat.div_le_self _ _) q2⟩
theorem ok_does {a : Abs} (h : OkA a) (c : Call) : OkA (a.does c).1 := by
  have hn := h.now
  cases c with
  | begin_ => exact okA_new
  | station t x p q =>
    show OkA (if Kv414.ok t = false ∨ Kv414.ok x = false ∨ Kv414.okF p q = false then (a, Kv417.say (-22)) else if 4 ≤ a.now.st.length then (a, Kv417.say (-28)) else a.to_ { a.now with st := a.now.st ++ [⟨⟨t, x⟩, Factor.red ⟨p, q⟩⟩] } (Kv417.num a.now.st.length)).1
    split
    · exact h
    · rename_i c1
      split
      · exact h
      · rename_i c2
        refine OkA.to_ h ?_ _
        refine ⟨fun s hs => ?_, ?_, hn.nf, hn.nl, fun f hf => ?_, fun l hl => ?_⟩
        · rcases List.mem_append.mp hs with hs | hs
          · exact hn.st s hs
          · rw [List.mem_singleton.mp hs]
            refine okS_new ?_ ?_ ?_
            · cases e : Kv414.ok t with
              | true => rfl
              | false => exact absurd (.inl e) c1
            · cases e : Kv414.ok x with
              | true => rfl
              | false => exact absurd (.inr (.inl e)) c1
            · cases e : Kv414.okF p q with
              | true => rfl
              | false => exact absurd (.inr (.inr e)) c1
        · show (a.now.st ++ [_]).length ≤ 4
          rw [List.length_append, List.length_singleton]
          omega
        · have := hn.fi f hf
          refine ⟨?_, this.2⟩
          show f.i < (a.now.st ++ [_]).length
          rw [List.length_append, List.length_singleton]
          omega
        · have := hn.li l hl
          refine ⟨?_, ?_, this.2.2⟩
          · show l.i < (a.now.st ++ [_]).length
            rw [List.length_append, List.length_singleton]
            omega
          · show l.j < (a.now.st ++ [_]).length
            rw [List.length_append, List.length_singleton]
            omega
  | fact i n d =>
    show OkA (if a.now.noS i then (a, Kv417.say (-2)) else if Kv415.okT n d = false then (a, Kv417.say (-22)) else if 6 ≤ a.now.facts.length then (a, Kv417.say (-28)) else a.to_ { a.now with facts := a.now.facts ++ [⟨i, Kv415.t_ n d⟩] } (Kv417.num a.now.facts.length)).1
    split
    · exact h
    · rename_i c0
      split
      · exact h
      · rename_i c1
        split
        · exact h
        · rename_i c2
          refine OkA.to_ h ?_ _
          refine ⟨hn.st, hn.nst, ?_, hn.nl, fun f hf => ?_, hn.li⟩
          · show (a.now.facts ++ [_]).length ≤ 6
            rw [List.length_append, List.length_singleton]
            omega
          · rcases List.mem_append.mp hf with hf | hf
            · exact hn.fi f hf
            · rw [List.mem_singleton.mp hf]
              refine ⟨?_, t_ok (by cases e : Kv415.okT n d with | true => rfl | false => exact absurd e c1)⟩
              have c0' : ¬ (decide (a.now.st.length ≤ i) = true) := c0
              rw [decide_eq_true_eq] at c0'
              show i < a.now.st.length
              omega
  | letter i j n d =>
    show OkA (if a.now.noS i ∨ a.now.noS j then (a, Kv417.say (-2)) else if i = j ∨ Kv415.okT n d = false then (a, Kv417.say (-22)) else if 6 ≤ a.now.letters.length then (a, Kv417.say (-28)) else a.to_ { a.now with letters := a.now.letters ++ [⟨i, j, Kv415.t_ n d⟩] } (Kv417.num a.now.letters.length)).1
    split
    · exact h
    · rename_i c0
      split
      · exact h
      · rename_i c1
        split
        · exact h
        · rename_i c2
          refine OkA.to_ h ?_ _
          refine ⟨hn.st, hn.nst, hn.nf, ?_, hn.fi, fun f hf => ?_⟩
          · show (a.now.letters ++ [_]).length ≤ 6
            rw [List.length_append, List.length_singleton]
            omega
          · rcases List.mem_append.mp hf with hf | hf
            · exact hn.li f hf
            · rw [List.mem_singleton.mp hf]
              have ci : ¬ (decide (a.now.st.length ≤ i) = true) := fun q => c0 (.inl q)
              have cj : ¬ (decide (a.now.st.length ≤ j) = true) := fun q => c0 (.inr q)
              rw [decide_eq_true_eq] at ci cj
              refine ⟨?_, ?_, t_ok (by cases e : Kv415.okT n d with | true => rfl | false => exact absurd (.inr e) c1)⟩
              · show i < a.now.st.length
                omega
              · show j < a.now.st.length
                omega
  | unfact =>
    show OkA (if a.now.facts.isEmpty then (a, Kv417.say (-6)) else a.to_ { a.now with facts := a.now.facts.dropLast } (Kv417.num (a.now.facts.length - 1))).1
    split
    · exact h
    · refine OkA.to_ h ?_ _
      refine ⟨hn.st, hn.nst, ?_, hn.nl, fun f hf => hn.fi f (List.dropLast_subset _ hf), hn.li⟩
      show a.now.facts.dropLast.length ≤ 6
      rw [List.length_dropLast]
      have := hn.nf
      omega
  | unletter =>
    show OkA (if a.now.letters.isEmpty then (a, Kv417.say (-6)) else a.to_ { a.now with letters := a.now.letters.dropLast } (Kv417.num (a.now.letters.length - 1))).1
    split
    · exact h
    · refine OkA.to_ h ?_ _
      refine ⟨hn.st, hn.nst, hn.nf, ?_, hn.fi, fun f hf => hn.li f (List.dropLast_subset _ hf)⟩
      show a.now.letters.dropLast.length ≤ 6
      rw [List.length_dropLast]
      have := hn.nl
      omega
  | claim i f n d =>
    show OkA (if a.now.noS i ∨ a.now.noF f then (a, Kv417.say (-2)) else if Kv415.okT n d = false then (a, Kv417.say (-22)) else a.to_ { a.now with held := a.now.held + 1, false_ := a.now.false_ + Kv417.bit (a.now.judge i f (Kv415.t_ n d) == 0) } (Kv417.num (a.now.judge i f (Kv415.t_ n d)))).1
    split
    · exact h
    · split
      · exact h
      · refine OkA.to_ h ?_ _
        exact ⟨hn.st, hn.nst, hn.nf, hn.nl, hn.fi, hn.li⟩
  | back =>
    show OkA (match a.past with
      | [] => (a, Kv417.say (-6))
      | w :: l => ((⟨w, l⟩ : Abs), Kv417.num l.length)).1
    have hp := h.past
    have hl := h.len
    revert hp hl
    cases a.past with
    | nil => intro _ _; exact h
    | cons w l =>
      intro hp hl
      rw [List.length_cons] at hl
      exact ⟨hp w (List.mem_cons_self ..), fun n hn => hp n (List.mem_cons_of_mem _ hn), by show l.length ≤ 10; omega⟩
  | is i => unfold Abs.does; dsimp only; split <;> exact h
  | factis i => unfold Abs.does; dsimp only; split <;> exact h
  | letteris i => unfold Abs.does; dsimp only; split <;> exact h
  | where_ i => unfold Abs.does; dsimp only; split <;> exact h
  | comes i => unfold Abs.does; dsimp only; split <;> exact h
  | in_ i => unfold Abs.does; dsimp only; split <;> exact h
  | known i n d => unfold Abs.does; dsimp only; (repeat' split) <;> exact h
  | could i n d => unfold Abs.does; dsimp only; (repeat' split) <;> exact h
  | first i f => unfold Abs.does; dsimp only; split <;> exact h
  | knew i f => unfold Abs.does; dsimp only; (repeat' split) <;> exact h
  | late i f => unfold Abs.does; dsimp only; (repeat' split) <;> exact h
  | own i f => unfold Abs.does; dsimp only; split <;> exact h
  | sooner i f g => unfold Abs.does; dsimp only; split <;> exact h
  | heard f g => unfold Abs.does; dsimp only; split <;> exact h
  | never i => unfold Abs.does; dsimp only; split <;> exact h
  | book => exact h
  | state => exact h
end Ma
namespace Ma
/-! ### the list of numbers, call by call -/
def argcs : List Nat := [0, 4, 3, 4, 0, 0, 4, 1, 1, 1, 1, 1, 1, 3, 3, 2, 2, 2, 2, 3, 2, 1, 0, 0, 0]
theorem shape_is {p : Int} {n k : Nat} (h : PyKv417.shape p = some (n, k)) : k = 0 ∧ ∃ j : Nat, p = (j : Int) ∧ j < 25 ∧ argcs[j]? = some n := by
  by_cases c : 0 ≤ p ∧ p < 25
  · have e : p = 0 ∨ p = 1 ∨ p = 2 ∨ p = 3 ∨ p = 4 ∨ p = 5 ∨ p = 6 ∨ p = 7 ∨ p = 8 ∨ p = 9 ∨ p = 10 ∨ p = 11 ∨ p = 12 ∨ p = 13 ∨ p = 14 ∨ p = 15 ∨ p = 16 ∨ p = 17 ∨ p = 18 ∨ p = 19 ∨ p = 20 ∨ p = 21 ∨ p = 22 ∨ p = 23 ∨ p = 24 := by omega
    rcases e with rfl | rfl | rfl | rfl | rfl | rfl | rfl | rfl | rfl | rfl | rfl | rfl | rfl | rfl | rfl | rfl | rfl | rfl | rfl | rfl | rfl | rfl | rfl | rfl | rfl <;> (obtain ⟨rfl, rfl⟩ := Prod.mk.inj (Option.some.inj h); exact ⟨rfl, _, rfl, by decide, rfl⟩)
  · exfalso
    unfold PyKv417.shape at h
    iterate 25 rw [if_neg (by omega)] at h
    cases h
theorem whole_id (c : List (List Int)) : PyKv417.whole c = c := by
  unfold PyKv417.whole
  split <;> rfl
theorem map_whole (l : List (List (List Int))) : l.map PyKv417.whole = l := by
  induction l with
  | nil => rfl
  | cons c r ih => rw [List.map_cons, whole_id, ih]
theorem answers_of {l : List Int} {raw : List (List (List Int))} (h : PyFlat.calls PyKv417.shape l.length l = some raw) : PyKv417.answers l = PyFlat.told (PyFlat.played Kv417Neutral.step Kv417Neutral.start raw) := by
  unfold PyKv417.answers PyKv417.calls
  rw [h]
  show PyFlat.told (PyFlat.played Kv417Neutral.step Kv417Neutral.start (raw.map PyKv417.whole)) = _
  rw [map_whole]
theorem asked_of {l : List Int} (h : PyKv417.answers_asked l = true) : ∃ raw, PyFlat.calls PyKv417.shape l.length l = some raw ∧ (∀ c ∈ raw, Kv417Neutral.asked1 c = true) ∧ (PyKv417.answers l).length ≤ 10000000 := by
  unfold PyKv417.answers_asked at h
  cases e : PyFlat.calls PyKv417.shape l.length l with
  | none =>
    rw [e] at h
    cases h
  | some raw =>
    rw [e] at h
    have h' : (!raw.isEmpty && PyFlat.atMost 256 raw && PyInside.calls PyKv417.bound raw && Kv417Neutral.asked (raw.map PyKv417.whole) && PyFlat.short 10000000 (PyKv417.answers l)) = true := h
    rw [map_whole] at h'
    simp only [Bool.and_eq_true] at h'
    obtain ⟨⟨_, h1⟩, h2⟩ := h'
    refine ⟨raw, rfl, fun c hc => ?_, of_decide_eq_true h2⟩
    unfold Kv417Neutral.asked at h1
    rw [Bool.and_eq_true, List.all_eq_true] at h1
    have := h1.2 c hc
    unfold Kv417Neutral.askedOne at this
    simp only [Bool.and_eq_true] at this
    exact this.1.1.1
/-- one call off the list -/
theorem calls_step {f : Nat} {l : List Int} {raw : List (List (List Int))} (h : PyFlat.calls PyKv417.shape f l = some raw) :
    (l = [] ∧ raw = []) ∨ ∃ (j n : Nat) (r : List Int) (f' : Nat) (rest : List (List (List Int))), l = (j : Int) :: r ∧ j < 25 ∧ argcs[j]? = some n ∧ n ≤ r.length ∧ raw = [((j : Int) :: r.take n)] :: rest ∧ PyFlat.calls PyKv417.shape f' (r.drop n) = some rest := by
  cases l with
  | nil =>
    left
    cases f with
    | zero => exact ⟨rfl, (Option.some.inj h).symm⟩
    | succ f => exact ⟨rfl, (Option.some.inj h).symm⟩
  | cons p r =>
    right
    cases f with
    | zero => cases h
    | succ f =>
      have h' : (match PyFlat.call PyKv417.shape (p :: r) with
        | none => none
        | some (c, t) => match PyFlat.calls PyKv417.shape f t with
          | none => none
          | some cs => some (c :: cs)) = some raw := h
      have hc : PyFlat.call PyKv417.shape (p :: r) = (match PyKv417.shape p with
        | none => none
        | some (n, k) => if r.length < n then none else match PyFlat.rows k (r.drop n) with
          | none => none
          | some (xs, t) => some ((p :: r.take n) :: xs, t)) := rfl
      rw [hc] at h'
      cases e : PyKv417.shape p with
      | none =>
        rw [e] at h'
        cases h'
      | some nk =>
        obtain ⟨n, k⟩ := nk
        obtain ⟨rfl, j, rfl, hj, hn⟩ := shape_is e
        rw [e] at h'
        dsimp only at h'
        by_cases c : r.length < n
        · rw [if_pos c] at h'
          cases h'
        · rw [if_neg c] at h'
          dsimp only [PyFlat.rows] at h'
          cases e2 : PyFlat.calls PyKv417.shape f (r.drop n) with
          | none =>
            rw [e2] at h'
            cases h'
          | some rest =>
            rw [e2] at h'
            exact ⟨j, n, r, f, rest, rfl, hj, hn, by omega, (Option.some.inj h').symm, e2⟩
theorem told_cons (a : List Int) (l : List (List Int)) : PyFlat.told (a :: l) = (a.length : Int) :: (a ++ PyFlat.told l) := by
  unfold PyFlat.told
  rw [List.flatMap_cons]
  rfl
/-- the state is well kept -/
def OkO : Kv417.State → Prop
  | none => True
  | some a => OkA a
theorem ok_act {s : Kv417.State} (h : OkO s) (c : Kv417.Call) : OkO (Kv417.act s c).1 := by
  cases s with
  | none =>
    cases c with
    | begin_ => exact okA_new
    | _ => exact trivial
  | some a => exact ok_does h c
theorem ok_step {s : Kv417.State} (h : OkO s) (c : List (List Int)) : OkO (Kv417Neutral.step s c).1 := by
  unfold Kv417Neutral.step
  cases Kv417Neutral.callOf c with
  | none => exact h
  | some c => exact ok_act h c
end Ma
namespace Ma
open Kv413 (Event)
open Kv414 (Q Factor gcd')
open Kv415 (Station Point)
open Kv417 (Fact Letter Now Abs Call)
/-! ### equal fractions with nothing in common -/
theorem low_eq {x y : Q} (h1 : Low x) (h2 : Low y) : x.eq y = true ↔ x = y := by
  unfold Q.eq
  rw [decide_eq_true_eq]
  constructor
  · intro e
    have e2 : x.n.natAbs * y.d = y.n.natAbs * x.d := by
      have := congrArg Int.natAbs e
      rw [Int.natAbs_mul, Int.natAbs_mul, Int.natAbs_natCast, Int.natAbs_natCast] at this
      exact this
    have d1 : x.d ∣ y.d := by
      have c : Nat.Coprime x.d x.n.natAbs := Nat.Coprime.symm h1.2
      exact c.dvd_of_dvd_mul_left (by rw [e2]; exact Nat.dvd_mul_left _ _)
    have d2 : y.d ∣ x.d := by
      have c : Nat.Coprime y.d y.n.natAbs := Nat.Coprime.symm h2.2
      exact c.dvd_of_dvd_mul_left (by rw [← e2]; exact Nat.dvd_mul_left _ _)
    have ed : x.d = y.d := Nat.dvd_antisymm d1 d2
    have en : x.n = y.n := by
      rw [ed] at e
      exact Int.eq_of_mul_eq_mul_right (by have := h2.1; omega) e
    cases x
    cases y
    simp only at ed en
    rw [ed, en]
  · intro e
    rw [e]
theorem eq_le {x y : Q} : x.eq y = (x.le y && y.le x) := by
  unfold Q.eq Q.le
  rw [Bool.eq_iff_iff, Bool.and_eq_true, decide_eq_true_iff, decide_eq_true_iff, decide_eq_true_iff]
  omega
/-! ### known first, letter by letter -/
def lesser (b : Option Q) (x : Q) : Option Q := match b with
  | none => some x
  | some y => if y.le x then some y else some x
def brings (a : Now) (i f m : Nat) : Bool := (a.letter m).j == i && (a.in_ m).contains f
def knewTo (a : Now) (i f m : Nat) : Option Q := List.foldl lesser (if (a.fact f).i = i then some (a.fact f).s else none) (((List.range m).filter (brings a i f)).map a.comes)
theorem knewTo_all (a : Now) (i f : Nat) : knewTo a i f a.letters.length = a.knew i f := by
  unfold knewTo Now.knew Kv417.least
  rw [List.foldl_append]
  show List.foldl lesser _ _ = List.foldl lesser _ _
  congr 1
  split <;> rfl
theorem knewTo_yes {a : Now} {i f m : Nat} (h : brings a i f m = true) : knewTo a i f (m + 1) = lesser (knewTo a i f m) (a.comes m) := by
  unfold knewTo
  rw [List.range_succ, List.filter_append, List.map_append, List.foldl_append]
  simp [h]
theorem knewTo_no {a : Now} {i f m : Nat} (h : brings a i f m = false) : knewTo a i f (m + 1) = knewTo a i f m := by
  unfold knewTo
  rw [List.range_succ, List.filter_append, List.map_append, List.foldl_append]
  simp [h]
/-- a clock's number that is told -/
structure OkT (q : Q) : Prop where
  b : B 3256443 8019 q
  low : Low q
theorem OkC.t {q : Q} (h : OkC q) : OkT q := ⟨h.b.mono (by decide) (by decide), h.low⟩
theorem sum_B {a : Station} {p : Point} (h : OkS a) (hp : OkP p) : B (2 ^ 40) (2 ^ 40) ((a.hears p).add (a.till p)) := (add_B (hears_B h hp) (till_B h hp)).mono (by decide) (by decide)
theorem dif_B {a : Station} {p : Point} (h : OkS a) (hp : OkP p) : B (2 ^ 40) (2 ^ 40) ((a.hears p).sub (a.till p)) := (sub_B (hears_B h hp) (till_B h hp)).mono (by decide) (by decide)
theorem own1_B {a : Station} {p : Point} (h : OkS a) (hp : OkP p) : B (2 ^ 50) (2 ^ 50) (a.own p).1 := (mul_B (sum_B h hp) (show B 1 2 ⟨1, 2⟩ from ⟨by decide, by decide, by decide⟩)).mono (by decide) (by decide)
theorem own1_low {a : Station} {p : Point} (h : OkS a) (hp : OkP p) : Low (a.own p).1 := mul_low (sum_B h hp).pos (by decide)
theorem own2_low {a : Station} {p : Point} (h : OkS a) (hp : OkP p) : Low (a.own p).2 := mul_low (dif_B h hp).pos (by decide)
end Ma
namespace Ma
open Kv417Neutral (asked1 step row natural)
open Kv417 (Abs)
theorem nat_of {z : Int} (h : natural z 32 = true) : 0 ≤ z := by
  unfold natural at h
  rw [Bool.and_eq_true] at h
  exact of_decide_eq_true h.1

theorem ask_1 {x y z u : Int} (h : asked1 [[1, x, y, z, u]] = true) : 0 ≤ z ∧ 0 ≤ u := by
  have h2 : (decide (-2147483648 ≤ x) && decide (x ≤ 2147483647) && decide (-2147483648 ≤ y) && decide (y ≤ 2147483647) && natural z 32 && natural u 32) = true := h
  simp only [Bool.and_eq_true] at h2
  obtain ⟨⟨⟨⟨⟨p0, p1⟩, p2⟩, p3⟩, p4⟩, p5⟩ := h2
  exact ⟨nat_of p4, nat_of p5⟩
theorem step_1 {x y z u : Int} (a : Abs) : step (some a) [[1, x, y, z, u]] = (some (a.does (.station x y z.toNat u.toNat)).1, row (a.does (.station x y z.toNat u.toNat)).2) := rfl
theorem none_1 {x y z u : Int} : step none [[1, x, y, z, u]] = (none, [-11]) := rfl
theorem ask_2 {x y z : Int} (h : asked1 [[2, x, y, z]] = true) : 0 ≤ x ∧ 0 ≤ z := by
  have h2 : (natural x 32 && decide (-2147483648 ≤ y) && decide (y ≤ 2147483647) && natural z 32) = true := h
  simp only [Bool.and_eq_true] at h2
  obtain ⟨⟨⟨p0, p1⟩, p2⟩, p3⟩ := h2
  exact ⟨nat_of p0, nat_of p3⟩
theorem step_2 {x y z : Int} (a : Abs) : step (some a) [[2, x, y, z]] = (some (a.does (.fact x.toNat y z.toNat)).1, row (a.does (.fact x.toNat y z.toNat)).2) := rfl
theorem none_2 {x y z : Int} : step none [[2, x, y, z]] = (none, [-11]) := rfl
theorem ask_3 {x y z u : Int} (h : asked1 [[3, x, y, z, u]] = true) : 0 ≤ x ∧ 0 ≤ y ∧ 0 ≤ u := by
  have h2 : (natural x 32 && natural y 32 && decide (-2147483648 ≤ z) && decide (z ≤ 2147483647) && natural u 32) = true := h
  simp only [Bool.and_eq_true] at h2
  obtain ⟨⟨⟨⟨p0, p1⟩, p2⟩, p3⟩, p4⟩ := h2
  exact ⟨nat_of p0, nat_of p1, nat_of p4⟩
theorem step_3 {x y z u : Int} (a : Abs) : step (some a) [[3, x, y, z, u]] = (some (a.does (.letter x.toNat y.toNat z u.toNat)).1, row (a.does (.letter x.toNat y.toNat z u.toNat)).2) := rfl
theorem none_3 {x y z u : Int} : step none [[3, x, y, z, u]] = (none, [-11]) := rfl
theorem step_4 (a : Abs) : step (some a) [[4]] = (some (a.does .unfact).1, row (a.does .unfact).2) := rfl
theorem none_4 : step none [[4]] = (none, [-11]) := rfl
theorem step_5 (a : Abs) : step (some a) [[5]] = (some (a.does .unletter).1, row (a.does .unletter).2) := rfl
theorem none_5 : step none [[5]] = (none, [-11]) := rfl
theorem ask_6 {x y z u : Int} (h : asked1 [[6, x, y, z, u]] = true) : 0 ≤ x ∧ 0 ≤ y ∧ 0 ≤ u := by
  have h2 : (natural x 32 && natural y 32 && decide (-2147483648 ≤ z) && decide (z ≤ 2147483647) && natural u 32) = true := h
  simp only [Bool.and_eq_true] at h2
  obtain ⟨⟨⟨⟨p0, p1⟩, p2⟩, p3⟩, p4⟩ := h2
  exact ⟨nat_of p0, nat_of p1, nat_of p4⟩
theorem step_6 {x y z u : Int} (a : Abs) : step (some a) [[6, x, y, z, u]] = (some (a.does (.claim x.toNat y.toNat z u.toNat)).1, row (a.does (.claim x.toNat y.toNat z u.toNat)).2) := rfl
theorem none_6 {x y z u : Int} : step none [[6, x, y, z, u]] = (none, [-11]) := rfl
theorem ask_7 {x : Int} (h : asked1 [[7, x]] = true) : 0 ≤ x := by
  have h2 : (natural x 32) = true := h
  have p0 := h2
  exact nat_of p0
theorem step_7 {x : Int} (a : Abs) : step (some a) [[7, x]] = (some (a.does (.is x.toNat)).1, row (a.does (.is x.toNat)).2) := rfl
theorem none_7 {x : Int} : step none [[7, x]] = (none, [-11]) := rfl
theorem ask_8 {x : Int} (h : asked1 [[8, x]] = true) : 0 ≤ x := by
  have h2 : (natural x 32) = true := h
  have p0 := h2
  exact nat_of p0
theorem step_8 {x : Int} (a : Abs) : step (some a) [[8, x]] = (some (a.does (.factis x.toNat)).1, row (a.does (.factis x.toNat)).2) := rfl
theorem none_8 {x : Int} : step none [[8, x]] = (none, [-11]) := rfl
theorem ask_9 {x : Int} (h : asked1 [[9, x]] = true) : 0 ≤ x := by
  have h2 : (natural x 32) = true := h
  have p0 := h2
  exact nat_of p0
theorem step_9 {x : Int} (a : Abs) : step (some a) [[9, x]] = (some (a.does (.letteris x.toNat)).1, row (a.does (.letteris x.toNat)).2) := rfl
theorem none_9 {x : Int} : step none [[9, x]] = (none, [-11]) := rfl
theorem ask_10 {x : Int} (h : asked1 [[10, x]] = true) : 0 ≤ x := by
  have h2 : (natural x 32) = true := h
  have p0 := h2
  exact nat_of p0
theorem step_10 {x : Int} (a : Abs) : step (some a) [[10, x]] = (some (a.does (.where_ x.toNat)).1, row (a.does (.where_ x.toNat)).2) := rfl
theorem none_10 {x : Int} : step none [[10, x]] = (none, [-11]) := rfl
theorem ask_11 {x : Int} (h : asked1 [[11, x]] = true) : 0 ≤ x := by
  have h2 : (natural x 32) = true := h
  have p0 := h2
  exact nat_of p0
theorem step_11 {x : Int} (a : Abs) : step (some a) [[11, x]] = (some (a.does (.comes x.toNat)).1, row (a.does (.comes x.toNat)).2) := rfl
theorem none_11 {x : Int} : step none [[11, x]] = (none, [-11]) := rfl
theorem ask_12 {x : Int} (h : asked1 [[12, x]] = true) : 0 ≤ x := by
  have h2 : (natural x 32) = true := h
  have p0 := h2
  exact nat_of p0
theorem step_12 {x : Int} (a : Abs) : step (some a) [[12, x]] = (some (a.does (.in_ x.toNat)).1, row (a.does (.in_ x.toNat)).2) := rfl
theorem none_12 {x : Int} : step none [[12, x]] = (none, [-11]) := rfl
theorem ask_13 {x y z : Int} (h : asked1 [[13, x, y, z]] = true) : 0 ≤ x ∧ 0 ≤ z := by
  have h2 : (natural x 32 && decide (-2147483648 ≤ y) && decide (y ≤ 2147483647) && natural z 32) = true := h
  simp only [Bool.and_eq_true] at h2
  obtain ⟨⟨⟨p0, p1⟩, p2⟩, p3⟩ := h2
  exact ⟨nat_of p0, nat_of p3⟩
theorem step_13 {x y z : Int} (a : Abs) : step (some a) [[13, x, y, z]] = (some (a.does (.known x.toNat y z.toNat)).1, row (a.does (.known x.toNat y z.toNat)).2) := rfl
theorem none_13 {x y z : Int} : step none [[13, x, y, z]] = (none, [-11]) := rfl
theorem ask_14 {x y z : Int} (h : asked1 [[14, x, y, z]] = true) : 0 ≤ x ∧ 0 ≤ z := by
  have h2 : (natural x 32 && decide (-2147483648 ≤ y) && decide (y ≤ 2147483647) && natural z 32) = true := h
  simp only [Bool.and_eq_true] at h2
  obtain ⟨⟨⟨p0, p1⟩, p2⟩, p3⟩ := h2
  exact ⟨nat_of p0, nat_of p3⟩
theorem step_14 {x y z : Int} (a : Abs) : step (some a) [[14, x, y, z]] = (some (a.does (.could x.toNat y z.toNat)).1, row (a.does (.could x.toNat y z.toNat)).2) := rfl
theorem none_14 {x y z : Int} : step none [[14, x, y, z]] = (none, [-11]) := rfl
theorem ask_15 {x y : Int} (h : asked1 [[15, x, y]] = true) : 0 ≤ x ∧ 0 ≤ y := by
  have h2 : (natural x 32 && natural y 32) = true := h
  simp only [Bool.and_eq_true] at h2
  obtain ⟨p0, p1⟩ := h2
  exact ⟨nat_of p0, nat_of p1⟩
theorem step_15 {x y : Int} (a : Abs) : step (some a) [[15, x, y]] = (some (a.does (.first x.toNat y.toNat)).1, row (a.does (.first x.toNat y.toNat)).2) := rfl
theorem none_15 {x y : Int} : step none [[15, x, y]] = (none, [-11]) := rfl
theorem ask_16 {x y : Int} (h : asked1 [[16, x, y]] = true) : 0 ≤ x ∧ 0 ≤ y := by
  have h2 : (natural x 32 && natural y 32) = true := h
  simp only [Bool.and_eq_true] at h2
  obtain ⟨p0, p1⟩ := h2
  exact ⟨nat_of p0, nat_of p1⟩
theorem step_16 {x y : Int} (a : Abs) : step (some a) [[16, x, y]] = (some (a.does (.knew x.toNat y.toNat)).1, row (a.does (.knew x.toNat y.toNat)).2) := rfl
theorem none_16 {x y : Int} : step none [[16, x, y]] = (none, [-11]) := rfl
theorem ask_17 {x y : Int} (h : asked1 [[17, x, y]] = true) : 0 ≤ x ∧ 0 ≤ y := by
  have h2 : (natural x 32 && natural y 32) = true := h
  simp only [Bool.and_eq_true] at h2
  obtain ⟨p0, p1⟩ := h2
  exact ⟨nat_of p0, nat_of p1⟩
theorem step_17 {x y : Int} (a : Abs) : step (some a) [[17, x, y]] = (some (a.does (.late x.toNat y.toNat)).1, row (a.does (.late x.toNat y.toNat)).2) := rfl
theorem none_17 {x y : Int} : step none [[17, x, y]] = (none, [-11]) := rfl
theorem ask_18 {x y : Int} (h : asked1 [[18, x, y]] = true) : 0 ≤ x ∧ 0 ≤ y := by
  have h2 : (natural x 32 && natural y 32) = true := h
  simp only [Bool.and_eq_true] at h2
  obtain ⟨p0, p1⟩ := h2
  exact ⟨nat_of p0, nat_of p1⟩
theorem step_18 {x y : Int} (a : Abs) : step (some a) [[18, x, y]] = (some (a.does (.own x.toNat y.toNat)).1, row (a.does (.own x.toNat y.toNat)).2) := rfl
theorem none_18 {x y : Int} : step none [[18, x, y]] = (none, [-11]) := rfl
theorem ask_19 {x y z : Int} (h : asked1 [[19, x, y, z]] = true) : 0 ≤ x ∧ 0 ≤ y ∧ 0 ≤ z := by
  have h2 : (natural x 32 && natural y 32 && natural z 32) = true := h
  simp only [Bool.and_eq_true] at h2
  obtain ⟨⟨p0, p1⟩, p2⟩ := h2
  exact ⟨nat_of p0, nat_of p1, nat_of p2⟩
theorem step_19 {x y z : Int} (a : Abs) : step (some a) [[19, x, y, z]] = (some (a.does (.sooner x.toNat y.toNat z.toNat)).1, row (a.does (.sooner x.toNat y.toNat z.toNat)).2) := rfl
theorem none_19 {x y z : Int} : step none [[19, x, y, z]] = (none, [-11]) := rfl
theorem ask_20 {x y : Int} (h : asked1 [[20, x, y]] = true) : 0 ≤ x ∧ 0 ≤ y := by
  have h2 : (natural x 32 && natural y 32) = true := h
  simp only [Bool.and_eq_true] at h2
  obtain ⟨p0, p1⟩ := h2
  exact ⟨nat_of p0, nat_of p1⟩
theorem step_20 {x y : Int} (a : Abs) : step (some a) [[20, x, y]] = (some (a.does (.heard x.toNat y.toNat)).1, row (a.does (.heard x.toNat y.toNat)).2) := rfl
theorem none_20 {x y : Int} : step none [[20, x, y]] = (none, [-11]) := rfl
theorem ask_21 {x : Int} (h : asked1 [[21, x]] = true) : 0 ≤ x := by
  have h2 : (natural x 32) = true := h
  have p0 := h2
  exact nat_of p0
theorem step_21 {x : Int} (a : Abs) : step (some a) [[21, x]] = (some (a.does (.never x.toNat)).1, row (a.does (.never x.toNat)).2) := rfl
theorem none_21 {x : Int} : step none [[21, x]] = (none, [-11]) := rfl
theorem step_22 (a : Abs) : step (some a) [[22]] = (some (a.does .book).1, row (a.does .book).2) := rfl
theorem none_22 : step none [[22]] = (none, [-11]) := rfl
theorem step_23 (a : Abs) : step (some a) [[23]] = (some (a.does .back).1, row (a.does .back).2) := rfl
theorem none_23 : step none [[23]] = (none, [-11]) := rfl
theorem step_24 (a : Abs) : step (some a) [[24]] = (some (a.does .state).1, row (a.does .state).2) := rfl
theorem none_24 : step none [[24]] = (none, [-11]) := rfl
theorem step_0 (s : Kv417.State) : step s [[0]] = (some ⟨⟨[], [], [], 0, 0⟩, []⟩, [0]) := by
  cases s <;> rfl
end Ma
namespace Py
open PySem PySem.Spec PyProof.Rows L2
/-! ### the text by places -/
def top (i : Nat) : Stmt := PySem.Challenge.pw_whohearddesk_s01_answers.main.body.getD i (.Pass ⟨0, 0, 0, 0⟩)
abbrev si_Fact : Stmt := inClass (top 2) 0
theorem sci_Fact : FnScope ["self", "station", "when", "point"] ["self", "station", "when", "point"] (defScope si_Fact) := ⟨rfl, rfl, rfl, by decide +kernel, rfl, by decide +kernel, by decide +kernel⟩
abbrev si_Letter : Stmt := inClass (top 3) 0
theorem sci_Letter : FnScope ["self", "sender", "receiver", "sent", "arrives"] ["self", "sender", "receiver", "sent", "arrives"] (defScope si_Letter) := ⟨rfl, rfl, rfl, by decide +kernel, rfl, by decide +kernel, by decide +kernel⟩
abbrev si_State : Stmt := inClass (top 4) 0
theorem sci_State : FnScope ["self", "station", "when", "point"] ["self"] (defScope si_State) := ⟨rfl, rfl, rfl, by decide +kernel, rfl, by decide +kernel, by decide +kernel⟩
abbrev si_Desk : Stmt := inClass (top 5) 0
theorem sci_Desk : FnScope ["self", "station", "when", "point"] ["self"] (defScope si_Desk) := ⟨rfl, rfl, rfl, by decide +kernel, rfl, by decide +kernel, by decide +kernel⟩
abbrev si_Point : Stmt := inClass (top 27) 0
theorem sci_Point : FnScope ["self", "minus", "plus"] ["self", "minus", "plus"] (defScope si_Point) := ⟨rfl, rfl, rfl, by decide +kernel, rfl, by decide +kernel, by decide +kernel⟩
abbrev si_Station : Stmt := inClass (top 28) 0
theorem sci_Station : FnScope ["self", "time", "place", "factor"] ["self", "time", "place", "factor"] (defScope si_Station) := ⟨rfl, rfl, rfl, by decide +kernel, rfl, by decide +kernel, by decide +kernel⟩
abbrev s_copy_of : Stmt := top 6
abbrev N_copy_of : List Str := ["state", "new"]
theorem sc_copy_of : FnScope N_copy_of ["state"] (defScope s_copy_of) := ⟨rfl, rfl, rfl, by decide +kernel, rfl, by decide +kernel, by decide +kernel⟩
abbrev s_start_change : Stmt := top 7
abbrev N_start_change : List Str := ["desk"]
theorem sc_start_change : FnScope N_start_change ["desk"] (defScope s_start_change) := ⟨rfl, rfl, rfl, by decide +kernel, rfl, by decide +kernel, by decide +kernel⟩
abbrev s_take_back : Stmt := top 8
abbrev N_take_back : List Str := ["desk"]
theorem sc_take_back : FnScope N_take_back ["desk"] (defScope s_take_back) := ⟨rfl, rfl, rfl, by decide +kernel, rfl, by decide +kernel, by decide +kernel⟩
abbrev s_has_station : Stmt := top 9
abbrev N_has_station : List Str := ["state", "i"]
theorem sc_has_station : FnScope N_has_station ["state", "i"] (defScope s_has_station) := ⟨rfl, rfl, rfl, by decide +kernel, rfl, by decide +kernel, by decide +kernel⟩
abbrev s_has_fact : Stmt := top 10
abbrev N_has_fact : List Str := ["state", "f"]
theorem sc_has_fact : FnScope N_has_fact ["state", "f"] (defScope s_has_fact) := ⟨rfl, rfl, rfl, by decide +kernel, rfl, by decide +kernel, by decide +kernel⟩
abbrev s_has_letter : Stmt := top 11
abbrev N_has_letter : List Str := ["state", "m"]
theorem sc_has_letter : FnScope N_has_letter ["state", "m"] (defScope s_has_letter) := ⟨rfl, rfl, rfl, by decide +kernel, rfl, by decide +kernel, by decide +kernel⟩
abbrev s_common_divisor : Stmt := top 13
abbrev N_common_divisor : List Str := ["a", "b", "great", "small", "rest"]
theorem sc_common_divisor : FnScope N_common_divisor ["a", "b"] (defScope s_common_divisor) := ⟨rfl, rfl, rfl, by decide +kernel, rfl, by decide +kernel, by decide +kernel⟩
abbrev s_fraction : Stmt := top 14
abbrev N_fraction : List Str := ["n", "d", "shared"]
theorem sc_fraction : FnScope N_fraction ["n", "d"] (defScope s_fraction) := ⟨rfl, rfl, rfl, by decide +kernel, rfl, by decide +kernel, by decide +kernel⟩
abbrev s_add : Stmt := top 15
abbrev N_add : List Str := ["a", "b"]
theorem sc_add : FnScope N_add ["a", "b"] (defScope s_add) := ⟨rfl, rfl, rfl, by decide +kernel, rfl, by decide +kernel, by decide +kernel⟩
abbrev s_subtract : Stmt := top 16
abbrev N_subtract : List Str := ["a", "b"]
theorem sc_subtract : FnScope N_subtract ["a", "b"] (defScope s_subtract) := ⟨rfl, rfl, rfl, by decide +kernel, rfl, by decide +kernel, by decide +kernel⟩
abbrev s_multiply : Stmt := top 17
abbrev N_multiply : List Str := ["a", "b"]
theorem sc_multiply : FnScope N_multiply ["a", "b"] (defScope s_multiply) := ⟨rfl, rfl, rfl, by decide +kernel, rfl, by decide +kernel, by decide +kernel⟩
abbrev s_divide : Stmt := top 18
abbrev N_divide : List Str := ["a", "b"]
theorem sc_divide : FnScope N_divide ["a", "b"] (defScope s_divide) := ⟨rfl, rfl, rfl, by decide +kernel, rfl, by decide +kernel, by decide +kernel⟩
abbrev s_half : Stmt := top 19
abbrev N_half : List Str := ["a"]
theorem sc_half : FnScope N_half ["a"] (defScope s_half) := ⟨rfl, rfl, rfl, by decide +kernel, rfl, by decide +kernel, by decide +kernel⟩
abbrev s_at_most : Stmt := top 20
abbrev N_at_most : List Str := ["a", "b"]
theorem sc_at_most : FnScope N_at_most ["a", "b"] (defScope s_at_most) := ⟨rfl, rfl, rfl, by decide +kernel, rfl, by decide +kernel, by decide +kernel⟩
abbrev s_greater_of : Stmt := top 21
abbrev N_greater_of : List Str := ["a", "b"]
theorem sc_greater_of : FnScope N_greater_of ["a", "b"] (defScope s_greater_of) := ⟨rfl, rfl, rfl, by decide +kernel, rfl, by decide +kernel, by decide +kernel⟩
abbrev s_lesser_of : Stmt := top 22
abbrev N_lesser_of : List Str := ["a", "b"]
theorem sc_lesser_of : FnScope N_lesser_of ["a", "b"] (defScope s_lesser_of) := ⟨rfl, rfl, rfl, by decide +kernel, rfl, by decide +kernel, by decide +kernel⟩
abbrev s_start_of : Stmt := top 29
abbrev N_start_of : List Str := ["station", "minus", "plus"]
theorem sc_start_of : FnScope N_start_of ["station"] (defScope s_start_of) := ⟨rfl, rfl, rfl, by decide +kernel, rfl, by decide +kernel, by decide +kernel⟩
abbrev s_point_at : Stmt := top 30
abbrev N_point_at : List Str := ["station", "clock", "start", "minus", "plus"]
theorem sc_point_at : FnScope N_point_at ["station", "clock"] (defScope s_point_at) := ⟨rfl, rfl, rfl, by decide +kernel, rfl, by decide +kernel, by decide +kernel⟩
abbrev s_clock_by_minus : Stmt := top 31
abbrev N_clock_by_minus : List Str := ["station", "point", "gone"]
theorem sc_clock_by_minus : FnScope N_clock_by_minus ["station", "point"] (defScope s_clock_by_minus) := ⟨rfl, rfl, rfl, by decide +kernel, rfl, by decide +kernel, by decide +kernel⟩
abbrev s_clock_by_plus : Stmt := top 32
abbrev N_clock_by_plus : List Str := ["station", "point", "gone"]
theorem sc_clock_by_plus : FnScope N_clock_by_plus ["station", "point"] (defScope s_clock_by_plus) := ⟨rfl, rfl, rfl, by decide +kernel, rfl, by decide +kernel, by decide +kernel⟩
abbrev s_hears : Stmt := top 33
abbrev N_hears : List Str := ["station", "point"]
theorem sc_hears : FnScope N_hears ["station", "point"] (defScope s_hears) := ⟨rfl, rfl, rfl, by decide +kernel, rfl, by decide +kernel, by decide +kernel⟩
abbrev s_till : Stmt := top 34
abbrev N_till : List Str := ["station", "point"]
theorem sc_till : FnScope N_till ["station", "point"] (defScope s_till) := ⟨rfl, rfl, rfl, by decide +kernel, rfl, by decide +kernel, by decide +kernel⟩
abbrev s_own_time : Stmt := top 35
abbrev N_own_time : List Str := ["station", "point"]
theorem sc_own_time : FnScope N_own_time ["station", "point"] (defScope s_own_time) := ⟨rfl, rfl, rfl, by decide +kernel, rfl, by decide +kernel, by decide +kernel⟩
abbrev s_own_place : Stmt := top 36
abbrev N_own_place : List Str := ["station", "point"]
theorem sc_own_place : FnScope N_own_place ["station", "point"] (defScope s_own_place) := ⟨rfl, rfl, rfl, by decide +kernel, rfl, by decide +kernel, by decide +kernel⟩
abbrev s_side : Stmt := top 37
abbrev N_side : List Str := ["station", "point", "by_minus", "by_plus"]
theorem sc_side : FnScope N_side ["station", "point"] (defScope s_side) := ⟨rfl, rfl, rfl, by decide +kernel, rfl, by decide +kernel, by decide +kernel⟩
abbrev s_can_have_heard : Stmt := top 38
abbrev N_can_have_heard : List Str := ["point", "other"]
theorem sc_can_have_heard : FnScope N_can_have_heard ["point", "other"] (defScope s_can_have_heard) := ⟨rfl, rfl, rfl, by decide +kernel, rfl, by decide +kernel, by decide +kernel⟩
abbrev s_time_of : Stmt := top 39
abbrev N_time_of : List Str := ["point"]
theorem sc_time_of : FnScope N_time_of ["point"] (defScope s_time_of) := ⟨rfl, rfl, rfl, by decide +kernel, rfl, by decide +kernel, by decide +kernel⟩
abbrev s_place_of : Stmt := top 40
abbrev N_place_of : List Str := ["point"]
theorem sc_place_of : FnScope N_place_of ["point"] (defScope s_place_of) := ⟨rfl, rfl, rfl, by decide +kernel, rfl, by decide +kernel, by decide +kernel⟩
abbrev s_moments_behind : Stmt := top 42
abbrev N_moments_behind : List Str := ["state", "station", "clock", "followed", "moments", "place", "moment", "m", "letter"]
theorem sc_moments_behind : FnScope N_moments_behind ["state", "station", "clock"] (defScope s_moments_behind) := ⟨rfl, rfl, rfl, by decide +kernel, rfl, by decide +kernel, by decide +kernel⟩
abbrev s_has_come : Stmt := top 43
abbrev N_has_come : List Str := ["letter", "moment"]
theorem sc_has_come : FnScope N_has_come ["letter", "moment"] (defScope s_has_come) := ⟨rfl, rfl, rfl, by decide +kernel, rfl, by decide +kernel, by decide +kernel⟩
abbrev s_came_to_be : Stmt := top 44
abbrev N_came_to_be : List Str := ["fact", "moment"]
theorem sc_came_to_be : FnScope N_came_to_be ["fact", "moment"] (defScope s_came_to_be) := ⟨rfl, rfl, rfl, by decide +kernel, rfl, by decide +kernel, by decide +kernel⟩
abbrev s_facts_known : Stmt := top 45
abbrev N_facts_known : List Str := ["state", "station", "clock", "moments", "known", "f", "fact", "moment"]
theorem sc_facts_known : FnScope N_facts_known ["state", "station", "clock"] (defScope s_facts_known) := ⟨rfl, rfl, rfl, by decide +kernel, rfl, by decide +kernel, by decide +kernel⟩
abbrev s_first_known : Stmt := top 46
abbrev N_first_known : List Str := ["state", "station", "f", "fact", "least", "letter"]
theorem sc_first_known : FnScope N_first_known ["state", "station", "f"] (defScope s_first_known) := ⟨rfl, rfl, rfl, by decide +kernel, rfl, by decide +kernel, by decide +kernel⟩
abbrev s_first_heard : Stmt := top 47
abbrev N_first_heard : List Str := ["state", "station", "f"]
theorem sc_first_heard : FnScope N_first_heard ["state", "station", "f"] (defScope s_first_heard) := ⟨rfl, rfl, rfl, by decide +kernel, rfl, by decide +kernel, by decide +kernel⟩
abbrev s_could_know : Stmt := top 48
abbrev N_could_know : List Str := ["state", "station", "f", "clock"]
theorem sc_could_know : FnScope N_could_know ["state", "station", "f", "clock"] (defScope s_could_know) := ⟨rfl, rfl, rfl, by decide +kernel, rfl, by decide +kernel, by decide +kernel⟩
abbrev s_is_near : Stmt := top 54
abbrev N_is_near : List Str := ["number"]
theorem sc_is_near : FnScope N_is_near ["number"] (defScope s_is_near) := ⟨rfl, rfl, rfl, by decide +kernel, rfl, by decide +kernel, by decide +kernel⟩
abbrev s_is_factor_part : Stmt := top 55
abbrev N_is_factor_part : List Str := ["number"]
theorem sc_is_factor_part : FnScope N_is_factor_part ["number"] (defScope s_is_factor_part) := ⟨rfl, rfl, rfl, by decide +kernel, rfl, by decide +kernel, by decide +kernel⟩
abbrev s_is_clock_number : Stmt := top 56
abbrev N_is_clock_number : List Str := ["n", "d"]
theorem sc_is_clock_number : FnScope N_is_clock_number ["n", "d"] (defScope s_is_clock_number) := ⟨rfl, rfl, rfl, by decide +kernel, rfl, by decide +kernel, by decide +kernel⟩
abbrev s_begin : Stmt := top 70
abbrev N_begin : List Str := ["desk"]
theorem sc_begin : FnScope N_begin ["desk"] (defScope s_begin) := ⟨rfl, rfl, rfl, by decide +kernel, rfl, by decide +kernel, by decide +kernel⟩
abbrev s_back : Stmt := top 71
abbrev N_back : List Str := ["desk"]
theorem sc_back : FnScope N_back ["desk"] (defScope s_back) := ⟨rfl, rfl, rfl, by decide +kernel, rfl, by decide +kernel, by decide +kernel⟩
abbrev s_station : Stmt := top 72
abbrev N_station : List Str := ["desk", "t", "x", "p", "q", "state"]
theorem sc_station : FnScope N_station ["desk", "t", "x", "p", "q"] (defScope s_station) := ⟨rfl, rfl, rfl, by decide +kernel, rfl, by decide +kernel, by decide +kernel⟩
abbrev s_fact : Stmt := top 73
abbrev N_fact : List Str := ["desk", "i", "n", "d", "state", "when"]
theorem sc_fact : FnScope N_fact ["desk", "i", "n", "d"] (defScope s_fact) := ⟨rfl, rfl, rfl, by decide +kernel, rfl, by decide +kernel, by decide +kernel⟩
abbrev s_letter : Stmt := top 74
abbrev N_letter : List Str := ["desk", "i", "j", "n", "d", "state", "sent", "arrives"]
theorem sc_letter : FnScope N_letter ["desk", "i", "j", "n", "d"] (defScope s_letter) := ⟨rfl, rfl, rfl, by decide +kernel, rfl, by decide +kernel, by decide +kernel⟩
abbrev s_unfact : Stmt := top 75
abbrev N_unfact : List Str := ["desk", "state"]
theorem sc_unfact : FnScope N_unfact ["desk"] (defScope s_unfact) := ⟨rfl, rfl, rfl, by decide +kernel, rfl, by decide +kernel, by decide +kernel⟩
abbrev s_unletter : Stmt := top 76
abbrev N_unletter : List Str := ["desk", "state"]
theorem sc_unletter : FnScope N_unletter ["desk"] (defScope s_unletter) := ⟨rfl, rfl, rfl, by decide +kernel, rfl, by decide +kernel, by decide +kernel⟩
abbrev s_judge : Stmt := top 77
abbrev N_judge : List Str := ["state", "i", "f", "clock"]
theorem sc_judge : FnScope N_judge ["state", "i", "f", "clock"] (defScope s_judge) := ⟨rfl, rfl, rfl, by decide +kernel, rfl, by decide +kernel, by decide +kernel⟩
abbrev s_claim : Stmt := top 78
abbrev N_claim : List Str := ["desk", "i", "f", "n", "d", "state", "verdict"]
theorem sc_claim : FnScope N_claim ["desk", "i", "f", "n", "d"] (defScope s_claim) := ⟨rfl, rfl, rfl, by decide +kernel, rfl, by decide +kernel, by decide +kernel⟩
abbrev s_is_station : Stmt := top 81
abbrev N_is_station : List Str := ["desk", "i", "station"]
theorem sc_is_station : FnScope N_is_station ["desk", "i"] (defScope s_is_station) := ⟨rfl, rfl, rfl, by decide +kernel, rfl, by decide +kernel, by decide +kernel⟩
abbrev s_factis : Stmt := top 82
abbrev N_factis : List Str := ["desk", "f", "fact"]
theorem sc_factis : FnScope N_factis ["desk", "f"] (defScope s_factis) := ⟨rfl, rfl, rfl, by decide +kernel, rfl, by decide +kernel, by decide +kernel⟩
abbrev s_letteris : Stmt := top 83
abbrev N_letteris : List Str := ["desk", "m", "letter"]
theorem sc_letteris : FnScope N_letteris ["desk", "m"] (defScope s_letteris) := ⟨rfl, rfl, rfl, by decide +kernel, rfl, by decide +kernel, by decide +kernel⟩
abbrev s_where : Stmt := top 84
abbrev N_where : List Str := ["desk", "f", "point"]
theorem sc_where : FnScope N_where ["desk", "f"] (defScope s_where) := ⟨rfl, rfl, rfl, by decide +kernel, rfl, by decide +kernel, by decide +kernel⟩
abbrev s_comes : Stmt := top 85
abbrev N_comes : List Str := ["desk", "m"]
theorem sc_comes : FnScope N_comes ["desk", "m"] (defScope s_comes) := ⟨rfl, rfl, rfl, by decide +kernel, rfl, by decide +kernel, by decide +kernel⟩
abbrev s_in_letter : Stmt := top 86
abbrev N_in_letter : List Str := ["desk", "m", "letter", "known"]
theorem sc_in_letter : FnScope N_in_letter ["desk", "m"] (defScope s_in_letter) := ⟨rfl, rfl, rfl, by decide +kernel, rfl, by decide +kernel, by decide +kernel⟩
abbrev s_state : Stmt := top 87
abbrev N_state : List Str := ["desk", "now"]
theorem sc_state : FnScope N_state ["desk"] (defScope s_state) := ⟨rfl, rfl, rfl, by decide +kernel, rfl, by decide +kernel, by decide +kernel⟩
abbrev s_counted : Stmt := top 90
abbrev N_counted : List Str := ["facts"]
theorem sc_counted : FnScope N_counted ["facts"] (defScope s_counted) := ⟨rfl, rfl, rfl, by decide +kernel, rfl, by decide +kernel, by decide +kernel⟩
abbrev s_has_both : Stmt := top 91
abbrev N_has_both : List Str := ["state", "i", "f"]
theorem sc_has_both : FnScope N_has_both ["state", "i", "f"] (defScope s_has_both) := ⟨rfl, rfl, rfl, by decide +kernel, rfl, by decide +kernel, by decide +kernel⟩
abbrev s_known : Stmt := top 92
abbrev N_known : List Str := ["desk", "i", "n", "d"]
theorem sc_known : FnScope N_known ["desk", "i", "n", "d"] (defScope s_known) := ⟨rfl, rfl, rfl, by decide +kernel, rfl, by decide +kernel, by decide +kernel⟩
abbrev s_could : Stmt := top 93
abbrev N_could : List Str := ["desk", "i", "n", "d", "state", "clock", "f"]
theorem sc_could : FnScope N_could ["desk", "i", "n", "d"] (defScope s_could) := ⟨rfl, rfl, rfl, by decide +kernel, rfl, by decide +kernel, by decide +kernel⟩
abbrev s_first : Stmt := top 94
abbrev N_first : List Str := ["desk", "i", "f"]
theorem sc_first : FnScope N_first ["desk", "i", "f"] (defScope s_first) := ⟨rfl, rfl, rfl, by decide +kernel, rfl, by decide +kernel, by decide +kernel⟩
abbrev s_knew : Stmt := top 95
abbrev N_knew : List Str := ["desk", "i", "f", "clock"]
theorem sc_knew : FnScope N_knew ["desk", "i", "f"] (defScope s_knew) := ⟨rfl, rfl, rfl, by decide +kernel, rfl, by decide +kernel, by decide +kernel⟩
abbrev s_late : Stmt := top 96
abbrev N_late : List Str := ["desk", "i", "f", "clock"]
theorem sc_late : FnScope N_late ["desk", "i", "f"] (defScope s_late) := ⟨rfl, rfl, rfl, by decide +kernel, rfl, by decide +kernel, by decide +kernel⟩
abbrev s_never : Stmt := top 97
abbrev N_never : List Str := ["desk", "i", "state", "f"]
theorem sc_never : FnScope N_never ["desk", "i"] (defScope s_never) := ⟨rfl, rfl, rfl, by decide +kernel, rfl, by decide +kernel, by decide +kernel⟩
abbrev s_own : Stmt := top 107
abbrev N_own : List Str := ["desk", "i", "f", "state", "station", "point"]
theorem sc_own : FnScope N_own ["desk", "i", "f"] (defScope s_own) := ⟨rfl, rfl, rfl, by decide +kernel, rfl, by decide +kernel, by decide +kernel⟩
abbrev s_sooner : Stmt := top 108
abbrev N_sooner : List Str := ["desk", "i", "f", "g", "state", "f_time", "g_time"]
theorem sc_sooner : FnScope N_sooner ["desk", "i", "f", "g"] (defScope s_sooner) := ⟨rfl, rfl, rfl, by decide +kernel, rfl, by decide +kernel, by decide +kernel⟩
abbrev s_heard : Stmt := top 109
abbrev N_heard : List Str := ["desk", "f", "g", "state", "f_point", "g_point", "by_second", "by_first"]
theorem sc_heard : FnScope N_heard ["desk", "f", "g"] (defScope s_heard) := ⟨rfl, rfl, rfl, by decide +kernel, rfl, by decide +kernel, by decide +kernel⟩
abbrev s_book : Stmt := top 110
abbrev N_book : List Str := ["desk"]
theorem sc_book : FnScope N_book ["desk"] (defScope s_book) := ⟨rfl, rfl, rfl, by decide +kernel, rfl, by decide +kernel, by decide +kernel⟩
abbrev s_answers : Stmt := top 115
abbrev N_answers : List Str := ["calls", "desk", "given", "place", "number", "behind", "answer"]
theorem sc_answers : FnScope N_answers ["calls"] (defScope s_answers) := ⟨rfl, rfl, rfl, by decide +kernel, rfl, by decide +kernel, by decide +kernel⟩
abbrev s_answer_to : Stmt := top 116
abbrev N_answer_to : List Str := ["desk", "number", "told"]
theorem sc_answer_to : FnScope N_answer_to ["desk", "number", "told"] (defScope s_answer_to) := ⟨rfl, rfl, rfl, by decide +kernel, rfl, by decide +kernel, by decide +kernel⟩
abbrev s_call_with : Stmt := top 117
abbrev N_call_with : List Str := ["call", "desk", "told"]
theorem sc_call_with : FnScope N_call_with ["call", "desk", "told"] (defScope s_call_with) := ⟨rfl, rfl, rfl, by decide +kernel, rfl, by decide +kernel, by decide +kernel⟩
/-! ### objects' fields -/
theorem lk_here {k : Str} {v : V} {r : List (Str × V)} : List.lookup k ((k, v) :: r) = some v := by
  have e : (k == k) = true := beq_self_eq_true k
  simp only [List.lookup, e]
theorem lk_past {k g : Str} {v : V} {r : List (Str × V)} (h : (k == g) = false) : List.lookup k ((g, v) :: r) = List.lookup k r := by
  simp only [List.lookup, h]
theorem put_here {f : Str} {v x : V} {r : List (Str × V)} : putF f v ((f, x) :: r) = (f, v) :: r := if_pos rfl
theorem put_past {f g : Str} {v x : V} {r : List (Str × V)} (h : ¬ g = f) : putF f v ((g, x) :: r) = (g, x) :: putF f v r := if_neg h
def fs_Fact (v_station v_when v_point : V) : List (Str × V) := [("station", v_station), ("when", v_when), ("point", v_point)]
theorem fs_Fact_station (v_station v_when v_point : V) : (fs_Fact v_station v_when v_point).lookup ("station" : Str) = some v_station := lk_here
theorem pf_Fact_station (v_station v_when v_point y : V) : putF "station" y (fs_Fact v_station v_when v_point) = fs_Fact y v_when v_point := put_here
theorem fs_Fact_when (v_station v_when v_point : V) : (fs_Fact v_station v_when v_point).lookup ("when" : Str) = some v_when := (lk_past (by decide +kernel)).trans (lk_here)
theorem pf_Fact_when (v_station v_when v_point y : V) : putF "when" y (fs_Fact v_station v_when v_point) = fs_Fact v_station y v_point := (put_past (by decide +kernel)).trans (congrArg _ (put_here))
theorem fs_Fact_point (v_station v_when v_point : V) : (fs_Fact v_station v_when v_point).lookup ("point" : Str) = some v_point := (lk_past (by decide +kernel)).trans ((lk_past (by decide +kernel)).trans (lk_here))
theorem pf_Fact_point (v_station v_when v_point y : V) : putF "point" y (fs_Fact v_station v_when v_point) = fs_Fact v_station v_when y := (put_past (by decide +kernel)).trans (congrArg _ ((put_past (by decide +kernel)).trans (congrArg _ (put_here))))
theorem mk_Fact (v_station v_when v_point : V) : (putF "point" v_point (putF "when" v_when (putF "station" v_station []))) = fs_Fact v_station v_when v_point := by
  rw [(show putF ("station" : Str) v_station (([] : List (Str × V)) : List (Str × V)) = ([("station", v_station)] : List (Str × V)) from rfl), (show putF ("when" : Str) v_when (([("station", v_station)] : List (Str × V)) : List (Str × V)) = ([("station", v_station), ("when", v_when)] : List (Str × V)) from (put_past (by decide +kernel)).trans (congrArg _ (rfl))), (show putF ("point" : Str) v_point (([("station", v_station), ("when", v_when)] : List (Str × V)) : List (Str × V)) = ([("station", v_station), ("when", v_when), ("point", v_point)] : List (Str × V)) from (put_past (by decide +kernel)).trans (congrArg _ ((put_past (by decide +kernel)).trans (congrArg _ (rfl)))))]
  all_goals rfl
def fs_Letter (v_sender v_receiver v_sent v_arrives : V) : List (Str × V) := [("sender", v_sender), ("receiver", v_receiver), ("sent", v_sent), ("arrives", v_arrives)]
theorem fs_Letter_sender (v_sender v_receiver v_sent v_arrives : V) : (fs_Letter v_sender v_receiver v_sent v_arrives).lookup ("sender" : Str) = some v_sender := lk_here
theorem pf_Letter_sender (v_sender v_receiver v_sent v_arrives y : V) : putF "sender" y (fs_Letter v_sender v_receiver v_sent v_arrives) = fs_Letter y v_receiver v_sent v_arrives := put_here
theorem fs_Letter_receiver (v_sender v_receiver v_sent v_arrives : V) : (fs_Letter v_sender v_receiver v_sent v_arrives).lookup ("receiver" : Str) = some v_receiver := (lk_past (by decide +kernel)).trans (lk_here)
theorem pf_Letter_receiver (v_sender v_receiver v_sent v_arrives y : V) : putF "receiver" y (fs_Letter v_sender v_receiver v_sent v_arrives) = fs_Letter v_sender y v_sent v_arrives := (put_past (by decide +kernel)).trans (congrArg _ (put_here))
theorem fs_Letter_sent (v_sender v_receiver v_sent v_arrives : V) : (fs_Letter v_sender v_receiver v_sent v_arrives).lookup ("sent" : Str) = some v_sent := (lk_past (by decide +kernel)).trans ((lk_past (by decide +kernel)).trans (lk_here))
theorem pf_Letter_sent (v_sender v_receiver v_sent v_arrives y : V) : putF "sent" y (fs_Letter v_sender v_receiver v_sent v_arrives) = fs_Letter v_sender v_receiver y v_arrives := (put_past (by decide +kernel)).trans (congrArg _ ((put_past (by decide +kernel)).trans (congrArg _ (put_here))))
theorem fs_Letter_arrives (v_sender v_receiver v_sent v_arrives : V) : (fs_Letter v_sender v_receiver v_sent v_arrives).lookup ("arrives" : Str) = some v_arrives := (lk_past (by decide +kernel)).trans ((lk_past (by decide +kernel)).trans ((lk_past (by decide +kernel)).trans (lk_here)))
theorem pf_Letter_arrives (v_sender v_receiver v_sent v_arrives y : V) : putF "arrives" y (fs_Letter v_sender v_receiver v_sent v_arrives) = fs_Letter v_sender v_receiver v_sent y := (put_past (by decide +kernel)).trans (congrArg _ ((put_past (by decide +kernel)).trans (congrArg _ ((put_past (by decide +kernel)).trans (congrArg _ (put_here))))))
theorem mk_Letter (v_sender v_receiver v_sent v_arrives : V) : (putF "arrives" v_arrives (putF "sent" v_sent (putF "receiver" v_receiver (putF "sender" v_sender [])))) = fs_Letter v_sender v_receiver v_sent v_arrives := by
  rw [(show putF ("sender" : Str) v_sender (([] : List (Str × V)) : List (Str × V)) = ([("sender", v_sender)] : List (Str × V)) from rfl), (show putF ("receiver" : Str) v_receiver (([("sender", v_sender)] : List (Str × V)) : List (Str × V)) = ([("sender", v_sender), ("receiver", v_receiver)] : List (Str × V)) from (put_past (by decide +kernel)).trans (congrArg _ (rfl))), (show putF ("sent" : Str) v_sent (([("sender", v_sender), ("receiver", v_receiver)] : List (Str × V)) : List (Str × V)) = ([("sender", v_sender), ("receiver", v_receiver), ("sent", v_sent)] : List (Str × V)) from (put_past (by decide +kernel)).trans (congrArg _ ((put_past (by decide +kernel)).trans (congrArg _ (rfl))))), (show putF ("arrives" : Str) v_arrives (([("sender", v_sender), ("receiver", v_receiver), ("sent", v_sent)] : List (Str × V)) : List (Str × V)) = ([("sender", v_sender), ("receiver", v_receiver), ("sent", v_sent), ("arrives", v_arrives)] : List (Str × V)) from (put_past (by decide +kernel)).trans (congrArg _ ((put_past (by decide +kernel)).trans (congrArg _ ((put_past (by decide +kernel)).trans (congrArg _ (rfl)))))))]
  all_goals rfl
def fs_State (v_stations v_facts v_letters v_claims v_impossible : V) : List (Str × V) := [("stations", v_stations), ("facts", v_facts), ("letters", v_letters), ("claims", v_claims), ("impossible", v_impossible)]
theorem fs_State_stations (v_stations v_facts v_letters v_claims v_impossible : V) : (fs_State v_stations v_facts v_letters v_claims v_impossible).lookup ("stations" : Str) = some v_stations := lk_here
theorem pf_State_stations (v_stations v_facts v_letters v_claims v_impossible y : V) : putF "stations" y (fs_State v_stations v_facts v_letters v_claims v_impossible) = fs_State y v_facts v_letters v_claims v_impossible := put_here
theorem fs_State_facts (v_stations v_facts v_letters v_claims v_impossible : V) : (fs_State v_stations v_facts v_letters v_claims v_impossible).lookup ("facts" : Str) = some v_facts := (lk_past (by decide +kernel)).trans (lk_here)
theorem pf_State_facts (v_stations v_facts v_letters v_claims v_impossible y : V) : putF "facts" y (fs_State v_stations v_facts v_letters v_claims v_impossible) = fs_State v_stations y v_letters v_claims v_impossible := (put_past (by decide +kernel)).trans (congrArg _ (put_here))
theorem fs_State_letters (v_stations v_facts v_letters v_claims v_impossible : V) : (fs_State v_stations v_facts v_letters v_claims v_impossible).lookup ("letters" : Str) = some v_letters := (lk_past (by decide +kernel)).trans ((lk_past (by decide +kernel)).trans (lk_here))
theorem pf_State_letters (v_stations v_facts v_letters v_claims v_impossible y : V) : putF "letters" y (fs_State v_stations v_facts v_letters v_claims v_impossible) = fs_State v_stations v_facts y v_claims v_impossible := (put_past (by decide +kernel)).trans (congrArg _ ((put_past (by decide +kernel)).trans (congrArg _ (put_here))))
theorem fs_State_claims (v_stations v_facts v_letters v_claims v_impossible : V) : (fs_State v_stations v_facts v_letters v_claims v_impossible).lookup ("claims" : Str) = some v_claims := (lk_past (by decide +kernel)).trans ((lk_past (by decide +kernel)).trans ((lk_past (by decide +kernel)).trans (lk_here)))
theorem pf_State_claims (v_stations v_facts v_letters v_claims v_impossible y : V) : putF "claims" y (fs_State v_stations v_facts v_letters v_claims v_impossible) = fs_State v_stations v_facts v_letters y v_impossible := (put_past (by decide +kernel)).trans (congrArg _ ((put_past (by decide +kernel)).trans (congrArg _ ((put_past (by decide +kernel)).trans (congrArg _ (put_here))))))
theorem fs_State_impossible (v_stations v_facts v_letters v_claims v_impossible : V) : (fs_State v_stations v_facts v_letters v_claims v_impossible).lookup ("impossible" : Str) = some v_impossible := (lk_past (by decide +kernel)).trans ((lk_past (by decide +kernel)).trans ((lk_past (by decide +kernel)).trans ((lk_past (by decide +kernel)).trans (lk_here))))
theorem pf_State_impossible (v_stations v_facts v_letters v_claims v_impossible y : V) : putF "impossible" y (fs_State v_stations v_facts v_letters v_claims v_impossible) = fs_State v_stations v_facts v_letters v_claims y := (put_past (by decide +kernel)).trans (congrArg _ ((put_past (by decide +kernel)).trans (congrArg _ ((put_past (by decide +kernel)).trans (congrArg _ ((put_past (by decide +kernel)).trans (congrArg _ (put_here))))))))
theorem mk_State (v_stations v_facts v_letters v_claims v_impossible : V) : (putF "impossible" v_impossible (putF "claims" v_claims (putF "letters" v_letters (putF "facts" v_facts (putF "stations" v_stations []))))) = fs_State v_stations v_facts v_letters v_claims v_impossible := by
  rw [(show putF ("stations" : Str) v_stations (([] : List (Str × V)) : List (Str × V)) = ([("stations", v_stations)] : List (Str × V)) from rfl), (show putF ("facts" : Str) v_facts (([("stations", v_stations)] : List (Str × V)) : List (Str × V)) = ([("stations", v_stations), ("facts", v_facts)] : List (Str × V)) from (put_past (by decide +kernel)).trans (congrArg _ (rfl))), (show putF ("letters" : Str) v_letters (([("stations", v_stations), ("facts", v_facts)] : List (Str × V)) : List (Str × V)) = ([("stations", v_stations), ("facts", v_facts), ("letters", v_letters)] : List (Str × V)) from (put_past (by decide +kernel)).trans (congrArg _ ((put_past (by decide +kernel)).trans (congrArg _ (rfl))))), (show putF ("claims" : Str) v_claims (([("stations", v_stations), ("facts", v_facts), ("letters", v_letters)] : List (Str × V)) : List (Str × V)) = ([("stations", v_stations), ("facts", v_facts), ("letters", v_letters), ("claims", v_claims)] : List (Str × V)) from (put_past (by decide +kernel)).trans (congrArg _ ((put_past (by decide +kernel)).trans (congrArg _ ((put_past (by decide +kernel)).trans (congrArg _ (rfl))))))), (show putF ("impossible" : Str) v_impossible (([("stations", v_stations), ("facts", v_facts), ("letters", v_letters), ("claims", v_claims)] : List (Str × V)) : List (Str × V)) = ([("stations", v_stations), ("facts", v_facts), ("letters", v_letters), ("claims", v_claims), ("impossible", v_impossible)] : List (Str × V)) from (put_past (by decide +kernel)).trans (congrArg _ ((put_past (by decide +kernel)).trans (congrArg _ ((put_past (by decide +kernel)).trans (congrArg _ ((put_past (by decide +kernel)).trans (congrArg _ (rfl)))))))))]
  all_goals rfl
def fs_Desk (v_state v_past : V) : List (Str × V) := [("state", v_state), ("past", v_past)]
theorem fs_Desk_state (v_state v_past : V) : (fs_Desk v_state v_past).lookup ("state" : Str) = some v_state := lk_here
theorem pf_Desk_state (v_state v_past y : V) : putF "state" y (fs_Desk v_state v_past) = fs_Desk y v_past := put_here
theorem fs_Desk_past (v_state v_past : V) : (fs_Desk v_state v_past).lookup ("past" : Str) = some v_past := (lk_past (by decide +kernel)).trans (lk_here)
theorem pf_Desk_past (v_state v_past y : V) : putF "past" y (fs_Desk v_state v_past) = fs_Desk v_state y := (put_past (by decide +kernel)).trans (congrArg _ (put_here))
theorem mk_Desk (v_state v_past : V) : (putF "past" v_past (putF "state" v_state [])) = fs_Desk v_state v_past := by
  rw [(show putF ("state" : Str) v_state (([] : List (Str × V)) : List (Str × V)) = ([("state", v_state)] : List (Str × V)) from rfl), (show putF ("past" : Str) v_past (([("state", v_state)] : List (Str × V)) : List (Str × V)) = ([("state", v_state), ("past", v_past)] : List (Str × V)) from (put_past (by decide +kernel)).trans (congrArg _ (rfl)))]
  all_goals rfl
def fs_Point (v_minus v_plus : V) : List (Str × V) := [("minus", v_minus), ("plus", v_plus)]
theorem fs_Point_minus (v_minus v_plus : V) : (fs_Point v_minus v_plus).lookup ("minus" : Str) = some v_minus := lk_here
theorem pf_Point_minus (v_minus v_plus y : V) : putF "minus" y (fs_Point v_minus v_plus) = fs_Point y v_plus := put_here
theorem fs_Point_plus (v_minus v_plus : V) : (fs_Point v_minus v_plus).lookup ("plus" : Str) = some v_plus := (lk_past (by decide +kernel)).trans (lk_here)
theorem pf_Point_plus (v_minus v_plus y : V) : putF "plus" y (fs_Point v_minus v_plus) = fs_Point v_minus y := (put_past (by decide +kernel)).trans (congrArg _ (put_here))
theorem mk_Point (v_minus v_plus : V) : (putF "plus" v_plus (putF "minus" v_minus [])) = fs_Point v_minus v_plus := by
  rw [(show putF ("minus" : Str) v_minus (([] : List (Str × V)) : List (Str × V)) = ([("minus", v_minus)] : List (Str × V)) from rfl), (show putF ("plus" : Str) v_plus (([("minus", v_minus)] : List (Str × V)) : List (Str × V)) = ([("minus", v_minus), ("plus", v_plus)] : List (Str × V)) from (put_past (by decide +kernel)).trans (congrArg _ (rfl)))]
  all_goals rfl
def fs_Station (v_time v_place v_factor : V) : List (Str × V) := [("time", v_time), ("place", v_place), ("factor", v_factor)]
theorem fs_Station_time (v_time v_place v_factor : V) : (fs_Station v_time v_place v_factor).lookup ("time" : Str) = some v_time := lk_here
theorem pf_Station_time (v_time v_place v_factor y : V) : putF "time" y (fs_Station v_time v_place v_factor) = fs_Station y v_place v_factor := put_here
theorem fs_Station_place (v_time v_place v_factor : V) : (fs_Station v_time v_place v_factor).lookup ("place" : Str) = some v_place := (lk_past (by decide +kernel)).trans (lk_here)
theorem pf_Station_place (v_time v_place v_factor y : V) : putF "place" y (fs_Station v_time v_place v_factor) = fs_Station v_time y v_factor := (put_past (by decide +kernel)).trans (congrArg _ (put_here))
theorem fs_Station_factor (v_time v_place v_factor : V) : (fs_Station v_time v_place v_factor).lookup ("factor" : Str) = some v_factor := (lk_past (by decide +kernel)).trans ((lk_past (by decide +kernel)).trans (lk_here))
theorem pf_Station_factor (v_time v_place v_factor y : V) : putF "factor" y (fs_Station v_time v_place v_factor) = fs_Station v_time v_place y := (put_past (by decide +kernel)).trans (congrArg _ ((put_past (by decide +kernel)).trans (congrArg _ (put_here))))
theorem mk_Station (v_time v_place v_factor : V) : (putF "factor" v_factor (putF "place" v_place (putF "time" v_time []))) = fs_Station v_time v_place v_factor := by
  rw [(show putF ("time" : Str) v_time (([] : List (Str × V)) : List (Str × V)) = ([("time", v_time)] : List (Str × V)) from rfl), (show putF ("place" : Str) v_place (([("time", v_time)] : List (Str × V)) : List (Str × V)) = ([("time", v_time), ("place", v_place)] : List (Str × V)) from (put_past (by decide +kernel)).trans (congrArg _ (rfl))), (show putF ("factor" : Str) v_factor (([("time", v_time), ("place", v_place)] : List (Str × V)) : List (Str × V)) = ([("time", v_time), ("place", v_place), ("factor", v_factor)] : List (Str × V)) from (put_past (by decide +kernel)).trans (congrArg _ ((put_past (by decide +kernel)).trans (congrArg _ (rfl)))))]
  all_goals rfl
/-! ### what the top has written -/
structure Df (K : PySem.W.Frag) (mg : Str → Option Value) (x : Str) (st : Stmt) (ps : List Str) (f : Addr) (fd : FuncData) : Prop where
  F : Fun K x x st f fd
  b : Binds K fd ps []
  g : mg x = some (.ref f)
structure Kl (K : PySem.W.Frag) (mg : Str → Option Value) (x qual : Str) (st : Stmt) (ps fl : List Str) (C f : Addr) (fd : FuncData) : Prop where
  cl : Cls K C
  g : mg x = some (.ref C)
  M : Mk K C f
  F : Fun K "__init__" qual st f fd
  b : Binds K fd ps []
  na : ∀ s ∈ fl, NoAttr K C s
structure Ad where
  C_Fact : Addr
  i_Fact : Addr
  id_Fact : FuncData
  C_Letter : Addr
  i_Letter : Addr
  id_Letter : FuncData
  C_State : Addr
  i_State : Addr
  id_State : FuncData
  C_Desk : Addr
  i_Desk : Addr
  id_Desk : FuncData
  C_Point : Addr
  i_Point : Addr
  id_Point : FuncData
  C_Station : Addr
  i_Station : Addr
  id_Station : FuncData
  f_copy_of : Addr
  fd_copy_of : FuncData
  f_start_change : Addr
  fd_start_change : FuncData
  f_take_back : Addr
  fd_take_back : FuncData
  f_has_station : Addr
  fd_has_station : FuncData
  f_has_fact : Addr
  fd_has_fact : FuncData
  f_has_letter : Addr
  fd_has_letter : FuncData
  f_common_divisor : Addr
  fd_common_divisor : FuncData
  f_fraction : Addr
  fd_fraction : FuncData
  f_add : Addr
  fd_add : FuncData
  f_subtract : Addr
  fd_subtract : FuncData
  f_multiply : Addr
  fd_multiply : FuncData
  f_divide : Addr
  fd_divide : FuncData
  f_half : Addr
  fd_half : FuncData
  f_at_most : Addr
  fd_at_most : FuncData
  f_greater_of : Addr
  fd_greater_of : FuncData
  f_lesser_of : Addr
  fd_lesser_of : FuncData
  f_start_of : Addr
  fd_start_of : FuncData
  f_point_at : Addr
  fd_point_at : FuncData
  f_clock_by_minus : Addr
  fd_clock_by_minus : FuncData
  f_clock_by_plus : Addr
  fd_clock_by_plus : FuncData
  f_hears : Addr
  fd_hears : FuncData
  f_till : Addr
  fd_till : FuncData
  f_own_time : Addr
  fd_own_time : FuncData
  f_own_place : Addr
  fd_own_place : FuncData
  f_side : Addr
  fd_side : FuncData
  f_can_have_heard : Addr
  fd_can_have_heard : FuncData
  f_time_of : Addr
  fd_time_of : FuncData
  f_place_of : Addr
  fd_place_of : FuncData
  f_moments_behind : Addr
  fd_moments_behind : FuncData
  f_has_come : Addr
  fd_has_come : FuncData
  f_came_to_be : Addr
  fd_came_to_be : FuncData
  f_facts_known : Addr
  fd_facts_known : FuncData
  f_first_known : Addr
  fd_first_known : FuncData
  f_first_heard : Addr
  fd_first_heard : FuncData
  f_could_know : Addr
  fd_could_know : FuncData
  f_is_near : Addr
  fd_is_near : FuncData
  f_is_factor_part : Addr
  fd_is_factor_part : FuncData
  f_is_clock_number : Addr
  fd_is_clock_number : FuncData
  f_begin : Addr
  fd_begin : FuncData
  f_back : Addr
  fd_back : FuncData
  f_station : Addr
  fd_station : FuncData
  f_fact : Addr
  fd_fact : FuncData
  f_letter : Addr
  fd_letter : FuncData
  f_unfact : Addr
  fd_unfact : FuncData
  f_unletter : Addr
  fd_unletter : FuncData
  f_judge : Addr
  fd_judge : FuncData
  f_claim : Addr
  fd_claim : FuncData
  f_is_station : Addr
  fd_is_station : FuncData
  f_factis : Addr
  fd_factis : FuncData
  f_letteris : Addr
  fd_letteris : FuncData
  f_where : Addr
  fd_where : FuncData
  f_comes : Addr
  fd_comes : FuncData
  f_in_letter : Addr
  fd_in_letter : FuncData
  f_state : Addr
  fd_state : FuncData
  f_counted : Addr
  fd_counted : FuncData
  f_has_both : Addr
  fd_has_both : FuncData
  f_known : Addr
  fd_known : FuncData
  f_could : Addr
  fd_could : FuncData
  f_first : Addr
  fd_first : FuncData
  f_knew : Addr
  fd_knew : FuncData
  f_late : Addr
  fd_late : FuncData
  f_never : Addr
  fd_never : FuncData
  f_own : Addr
  fd_own : FuncData
  f_sooner : Addr
  fd_sooner : FuncData
  f_heard : Addr
  fd_heard : FuncData
  f_book : Addr
  fd_book : FuncData
  f_answers : Addr
  fd_answers : FuncData
  f_answer_to : Addr
  fd_answer_to : FuncData
  f_call_with : Addr
  fd_call_with : FuncData
  t_MOST_BACK : Tok
  t_THERE : Tok
  t_ON_THE_RIGHT : Tok
  t_ON_THE_LEFT : Tok
  t_FARTHEST : Tok
  t_GREATEST_FACTOR : Tok
  t_GREATEST_N : Tok
  t_GREATEST_D : Tok
  t_NO_SUCH : Tok
  t_NONE_LEFT : Tok
  t_NOT_BEGUN : Tok
  t_OUT_OF_RANGE : Tok
  t_TOO_MANY : Tok
  t_NEVER : Tok
  t_MOST_STATIONS : Tok
  t_MOST_FACTS : Tok
  t_MOST_LETTERS : Tok
  t_IMPOSSIBLE : Tok
  t_POSSIBLE : Tok
  t_KNOWN : Tok
  a_CHANGES : Addr
  a_LOOKS : Addr
  a_NEWS : Addr
  t_SOONER : Tok
  t_SAME_TIME : Tok
  t_LATER : Tok
  t_HEARD_BY_SECOND : Tok
  t_SAME_POINT : Tok
  t_HEARD_BY_FIRST : Tok
  t_HEARD_BY_NEITHER : Tok
  a_ORDER : Addr
  t_BEGIN : Tok
  a_ARGUMENTS : Addr
structure Txt (K : PySem.W.Frag) (mg : Str → Option Value) (A : Ad) : Prop where
  cFact : Kl K mg "Fact" "Fact.__init__" si_Fact ["self", "station", "when", "point"] ["station", "when", "point"] A.C_Fact A.i_Fact A.id_Fact
  cLetter : Kl K mg "Letter" "Letter.__init__" si_Letter ["self", "sender", "receiver", "sent", "arrives"] ["sender", "receiver", "sent", "arrives"] A.C_Letter A.i_Letter A.id_Letter
  cState : Kl K mg "State" "State.__init__" si_State ["self"] ["stations", "facts", "letters", "claims", "impossible"] A.C_State A.i_State A.id_State
  cDesk : Kl K mg "Desk" "Desk.__init__" si_Desk ["self"] ["state", "past"] A.C_Desk A.i_Desk A.id_Desk
  cPoint : Kl K mg "Point" "Point.__init__" si_Point ["self", "minus", "plus"] ["minus", "plus"] A.C_Point A.i_Point A.id_Point
  cStation : Kl K mg "Station" "Station.__init__" si_Station ["self", "time", "place", "factor"] ["time", "place", "factor"] A.C_Station A.i_Station A.id_Station
  d_copy_of : Df K mg "copy_of" s_copy_of ["state"] A.f_copy_of A.fd_copy_of
  d_start_change : Df K mg "start_change" s_start_change ["desk"] A.f_start_change A.fd_start_change
  d_take_back : Df K mg "take_back" s_take_back ["desk"] A.f_take_back A.fd_take_back
  d_has_station : Df K mg "has_station" s_has_station ["state", "i"] A.f_has_station A.fd_has_station
  d_has_fact : Df K mg "has_fact" s_has_fact ["state", "f"] A.f_has_fact A.fd_has_fact
  d_has_letter : Df K mg "has_letter" s_has_letter ["state", "m"] A.f_has_letter A.fd_has_letter
  d_common_divisor : Df K mg "common_divisor" s_common_divisor ["a", "b"] A.f_common_divisor A.fd_common_divisor
  d_fraction : Df K mg "fraction" s_fraction ["n", "d"] A.f_fraction A.fd_fraction
  d_add : Df K mg "add" s_add ["a", "b"] A.f_add A.fd_add
  d_subtract : Df K mg "subtract" s_subtract ["a", "b"] A.f_subtract A.fd_subtract
  d_multiply : Df K mg "multiply" s_multiply ["a", "b"] A.f_multiply A.fd_multiply
  d_divide : Df K mg "divide" s_divide ["a", "b"] A.f_divide A.fd_divide
  d_half : Df K mg "half" s_half ["a"] A.f_half A.fd_half
  d_at_most : Df K mg "at_most" s_at_most ["a", "b"] A.f_at_most A.fd_at_most
  d_greater_of : Df K mg "greater_of" s_greater_of ["a", "b"] A.f_greater_of A.fd_greater_of
  d_lesser_of : Df K mg "lesser_of" s_lesser_of ["a", "b"] A.f_lesser_of A.fd_lesser_of
  d_start_of : Df K mg "start_of" s_start_of ["station"] A.f_start_of A.fd_start_of
  d_point_at : Df K mg "point_at" s_point_at ["station", "clock"] A.f_point_at A.fd_point_at
  d_clock_by_minus : Df K mg "clock_by_minus" s_clock_by_minus ["station", "point"] A.f_clock_by_minus A.fd_clock_by_minus
  d_clock_by_plus : Df K mg "clock_by_plus" s_clock_by_plus ["station", "point"] A.f_clock_by_plus A.fd_clock_by_plus
  d_hears : Df K mg "hears" s_hears ["station", "point"] A.f_hears A.fd_hears
  d_till : Df K mg "till" s_till ["station", "point"] A.f_till A.fd_till
  d_own_time : Df K mg "own_time" s_own_time ["station", "point"] A.f_own_time A.fd_own_time
  d_own_place : Df K mg "own_place" s_own_place ["station", "point"] A.f_own_place A.fd_own_place
  d_side : Df K mg "side" s_side ["station", "point"] A.f_side A.fd_side
  d_can_have_heard : Df K mg "can_have_heard" s_can_have_heard ["point", "other"] A.f_can_have_heard A.fd_can_have_heard
  d_time_of : Df K mg "time_of" s_time_of ["point"] A.f_time_of A.fd_time_of
  d_place_of : Df K mg "place_of" s_place_of ["point"] A.f_place_of A.fd_place_of
  d_moments_behind : Df K mg "moments_behind" s_moments_behind ["state", "station", "clock"] A.f_moments_behind A.fd_moments_behind
  d_has_come : Df K mg "has_come" s_has_come ["letter", "moment"] A.f_has_come A.fd_has_come
  d_came_to_be : Df K mg "came_to_be" s_came_to_be ["fact", "moment"] A.f_came_to_be A.fd_came_to_be
  d_facts_known : Df K mg "facts_known" s_facts_known ["state", "station", "clock"] A.f_facts_known A.fd_facts_known
  d_first_known : Df K mg "first_known" s_first_known ["state", "station", "f"] A.f_first_known A.fd_first_known
  d_first_heard : Df K mg "first_heard" s_first_heard ["state", "station", "f"] A.f_first_heard A.fd_first_heard
  d_could_know : Df K mg "could_know" s_could_know ["state", "station", "f", "clock"] A.f_could_know A.fd_could_know
  d_is_near : Df K mg "is_near" s_is_near ["number"] A.f_is_near A.fd_is_near
  d_is_factor_part : Df K mg "is_factor_part" s_is_factor_part ["number"] A.f_is_factor_part A.fd_is_factor_part
  d_is_clock_number : Df K mg "is_clock_number" s_is_clock_number ["n", "d"] A.f_is_clock_number A.fd_is_clock_number
  d_begin : Df K mg "begin" s_begin ["desk"] A.f_begin A.fd_begin
  d_back : Df K mg "back" s_back ["desk"] A.f_back A.fd_back
  d_station : Df K mg "station" s_station ["desk", "t", "x", "p", "q"] A.f_station A.fd_station
  d_fact : Df K mg "fact" s_fact ["desk", "i", "n", "d"] A.f_fact A.fd_fact
  d_letter : Df K mg "letter" s_letter ["desk", "i", "j", "n", "d"] A.f_letter A.fd_letter
  d_unfact : Df K mg "unfact" s_unfact ["desk"] A.f_unfact A.fd_unfact
  d_unletter : Df K mg "unletter" s_unletter ["desk"] A.f_unletter A.fd_unletter
  d_judge : Df K mg "judge" s_judge ["state", "i", "f", "clock"] A.f_judge A.fd_judge
  d_claim : Df K mg "claim" s_claim ["desk", "i", "f", "n", "d"] A.f_claim A.fd_claim
  d_is_station : Df K mg "is_station" s_is_station ["desk", "i"] A.f_is_station A.fd_is_station
  d_factis : Df K mg "factis" s_factis ["desk", "f"] A.f_factis A.fd_factis
  d_letteris : Df K mg "letteris" s_letteris ["desk", "m"] A.f_letteris A.fd_letteris
  d_where : Df K mg "where" s_where ["desk", "f"] A.f_where A.fd_where
  d_comes : Df K mg "comes" s_comes ["desk", "m"] A.f_comes A.fd_comes
  d_in_letter : Df K mg "in_letter" s_in_letter ["desk", "m"] A.f_in_letter A.fd_in_letter
  d_state : Df K mg "state" s_state ["desk"] A.f_state A.fd_state
  d_counted : Df K mg "counted" s_counted ["facts"] A.f_counted A.fd_counted
  d_has_both : Df K mg "has_both" s_has_both ["state", "i", "f"] A.f_has_both A.fd_has_both
  d_known : Df K mg "known" s_known ["desk", "i", "n", "d"] A.f_known A.fd_known
  d_could : Df K mg "could" s_could ["desk", "i", "n", "d"] A.f_could A.fd_could
  d_first : Df K mg "first" s_first ["desk", "i", "f"] A.f_first A.fd_first
  d_knew : Df K mg "knew" s_knew ["desk", "i", "f"] A.f_knew A.fd_knew
  d_late : Df K mg "late" s_late ["desk", "i", "f"] A.f_late A.fd_late
  d_never : Df K mg "never" s_never ["desk", "i"] A.f_never A.fd_never
  d_own : Df K mg "own" s_own ["desk", "i", "f"] A.f_own A.fd_own
  d_sooner : Df K mg "sooner" s_sooner ["desk", "i", "f", "g"] A.f_sooner A.fd_sooner
  d_heard : Df K mg "heard" s_heard ["desk", "f", "g"] A.f_heard A.fd_heard
  d_book : Df K mg "book" s_book ["desk"] A.f_book A.fd_book
  d_answers : Df K mg "answers" s_answers ["calls"] A.f_answers A.fd_answers
  d_answer_to : Df K mg "answer_to" s_answer_to ["desk", "number", "told"] A.f_answer_to A.fd_answer_to
  d_call_with : Df K mg "call_with" s_call_with ["call", "desk", "told"] A.f_call_with A.fd_call_with
  k_MOST_BACK : mg "MOST_BACK" = some (.int (10) A.t_MOST_BACK)
  k_THERE : mg "THERE" = some (.int (0) A.t_THERE)
  k_ON_THE_RIGHT : mg "ON_THE_RIGHT" = some (.int (1) A.t_ON_THE_RIGHT)
  k_ON_THE_LEFT : mg "ON_THE_LEFT" = some (.int (2) A.t_ON_THE_LEFT)
  k_FARTHEST : mg "FARTHEST" = some (.int (99) A.t_FARTHEST)
  k_GREATEST_FACTOR : mg "GREATEST_FACTOR" = some (.int (9) A.t_GREATEST_FACTOR)
  k_GREATEST_N : mg "GREATEST_N" = some (.int (999) A.t_GREATEST_N)
  k_GREATEST_D : mg "GREATEST_D" = some (.int (99) A.t_GREATEST_D)
  k_NO_SUCH : mg "NO_SUCH" = some (.int (-2) A.t_NO_SUCH)
  k_NONE_LEFT : mg "NONE_LEFT" = some (.int (-6) A.t_NONE_LEFT)
  k_NOT_BEGUN : mg "NOT_BEGUN" = some (.int (-11) A.t_NOT_BEGUN)
  k_OUT_OF_RANGE : mg "OUT_OF_RANGE" = some (.int (-22) A.t_OUT_OF_RANGE)
  k_TOO_MANY : mg "TOO_MANY" = some (.int (-28) A.t_TOO_MANY)
  k_NEVER : mg "NEVER" = some (.int (-33) A.t_NEVER)
  k_MOST_STATIONS : mg "MOST_STATIONS" = some (.int (4) A.t_MOST_STATIONS)
  k_MOST_FACTS : mg "MOST_FACTS" = some (.int (6) A.t_MOST_FACTS)
  k_MOST_LETTERS : mg "MOST_LETTERS" = some (.int (6) A.t_MOST_LETTERS)
  k_IMPOSSIBLE : mg "IMPOSSIBLE" = some (.int (0) A.t_IMPOSSIBLE)
  k_POSSIBLE : mg "POSSIBLE" = some (.int (1) A.t_POSSIBLE)
  k_KNOWN : mg "KNOWN" = some (.int (2) A.t_KNOWN)
  k_CHANGES : mg "CHANGES" = some (.ref A.a_CHANGES)
  k_LOOKS : mg "LOOKS" = some (.ref A.a_LOOKS)
  k_NEWS : mg "NEWS" = some (.ref A.a_NEWS)
  k_SOONER : mg "SOONER" = some (.int (0) A.t_SOONER)
  k_SAME_TIME : mg "SAME_TIME" = some (.int (1) A.t_SAME_TIME)
  k_LATER : mg "LATER" = some (.int (2) A.t_LATER)
  k_HEARD_BY_SECOND : mg "HEARD_BY_SECOND" = some (.int (0) A.t_HEARD_BY_SECOND)
  k_SAME_POINT : mg "SAME_POINT" = some (.int (1) A.t_SAME_POINT)
  k_HEARD_BY_FIRST : mg "HEARD_BY_FIRST" = some (.int (2) A.t_HEARD_BY_FIRST)
  k_HEARD_BY_NEITHER : mg "HEARD_BY_NEITHER" = some (.int (3) A.t_HEARD_BY_NEITHER)
  k_ORDER : mg "ORDER" = some (.ref A.a_ORDER)
  k_BEGIN : mg "BEGIN" = some (.int (0) A.t_BEGIN)
  k_ARGUMENTS : mg "ARGUMENTS" = some (.ref A.a_ARGUMENTS)
  b_abs : mg "abs" = none
  b_any : mg "any" = none
  b_enumerate : mg "enumerate" = none
  b_len : mg "len" = none
  b_list : mg "list" = none
  b_range : mg "range" = none
end Py
namespace Py
open PySem PySem.Spec PyProof.Rows L2
open Kv414 (Q gcd')
section
variable {P : Program} {w : World} {K : PySem.W.Frag} {mg : Str → Option Value} {base : Heap} {A : Ad}
/-! ### ratio -/
def sp_common_divisor : Sp := fun vs H Q _ => ∃ a b : Int, vs = [.int a, .int b] ∧ 0 ≤ a ∧ 0 ≤ b ∧ Q (.int (Nat.gcd a.toNat b.toNat : Nat)) H
theorem gcd_turn {a b : Int} (ha : 0 ≤ a) (hb : 0 < b) : Nat.gcd b.toNat (a.fmod b).toNat = Nat.gcd a.toNat b.toNat := by
  rw [Int.fmod_eq_emod_of_nonneg a (by omega), Int.toNat_emod ha (by omega), Nat.gcd_comm b.toNat, ← Nat.gcd_rec, Nat.gcd_comm]
theorem ok_common_divisor (T : Txt K mg A) : FnOk P w K mg base CX0 1 A.f_common_divisor A.fd_common_divisor ["a", "b"] sp_common_divisor := by
  refine T.d_common_divisor.F.ok sc_common_divisor (fun vs H Q E h => ?_) (fun cdv A outer s H vs Q E hr h => ?_)
  · obtain ⟨a, b, rfl, _⟩ := h
    rfl
  · obtain ⟨a, b, rfl, ha, hb, k⟩ := h
    refine ⟨_, (pss_cons (ps_set (i := 2) sc_common_divisor.nd rfl (Or.inl rfl) (pv 0))
 (pss_cons (ps_set (i := 3) sc_common_divisor.nd rfl (Or.inl rfl) (pv 1))
 (pss_cons (ps_while PassesOwn.never (pt_cmpR op_ne (pv 3) pe_int (nomark _)) (pss_cons (ps_set (i := 4) sc_common_divisor.nd rfl (Or.inl rfl) (pe_op op_modN (pv 2) (pv 3)))
 (pss_cons (ps_set (i := 2) sc_common_divisor.nd rfl (Or.inl rfl) (pv 3))
 (pss_one (ps_set (i := 3) sc_common_divisor.nd rfl (Or.inl rfl) (pv 4))))))
 (pss_one (ps_ret (pv 2)))))), ?_⟩
    refine ⟨_, rfl, _, rfl, ?_⟩
    refine while_by (fun σ H' => ∃ (g m : Int) (v : Option V), σ = [some (.int a), some (.int b), some (.int g), some (.int m), v] ∧ H' = H ∧ 0 ≤ g ∧ 0 ≤ m ∧ Nat.gcd g.toNat m.toNat = Nat.gcd a.toNat b.toNat)
      (fun σ _ => match σ with
        | [_, _, _, some (.int m), _] => m.toNat
        | _ => 0) ⟨a, b, none, rfl, rfl, ha, hb, rfl⟩ ?_ ?_
    · rintro σ H' ⟨g, m, v, rfl, rfl, hg, hm, e⟩
      refine ⟨_, rfl, rfl, _, rfl, ?_⟩
      by_cases c : m = 0
      · subst c
        refine iteF ?_
        refine ⟨_, rfl, ?_⟩
        have e2 : ((Nat.gcd a.toNat b.toNat : Nat) : Int) = g := by
          rw [← e]
          simp
          omega
        rw [e2] at k
        exact k
      · have c1 : (!decide (V.int m = V.int 0)) = true := by
          rw [Bool.not_eq_true', decide_eq_false_iff_not]
          intro q
          exact c (V.int.inj q)
        rw [c1]
        refine iteT ?_
        have hm0 : 0 < m := by omega
        refine ⟨_, rfl, _, rfl, _, _, rfl, rfl, c, ?_⟩
        refine ⟨_, rfl, _, rfl, ?_⟩
        have hf : g.fmod m = g % m := Int.fmod_eq_emod_of_nonneg g (by omega)
        have h1 : 0 ≤ g % m := Int.emod_nonneg g c
        have h2 : g % m < m := Int.emod_lt_of_pos g hm0
        refine ⟨⟨m, g.fmod m, some (.int (g.fmod m)), rfl, rfl, hm, by rw [hf]; exact h1, (gcd_turn hg hm0).trans e⟩, ?_⟩
        show (g.fmod m).toNat < m.toNat
        rw [hf]
        omega
    · intro σ H Q Q' hq h
      obtain ⟨v, h1, h2, k, h3, h4⟩ := h
      exact ⟨v, h1, h2, k, h3, hq _ _ h4⟩
end
end Py
namespace Py
open PySem PySem.Spec PyProof.Rows L2
open Kv414 (Q gcd')
/-- a fraction, as it lies -/
def tupQ (q : Q) : HO := .tup [.int q.n, .int (q.d : Nat)]
/-- a fraction is given back; all else stands as it did -/
def RetQ (H : Hp) (q : Q) (R : VK) : Prop := ∀ p H', Same H H' → H' p = some (tupQ q) → R (.ref p) H'
abbrev Sm (q : Q) : Prop := Ma.B (2 ^ 60) (2 ^ 60) q
theorem same_upd {H : Hp} {p : Addr} {o : HO} (h : H p = none) : Same H (upd H p o) := fun b u e => by
  rw [upd_ne (ne_of_none e h)]
  exact e
theorem Sm.n {q : Q} (h : Sm q) : q.n.natAbs < 2 ^ 61 := Nat.lt_of_le_of_lt h.num (by decide)
theorem Sm.d {q : Q} (h : Sm q) : ((q.d : Nat) : Int).natAbs < 2 ^ 61 := by
  rw [Int.natAbs_natCast]
  exact Nat.lt_of_le_of_lt h.den (by decide)
theorem bd_mul {i j : Int} (h1 : i.natAbs < 2 ^ 61) (h2 : j.natAbs < 2 ^ 61) : (i * j).natAbs < 2 ^ 122 := wide_lt h1 h2
theorem bd_add {i j : Int} (h1 : i.natAbs < 2 ^ 122) (h2 : j.natAbs < 2 ^ 122) : (i + j).natAbs < 2 ^ 200 :=
  Nat.lt_of_le_of_lt (Int.natAbs_add_le i j) (Nat.lt_of_lt_of_le (Nat.add_lt_add h1 h2) (by decide))
theorem bd_sub {i j : Int} (h1 : i.natAbs < 2 ^ 122) (h2 : j.natAbs < 2 ^ 122) : (i - j).natAbs < 2 ^ 200 :=
  Nat.lt_of_le_of_lt (Int.natAbs_sub_le i j) (Nat.lt_of_lt_of_le (Nat.add_lt_add h1 h2) (by decide))
theorem bd_up {i : Int} (h1 : i.natAbs < 2 ^ 122) : i.natAbs < 2 ^ 200 := Nat.lt_trans h1 (by decide)
theorem cm_mul {i j : Int} (h1 : i.natAbs < 2 ^ 61) (h2 : j.natAbs < 2 ^ 61) : CMulW i j := wide_mul h1 h2 (by decide) (by decide) (by decide)
theorem at0 {H : Hp} {K : PySem.W.Frag} {p : Addr} {q : Q} (h : H p = some (tupQ q)) : SqT K H p [.int q.n, .int (q.d : Nat)] := SqT.of h
theorem ix0 {q : Q} : atI ([.int q.n, .int (q.d : Nat)] : List V) 0 = some (.int q.n) := atI_nat (j := 0) rfl
theorem ix1 {q : Q} : atI ([.int q.n, .int (q.d : Nat)] : List V) 1 = some (.int (q.d : Nat)) := atI_nat (j := 1) rfl
section
variable {P : Program} {w : World} {K : PySem.W.Frag} {mg : Str → Option Value} {base : Heap} {A : Ad}
def sp_fraction : Sp := fun vs H R _ => ∃ n d : Int, vs = [.int n, .int d] ∧ 0 < d ∧ n.natAbs < 2 ^ 200 ∧ d.natAbs < 2 ^ 200 ∧ RetQ H (Q.red ⟨n, d.toNat⟩) R
theorem ok_fraction (T : Txt K mg A) : FnOk P w K mg base CX0 2 A.f_fraction A.fd_fraction ["n", "d"] sp_fraction := by
  refine T.d_fraction.F.ok sc_fraction (fun vs H Q E h => ?_) (fun cdv A outer s H vs R E hr h => ?_)
  · obtain ⟨a, b, rfl, _⟩ := h
    rfl
  · obtain ⟨n, d, rfl, hd, hn2, hd2, k⟩ := h
    refine ⟨_, (pss_cons (ps_set (i := 2) sc_fraction.nd rfl (Or.inl rfl) (pe_call (ok_common_divisor T) (hr.mono (by decide)) (by rfl) T.d_common_divisor.g T.d_common_divisor.F.kp T.d_common_divisor.b .nil pass0 (pa_cons (pe_callB call_abs (by rfl) T.b_abs (by decide +kernel) (pa_cons (pv 0) pa_nil)) (pa_cons (pv 1) pa_nil))))
 (pss_one (ps_ret (pe_tup (pa_cons (pe_op op_fdivW (pv 0) (pv 2)) (pa_cons (pe_op op_fdivW (pv 1) (pv 2)) pa_nil)))))), ?_⟩
    have hab : (if n < 0 then -n else n) = (n.natAbs : Int) := by split <;> omega
    refine ⟨_, rfl, _, rfl, _, rfl, _, d, rfl, by rw [hab]; exact Int.natCast_nonneg _, by omega, ?_⟩
    rw [hab, Int.toNat_natCast]
    have hdn : 0 < d.toNat := by omega
    have hg : 0 < Nat.gcd n.natAbs d.toNat := Nat.gcd_pos_of_pos_right _ hdn
    have hgle : Nat.gcd n.natAbs d.toNat ≤ d.toNat := Nat.le_of_dvd hdn (Nat.gcd_dvd_right _ _)
    have hw : ∀ i : Int, CDivW i ((Nat.gcd n.natAbs d.toNat : Nat) : Int) := fun i =>
      wide_div (b := 200) (by omega) (by rw [Int.natAbs_natCast]; omega) (by decide) (by decide)
    refine ⟨_, rfl, _, rfl, _, _, rfl, rfl, hw n, _, rfl, _, rfl, _, _, rfl, rfl, hw d, (by show 2 ≤ sizeLine; decide), fun p hp => ?_⟩
    refine k p _ (same_upd hp) ?_
    rw [upd_same, Ma.red_eq hdn]
    show some (HO.tup [V.int (n / _), V.int (d / _)]) = some (tupQ _)
    have e : d / ((Nat.gcd n.natAbs d.toNat : Nat) : Int) = ((d.toNat / gcd' n d.toNat : Nat) : Int) := by
      have : (d.toNat : Int) = d := Int.toNat_of_nonneg (by omega)
      rw [Int.natCast_ediv, this]
      rfl
    rw [e]
    rfl
def sp_two (g : Q → Q → Q) : Sp := fun vs H R _ => ∃ (pa pb : Addr) (x y : Q), vs = [.ref pa, .ref pb] ∧ H pa = some (tupQ x) ∧ H pb = some (tupQ y) ∧ Sm x ∧ Sm y ∧ RetQ H (g x y) R
theorem ok_add (T : Txt K mg A) : FnOk P w K mg base CX0 3 A.f_add A.fd_add ["a", "b"] (sp_two Q.add) := by
  refine T.d_add.F.ok sc_add (fun vs H Q E h => ?_) (fun cdv A outer s H vs R E hr h => ?_)
  · obtain ⟨a, b, x, y, rfl, _⟩ := h
    rfl
  · obtain ⟨pa, pb, x, y, rfl, hx, hy, sx, sy, k⟩ := h
    refine ⟨_, (pss_one (ps_ret (pe_call (ok_fraction T) (hr.mono (by decide)) (by rfl) T.d_fraction.g T.d_fraction.F.kp T.d_fraction.b .nil pass0 (pa_cons (pe_op op_add (pe_op op_mulW (pe_ix ix_tup (pv 0) pe_int (fun _ _ => rfl)) (pe_ix ix_tup (pv 1) pe_int (fun _ _ => rfl))) (pe_op op_mulW (pe_ix ix_tup (pv 1) pe_int (fun _ _ => rfl)) (pe_ix ix_tup (pv 0) pe_int (fun _ _ => rfl)))) (pa_cons (pe_op op_mulW (pe_ix ix_tup (pv 0) pe_int (fun _ _ => rfl)) (pe_ix ix_tup (pv 1) pe_int (fun _ _ => rfl))) pa_nil))))), ?_⟩
    refine ⟨_, rfl, pa, _, _, _, rfl, rfl, at0 hx, ix0, _, rfl, pb, _, _, _, rfl, rfl, at0 hy, ix1, _, _, rfl, rfl, cm_mul sx.n sy.d,
      _, rfl, pb, _, _, _, rfl, rfl, at0 hy, ix0, _, rfl, pa, _, _, _, rfl, rfl, at0 hx, ix1, _, _, rfl, rfl, cm_mul sy.n sx.d, _, _, rfl, rfl,
      _, rfl, pa, _, _, _, rfl, rfl, at0 hx, ix1, _, rfl, pb, _, _, _, rfl, rfl, at0 hy, ix1, _, _, rfl, rfl, cm_mul sx.d sy.d, ?_⟩
    refine ⟨_, _, rfl, ?_, bd_add (bd_mul sx.n sy.d) (bd_mul sy.n sx.d), bd_up (bd_mul sx.d sy.d), ?_⟩
    · rw [← Int.natCast_mul]
      exact Int.natCast_pos.mpr (Nat.mul_pos sx.pos sy.pos)
    · rw [← Int.natCast_mul, Int.toNat_natCast]
      exact k
theorem ok_subtract (T : Txt K mg A) : FnOk P w K mg base CX0 3 A.f_subtract A.fd_subtract ["a", "b"] (sp_two Q.sub) := by
  refine T.d_subtract.F.ok sc_subtract (fun vs H Q E h => ?_) (fun cdv A outer s H vs R E hr h => ?_)
  · obtain ⟨a, b, x, y, rfl, _⟩ := h
    rfl
  · obtain ⟨pa, pb, x, y, rfl, hx, hy, sx, sy, k⟩ := h
    refine ⟨_, (pss_one (ps_ret (pe_call (ok_fraction T) (hr.mono (by decide)) (by rfl) T.d_fraction.g T.d_fraction.F.kp T.d_fraction.b .nil pass0 (pa_cons (pe_op op_sub (pe_op op_mulW (pe_ix ix_tup (pv 0) pe_int (fun _ _ => rfl)) (pe_ix ix_tup (pv 1) pe_int (fun _ _ => rfl))) (pe_op op_mulW (pe_ix ix_tup (pv 1) pe_int (fun _ _ => rfl)) (pe_ix ix_tup (pv 0) pe_int (fun _ _ => rfl)))) (pa_cons (pe_op op_mulW (pe_ix ix_tup (pv 0) pe_int (fun _ _ => rfl)) (pe_ix ix_tup (pv 1) pe_int (fun _ _ => rfl))) pa_nil))))), ?_⟩
    refine ⟨_, rfl, pa, _, _, _, rfl, rfl, at0 hx, ix0, _, rfl, pb, _, _, _, rfl, rfl, at0 hy, ix1, _, _, rfl, rfl, cm_mul sx.n sy.d,
      _, rfl, pb, _, _, _, rfl, rfl, at0 hy, ix0, _, rfl, pa, _, _, _, rfl, rfl, at0 hx, ix1, _, _, rfl, rfl, cm_mul sy.n sx.d, _, _, rfl, rfl,
      _, rfl, pa, _, _, _, rfl, rfl, at0 hx, ix1, _, rfl, pb, _, _, _, rfl, rfl, at0 hy, ix1, _, _, rfl, rfl, cm_mul sx.d sy.d, ?_⟩
    refine ⟨_, _, rfl, ?_, bd_sub (bd_mul sx.n sy.d) (bd_mul sy.n sx.d), bd_up (bd_mul sx.d sy.d), ?_⟩
    · rw [← Int.natCast_mul]
      exact Int.natCast_pos.mpr (Nat.mul_pos sx.pos sy.pos)
    · rw [← Int.natCast_mul, Int.toNat_natCast]
      exact k
theorem ok_multiply (T : Txt K mg A) : FnOk P w K mg base CX0 3 A.f_multiply A.fd_multiply ["a", "b"] (sp_two Q.mul) := by
  refine T.d_multiply.F.ok sc_multiply (fun vs H Q E h => ?_) (fun cdv A outer s H vs R E hr h => ?_)
  · obtain ⟨a, b, x, y, rfl, _⟩ := h
    rfl
  · obtain ⟨pa, pb, x, y, rfl, hx, hy, sx, sy, k⟩ := h
    refine ⟨_, (pss_one (ps_ret (pe_call (ok_fraction T) (hr.mono (by decide)) (by rfl) T.d_fraction.g T.d_fraction.F.kp T.d_fraction.b .nil pass0 (pa_cons (pe_op op_mulW (pe_ix ix_tup (pv 0) pe_int (fun _ _ => rfl)) (pe_ix ix_tup (pv 1) pe_int (fun _ _ => rfl))) (pa_cons (pe_op op_mulW (pe_ix ix_tup (pv 0) pe_int (fun _ _ => rfl)) (pe_ix ix_tup (pv 1) pe_int (fun _ _ => rfl))) pa_nil))))), ?_⟩
    refine ⟨_, rfl, pa, _, _, _, rfl, rfl, at0 hx, ix0, _, rfl, pb, _, _, _, rfl, rfl, at0 hy, ix0, _, _, rfl, rfl, cm_mul sx.n sy.n,
      _, rfl, pa, _, _, _, rfl, rfl, at0 hx, ix1, _, rfl, pb, _, _, _, rfl, rfl, at0 hy, ix1, _, _, rfl, rfl, cm_mul sx.d sy.d, ?_⟩
    refine ⟨_, _, rfl, ?_, bd_up (bd_mul sx.n sy.n), bd_up (bd_mul sx.d sy.d), ?_⟩
    · rw [← Int.natCast_mul]
      exact Int.natCast_pos.mpr (Nat.mul_pos sx.pos sy.pos)
    · rw [← Int.natCast_mul, Int.toNat_natCast]
      exact k
/-- by a factor, p by q -/
def sp_divide : Sp := fun vs H R _ => ∃ (pa pb : Addr) (x : Q) (p q : Nat), vs = [.ref pa, .ref pb] ∧ H pa = some (tupQ x) ∧ H pb = some (tupQ ⟨(p : Nat), q⟩) ∧ Sm x ∧ 0 < p ∧ 0 < q ∧ p < 2 ^ 60 ∧ q < 2 ^ 60 ∧ RetQ H (x.mul ⟨(q : Nat), p⟩) R
theorem ok_divide (T : Txt K mg A) : FnOk P w K mg base CX0 3 A.f_divide A.fd_divide ["a", "b"] sp_divide := by
  refine T.d_divide.F.ok sc_divide (fun vs H Q E h => ?_) (fun cdv A outer s H vs R E hr h => ?_)
  · obtain ⟨a, b, x, p, q, rfl, _⟩ := h
    rfl
  · obtain ⟨pa, pb, x, p, q, rfl, hx, hy, sx, hp, hq, hp2, hq2, k⟩ := h
    have bp : ((p : Nat) : Int).natAbs < 2 ^ 61 := by rw [Int.natAbs_natCast]; exact Nat.lt_trans hp2 (by decide)
    have bq : ((q : Nat) : Int).natAbs < 2 ^ 61 := by rw [Int.natAbs_natCast]; exact Nat.lt_trans hq2 (by decide)
    refine ⟨_, (pss_one (ps_ret (pe_call (ok_fraction T) (hr.mono (by decide)) (by rfl) T.d_fraction.g T.d_fraction.F.kp T.d_fraction.b .nil pass0 (pa_cons (pe_op op_mulW (pe_ix ix_tup (pv 0) pe_int (fun _ _ => rfl)) (pe_ix ix_tup (pv 1) pe_int (fun _ _ => rfl))) (pa_cons (pe_op op_mulW (pe_ix ix_tup (pv 0) pe_int (fun _ _ => rfl)) (pe_ix ix_tup (pv 1) pe_int (fun _ _ => rfl))) pa_nil))))), ?_⟩
    refine ⟨_, rfl, pa, _, _, _, rfl, rfl, at0 hx, ix0, _, rfl, pb, _, _, _, rfl, rfl, at0 hy, ix1, _, _, rfl, rfl, cm_mul sx.n bq,
      _, rfl, pa, _, _, _, rfl, rfl, at0 hx, ix1, _, rfl, pb, _, _, _, rfl, rfl, at0 hy, ix0, _, _, rfl, rfl, cm_mul sx.d bp, ?_⟩
    refine ⟨_, _, rfl, ?_, bd_up (bd_mul sx.n bq), bd_up (bd_mul sx.d bp), ?_⟩
    · rw [← Int.natCast_mul]
      exact Int.natCast_pos.mpr (Nat.mul_pos sx.pos hp)
    · rw [← Int.natCast_mul, Int.toNat_natCast]
      exact k
def sp_half : Sp := fun vs H R _ => ∃ (pa : Addr) (x : Q), vs = [.ref pa] ∧ H pa = some (tupQ x) ∧ Sm x ∧ RetQ H (x.mul ⟨1, 2⟩) R
theorem ok_half (T : Txt K mg A) : FnOk P w K mg base CX0 3 A.f_half A.fd_half ["a"] sp_half := by
  refine T.d_half.F.ok sc_half (fun vs H Q E h => ?_) (fun cdv A outer s H vs R E hr h => ?_)
  · obtain ⟨a, x, rfl, _⟩ := h
    rfl
  · obtain ⟨pa, x, rfl, hx, sx, k⟩ := h
    refine ⟨_, (pss_one (ps_ret (pe_call (ok_fraction T) (hr.mono (by decide)) (by rfl) T.d_fraction.g T.d_fraction.F.kp T.d_fraction.b .nil pass0 (pa_cons (pe_ix ix_tup (pv 0) pe_int (fun _ _ => rfl)) (pa_cons (pe_op op_mulW pe_int (pe_ix ix_tup (pv 0) pe_int (fun _ _ => rfl))) pa_nil))))), ?_⟩
    refine ⟨_, rfl, pa, _, _, _, rfl, rfl, at0 hx, ix0, _, rfl, pa, _, _, _, rfl, rfl, at0 hx, ix1, _, _, rfl, rfl, cm_mul (by decide) sx.d, ?_⟩
    refine ⟨_, _, rfl, ?_, Nat.lt_trans sx.n (by decide), bd_up (bd_mul (by decide) sx.d), ?_⟩
    · have := sx.pos
      omega
    · have e : (2 * ((x.d : Nat) : Int)).toNat = x.d * 2 := by omega
      rw [e]
      have k2 : RetQ H (Q.red ⟨x.n * 1, x.d * 2⟩) R := k
      rw [Int.mul_one] at k2
      exact k2
def sp_at_most : Sp := fun vs H R _ => ∃ (pa pb : Addr) (x y : Q), vs = [.ref pa, .ref pb] ∧ H pa = some (tupQ x) ∧ H pb = some (tupQ y) ∧ Sm x ∧ Sm y ∧ R (.bl (x.le y)) H
theorem ok_at_most (T : Txt K mg A) : FnOk P w K mg base CX0 1 A.f_at_most A.fd_at_most ["a", "b"] sp_at_most := by
  refine T.d_at_most.F.ok sc_at_most (fun vs H Q E h => ?_) (fun cdv A outer s H vs R E hr h => ?_)
  · obtain ⟨a, b, x, y, rfl, _⟩ := h
    rfl
  · obtain ⟨pa, pb, x, y, rfl, hx, hy, sx, sy, k⟩ := h
    refine ⟨_, (pss_one (ps_ret (pe_cmpR op_le (pe_op op_mulW (pe_ix ix_tup (pv 0) pe_int (fun _ _ => rfl)) (pe_ix ix_tup (pv 1) pe_int (fun _ _ => rfl))) (pe_op op_mulW (pe_ix ix_tup (pv 1) pe_int (fun _ _ => rfl)) (pe_ix ix_tup (pv 0) pe_int (fun _ _ => rfl))) (nomark _)))), ?_⟩
    refine ⟨_, rfl, pa, _, _, _, rfl, rfl, at0 hx, ix0, _, rfl, pb, _, _, _, rfl, rfl, at0 hy, ix1, _, _, rfl, rfl, cm_mul sx.n sy.d,
      _, rfl, pb, _, _, _, rfl, rfl, at0 hy, ix0, _, rfl, pa, _, _, _, rfl, rfl, at0 hx, ix1, _, _, rfl, rfl, cm_mul sy.n sx.d, _, _, rfl, rfl, ?_⟩
    exact k
theorem ok_greater_of (T : Txt K mg A) : FnOk P w K mg base CX0 2 A.f_greater_of A.fd_greater_of ["a", "b"] (sp_two fun x y => if x.le y then y else x) := by
  refine T.d_greater_of.F.ok sc_greater_of (fun vs H Q E h => ?_) (fun cdv A outer s H vs R E hr h => ?_)
  · obtain ⟨a, b, x, y, rfl, _⟩ := h
    rfl
  · obtain ⟨pa, pb, x, y, rfl, hx, hy, sx, sy, k⟩ := h
    refine ⟨_, (pss_cons (ps_if (pt_val (pe_call (ok_at_most T) (hr.mono (by decide)) (by rfl) T.d_at_most.g T.d_at_most.F.kp T.d_at_most.b .nil pass0 (pa_cons (pv 0) (pa_cons (pv 1) pa_nil)))) (pss_one (ps_ret (pv 1))) pss_nil)
 (pss_one (ps_ret (pv 0)))), ?_⟩
    refine ⟨_, rfl, _, rfl, pa, pb, x, y, rfl, hx, hy, sx, sy, _, rfl, ?_⟩
    cases e : x.le y with
    | true =>
      refine iteT ⟨_, rfl, k pb H (Same.refl H) ?_⟩
      show H pb = some (tupQ (if x.le y = true then y else x))
      rw [e]
      exact hy
    | false =>
      refine iteF ⟨_, rfl, k pa H (Same.refl H) ?_⟩
      show H pa = some (tupQ (if x.le y = true then y else x))
      rw [e]
      exact hx
theorem ok_lesser_of (T : Txt K mg A) : FnOk P w K mg base CX0 2 A.f_lesser_of A.fd_lesser_of ["a", "b"] (sp_two fun x y => if x.le y then x else y) := by
  refine T.d_lesser_of.F.ok sc_lesser_of (fun vs H Q E h => ?_) (fun cdv A outer s H vs R E hr h => ?_)
  · obtain ⟨a, b, x, y, rfl, _⟩ := h
    rfl
  · obtain ⟨pa, pb, x, y, rfl, hx, hy, sx, sy, k⟩ := h
    refine ⟨_, (pss_cons (ps_if (pt_val (pe_call (ok_at_most T) (hr.mono (by decide)) (by rfl) T.d_at_most.g T.d_at_most.F.kp T.d_at_most.b .nil pass0 (pa_cons (pv 0) (pa_cons (pv 1) pa_nil)))) (pss_one (ps_ret (pv 0))) pss_nil)
 (pss_one (ps_ret (pv 1)))), ?_⟩
    refine ⟨_, rfl, _, rfl, pa, pb, x, y, rfl, hx, hy, sx, sy, _, rfl, ?_⟩
    cases e : x.le y with
    | true =>
      refine iteT ⟨_, rfl, k pa H (Same.refl H) ?_⟩
      show H pa = some (tupQ (if x.le y = true then x else y))
      rw [e]
      exact hx
    | false =>
      refine iteF ⟨_, rfl, k pb H (Same.refl H) ?_⟩
      show H pb = some (tupQ (if x.le y = true then x else y))
      rw [e]
      exact hy
end
end Py
namespace Py
open PySem PySem.Spec PyProof.Rows L2
open Kv414 (Q gcd')
open Kv415 (Station Point)
/-- a point, a station as they lie -/
def PtAt (A : Ad) (H : Hp) (p : Addr) (pt : Point) : Prop := ∃ dx u v, H p = some (.ins A.C_Point dx (fs_Point (.ref u) (.ref v))) ∧ H u = some (tupQ pt.u) ∧ H v = some (tupQ pt.v)
def StAt (A : Ad) (H : Hp) (p : Addr) (a : Station) : Prop := ∃ dx k, H p = some (.ins A.C_Station dx (fs_Station (.int a.e.t) (.int a.e.x) (.ref k))) ∧ H k = some (tupQ a.k.up)
theorem PtAt.same {A : Ad} {H H' : Hp} {p : Addr} {pt : Point} (h : PtAt A H p pt) (s : Same H H') : PtAt A H' p pt := by
  obtain ⟨dx, u, v, h1, h2, h3⟩ := h
  exact ⟨dx, u, v, s _ _ h1, s _ _ h2, s _ _ h3⟩
theorem StAt.same {A : Ad} {H H' : Hp} {p : Addr} {a : Station} (h : StAt A H p a) (s : Same H H') : StAt A H' p a := by
  obtain ⟨dx, k, h1, h2⟩ := h
  exact ⟨dx, k, s _ _ h1, s _ _ h2⟩
def RetP (A : Ad) (H : Hp) (pt : Point) (R : VK) : Prop := ∀ p H', Same H H' → PtAt A H' p pt → R (.ref p) H'
theorem same_made {H : Hp} {x dx : Addr} {o : HO} (nx : H x = none) (nd : H dx = none) : Same H (upd (upd H dx (.own x)) x o) := fun b u e => by
  rw [upd_ne (ne_of_none e nx), upd_ne (ne_of_none e nd)]
  exact e
theorem upd_at {H : Hp} {b p : Addr} {o u : HO} (h : H b = some u) (n : H p = none) : upd H p o b = some u := by
  rw [upd_ne (ne_of_none h n)]
  exact h
theorem Sm.of {a b : Nat} {q : Q} (h : Ma.B a b q) (h1 : a ≤ 2 ^ 60) (h2 : b ≤ 2 ^ 60) : Sm q := h.mono h1 h2
theorem sm_of {a : Station} (h : Ma.OkS a) : Sm (Q.of a.e.u) ∧ Sm (Q.of a.e.v) ∧ Sm a.k.up := ⟨Sm.of (Ma.u_B h) (by decide) (by decide), Sm.of (Ma.v_B h) (by decide) (by decide), Sm.of (Ma.up_B h) (by decide) (by decide)⟩
theorem sm_c {s : Q} (h : Ma.OkC s) : Sm s := Sm.of h.b (by decide) (by decide)
theorem sm_p {p : Point} (h : Ma.OkP p) : Sm p.u ∧ Sm p.v := ⟨Sm.of h.u (by decide) (by decide), Sm.of h.v (by decide) (by decide)⟩
theorem lt60 {n : Nat} (h : n ≤ 9) : n < 2 ^ 60 := Nat.lt_of_le_of_lt h (by decide)
section
variable {P : Program} {w : World} {K : PySem.W.Frag} {mg : Str → Option Value} {base : Heap} {A : Ad}
def spi_Point (A : Ad) : Sp := fun vs H R _ => ∃ (p dx : Addr) (v0 v1 : V), vs = [.ref p, v0, v1] ∧ H p = some (.ins A.C_Point dx []) ∧ R .non (upd H p (.ins A.C_Point dx (fs_Point v0 v1)))
theorem oki_Point (T : Txt K mg A) : FnOk P w K mg base CX0 1 A.i_Point A.id_Point ["self", "minus", "plus"] (spi_Point A) := by
  refine T.cPoint.F.ok sci_Point (fun vs H Q E h => ?_) (fun cdv _ outer s H vs R E hr h => ?_)
  · obtain ⟨p, dx, v0, v1, rfl, _⟩ := h
    rfl
  · obtain ⟨p, dx, v0, v1, rfl, hp, k⟩ := h
    refine ⟨_, (pss_cons (ps_fld (pv 0) (pv 1) rfl)
 (pss_one (ps_fld (pv 0) (pv 2) rfl))), ?_⟩
    refine ⟨_, rfl, _, rfl, p, A.C_Point, dx, _, rfl, hp, T.cPoint.cl, T.cPoint.na _ (.head _), (by show 0 < 1000; decide), ?_⟩
    refine ⟨_, rfl, _, rfl, p, A.C_Point, dx, _, rfl, upd_same, T.cPoint.cl, T.cPoint.na _ (.tail _ (.head _)), (by show 1 < 1000; decide), ?_⟩
    show R .non _
    rw [upd_upd, mk_Point]
    exact k
def spi_Station (A : Ad) : Sp := fun vs H R _ => ∃ (p dx : Addr) (v0 v1 v2 : V), vs = [.ref p, v0, v1, v2] ∧ H p = some (.ins A.C_Station dx []) ∧ R .non (upd H p (.ins A.C_Station dx (fs_Station v0 v1 v2)))
theorem oki_Station (T : Txt K mg A) : FnOk P w K mg base CX0 1 A.i_Station A.id_Station ["self", "time", "place", "factor"] (spi_Station A) := by
  refine T.cStation.F.ok sci_Station (fun vs H Q E h => ?_) (fun cdv _ outer s H vs R E hr h => ?_)
  · obtain ⟨p, dx, v0, v1, v2, rfl, _⟩ := h
    rfl
  · obtain ⟨p, dx, v0, v1, v2, rfl, hp, k⟩ := h
    refine ⟨_, (pss_cons (ps_fld (pv 0) (pv 1) rfl)
 (pss_cons (ps_fld (pv 0) (pv 2) rfl)
 (pss_one (ps_fld (pv 0) (pv 3) rfl)))), ?_⟩
    refine ⟨_, rfl, _, rfl, p, A.C_Station, dx, _, rfl, hp, T.cStation.cl, T.cStation.na _ (.head _), (by show 0 < 1000; decide), ?_⟩
    refine ⟨_, rfl, _, rfl, p, A.C_Station, dx, _, rfl, upd_same, T.cStation.cl, T.cStation.na _ (.tail _ (.head _)), (by show 1 < 1000; decide), ?_⟩
    refine ⟨_, rfl, _, rfl, p, A.C_Station, dx, _, rfl, upd_same, T.cStation.cl, T.cStation.na _ (.tail _ (.tail _ (.head _))), (by show 2 < 1000; decide), ?_⟩
    show R .non _
    rw [upd_upd, upd_upd, mk_Station]
    exact k
def sp_start_of (A : Ad) : Sp := fun vs H R _ => ∃ (p : Addr) (a : Station), vs = [.ref p] ∧ StAt A H p a ∧ Ma.OkS a ∧ RetP A H ⟨Q.of a.e.u, Q.of a.e.v⟩ R
theorem ok_start_of (T : Txt K mg A) : FnOk P w K mg base CX0 3 A.f_start_of A.fd_start_of ["station"] (sp_start_of A) := by
  refine T.d_start_of.F.ok sc_start_of (fun vs H Q E h => ?_) (fun cdv _ outer s H vs R E hr h => ?_)
  · obtain ⟨p, a, rfl, _⟩ := h
    rfl
  · obtain ⟨p, a, rfl, ⟨dx, f, h1, h2⟩, ok, k⟩ := h
    have b := ok.t1; have b2 := ok.t2; have b3 := ok.x1; have b4 := ok.x2
    refine ⟨_, (pss_cons (ps_set (i := 1) sc_start_of.nd rfl (Or.inl rfl) (pe_call (ok_fraction T) (hr.mono (by decide)) (by rfl) T.d_fraction.g T.d_fraction.F.kp T.d_fraction.b .nil pass0 (pa_cons (pe_op op_sub (pe_fld (pv 0) rfl) (pe_fld (pv 0) rfl)) (pa_cons pe_int pa_nil))))
 (pss_cons (ps_set (i := 2) sc_start_of.nd rfl (Or.inl rfl) (pe_call (ok_fraction T) (hr.mono (by decide)) (by rfl) T.d_fraction.g T.d_fraction.F.kp T.d_fraction.b .nil pass0 (pa_cons (pe_op op_add (pe_fld (pv 0) rfl) (pe_fld (pv 0) rfl)) (pa_cons pe_int pa_nil))))
 (pss_one (ps_ret (pe_make T.cPoint.M (oki_Point T) (hr.mono (by decide)) (by rfl) T.cPoint.g T.cPoint.b .nil pass0 (pa_cons (pv 1) (pa_cons (pv 2) pa_nil))))))), ?_⟩
    refine ⟨_, rfl, p, _, dx, _, _, rfl, h1, T.cStation.cl, T.cStation.na _ (.head _), fs_Station_time _ _ _, _, rfl, p, _, dx, _, _, rfl, h1, T.cStation.cl, T.cStation.na _ (.tail _ (.head _)), fs_Station_place _ _ _, _, _, rfl, rfl, ?_⟩
    refine ⟨_, _, rfl, by decide, ?_, by decide, fun pu H1 s1 hu => ?_⟩
    · exact Nat.lt_of_le_of_lt (show (a.e.t - a.e.x).natAbs ≤ 198 by omega) (by decide)
    refine ⟨_, rfl, p, _, dx, _, _, rfl, s1 _ _ h1, T.cStation.cl, T.cStation.na _ (.head _), fs_Station_time _ _ _, _, rfl, p, _, dx, _, _, rfl, s1 _ _ h1, T.cStation.cl, T.cStation.na _ (.tail _ (.head _)), fs_Station_place _ _ _, _, _, rfl, rfl, ?_⟩
    refine ⟨_, _, rfl, by decide, ?_, by decide, fun pw H2 s2 hv => ?_⟩
    · exact Nat.lt_of_le_of_lt (show (a.e.t + a.e.x).natAbs ≤ 198 by omega) (by decide)
    refine ⟨_, rfl, _, rfl, fun x dy nx ny ne => ?_⟩
    refine ⟨x, dy, _, _, rfl, upd_same, rfl, ?_⟩
    rw [upd_upd]
    have s3 : Same H2 (upd (upd H2 dy (.own x)) x (.ins A.C_Point dy (fs_Point (.ref pu) (.ref pw)))) := same_made nx ny
    refine k x _ ((s1.trans s2).trans s3) ⟨dy, pu, pw, upd_same, ?_, ?_⟩
    · have e := s3 _ _ (s2 _ _ hu)
      rw [show ((1 : Int)).toNat = 1 from rfl, Ma.red_one] at e
      exact e
    · have e := s3 _ _ hv
      rw [show ((1 : Int)).toNat = 1 from rfl, Ma.red_one] at e
      exact e
def sp_point_at (A : Ad) : Sp := fun vs H R _ => ∃ (p c : Addr) (a : Station) (q : Q), vs = [.ref p, .ref c] ∧ StAt A H p a ∧ Ma.OkS a ∧ H c = some (tupQ q) ∧ Ma.OkC q ∧ RetP A H (a.at_ q) R
theorem ok_point_at (T : Txt K mg A) : FnOk P w K mg base CX0 4 A.f_point_at A.fd_point_at ["station", "clock"] (sp_point_at A) := by
  refine T.d_point_at.F.ok sc_point_at (fun vs H Q E h => ?_) (fun cdv _ outer s H vs R E hr h => ?_)
  · obtain ⟨p, c, a, q, rfl, _⟩ := h
    rfl
  · obtain ⟨p, c, a, q, rfl, hst, ok, hc, okc, k⟩ := h
    obtain ⟨su, sv, sk⟩ := sm_of ok
    have sc := sm_c okc
    have hd := Ma.mul_B (Ma.down_B ok) okc.b
    have hu := Ma.mul_B (Ma.up_B ok) okc.b
    refine ⟨_, (pss_cons (ps_set (i := 2) sc_point_at.nd rfl (Or.inl rfl) (pe_call (ok_start_of T) (hr.mono (by decide)) (by rfl) T.d_start_of.g T.d_start_of.F.kp T.d_start_of.b .nil pass0 (pa_cons (pv 0) pa_nil)))
 (pss_cons (ps_set (i := 3) sc_point_at.nd rfl (Or.inl rfl) (pe_call (ok_add T) (hr.mono (by decide)) (by rfl) T.d_add.g T.d_add.F.kp T.d_add.b .nil pass0 (pa_cons (pe_fld (pv 2) rfl) (pa_cons (pe_call (ok_divide T) (hr.mono (by decide)) (by rfl) T.d_divide.g T.d_divide.F.kp T.d_divide.b .nil pass0 (pa_cons (pv 1) (pa_cons (pe_fld (pv 0) rfl) pa_nil))) pa_nil))))
 (pss_cons (ps_set (i := 4) sc_point_at.nd rfl (Or.inl rfl) (pe_call (ok_add T) (hr.mono (by decide)) (by rfl) T.d_add.g T.d_add.F.kp T.d_add.b .nil pass0 (pa_cons (pe_fld (pv 2) rfl) (pa_cons (pe_call (ok_multiply T) (hr.mono (by decide)) (by rfl) T.d_multiply.g T.d_multiply.F.kp T.d_multiply.b .nil pass0 (pa_cons (pv 1) (pa_cons (pe_fld (pv 0) rfl) pa_nil))) pa_nil))))
 (pss_one (ps_ret (pe_make T.cPoint.M (oki_Point T) (hr.mono (by decide)) (by rfl) T.cPoint.g T.cPoint.b .nil pass0 (pa_cons (pv 3) (pa_cons (pv 4) pa_nil)))))))), ?_⟩
    refine ⟨_, rfl, p, a, rfl, hst, ok, fun ps H1 s1 hp1 => ?_⟩
    obtain ⟨dp, u0, v0, g1, g2, g3⟩ := hp1
    obtain ⟨dx, f, h1, h2⟩ := hst.same s1
    refine ⟨_, rfl, ps, _, dp, _, _, rfl, g1, T.cPoint.cl, T.cPoint.na _ (.head _), fs_Point_minus _ _,
      _, rfl, _, rfl, p, _, dx, _, _, rfl, h1, T.cStation.cl, T.cStation.na _ (.tail _ (.tail _ (.head _))), fs_Station_factor _ _ _, ?_⟩
    refine ⟨c, f, q, a.k.p, a.k.q, rfl, s1 _ _ hc, h2, sc, ok.p1, ok.q1, lt60 ok.p2, lt60 ok.q2, fun pd H2 s2 hpd => ?_⟩
    have sd : Sm (q.mul ⟨(a.k.q : Nat), a.k.p⟩) := by
      rw [Ma.mul_comm]
      exact Sm.of hd (by decide) (by decide)
    refine ⟨u0, pd, _, _, rfl, s2 _ _ g2, hpd, su, sd, fun pu H3 s3 hpu => ?_⟩
    have t3 := s2.trans s3
    refine ⟨_, rfl, ps, _, dp, _, _, rfl, t3 _ _ g1, T.cPoint.cl, T.cPoint.na _ (.tail _ (.head _)), fs_Point_plus _ _,
      _, rfl, _, rfl, p, _, dx, _, _, rfl, t3 _ _ h1, T.cStation.cl, T.cStation.na _ (.tail _ (.tail _ (.head _))), fs_Station_factor _ _ _, ?_⟩
    refine ⟨c, f, q, a.k.up, rfl, t3 _ _ (s1 _ _ hc), t3 _ _ h2, sc, sk, fun pm H4 s4 hpm => ?_⟩
    have sm : Sm (q.mul a.k.up) := by
      rw [Ma.mul_comm]
      exact Sm.of hu (by decide) (by decide)
    refine ⟨v0, pm, _, _, rfl, s4 _ _ (t3 _ _ g3), hpm, sv, sm, fun pw H5 s5 hpv => ?_⟩
    refine ⟨_, rfl, _, rfl, fun x dy nx ny ne => ?_⟩
    refine ⟨x, dy, _, _, rfl, upd_same, rfl, ?_⟩
    rw [upd_upd]
    have s6 : Same H5 (upd (upd H5 dy (.own x)) x (.ins A.C_Point dy (fs_Point (.ref pu) (.ref pw)))) := same_made nx ny
    refine k x _ (s1.trans (t3.trans (s4.trans (s5.trans s6)))) ⟨dy, pu, pw, upd_same, ?_, ?_⟩
    · have e := s6 _ _ (s5 _ _ (s4 _ _ hpu))
      rw [Ma.mul_comm q] at e
      exact e
    · have e := s6 _ _ hpv
      rw [Ma.mul_comm q] at e
      exact e
def sp_by (A : Ad) (g : Station → Point → Q) : Sp := fun vs H R _ => ∃ (p c : Addr) (a : Station) (pt : Point), vs = [.ref p, .ref c] ∧ StAt A H p a ∧ Ma.OkS a ∧ PtAt A H c pt ∧ Ma.OkP pt ∧ RetQ H (g a pt) R
theorem ok_clock_by_minus (T : Txt K mg A) : FnOk P w K mg base CX0 4 A.f_clock_by_minus A.fd_clock_by_minus ["station", "point"] (sp_by A fun a pt => a.atU pt.u) := by
  refine T.d_clock_by_minus.F.ok sc_clock_by_minus (fun vs H Q E h => ?_) (fun cdv _ outer s H vs R E hr h => ?_)
  · obtain ⟨p, c, a, q, rfl, _⟩ := h
    rfl
  · obtain ⟨p, c, a, pt, rfl, hst, ok, hpt, okp, k⟩ := h
    obtain ⟨su, sv, sk⟩ := sm_of ok
    obtain ⟨zu, zv⟩ := sm_p okp
    refine ⟨_, (pss_cons (ps_set (i := 2) sc_clock_by_minus.nd rfl (Or.inl rfl) (pe_call (ok_subtract T) (hr.mono (by decide)) (by rfl) T.d_subtract.g T.d_subtract.F.kp T.d_subtract.b .nil pass0 (pa_cons (pe_fld (pv 1) rfl) (pa_cons (pe_fld (pe_call (ok_start_of T) (hr.mono (by decide)) (by rfl) T.d_start_of.g T.d_start_of.F.kp T.d_start_of.b .nil pass0 (pa_cons (pv 0) pa_nil)) rfl) pa_nil))))
 (pss_one (ps_ret (pe_call (ok_multiply T) (hr.mono (by decide)) (by rfl) T.d_multiply.g T.d_multiply.F.kp T.d_multiply.b .nil pass0 (pa_cons (pv 2) (pa_cons (pe_fld (pv 0) rfl) pa_nil)))))), ?_⟩
    obtain ⟨dp, u0, v0, g1, g2, g3⟩ := hpt
    refine ⟨_, rfl, c, _, dp, _, _, rfl, g1, T.cPoint.cl, T.cPoint.na _ (.head _), fs_Point_minus _ _, _, rfl, p, a, rfl, hst, ok, fun ps H1 s1 hp1 => ?_⟩
    obtain ⟨dq, u1, v1, q1, q2, q3⟩ := hp1
    obtain ⟨dx, f, h1, h2⟩ := hst.same s1
    refine ⟨ps, _, dq, _, _, rfl, q1, T.cPoint.cl, T.cPoint.na _ (.head _), fs_Point_minus _ _, ?_⟩
    refine ⟨u0, u1, _, _, rfl, s1 _ _ g2, q2, zu, su, fun pg H2 s2 hpg => ?_⟩
    refine ⟨_, rfl, _, rfl, p, _, dx, _, _, rfl, s2 _ _ h1, T.cStation.cl, T.cStation.na _ (.tail _ (.tail _ (.head _))), fs_Station_factor _ _ _, ?_⟩
    refine ⟨pg, f, _, a.k.up, rfl, hpg, s2 _ _ h2, Sm.of (Ma.sub_B okp.u (Ma.u_B ok)) (by decide) (by decide), sk, fun pr H3 s3 hpr => ?_⟩
    exact k pr H3 (s1.trans (s2.trans s3)) hpr
theorem ok_clock_by_plus (T : Txt K mg A) : FnOk P w K mg base CX0 4 A.f_clock_by_plus A.fd_clock_by_plus ["station", "point"] (sp_by A fun a pt => a.atV pt.v) := by
  refine T.d_clock_by_plus.F.ok sc_clock_by_plus (fun vs H Q E h => ?_) (fun cdv _ outer s H vs R E hr h => ?_)
  · obtain ⟨p, c, a, q, rfl, _⟩ := h
    rfl
  · obtain ⟨p, c, a, pt, rfl, hst, ok, hpt, okp, k⟩ := h
    obtain ⟨su, sv, sk⟩ := sm_of ok
    obtain ⟨zu, zv⟩ := sm_p okp
    refine ⟨_, (pss_cons (ps_set (i := 2) sc_clock_by_plus.nd rfl (Or.inl rfl) (pe_call (ok_subtract T) (hr.mono (by decide)) (by rfl) T.d_subtract.g T.d_subtract.F.kp T.d_subtract.b .nil pass0 (pa_cons (pe_fld (pv 1) rfl) (pa_cons (pe_fld (pe_call (ok_start_of T) (hr.mono (by decide)) (by rfl) T.d_start_of.g T.d_start_of.F.kp T.d_start_of.b .nil pass0 (pa_cons (pv 0) pa_nil)) rfl) pa_nil))))
 (pss_one (ps_ret (pe_call (ok_divide T) (hr.mono (by decide)) (by rfl) T.d_divide.g T.d_divide.F.kp T.d_divide.b .nil pass0 (pa_cons (pv 2) (pa_cons (pe_fld (pv 0) rfl) pa_nil)))))), ?_⟩
    obtain ⟨dp, u0, v0, g1, g2, g3⟩ := hpt
    refine ⟨_, rfl, c, _, dp, _, _, rfl, g1, T.cPoint.cl, T.cPoint.na _ (.tail _ (.head _)), fs_Point_plus _ _, _, rfl, p, a, rfl, hst, ok, fun ps H1 s1 hp1 => ?_⟩
    obtain ⟨dq, u1, v1, q1, q2, q3⟩ := hp1
    obtain ⟨dx, f, h1, h2⟩ := hst.same s1
    refine ⟨ps, _, dq, _, _, rfl, q1, T.cPoint.cl, T.cPoint.na _ (.tail _ (.head _)), fs_Point_plus _ _, ?_⟩
    refine ⟨v0, v1, _, _, rfl, s1 _ _ g3, q3, zv, sv, fun pg H2 s2 hpg => ?_⟩
    refine ⟨_, rfl, _, rfl, p, _, dx, _, _, rfl, s2 _ _ h1, T.cStation.cl, T.cStation.na _ (.tail _ (.tail _ (.head _))), fs_Station_factor _ _ _, ?_⟩
    refine ⟨pg, f, _, a.k.p, a.k.q, rfl, hpg, s2 _ _ h2, Sm.of (Ma.sub_B okp.v (Ma.v_B ok)) (by decide) (by decide), ok.p1, ok.q1, lt60 ok.p2, lt60 ok.q2, fun pr H3 s3 hpr => ?_⟩
    exact k pr H3 (s1.trans (s2.trans s3)) hpr
theorem ok_hears (T : Txt K mg A) : FnOk P w K mg base CX0 5 A.f_hears A.fd_hears ["station", "point"] (sp_by A fun a pt => a.hears pt) := by
  refine T.d_hears.F.ok sc_hears (fun vs H Q E h => ?_) (fun cdv _ outer s H vs R E hr h => ?_)
  · obtain ⟨p, c, a, q, rfl, _⟩ := h
    rfl
  · obtain ⟨p, c, a, pt, rfl, hst, ok, hpt, okp, k⟩ := h
    refine ⟨_, (pss_one (ps_ret (pe_call (ok_greater_of T) (hr.mono (by decide)) (by rfl) T.d_greater_of.g T.d_greater_of.F.kp T.d_greater_of.b .nil pass0 (pa_cons (pe_call (ok_clock_by_minus T) (hr.mono (by decide)) (by rfl) T.d_clock_by_minus.g T.d_clock_by_minus.F.kp T.d_clock_by_minus.b .nil pass0 (pa_cons (pv 0) (pa_cons (pv 1) pa_nil))) (pa_cons (pe_call (ok_clock_by_plus T) (hr.mono (by decide)) (by rfl) T.d_clock_by_plus.g T.d_clock_by_plus.F.kp T.d_clock_by_plus.b .nil pass0 (pa_cons (pv 0) (pa_cons (pv 1) pa_nil))) pa_nil))))), ?_⟩
    refine ⟨_, rfl, _, rfl, p, c, a, pt, rfl, hst, ok, hpt, okp, fun px H1 s1 hx => ?_⟩
    refine ⟨_, rfl, _, rfl, p, c, a, pt, rfl, hst.same s1, ok, hpt.same s1, okp, fun py H2 s2 hy => ?_⟩
    refine ⟨px, py, _, _, rfl, s2 _ _ hx, hy, Sm.of (Ma.atU_B ok okp) (by decide) (by decide), Sm.of (Ma.atV_B ok okp) (by decide) (by decide), fun pr H3 s3 hpr => ?_⟩
    exact k pr H3 (s1.trans (s2.trans s3)) hpr
def sp_of (A : Ad) (g : Point → Q) : Sp := fun vs H R _ => ∃ (c : Addr) (pt : Point), vs = [.ref c] ∧ PtAt A H c pt ∧ Ma.OkP pt ∧ RetQ H (g pt) R
theorem ok_time_of (T : Txt K mg A) : FnOk P w K mg base CX0 4 A.f_time_of A.fd_time_of ["point"] (sp_of A Point.time) := by
  refine T.d_time_of.F.ok sc_time_of (fun vs H Q E h => ?_) (fun cdv _ outer s H vs R E hr h => ?_)
  · obtain ⟨c, a, rfl, _⟩ := h
    rfl
  · obtain ⟨c, pt, rfl, ⟨dp, u0, v0, g1, g2, g3⟩, okp, k⟩ := h
    obtain ⟨zu, zv⟩ := sm_p okp
    refine ⟨_, (pss_one (ps_ret (pe_call (ok_half T) (hr.mono (by decide)) (by rfl) T.d_half.g T.d_half.F.kp T.d_half.b .nil pass0 (pa_cons (pe_call (ok_add T) (hr.mono (by decide)) (by rfl) T.d_add.g T.d_add.F.kp T.d_add.b .nil pass0 (pa_cons (pe_fld (pv 0) rfl) (pa_cons (pe_fld (pv 0) rfl) pa_nil))) pa_nil)))), ?_⟩
    refine ⟨_, rfl, c, _, dp, _, _, rfl, g1, T.cPoint.cl, T.cPoint.na _ (.tail _ (.head _)), fs_Point_plus _ _, _, rfl, c, _, dp, _, _, rfl, g1, T.cPoint.cl, T.cPoint.na _ (.head _), fs_Point_minus _ _, ?_⟩
    refine ⟨v0, u0, _, _, rfl, g3, g2, zv, zu, fun pr H1 s1 hpr => ?_⟩
    refine ⟨pr, _, rfl, hpr, Sm.of (Ma.add_B okp.v okp.u) (by decide) (by decide), fun pz H2 s2 hpz => ?_⟩
    rw [Ma.add_comm] at hpz
    exact k pz H2 (s1.trans s2) hpz
theorem ok_place_of (T : Txt K mg A) : FnOk P w K mg base CX0 4 A.f_place_of A.fd_place_of ["point"] (sp_of A Point.place) := by
  refine T.d_place_of.F.ok sc_place_of (fun vs H Q E h => ?_) (fun cdv _ outer s H vs R E hr h => ?_)
  · obtain ⟨c, a, rfl, _⟩ := h
    rfl
  · obtain ⟨c, pt, rfl, ⟨dp, u0, v0, g1, g2, g3⟩, okp, k⟩ := h
    obtain ⟨zu, zv⟩ := sm_p okp
    refine ⟨_, (pss_one (ps_ret (pe_call (ok_half T) (hr.mono (by decide)) (by rfl) T.d_half.g T.d_half.F.kp T.d_half.b .nil pass0 (pa_cons (pe_call (ok_subtract T) (hr.mono (by decide)) (by rfl) T.d_subtract.g T.d_subtract.F.kp T.d_subtract.b .nil pass0 (pa_cons (pe_fld (pv 0) rfl) (pa_cons (pe_fld (pv 0) rfl) pa_nil))) pa_nil)))), ?_⟩
    refine ⟨_, rfl, c, _, dp, _, _, rfl, g1, T.cPoint.cl, T.cPoint.na _ (.tail _ (.head _)), fs_Point_plus _ _, _, rfl, c, _, dp, _, _, rfl, g1, T.cPoint.cl, T.cPoint.na _ (.head _), fs_Point_minus _ _, ?_⟩
    refine ⟨v0, u0, _, _, rfl, g3, g2, zv, zu, fun pr H1 s1 hpr => ?_⟩
    refine ⟨pr, _, rfl, hpr, Sm.of (Ma.sub_B okp.v okp.u) (by decide) (by decide), fun pz H2 s2 hpz => ?_⟩
    exact k pz H2 (s1.trans s2) hpz
theorem ok_till (T : Txt K mg A) : FnOk P w K mg base CX0 5 A.f_till A.fd_till ["station", "point"] (sp_by A fun a pt => a.till pt) := by
  refine T.d_till.F.ok sc_till (fun vs H Q E h => ?_) (fun cdv _ outer s H vs R E hr h => ?_)
  · obtain ⟨p, c, a, q, rfl, _⟩ := h
    rfl
  · obtain ⟨p, c, a, pt, rfl, hst, ok, hpt, okp, k⟩ := h
    refine ⟨_, (pss_one (ps_ret (pe_call (ok_lesser_of T) (hr.mono (by decide)) (by rfl) T.d_lesser_of.g T.d_lesser_of.F.kp T.d_lesser_of.b .nil pass0 (pa_cons (pe_call (ok_clock_by_minus T) (hr.mono (by decide)) (by rfl) T.d_clock_by_minus.g T.d_clock_by_minus.F.kp T.d_clock_by_minus.b .nil pass0 (pa_cons (pv 0) (pa_cons (pv 1) pa_nil))) (pa_cons (pe_call (ok_clock_by_plus T) (hr.mono (by decide)) (by rfl) T.d_clock_by_plus.g T.d_clock_by_plus.F.kp T.d_clock_by_plus.b .nil pass0 (pa_cons (pv 0) (pa_cons (pv 1) pa_nil))) pa_nil))))), ?_⟩
    refine ⟨_, rfl, _, rfl, p, c, a, pt, rfl, hst, ok, hpt, okp, fun px H1 s1 hx => ?_⟩
    refine ⟨_, rfl, _, rfl, p, c, a, pt, rfl, hst.same s1, ok, hpt.same s1, okp, fun py H2 s2 hy => ?_⟩
    refine ⟨px, py, _, _, rfl, s2 _ _ hx, hy, Sm.of (Ma.atU_B ok okp) (by decide) (by decide), Sm.of (Ma.atV_B ok okp) (by decide) (by decide), fun pr H3 s3 hpr => ?_⟩
    exact k pr H3 (s1.trans (s2.trans s3)) hpr
theorem ok_own_time (T : Txt K mg A) : FnOk P w K mg base CX0 6 A.f_own_time A.fd_own_time ["station", "point"] (sp_by A fun a pt => (a.own pt).1) := by
  refine T.d_own_time.F.ok sc_own_time (fun vs H Q E h => ?_) (fun cdv _ outer s H vs R E hr h => ?_)
  · obtain ⟨p, c, a, q, rfl, _⟩ := h
    rfl
  · obtain ⟨p, c, a, pt, rfl, hst, ok, hpt, okp, k⟩ := h
    refine ⟨_, (pss_one (ps_ret (pe_call (ok_half T) (hr.mono (by decide)) (by rfl) T.d_half.g T.d_half.F.kp T.d_half.b .nil pass0 (pa_cons (pe_call (ok_add T) (hr.mono (by decide)) (by rfl) T.d_add.g T.d_add.F.kp T.d_add.b .nil pass0 (pa_cons (pe_call (ok_hears T) (hr.mono (by decide)) (by rfl) T.d_hears.g T.d_hears.F.kp T.d_hears.b .nil pass0 (pa_cons (pv 0) (pa_cons (pv 1) pa_nil))) (pa_cons (pe_call (ok_till T) (hr.mono (by decide)) (by rfl) T.d_till.g T.d_till.F.kp T.d_till.b .nil pass0 (pa_cons (pv 0) (pa_cons (pv 1) pa_nil))) pa_nil))) pa_nil)))), ?_⟩
    refine ⟨_, rfl, _, rfl, p, c, a, pt, rfl, hst, ok, hpt, okp, fun px H1 s1 hx => ?_⟩
    refine ⟨_, rfl, _, rfl, p, c, a, pt, rfl, hst.same s1, ok, hpt.same s1, okp, fun py H2 s2 hy => ?_⟩
    refine ⟨px, py, _, _, rfl, s2 _ _ hx, hy, Sm.of (Ma.hears_B ok okp) (by decide) (by decide), Sm.of (Ma.till_B ok okp) (by decide) (by decide), fun pr H3 s3 hpr => ?_⟩
    refine ⟨pr, _, rfl, hpr, Sm.of (Ma.sum_B ok okp) (by decide) (by decide), fun pz H4 s4 hpz => ?_⟩
    exact k pz H4 (s1.trans (s2.trans (s3.trans s4))) hpz
theorem ok_own_place (T : Txt K mg A) : FnOk P w K mg base CX0 6 A.f_own_place A.fd_own_place ["station", "point"] (sp_by A fun a pt => (a.own pt).2) := by
  refine T.d_own_place.F.ok sc_own_place (fun vs H Q E h => ?_) (fun cdv _ outer s H vs R E hr h => ?_)
  · obtain ⟨p, c, a, q, rfl, _⟩ := h
    rfl
  · obtain ⟨p, c, a, pt, rfl, hst, ok, hpt, okp, k⟩ := h
    refine ⟨_, (pss_one (ps_ret (pe_call (ok_half T) (hr.mono (by decide)) (by rfl) T.d_half.g T.d_half.F.kp T.d_half.b .nil pass0 (pa_cons (pe_call (ok_subtract T) (hr.mono (by decide)) (by rfl) T.d_subtract.g T.d_subtract.F.kp T.d_subtract.b .nil pass0 (pa_cons (pe_call (ok_hears T) (hr.mono (by decide)) (by rfl) T.d_hears.g T.d_hears.F.kp T.d_hears.b .nil pass0 (pa_cons (pv 0) (pa_cons (pv 1) pa_nil))) (pa_cons (pe_call (ok_till T) (hr.mono (by decide)) (by rfl) T.d_till.g T.d_till.F.kp T.d_till.b .nil pass0 (pa_cons (pv 0) (pa_cons (pv 1) pa_nil))) pa_nil))) pa_nil)))), ?_⟩
    refine ⟨_, rfl, _, rfl, p, c, a, pt, rfl, hst, ok, hpt, okp, fun px H1 s1 hx => ?_⟩
    refine ⟨_, rfl, _, rfl, p, c, a, pt, rfl, hst.same s1, ok, hpt.same s1, okp, fun py H2 s2 hy => ?_⟩
    refine ⟨px, py, _, _, rfl, s2 _ _ hx, hy, Sm.of (Ma.hears_B ok okp) (by decide) (by decide), Sm.of (Ma.till_B ok okp) (by decide) (by decide), fun pr H3 s3 hpr => ?_⟩
    refine ⟨pr, _, rfl, hpr, Sm.of (Ma.dif_B ok okp) (by decide) (by decide), fun pz H4 s4 hpz => ?_⟩
    exact k pz H4 (s1.trans (s2.trans (s3.trans s4))) hpz
/-- == of two fractions as they lie -/
theorem dp_Q {H : Hp} {p : Addr} {q : Q} (h : H p = some (tupQ q)) : Dp K H (.ref p) (.tuple [.int q.n, .int (q.d : Nat)]) := .tup (at0 h) (.cons (.int _) (.cons (.int _) .nil))
theorem eqv_Q (x y : Q) : PyData.eqv (.tuple [.int x.n, .int (x.d : Nat)]) (.tuple [.int y.n, .int (y.d : Nat)]) = decide (x = y) := by
  simp only [PyData.eqv, PyData.eqvAll, Bool.and_true]
  obtain ⟨a, b⟩ := x
  obtain ⟨c, d⟩ := y
  rw [Bool.eq_iff_iff, Bool.and_eq_true, decide_eq_true_iff]
  simp only [Q.mk.injEq, beq_iff_eq]
  omega
theorem eq_low {x y : Q} (h1 : Ma.Low x) (h2 : Ma.Low y) : decide (x = y) = x.eq y := by
  rw [Bool.eq_iff_iff, decide_eq_true_iff]
  exact (Ma.low_eq h1 h2).symm
def sp_side (A : Ad) : Sp := fun vs H R _ => ∃ (p c : Addr) (a : Station) (pt : Point), vs = [.ref p, .ref c] ∧ StAt A H p a ∧ Ma.OkS a ∧ PtAt A H c pt ∧ Ma.OkP pt ∧ ∀ H', Same H H' → R (.int (a.side pt : Nat)) H'
theorem ok_side (T : Txt K mg A) : FnOk P w K mg base CX0 5 A.f_side A.fd_side ["station", "point"] (sp_side A) := by
  refine T.d_side.F.ok sc_side (fun vs H Q E h => ?_) (fun cdv _ outer s H vs R E hr h => ?_)
  · obtain ⟨p, c, a, q, rfl, _⟩ := h
    rfl
  · obtain ⟨p, c, a, pt, rfl, hst, ok, hpt, okp, k⟩ := h
    refine ⟨_, (pss_cons (ps_set (i := 2) sc_side.nd rfl (Or.inl rfl) (pe_call (ok_clock_by_minus T) (hr.mono (by decide)) (by rfl) T.d_clock_by_minus.g T.d_clock_by_minus.F.kp T.d_clock_by_minus.b .nil pass0 (pa_cons (pv 0) (pa_cons (pv 1) pa_nil))))
 (pss_cons (ps_set (i := 3) sc_side.nd rfl (Or.inl rfl) (pe_call (ok_clock_by_plus T) (hr.mono (by decide)) (by rfl) T.d_clock_by_plus.g T.d_clock_by_plus.F.kp T.d_clock_by_plus.b .nil pass0 (pa_cons (pv 0) (pa_cons (pv 1) pa_nil))))
 (pss_cons (ps_if (pt_cmpR (op_eqD hr.units) (pv 2) (pv 3) (nomark _)) (pss_one (ps_ret (pe_glob (v := .int (0)) rfl T.k_THERE ⟨_, rfl⟩))) pss_nil)
 (pss_cons (ps_if (pt_val (pe_call (ok_at_most T) (hr.mono (by decide)) (by rfl) T.d_at_most.g T.d_at_most.F.kp T.d_at_most.b .nil pass0 (pa_cons (pv 2) (pa_cons (pv 3) pa_nil)))) (pss_one (ps_ret (pe_glob (v := .int (1)) rfl T.k_ON_THE_RIGHT ⟨_, rfl⟩))) pss_nil)
 (pss_one (ps_ret (pe_glob (v := .int (2)) rfl T.k_ON_THE_LEFT ⟨_, rfl⟩))))))), ?_⟩
    refine ⟨_, rfl, _, rfl, p, c, a, pt, rfl, hst, ok, hpt, okp, fun px H1 s1 hx => ?_⟩
    refine ⟨_, rfl, _, rfl, p, c, a, pt, rfl, hst.same s1, ok, hpt.same s1, okp, fun py H2 s2 hy => ?_⟩
    have s12 := s1.trans s2
    refine ⟨_, rfl, _, rfl, _, _, dp_Q (s2 _ _ hx), dp_Q hy, rfl, rfl, _, rfl, ?_⟩
    have e0 : a.side pt = if (a.atU pt.u).eq (a.atV pt.v) then 0 else if (a.atU pt.u).le (a.atV pt.v) then 1 else 2 := rfl
    rw [eqv_Q, eq_low (Ma.atU_low ok okp) (Ma.atV_low ok okp)]
    rw [e0] at k
    cases c1 : (a.atU pt.u).eq (a.atV pt.v) with
    | true =>
      rw [c1, if_pos rfl] at k
      exact iteT (k H2 s12)
    | false =>
      rw [c1, if_neg Bool.false_ne_true] at k
      refine iteF ⟨_, rfl, _, rfl, px, py, _, _, rfl, s2 _ _ hx, hy, Sm.of (Ma.atU_B ok okp) (by decide) (by decide), Sm.of (Ma.atV_B ok okp) (by decide) (by decide), _, rfl, ?_⟩
      cases c2 : (a.atU pt.u).le (a.atV pt.v) with
      | true =>
        rw [c2, if_pos rfl] at k
        exact iteT (k H2 s12)
      | false =>
        rw [c2, if_neg Bool.false_ne_true] at k
        exact iteF (k H2 s12)
def sp_can (A : Ad) : Sp := fun vs H R _ => ∃ (c b : Addr) (x y : Point), vs = [.ref c, .ref b] ∧ PtAt A H c x ∧ PtAt A H b y ∧ Ma.OkP x ∧ Ma.OkP y ∧ R (.bl (y.u.le x.u && y.v.le x.v)) H
theorem ok_can_have_heard (T : Txt K mg A) : FnOk P w K mg base CX0 2 A.f_can_have_heard A.fd_can_have_heard ["point", "other"] (sp_can A) := by
  refine T.d_can_have_heard.F.ok sc_can_have_heard (fun vs H Q E h => ?_) (fun cdv _ outer s H vs R E hr h => ?_)
  · obtain ⟨c, b, x, y, rfl, _⟩ := h
    rfl
  · obtain ⟨c, b, x, y, rfl, ⟨dc, u0, v0, g1, g2, g3⟩, ⟨db, u1, v1, q1, q2, q3⟩, okx, oky, k⟩ := h
    obtain ⟨xu, xv⟩ := sm_p okx
    obtain ⟨yu, yv⟩ := sm_p oky
    refine ⟨_, (pss_one (ps_ret (pe_and (pe_call (ok_at_most T) (hr.mono (by decide)) (by rfl) T.d_at_most.g T.d_at_most.F.kp T.d_at_most.b .nil pass0 (pa_cons (pe_fld (pv 1) rfl) (pa_cons (pe_fld (pv 0) rfl) pa_nil))) (pe_one (pe_call (ok_at_most T) (hr.mono (by decide)) (by rfl) T.d_at_most.g T.d_at_most.F.kp T.d_at_most.b .nil pass0 (pa_cons (pe_fld (pv 1) rfl) (pa_cons (pe_fld (pv 0) rfl) pa_nil))))))), ?_⟩
    refine ⟨_, rfl, b, _, db, _, _, rfl, q1, T.cPoint.cl, T.cPoint.na _ (.head _), fs_Point_minus _ _, _, rfl, c, _, dc, _, _, rfl, g1, T.cPoint.cl, T.cPoint.na _ (.head _), fs_Point_minus _ _, ?_⟩
    refine ⟨u1, u0, _, _, rfl, q2, g2, yu, xu, _, rfl, ?_⟩
    cases c1 : y.u.le x.u with
    | false =>
      rw [c1, Bool.false_and] at k
      exact iteF k
    | true =>
      rw [c1, Bool.true_and] at k
      refine iteT ⟨_, rfl, b, _, db, _, _, rfl, q1, T.cPoint.cl, T.cPoint.na _ (.tail _ (.head _)), fs_Point_plus _ _, _, rfl, c, _, dc, _, _, rfl, g1, T.cPoint.cl, T.cPoint.na _ (.tail _ (.head _)), fs_Point_plus _ _, ?_⟩
      exact ⟨v1, v0, _, _, rfl, q3, g3, yv, xv, k⟩
end
end Py
namespace Py
open PySem PySem.Spec PyProof.Rows L2
open Kv414 (Q gcd')
open Kv415 (Station Point)
open Kv417 (Fact Letter Now Abs)
/-! ### lists pair by pair -/
theorem pr_get {α β : Type} {F : α → β → Prop} : ∀ {xs : List α} {ys : List β} {i : Nat} {y : β}, Paired F xs ys → ys[i]? = some y → ∃ x, xs[i]? = some x ∧ F x y
  | _, _, _, _, .nil, e => by simp at e
  | _, _, 0, _, .cons r _, e => by
    simp at e
    subst e
    exact ⟨_, rfl, r⟩
  | _, _, i + 1, y, .cons _ t, e => by
    obtain ⟨x, h1, h2⟩ := pr_get (i := i) (y := y) t (by simpa using e)
    exact ⟨x, by simpa using h1, h2⟩
theorem pr_len {α β : Type} {F : α → β → Prop} : ∀ {xs : List α} {ys : List β}, Paired F xs ys → xs.length = ys.length
  | _, _, .nil => rfl
  | _, _, .cons _ t => by rw [List.length_cons, List.length_cons, pr_len t]
theorem pr_snoc {α β : Type} {F : α → β → Prop} {x : α} {y : β} (r : F x y) : ∀ {xs : List α} {ys : List β}, Paired F xs ys → Paired F (xs ++ [x]) (ys ++ [y])
  | _, _, .nil => .cons r .nil
  | _, _, .cons q t => .cons q (pr_snoc r t)
theorem pr_drop {α β : Type} {F : α → β → Prop} : ∀ {xs : List α} {ys : List β} (n : Nat), Paired F xs ys → Paired F (xs.drop n) (ys.drop n)
  | _, _, 0, r => r
  | _, _, _ + 1, .nil => .nil
  | _, _, n + 1, .cons _ t => pr_drop n t
theorem pr_pop {α β : Type} {F : α → β → Prop} : ∀ {xs : List α} {ys : List β}, Paired F xs ys → Paired F xs.dropLast ys.dropLast
  | _, _, .nil => .nil
  | _, _, .cons _ .nil => .nil
  | _, _, .cons q (.cons r t) => .cons q (pr_pop (.cons r t))
theorem pr_map {α β : Type} {F G : α → β → Prop} : ∀ {xs : List α} {ys : List β}, Paired F xs ys → (∀ x y, y ∈ ys → F x y → G x y) → Paired G xs ys
  | _, _, .nil, _ => .nil
  | _, _, .cons r t, f => .cons (f _ _ (List.mem_cons_self ..) r) (pr_map t fun x y h => f x y (List.mem_cons_of_mem _ h))
abbrev refs (l : List Addr) : List V := l.map V.ref
/-! ### the heap without the desk -/
def wo (H : Hp) (d : Addr) : Hp := fun b => if b = d then none else H b
theorem wo_of {H : Hp} {d b : Addr} {o : HO} (h : H b = some o) (n : b ≠ d) : wo H d b = some o := by
  unfold wo
  rw [if_neg n]
  exact h
theorem wo_at {H : Hp} {d b : Addr} {o : HO} (h : wo H d b = some o) : H b = some o := by
  unfold wo at h
  split at h
  · cases h
  · exact h
theorem wo_ne {H : Hp} {d b : Addr} {o : HO} (h : wo H d b = some o) : b ≠ d := by
  unfold wo at h
  split at h
  · cases h
  · assumption
theorem wo_le (H : Hp) (d : Addr) : Same (wo H d) H := fun _ _ h => wo_at h
theorem wo_same {H H' : Hp} {d : Addr} (s : Same H H') : Same (wo H d) (wo H' d) := fun _ _ h => wo_of (s _ _ (wo_at h)) (wo_ne h)
/-! ### facts, letters, a state, the desk as they lie -/
abbrev stAt (st : List Station) (i : Nat) : Station := st.getD i ⟨⟨0, 0⟩, ⟨1, 1⟩⟩
def FactAt (A : Ad) (H : Hp) (st : List Station) (p : Addr) (f : Fact) : Prop := ∃ dx t c, H p = some (.ins A.C_Fact dx (fs_Fact (.int (f.i : Nat)) (.ref t) (.ref c))) ∧ H t = some (tupQ f.s) ∧ PtAt A H c ((stAt st f.i).at_ f.s)
def LetAt (A : Ad) (H : Hp) (st : List Station) (p : Addr) (l : Letter) : Prop := ∃ dx t c, H p = some (.ins A.C_Letter dx (fs_Letter (.int (l.i : Nat)) (.int (l.j : Nat)) (.ref t) (.ref c))) ∧ H t = some (tupQ l.s) ∧ H c = some (tupQ ((stAt st l.j).hears ((stAt st l.i).at_ l.s)))
theorem FactAt.same {A : Ad} {H H' : Hp} {st : List Station} {p : Addr} {f : Fact} (h : FactAt A H st p f) (s : Same H H') : FactAt A H' st p f := by
  obtain ⟨dx, t, c, h1, h2, h3⟩ := h
  exact ⟨dx, t, c, s _ _ h1, s _ _ h2, h3.same s⟩
theorem LetAt.same {A : Ad} {H H' : Hp} {st : List Station} {p : Addr} {f : Letter} (h : LetAt A H st p f) (s : Same H H') : LetAt A H' st p f := by
  obtain ⟨dx, t, c, h1, h2, h3⟩ := h
  exact ⟨dx, t, c, s _ _ h1, s _ _ h2, s _ _ h3⟩
structure NowR (A : Ad) (H : Hp) (a : Addr) (n : Now) (dx ls lf ll : Addr) (ss fs ms : List Addr) : Prop where
  o : H a = some (.ins A.C_State dx (fs_State (.ref ls) (.ref lf) (.ref ll) (.int (n.held : Nat)) (.int (n.false_ : Nat))))
  s : H ls = some (.lst (refs ss))
  f : H lf = some (.lst (refs fs))
  l : H ll = some (.lst (refs ms))
  sp : Paired (StAt A H) ss n.st
  fp : Paired (FactAt A H n.st) fs n.facts
  lp : Paired (LetAt A H n.st) ms n.letters
def NowAt (A : Ad) (H : Hp) (a : Addr) (n : Now) : Prop := ∃ dx ls lf ll ss fs ms, NowR A H a n dx ls lf ll ss fs ms
theorem NowR.same {A : Ad} {H H' : Hp} {a : Addr} {n : Now} {dx ls lf ll : Addr} {ss fs ms : List Addr} (h : NowR A H a n dx ls lf ll ss fs ms) (s : Same H H') : NowR A H' a n dx ls lf ll ss fs ms :=
  ⟨s _ _ h.o, s _ _ h.s, s _ _ h.f, s _ _ h.l, pr_map h.sp fun _ _ _ q => q.same s, pr_map h.fp fun _ _ _ q => q.same s, pr_map h.lp fun _ _ _ q => q.same s⟩
theorem NowAt.same {A : Ad} {H H' : Hp} {a : Addr} {n : Now} (h : NowAt A H a n) (s : Same H H') : NowAt A H' a n := by
  obtain ⟨dx, ls, lf, ll, ss, fs, ms, h⟩ := h
  exact ⟨dx, ls, lf, ll, ss, fs, ms, h.same s⟩
/-- what holds of the numbers kept -/
abbrev OkN (n : Now) : Prop := Ma.OkN n
abbrev OkA (a : Abs) : Prop := Ma.OkA a
def DeskAt (A : Ad) (H : Hp) (d : Addr) : Kv417.State → Prop
  | none => ∃ dx l, H d = some (.ins A.C_Desk dx (fs_Desk .non (.ref l)))
  | some a => ∃ dx n l ps, H d = some (.ins A.C_Desk dx (fs_Desk (.ref n) (.ref l))) ∧ wo H d l = some (.lst (refs ps)) ∧ NowAt A (wo H d) n a.now ∧ Paired (NowAt A (wo H d)) ps a.past.reverse
theorem _root_.Ma.OkN.ok {n : Now} (h : OkN n) {i : Nat} (hi : i < n.st.length) : Ma.OkS (stAt n.st i) := by
  unfold stAt
  rw [List.getD_eq_getElem?_getD, List.getElem?_eq_getElem hi]
  exact h.st _ (List.getElem_mem hi)
theorem NowR.station {A : Ad} {H : Hp} {a : Addr} {n : Now} {dx ls lf ll : Addr} {ss fs ms : List Addr} (h : NowR A H a n dx ls lf ll ss fs ms) {i : Nat} (hi : i < n.st.length) : ∃ p, (refs ss)[i]? = some (.ref p) ∧ StAt A H p (stAt n.st i) := by
  obtain ⟨x, h1, h2⟩ := pr_get h.sp (List.getElem?_eq_getElem hi)
  refine ⟨x, by rw [List.getElem?_map, h1]; rfl, ?_⟩
  unfold stAt
  rw [List.getD_eq_getElem?_getD, List.getElem?_eq_getElem hi]
  exact h2
theorem NowR.fact {A : Ad} {H : Hp} {a : Addr} {n : Now} {dx ls lf ll : Addr} {ss fs ms : List Addr} (h : NowR A H a n dx ls lf ll ss fs ms) {i : Nat} (hi : i < n.facts.length) : ∃ p, (refs fs)[i]? = some (.ref p) ∧ FactAt A H n.st p (n.fact i) := by
  obtain ⟨x, h1, h2⟩ := pr_get h.fp (List.getElem?_eq_getElem hi)
  refine ⟨x, by rw [List.getElem?_map, h1]; rfl, ?_⟩
  unfold Now.fact
  rw [List.getD_eq_getElem?_getD, List.getElem?_eq_getElem hi]
  exact h2
theorem NowR.letter {A : Ad} {H : Hp} {a : Addr} {n : Now} {dx ls lf ll : Addr} {ss fs ms : List Addr} (h : NowR A H a n dx ls lf ll ss fs ms) {i : Nat} (hi : i < n.letters.length) : ∃ p, (refs ms)[i]? = some (.ref p) ∧ LetAt A H n.st p (n.letter i) := by
  obtain ⟨x, h1, h2⟩ := pr_get h.lp (List.getElem?_eq_getElem hi)
  refine ⟨x, by rw [List.getElem?_map, h1]; rfl, ?_⟩
  unfold Now.letter
  rw [List.getD_eq_getElem?_getD, List.getElem?_eq_getElem hi]
  exact h2
theorem _root_.Ma.OkN.fact {n : Now} (h : OkN n) {i : Nat} (hi : i < n.facts.length) : (n.fact i).i < n.st.length ∧ Ma.OkC (n.fact i).s := by
  unfold Now.fact
  rw [List.getD_eq_getElem?_getD, List.getElem?_eq_getElem hi]
  exact h.fi _ (List.getElem_mem hi)
theorem _root_.Ma.OkN.letter {n : Now} (h : OkN n) {i : Nat} (hi : i < n.letters.length) : (n.letter i).i < n.st.length ∧ (n.letter i).j < n.st.length ∧ Ma.OkC (n.letter i).s := by
  unfold Now.letter
  rw [List.getD_eq_getElem?_getD, List.getElem?_eq_getElem hi]
  exact h.li _ (List.getElem_mem hi)
section
variable {P : Program} {w : World} {K : PySem.W.Frag} {mg : Str → Option Value} {base : Heap} {A : Ad}
def spi_Fact (A : Ad) : Sp := fun vs H R _ => ∃ (p dx : Addr) (v0 v1 v2 : V), vs = [.ref p, v0, v1, v2] ∧ H p = some (.ins A.C_Fact dx []) ∧ R .non (upd H p (.ins A.C_Fact dx (fs_Fact v0 v1 v2)))
theorem oki_Fact (T : Txt K mg A) : FnOk P w K mg base CX0 1 A.i_Fact A.id_Fact ["self", "station", "when", "point"] (spi_Fact A) := by
  refine T.cFact.F.ok sci_Fact (fun vs H Q E h => ?_) (fun cdv _ outer s H vs R E hr h => ?_)
  · obtain ⟨p, dx, v0, v1, v2, rfl, _⟩ := h
    rfl
  · obtain ⟨p, dx, v0, v1, v2, rfl, hp, k⟩ := h
    refine ⟨_, (pss_cons (ps_fld (pv 0) (pv 1) rfl)
 (pss_cons (ps_fld (pv 0) (pv 2) rfl)
 (pss_one (ps_fld (pv 0) (pv 3) rfl)))), ?_⟩
    refine ⟨_, rfl, _, rfl, p, A.C_Fact, dx, _, rfl, hp, T.cFact.cl, T.cFact.na _ (.head _), (by show 0 < 1000; decide), ?_⟩
    refine ⟨_, rfl, _, rfl, p, A.C_Fact, dx, _, rfl, upd_same, T.cFact.cl, T.cFact.na _ (.tail _ (.head _)), (by show 1 < 1000; decide), ?_⟩
    refine ⟨_, rfl, _, rfl, p, A.C_Fact, dx, _, rfl, upd_same, T.cFact.cl, T.cFact.na _ (.tail _ (.tail _ (.head _))), (by show 2 < 1000; decide), ?_⟩
    show R .non _
    rw [upd_upd, upd_upd, mk_Fact]
    exact k
def spi_Letter (A : Ad) : Sp := fun vs H R _ => ∃ (p dx : Addr) (v0 v1 v2 v3 : V), vs = [.ref p, v0, v1, v2, v3] ∧ H p = some (.ins A.C_Letter dx []) ∧ R .non (upd H p (.ins A.C_Letter dx (fs_Letter v0 v1 v2 v3)))
theorem oki_Letter (T : Txt K mg A) : FnOk P w K mg base CX0 1 A.i_Letter A.id_Letter ["self", "sender", "receiver", "sent", "arrives"] (spi_Letter A) := by
  refine T.cLetter.F.ok sci_Letter (fun vs H Q E h => ?_) (fun cdv _ outer s H vs R E hr h => ?_)
  · obtain ⟨p, dx, v0, v1, v2, v3, rfl, _⟩ := h
    rfl
  · obtain ⟨p, dx, v0, v1, v2, v3, rfl, hp, k⟩ := h
    refine ⟨_, (pss_cons (ps_fld (pv 0) (pv 1) rfl)
 (pss_cons (ps_fld (pv 0) (pv 2) rfl)
 (pss_cons (ps_fld (pv 0) (pv 3) rfl)
 (pss_one (ps_fld (pv 0) (pv 4) rfl))))), ?_⟩
    refine ⟨_, rfl, _, rfl, p, A.C_Letter, dx, _, rfl, hp, T.cLetter.cl, T.cLetter.na _ (.head _), (by show 0 < 1000; decide), ?_⟩
    refine ⟨_, rfl, _, rfl, p, A.C_Letter, dx, _, rfl, upd_same, T.cLetter.cl, T.cLetter.na _ (.tail _ (.head _)), (by show 1 < 1000; decide), ?_⟩
    refine ⟨_, rfl, _, rfl, p, A.C_Letter, dx, _, rfl, upd_same, T.cLetter.cl, T.cLetter.na _ (.tail _ (.tail _ (.head _))), (by show 2 < 1000; decide), ?_⟩
    refine ⟨_, rfl, _, rfl, p, A.C_Letter, dx, _, rfl, upd_same, T.cLetter.cl, T.cLetter.na _ (.tail _ (.tail _ (.tail _ (.head _)))), (by show 3 < 1000; decide), ?_⟩
    show R .non _
    rw [upd_upd, upd_upd, upd_upd, mk_Letter]
    exact k
def spi_State (A : Ad) : Sp := fun vs H R _ => ∃ (p dx : Addr), vs = [.ref p] ∧ H p = some (.ins A.C_State dx []) ∧
  ∀ H' l1 l2 l3, (∀ b o, H b = some o → b ≠ p → H' b = some o) → H' p = some (.ins A.C_State dx (fs_State (.ref l1) (.ref l2) (.ref l3) (.int 0) (.int 0))) →
    H' l1 = some (.lst []) → H' l2 = some (.lst []) → H' l3 = some (.lst []) → R .non H'
theorem oki_State (T : Txt K mg A) : FnOk P w K mg base CX0 1 A.i_State A.id_State ["self"] (spi_State A) := by
  refine T.cState.F.ok sci_State (fun vs H Q E h => ?_) (fun cdv _ outer s H vs R E hr h => ?_)
  · obtain ⟨p, dx, rfl, _⟩ := h
    rfl
  · obtain ⟨p, dx, rfl, hp, k⟩ := h
    refine ⟨_, (pss_cons (ps_fld (pv 0) (pe_lst pa_nil) rfl)
 (pss_cons (ps_fld (pv 0) (pe_lst pa_nil) rfl)
 (pss_cons (ps_fld (pv 0) (pe_lst pa_nil) rfl)
 (pss_cons (ps_fld (pv 0) pe_int rfl)
 (pss_one (ps_fld (pv 0) pe_int rfl)))))), ?_⟩
    refine ⟨Nat.zero_le _, fun l1 n1 => ?_⟩
    have e1 : p ≠ l1 := ne_of_none hp n1
    refine ⟨_, rfl, p, A.C_State, dx, _, rfl, upd_at hp n1, T.cState.cl, T.cState.na _ (.head _), (by show 0 < 1000; decide), Nat.zero_le _, fun l2 n2 => ?_⟩
    have e2 : p ≠ l2 := ne_of_none upd_same n2
    have n2' : upd H l1 (.lst []) l2 = none := by rw [upd_ne e2.symm] at n2; exact n2
    have e12 : l1 ≠ l2 := ne_of_none upd_same n2'
    refine ⟨_, rfl, p, A.C_State, dx, _, rfl, upd_at upd_same n2, T.cState.cl, T.cState.na _ (.tail _ (.head _)), (by show 1 < 1000; decide), Nat.zero_le _, fun l3 n3 => ?_⟩
    have e3 : p ≠ l3 := ne_of_none upd_same n3
    have n3' := n3
    rw [upd_ne e3.symm] at n3'
    have e23 : l2 ≠ l3 := ne_of_none upd_same n3'
    rw [upd_ne e23.symm, upd_ne e3.symm] at n3'
    have e13 : l1 ≠ l3 := ne_of_none upd_same n3'
    rw [upd_ne e13.symm] at n3'
    refine ⟨_, rfl, p, A.C_State, dx, _, rfl, upd_at upd_same n3, T.cState.cl, T.cState.na _ (.tail _ (.tail _ (.head _))), (by show 2 < 1000; decide), ?_⟩
    refine ⟨_, rfl, p, A.C_State, dx, _, rfl, upd_same, T.cState.cl, T.cState.na _ (.tail _ (.tail _ (.tail _ (.head _)))), (by show 3 < 1000; decide), ?_⟩
    refine ⟨_, rfl, p, A.C_State, dx, _, rfl, upd_same, T.cState.cl, T.cState.na _ (.tail _ (.tail _ (.tail _ (.tail _ (.head _))))), (by show 4 < 1000; decide), ?_⟩
    have n2'' : H l2 = none := by rw [upd_ne e12.symm] at n2'; exact n2'
    refine k _ l1 l2 l3 (fun b o h nb => ?_) (by rw [upd_same, mk_State]) ?_ ?_ ?_
    · rw [upd_ne nb, upd_ne nb, upd_ne nb, upd_ne (ne_of_none h n3'), upd_ne nb, upd_ne (ne_of_none h n2''), upd_ne nb, upd_ne (ne_of_none h n1)]
      exact h
    · rw [upd_ne e1.symm, upd_ne e1.symm, upd_ne e1.symm, upd_ne e13, upd_ne e1.symm, upd_ne e12, upd_ne e1.symm, upd_same]
    · rw [upd_ne e2.symm, upd_ne e2.symm, upd_ne e2.symm, upd_ne e23, upd_ne e2.symm, upd_same]
    · rw [upd_ne e3.symm, upd_ne e3.symm, upd_ne e3.symm, upd_same]
def spi_Desk (A : Ad) : Sp := fun vs H R _ => ∃ (p dx : Addr), vs = [.ref p] ∧ H p = some (.ins A.C_Desk dx []) ∧
  ∀ H' l, (∀ b o, H b = some o → b ≠ p → H' b = some o) → H' p = some (.ins A.C_Desk dx (fs_Desk .non (.ref l))) → R .non H'
theorem oki_Desk (T : Txt K mg A) : FnOk P w K mg base CX0 1 A.i_Desk A.id_Desk ["self"] (spi_Desk A) := by
  refine T.cDesk.F.ok sci_Desk (fun vs H Q E h => ?_) (fun cdv _ outer s H vs R E hr h => ?_)
  · obtain ⟨p, dx, rfl, _⟩ := h
    rfl
  · obtain ⟨p, dx, rfl, hp, k⟩ := h
    refine ⟨_, (pss_cons (ps_fld (pv 0) pe_non rfl)
 (pss_one (ps_fld (pv 0) (pe_lst pa_nil) rfl))), ?_⟩
    refine ⟨_, rfl, p, A.C_Desk, dx, _, rfl, hp, T.cDesk.cl, T.cDesk.na _ (.head _), (by show 0 < 1000; decide), Nat.zero_le _, fun l nl => ?_⟩
    have e : p ≠ l := ne_of_none upd_same nl
    have nl' : H l = none := by rw [upd_ne e.symm] at nl; exact nl
    refine ⟨_, rfl, p, A.C_Desk, dx, _, rfl, upd_at upd_same nl, T.cDesk.cl, T.cDesk.na _ (.tail _ (.head _)), (by show 1 < 1000; decide), ?_⟩
    refine k _ l (fun b o h nb => ?_) (by rw [upd_same, mk_Desk])
    rw [upd_ne nb, upd_ne (ne_of_none h nl'), upd_ne nb]
    exact h
end
end Py
namespace Py
open PySem PySem.Spec PyProof.Rows L2
open Kv414 (Q gcd')
open Kv415 (Station Point)
open Kv417 (Fact Letter Now Abs)
theorem Same.keep {H H1 : Hp} {x dx C : Addr} (nx : H x = none) (nd : H dx = none) (k : ∀ b o, (upd (upd H dx (.own x)) x (.ins C dx [])) b = some o → b ≠ x → H1 b = some o) : Same H H1 := L2.Same.made nx nd k
section
variable {P : Program} {w : World} {K : PySem.W.Frag} {mg : Str → Option Value} {base : Heap} {A : Ad}
/-- a copy: a new object with lists of its own -/
def sp_copy_of (A : Ad) : Sp := fun vs H R _ => ∃ (a : Addr) (n : Now) (dx ls lf ll : Addr) (ss fs ms : List Addr), vs = [.ref a] ∧ NowR A H a n dx ls lf ll ss fs ms ∧
  ∀ H' x dy c1 c2 c3, Same H H' → H x = none → H c1 = none → H c2 = none → H c3 = none → c1 ≠ c2 → c1 ≠ c3 → c2 ≠ c3 → NowR A H' x n dy c1 c2 c3 ss fs ms → R (.ref x) H'
theorem ok_copy_of (T : Txt K mg A) : FnOk P w K mg base CX0 3 A.f_copy_of A.fd_copy_of ["state"] (sp_copy_of A) := by
  refine T.d_copy_of.F.ok sc_copy_of (fun vs H Q E h => ?_) (fun cdv _ outer s H vs R E hr h => ?_)
  · obtain ⟨a, n, dx, ls, lf, ll, ss, fs, ms, rfl, _⟩ := h
    rfl
  · obtain ⟨a, n, dx, ls, lf, ll, ss, fs, ms, rfl, hn, k⟩ := h
    refine ⟨_, (pss_cons (ps_set (i := 1) sc_copy_of.nd rfl (Or.inl rfl) (pe_make0 T.cState.M (oki_State T) (hr.mono (by decide)) (by rfl) T.cState.g T.cState.b .nil pass0))
 (pss_cons (ps_fld (pv 1) (pe_callTy call_list_of (by rfl) T.b_list (by decide +kernel) (pa_cons (pe_fld (pv 0) rfl) pa_nil)) rfl)
 (pss_cons (ps_fld (pv 1) (pe_callTy call_list_of (by rfl) T.b_list (by decide +kernel) (pa_cons (pe_fld (pv 0) rfl) pa_nil)) rfl)
 (pss_cons (ps_fld (pv 1) (pe_callTy call_list_of (by rfl) T.b_list (by decide +kernel) (pa_cons (pe_fld (pv 0) rfl) pa_nil)) rfl)
 (pss_cons (ps_fld (pv 1) (pe_fld (pv 0) rfl) rfl)
 (pss_cons (ps_fld (pv 1) (pe_fld (pv 0) rfl) rfl)
 (pss_one (ps_ret (pv 1))))))))), ?_⟩
    intro x dy nx ny ne
    refine ⟨x, dy, rfl, upd_same, fun H1 l1 l2 l3 kp hx _ _ _ => ⟨rfl, ?_⟩⟩
    have s1 : Same H H1 := Same.keep nx ny kp
    have hn1 := hn.same s1
    have xa : a ≠ x := ne_of_none hn.o nx
    -- new.stations = list(state.stations)
    refine ⟨_, rfl, a, _, dx, _, _, rfl, hn1.o, T.cState.cl, T.cState.na _ (.head _), fs_State_stations _ _ _ _ _, ls, _, rfl, .inl (SqL.of hn1.s), fun c1 m1 => ?_⟩
    have x1 : x ≠ c1 := ne_of_none hx m1
    refine ⟨_, rfl, x, A.C_State, dy, _, rfl, upd_at hx m1, T.cState.cl, T.cState.na _ (.head _), (by show 5 < 1000; decide), ?_⟩
    rw [pf_State_stations]
    have s2 : ∀ b o, b ≠ x → H1 b = some o → upd (upd H1 c1 (.lst (refs ss))) x (.ins A.C_State dy (fs_State (.ref c1) (.ref l2) (.ref l3) (.int 0) (.int 0))) b = some o := fun b o nb h => by
      rw [upd_ne nb, upd_ne (ne_of_none h m1)]
      exact h
    have q2 : upd (upd H1 c1 (.lst (refs ss))) x (.ins A.C_State dy (fs_State (.ref c1) (.ref l2) (.ref l3) (.int 0) (.int 0))) c1 = some (.lst (refs ss)) := by
      rw [upd_ne x1.symm, upd_same]
    have r2 : upd (upd H1 c1 (.lst (refs ss))) x (.ins A.C_State dy (fs_State (.ref c1) (.ref l2) (.ref l3) (.int 0) (.int 0))) x = some (.ins A.C_State dy (fs_State (.ref c1) (.ref l2) (.ref l3) (.int 0) (.int 0))) := upd_same
    generalize upd (upd H1 c1 (.lst (refs ss))) x (.ins A.C_State dy (fs_State (.ref c1) (.ref l2) (.ref l3) (.int 0) (.int 0))) = H2 at s2 q2 r2 ⊢
    -- new.facts = list(state.facts)
    refine ⟨_, rfl, a, _, dx, _, _, rfl, s2 _ _ xa hn1.o, T.cState.cl, T.cState.na _ (.tail _ (.head _)), fs_State_facts _ _ _ _ _, lf, _, rfl, .inl (SqL.of (s2 _ _ (ne_of hn1.f hx (by intro z; cases z)) hn1.f)), fun c2 m2 => ?_⟩
    have x2 : x ≠ c2 := ne_of_none r2 m2
    have x12 : c1 ≠ c2 := ne_of_none q2 m2
    refine ⟨_, rfl, x, A.C_State, dy, _, rfl, upd_at r2 m2, T.cState.cl, T.cState.na _ (.tail _ (.head _)), (by show 5 < 1000; decide), ?_⟩
    rw [pf_State_facts]
    have s3 : ∀ b o, b ≠ x → H2 b = some o → upd (upd H2 c2 (.lst (refs fs))) x (.ins A.C_State dy (fs_State (.ref c1) (.ref c2) (.ref l3) (.int 0) (.int 0))) b = some o := fun b o nb h => by
      rw [upd_ne nb, upd_ne (ne_of_none h m2)]
      exact h
    have q3 : upd (upd H2 c2 (.lst (refs fs))) x (.ins A.C_State dy (fs_State (.ref c1) (.ref c2) (.ref l3) (.int 0) (.int 0))) c2 = some (.lst (refs fs)) := by
      rw [upd_ne x2.symm, upd_same]
    have r3 : upd (upd H2 c2 (.lst (refs fs))) x (.ins A.C_State dy (fs_State (.ref c1) (.ref c2) (.ref l3) (.int 0) (.int 0))) x = some (.ins A.C_State dy (fs_State (.ref c1) (.ref c2) (.ref l3) (.int 0) (.int 0))) := upd_same
    generalize upd (upd H2 c2 (.lst (refs fs))) x (.ins A.C_State dy (fs_State (.ref c1) (.ref c2) (.ref l3) (.int 0) (.int 0))) = H3 at s3 q3 r3 ⊢
    have t3 : ∀ b o, b ≠ x → H1 b = some o → H3 b = some o := fun b o nb h => s3 b o nb (s2 b o nb h)
    -- new.letters = list(state.letters)
    refine ⟨_, rfl, a, _, dx, _, _, rfl, t3 _ _ xa hn1.o, T.cState.cl, T.cState.na _ (.tail _ (.tail _ (.head _))), fs_State_letters _ _ _ _ _, ll, _, rfl, .inl (SqL.of (t3 _ _ (ne_of hn1.l hx (by intro z; cases z)) hn1.l)), fun c3 m3 => ?_⟩
    have x3 : x ≠ c3 := ne_of_none r3 m3
    have x13 : c1 ≠ c3 := ne_of_none (s3 _ _ x1.symm q2) m3
    have x23 : c2 ≠ c3 := ne_of_none q3 m3
    refine ⟨_, rfl, x, A.C_State, dy, _, rfl, upd_at r3 m3, T.cState.cl, T.cState.na _ (.tail _ (.tail _ (.head _))), (by show 5 < 1000; decide), ?_⟩
    rw [pf_State_letters]
    have s4 : ∀ b o, b ≠ x → H3 b = some o → upd (upd H3 c3 (.lst (refs ms))) x (.ins A.C_State dy (fs_State (.ref c1) (.ref c2) (.ref c3) (.int 0) (.int 0))) b = some o := fun b o nb h => by
      rw [upd_ne nb, upd_ne (ne_of_none h m3)]
      exact h
    have q4 : upd (upd H3 c3 (.lst (refs ms))) x (.ins A.C_State dy (fs_State (.ref c1) (.ref c2) (.ref c3) (.int 0) (.int 0))) c3 = some (.lst (refs ms)) := by
      rw [upd_ne x3.symm, upd_same]
    have r4 : upd (upd H3 c3 (.lst (refs ms))) x (.ins A.C_State dy (fs_State (.ref c1) (.ref c2) (.ref c3) (.int 0) (.int 0))) x = some (.ins A.C_State dy (fs_State (.ref c1) (.ref c2) (.ref c3) (.int 0) (.int 0))) := upd_same
    generalize upd (upd H3 c3 (.lst (refs ms))) x (.ins A.C_State dy (fs_State (.ref c1) (.ref c2) (.ref c3) (.int 0) (.int 0))) = H4 at s4 q4 r4 ⊢
    have t4 : ∀ b o, b ≠ x → H1 b = some o → H4 b = some o := fun b o nb h => s4 b o nb (t3 b o nb h)
    -- new.claims = state.claims; new.impossible = state.impossible
    refine ⟨_, rfl, a, _, dx, _, _, rfl, t4 _ _ xa hn1.o, T.cState.cl, T.cState.na _ (.tail _ (.tail _ (.tail _ (.head _)))), fs_State_claims _ _ _ _ _, ?_⟩
    refine ⟨_, rfl, x, A.C_State, dy, _, rfl, r4, T.cState.cl, T.cState.na _ (.tail _ (.tail _ (.tail _ (.head _)))), (by show 5 < 1000; decide), ?_⟩
    rw [pf_State_claims]
    refine ⟨_, rfl, a, _, dx, _, _, rfl, by rw [upd_ne xa]; exact t4 _ _ xa hn1.o, T.cState.cl, T.cState.na _ (.tail _ (.tail _ (.tail _ (.tail _ (.head _))))), fs_State_impossible _ _ _ _ _, ?_⟩
    refine ⟨_, rfl, x, A.C_State, dy, _, rfl, upd_same, T.cState.cl, T.cState.na _ (.tail _ (.tail _ (.tail _ (.tail _ (.head _))))), (by show 5 < 1000; decide), ?_⟩
    rw [pf_State_impossible, upd_upd]
    refine ⟨_, rfl, ?_⟩
    have s5 : ∀ b o, b ≠ x → H1 b = some o → upd H4 x (.ins A.C_State dy (fs_State (.ref c1) (.ref c2) (.ref c3) (.int (n.held : Nat)) (.int (n.false_ : Nat)))) b = some o := fun b o nb h => by
      rw [upd_ne nb]
      exact t4 b o nb h
    have sA : Same H (upd H4 x (.ins A.C_State dy (fs_State (.ref c1) (.ref c2) (.ref c3) (.int (n.held : Nat)) (.int (n.false_ : Nat))))) := fun b o h => s5 b o (ne_of_none h nx) (s1 _ _ h)
    have f1 : H c1 = none := s1.free m1
    have f2 : H c2 = none := by
      cases q : H c2 with
      | none => rfl
      | some o =>
        have z := s2 _ _ (ne_of_none q nx) (s1 _ _ q)
        rw [m2] at z
        cases z
    have f3 : H c3 = none := by
      cases q : H c3 with
      | none => rfl
      | some o =>
        have z := t3 _ _ (ne_of_none q nx) (s1 _ _ q)
        rw [m3] at z
        cases z
    refine k _ x dy c1 c2 c3 sA nx f1 f2 f3 x12 x13 x23 ⟨upd_same, ?_, ?_, ?_, pr_map hn.sp fun _ _ _ q => q.same sA, pr_map hn.fp fun _ _ _ q => q.same sA, pr_map hn.lp fun _ _ _ q => q.same sA⟩
    · rw [upd_ne x1.symm]
      exact s4 _ _ x1.symm (s3 _ _ x1.symm q2)
    · rw [upd_ne x2.symm]
      exact s4 _ _ x2.symm q3
    · rw [upd_ne x3.symm]
      exact q4
end
end Py
namespace Py
open PySem PySem.Spec PyProof.Rows L2
open Kv414 (Q gcd')
open Kv415 (Station Point)
open Kv417 (Fact Letter Now Abs)
/-- behind start_change: the state at x is a copy that may be changed -/
structure Draft (A : Ad) (H : Hp) (d : Addr) (a : Abs) (H' : Hp) (x dd dy c1 c2 c3 l : Addr) (ss fs ms ps : List Addr) : Prop where
  same : Same (wo H d) (wo H' d)
  nx : H x = none
  n1 : H c1 = none
  n2 : H c2 = none
  n3 : H c3 = none
  e12 : c1 ≠ c2
  e13 : c1 ≠ c3
  e23 : c2 ≠ c3
  l1 : l ≠ c1
  l2 : l ≠ c2
  l3 : l ≠ c3
  dk : H' d = some (.ins A.C_Desk dd (fs_Desk (.ref x) (.ref l)))
  pl : wo H' d l = some (.lst (refs ps))
  pp : Paired (NowAt A (wo H d)) ps ((a.now :: a.past).take 10).reverse
  nw : NowR A (wo H' d) x a.now dy c1 c2 c3 ss fs ms
  sp0 : Paired (StAt A (wo H d)) ss a.now.st
  fp0 : Paired (FactAt A (wo H d) a.now.st) fs a.now.facts
  lp0 : Paired (LetAt A (wo H d) a.now.st) ms a.now.letters
theorem Draft.keep {A : Ad} {H : Hp} {d : Addr} {a : Abs} {H' H2 : Hp} {x dd dy c1 c2 c3 l : Addr} {ss fs ms ps : List Addr} (D : Draft A H d a H' x dd dy c1 c2 c3 l ss fs ms ps)
    (k : ∀ b o, H' b = some o → b ≠ x → b ≠ c1 → b ≠ c2 → b ≠ c3 → H2 b = some o) : Same (wo H d) (wo H2 d) := fun b o h => by
  have h1 := D.same b o h
  have hb := wo_at h
  exact wo_of (k b o (wo_at h1) (ne_of_none hb D.nx) (ne_of_none hb D.n1) (ne_of_none hb D.n2) (ne_of_none hb D.n3)) (wo_ne h)
theorem Draft.done {A : Ad} {H : Hp} {d : Addr} {a : Abs} {H' H2 : Hp} {x dd dy c1 c2 c3 l : Addr} {ss fs ms ps : List Addr} {n : Now} (D : Draft A H d a H' x dd dy c1 c2 c3 l ss fs ms ps)
    (k : ∀ b o, H' b = some o → b ≠ x → b ≠ c1 → b ≠ c2 → b ≠ c3 → H2 b = some o) (hn : NowAt A (wo H2 d) x n) : DeskAt A H2 d (some ⟨n, (a.now :: a.past).take 10⟩) := by
  have s := D.keep k
  have lx : l ≠ x := ne_of D.pl D.nw.o (by intro z; cases z)
  refine ⟨dd, x, l, ps, ?_, ?_, hn, pr_map D.pp fun _ _ _ q => q.same s⟩
  · exact k _ _ D.dk (wo_ne D.nw.o).symm (wo_ne D.nw.s).symm (wo_ne D.nw.f).symm (wo_ne D.nw.l).symm
  · exact wo_of (k _ _ (wo_at D.pl) lx D.l1 D.l2 D.l3) (wo_ne D.pl)
theorem cut_refs (ps : List Addr) : cutV (refs ps) (some (-10)) none = refs (ps.drop (ps.length - 10)) := by
  unfold cutV
  have e1 : HT.sIx (refs ps).length 0 (some (-10)) = ps.length - 10 := by
    show (if (-10 : Int) < 0 then ((-10 : Int) + ((refs ps).length : Int)).toNat else min ((-10 : Int).toNat) (refs ps).length) = ps.length - 10
    rw [if_pos (by decide), List.length_map]
    omega
  rw [e1, HT.sIx_none, List.take_of_length_le (by rw [List.length_drop]; exact Nat.le_refl _), ← List.map_drop]
theorem past_more {A : Ad} {H : Hp} {a : Abs} {n : Addr} {ps : List Addr} (h : NowAt A H n a.now) (p : Paired (NowAt A H) ps a.past.reverse) :
    Paired (NowAt A H) ((ps ++ [n]).drop ((ps ++ [n]).length - 10)) ((a.now :: a.past).take 10).reverse := by
  have q := pr_snoc h p
  have e : ((a.now :: a.past).take 10).reverse = (a.past.reverse ++ [a.now]).drop ((ps ++ [n]).length - 10) := by
    rw [← List.reverse_cons, List.reverse_take]
    congr 1
    rw [pr_len q, ← List.reverse_cons, List.length_reverse]
  rw [e]
  exact pr_drop _ q
section
variable {P : Program} {w : World} {K : PySem.W.Frag} {mg : Str → Option Value} {base : Heap} {A : Ad}
def sp_start_change (A : Ad) : Sp := fun vs H R _ => ∃ (d : Addr) (a : Abs), vs = [.ref d] ∧ DeskAt A H d (some a) ∧ a.past.length ≤ 10 ∧
  ∀ H' x dd dy c1 c2 c3 l ss fs ms ps, Draft A H d a H' x dd dy c1 c2 c3 l ss fs ms ps → R (.ref x) H'
theorem ok_start_change (T : Txt K mg A) : FnOk P w K mg base CX0 4 A.f_start_change A.fd_start_change ["desk"] (sp_start_change A) := by
  refine T.d_start_change.F.ok sc_start_change (fun vs H Q E h => ?_) (fun cdv _ outer s H vs R E hr h => ?_)
  · obtain ⟨d, a, rfl, _⟩ := h
    rfl
  · obtain ⟨d, a, rfl, ⟨dd, n, l, ps, h1, h2, h3, h4⟩, hl, k⟩ := h
    have hps : ps.length ≤ 10 := by
      rw [pr_len h4, List.length_reverse]
      exact hl
    refine ⟨_, (pss_cons (ps_fld (pv 0) (pe_slice sl_list (pe_op op_cat (pe_fld (pv 0) rfl) (pe_lst (pa_cons (pe_fld (pv 0) rfl) pa_nil))) (po_some (pe_un un_neg (pe_glob (v := .int (10)) rfl T.k_MOST_BACK ⟨_, rfl⟩))) po_none) rfl)
 (pss_cons (ps_fld (pv 0) (pe_call (ok_copy_of T) (hr.mono (by decide)) (by rfl) T.d_copy_of.g T.d_copy_of.F.kp T.d_copy_of.b .nil pass0 (pa_cons (pe_fld (pv 0) rfl) pa_nil)) rfl)
 (pss_one (ps_ret (pe_fld (pv 0) rfl))))), ?_⟩
    -- desk.past + [desk.state]
    refine ⟨_, rfl, d, _, dd, _, _, rfl, h1, T.cDesk.cl, T.cDesk.na _ (.tail _ (.head _)), fs_Desk_past _ _,
      _, rfl, d, _, dd, _, _, rfl, h1, T.cDesk.cl, T.cDesk.na _ (.head _), fs_Desk_state _ _, (by show 1 ≤ sizeLine; decide), fun q1 m1 => ?_⟩
    refine ⟨l, q1, _, _, rfl, rfl, upd_at (wo_at h2) m1, upd_same, ?_, fun q2 m2 => ?_⟩
    · rw [List.length_map]
      exact Nat.le_trans (show ps.length + 1 ≤ 11 by omega) (by decide)
    refine ⟨_, rfl, _, rfl, q2, _, rfl, SqL.of upd_same, fun q3 m3 => ?_⟩
    have eL : (refs ps ++ [V.ref n]) = refs (ps ++ [n]) := (List.map_append (l₁ := ps) (l₂ := [n]) (f := V.ref)).symm
    rw [eL, show (-10 : Int) = -10 from rfl, cut_refs]
    have sA : Same H (upd (upd (upd H q1 (.lst [V.ref n])) q2 (.lst (refs (ps ++ [n])))) q3 (.lst (refs ((ps ++ [n]).drop ((ps ++ [n]).length - 10))))) := by
      refine ((same_upd m1).trans (same_upd ?_)).trans (same_upd ?_)
      · exact m2
      · rw [eL] at m3
        exact m3
    have hq3 : upd (upd (upd H q1 (.lst [V.ref n])) q2 (.lst (refs (ps ++ [n])))) q3 (.lst (refs ((ps ++ [n]).drop ((ps ++ [n]).length - 10)))) q3 = some (.lst (refs ((ps ++ [n]).drop ((ps ++ [n]).length - 10)))) := upd_same
    generalize upd (upd (upd H q1 (.lst [V.ref n])) q2 (.lst (refs (ps ++ [n])))) q3 (.lst (refs ((ps ++ [n]).drop ((ps ++ [n]).length - 10)))) = H1 at sA hq3 ⊢
    -- desk.past = ..
    refine ⟨_, rfl, d, _, dd, _, rfl, sA _ _ h1, T.cDesk.cl, T.cDesk.na _ (.tail _ (.head _)), (by show 2 < 1000; decide), ?_⟩
    rw [pf_Desk_past]
    have q3d : q3 ≠ d := ne_of hq3 (sA _ _ h1) (by intro z; cases z)
    -- copy_of(desk.state)
    have hw : Same (wo H d) (upd H1 d (.ins A.C_Desk dd (fs_Desk (.ref n) (.ref q3)))) := fun b o h => by
      rw [upd_ne (wo_ne h)]
      exact sA _ _ (wo_at h)
    obtain ⟨dx, ls, lf, ll, ss, fs, ms, hn⟩ := h3
    refine ⟨_, rfl, d, _, dd, _, _, rfl, upd_same, T.cDesk.cl, T.cDesk.na _ (.head _), fs_Desk_state _ _, ?_⟩
    refine ⟨n, a.now, dx, ls, lf, ll, ss, fs, ms, rfl, hn.same hw, fun H3 x dy c1 c2 c3 s3 nx n1 n2 n3 e12 e13 e23 hN => ?_⟩
    have d3 := s3 _ _ upd_same
    have q3' : upd H1 d (.ins A.C_Desk dd (fs_Desk (.ref n) (.ref q3))) q3 = some (.lst (refs ((ps ++ [n]).drop ((ps ++ [n]).length - 10)))) := by
      rw [upd_ne q3d]
      exact hq3
    have xd : x ≠ d := (ne_of_none upd_same nx).symm
    have d1 : c1 ≠ d := (ne_of_none upd_same n1).symm
    have d2 : c2 ≠ d := (ne_of_none upd_same n2).symm
    have d3' : c3 ≠ d := (ne_of_none upd_same n3).symm
    -- desk.state = ..; return desk.state
    refine ⟨_, rfl, d, _, dd, _, rfl, d3, T.cDesk.cl, T.cDesk.na _ (.head _), (by show 2 < 1000; decide), ?_⟩
    rw [pf_Desk_state]
    refine ⟨_, rfl, d, _, dd, _, _, rfl, upd_same, T.cDesk.cl, T.cDesk.na _ (.head _), fs_Desk_state _ _, ?_⟩
    have old : ∀ {b : Addr}, b ≠ d → upd H1 d (.ins A.C_Desk dd (fs_Desk (.ref n) (.ref q3))) b = none → H b = none := fun {b} nb h => by
      rw [upd_ne nb] at h
      exact sA.free h
    have hN' : NowR A (wo (upd H3 d (.ins A.C_Desk dd (fs_Desk (.ref x) (.ref q3)))) d) x a.now dy c1 c2 c3 ss fs ms := by
      have w3 : ∀ b o, b ≠ d → H3 b = some o → wo (upd H3 d (.ins A.C_Desk dd (fs_Desk (.ref x) (.ref q3)))) d b = some o := fun b o nb h => wo_of (by rw [upd_ne nb]; exact h) nb
      have sN : Same (wo H d) (wo (upd H3 d (.ins A.C_Desk dd (fs_Desk (.ref x) (.ref q3)))) d) := fun b o h => w3 b o (wo_ne h) (s3 _ _ (hw _ _ h))
      exact ⟨w3 _ _ xd hN.o, w3 _ _ d1 hN.s, w3 _ _ d2 hN.f, w3 _ _ d3' hN.l, pr_map hn.sp fun _ _ _ q => q.same sN, pr_map hn.fp fun _ _ _ q => q.same sN, pr_map hn.lp fun _ _ _ q => q.same sN⟩
    refine k _ x dd dy c1 c2 c3 q3 ss fs ms ((ps ++ [n]).drop ((ps ++ [n]).length - 10)) ⟨?_, old xd nx, old d1 n1, old d2 n2, old d3' n3, e12, e13, e23, ne_of_none q3' n1, ne_of_none q3' n2, ne_of_none q3' n3, upd_same, ?_, past_more ⟨dx, ls, lf, ll, ss, fs, ms, hn⟩ h4, hN', hn.sp, hn.fp, hn.lp⟩
    · intro b o h
      exact wo_of (by rw [upd_ne (wo_ne h)]; exact s3 _ _ (hw _ _ h)) (wo_ne h)
    · exact wo_of (by rw [upd_ne q3d]; exact s3 _ _ q3') q3d
/-! ### is there such a one -/
def sp_has (A : Ad) (g : Now → Nat) : Sp := fun vs H R _ => ∃ (a : Addr) (n : Now) (i : Int), vs = [.ref a, .int i] ∧ NowAt A H a n ∧ 0 ≤ i ∧ R (.bl (decide (i.toNat < g n))) H
theorem ok_has_station (T : Txt K mg A) : FnOk P w K mg base CX0 1 A.f_has_station A.fd_has_station ["state", "i"] (sp_has A fun n => n.st.length) := by
  refine T.d_has_station.F.ok sc_has_station (fun vs H Q E h => ?_) (fun cdv _ outer s H vs R E hr h => ?_)
  · obtain ⟨a, n, i, rfl, _⟩ := h
    rfl
  · obtain ⟨a, n, i, rfl, ⟨dx, ls, lf, ll, ss, fs, ms, hn⟩, hi, k⟩ := h
    refine ⟨_, (pss_one (ps_ret (pe_chain op_le op_lt pe_int (pv 1) (pe_callB call_len_seq (by rfl) T.b_len (by decide +kernel) (pa_cons (pe_fld (pv 0) rfl) pa_nil))))), ?_⟩
    refine ⟨_, rfl, _, _, rfl, rfl, _, rfl, ?_⟩
    rw [decide_eq_true hi]
    refine iteT ⟨_, rfl, a, _, dx, _, _, rfl, hn.o, T.cState.cl, T.cState.na _ (.head _), fs_State_stations _ _ _ _ _, ls, _, rfl, .inl (SqL.of hn.s), _, _, rfl, rfl, ?_⟩
    have e : decide (i < (((refs ss).length : Nat) : Int)) = decide (i.toNat < n.st.length) := by
      rw [List.length_map, pr_len hn.sp]
      apply Bool.eq_iff_iff.mpr
      rw [decide_eq_true_iff, decide_eq_true_iff]
      omega
    show R (V.bl (decide (i < (((refs ss).length : Nat) : Int)))) H
    rw [e]
    exact k
theorem ok_has_fact (T : Txt K mg A) : FnOk P w K mg base CX0 1 A.f_has_fact A.fd_has_fact ["state", "f"] (sp_has A fun n => n.facts.length) := by
  refine T.d_has_fact.F.ok sc_has_fact (fun vs H Q E h => ?_) (fun cdv _ outer s H vs R E hr h => ?_)
  · obtain ⟨a, n, i, rfl, _⟩ := h
    rfl
  · obtain ⟨a, n, i, rfl, ⟨dx, ls, lf, ll, ss, fs, ms, hn⟩, hi, k⟩ := h
    refine ⟨_, (pss_one (ps_ret (pe_chain op_le op_lt pe_int (pv 1) (pe_callB call_len_seq (by rfl) T.b_len (by decide +kernel) (pa_cons (pe_fld (pv 0) rfl) pa_nil))))), ?_⟩
    refine ⟨_, rfl, _, _, rfl, rfl, _, rfl, ?_⟩
    rw [decide_eq_true hi]
    refine iteT ⟨_, rfl, a, _, dx, _, _, rfl, hn.o, T.cState.cl, T.cState.na _ (.tail _ (.head _)), fs_State_facts _ _ _ _ _, lf, _, rfl, .inl (SqL.of hn.f), _, _, rfl, rfl, ?_⟩
    have e : decide (i < (((refs fs).length : Nat) : Int)) = decide (i.toNat < n.facts.length) := by
      rw [List.length_map, pr_len hn.fp]
      apply Bool.eq_iff_iff.mpr
      rw [decide_eq_true_iff, decide_eq_true_iff]
      omega
    show R (V.bl (decide (i < (((refs fs).length : Nat) : Int)))) H
    rw [e]
    exact k
theorem ok_has_letter (T : Txt K mg A) : FnOk P w K mg base CX0 1 A.f_has_letter A.fd_has_letter ["state", "m"] (sp_has A fun n => n.letters.length) := by
  refine T.d_has_letter.F.ok sc_has_letter (fun vs H Q E h => ?_) (fun cdv _ outer s H vs R E hr h => ?_)
  · obtain ⟨a, n, i, rfl, _⟩ := h
    rfl
  · obtain ⟨a, n, i, rfl, ⟨dx, ls, lf, ll, ss, fs, ms, hn⟩, hi, k⟩ := h
    refine ⟨_, (pss_one (ps_ret (pe_chain op_le op_lt pe_int (pv 1) (pe_callB call_len_seq (by rfl) T.b_len (by decide +kernel) (pa_cons (pe_fld (pv 0) rfl) pa_nil))))), ?_⟩
    refine ⟨_, rfl, _, _, rfl, rfl, _, rfl, ?_⟩
    rw [decide_eq_true hi]
    refine iteT ⟨_, rfl, a, _, dx, _, _, rfl, hn.o, T.cState.cl, T.cState.na _ (.tail _ (.tail _ (.head _))), fs_State_letters _ _ _ _ _, ll, _, rfl, .inl (SqL.of hn.l), _, _, rfl, rfl, ?_⟩
    have e : decide (i < (((refs ms).length : Nat) : Int)) = decide (i.toNat < n.letters.length) := by
      rw [List.length_map, pr_len hn.lp]
      apply Bool.eq_iff_iff.mpr
      rw [decide_eq_true_iff, decide_eq_true_iff]
      omega
    show R (V.bl (decide (i < (((refs ms).length : Nat) : Int)))) H
    rw [e]
    exact k
end
end Py
namespace Py
open PySem PySem.Spec PyProof.Rows L2
open Kv414 (Q gcd')
open Kv415 (Station Point)
open Kv417 (Fact Letter Now Abs)
/-- a moment, as it lies: a station's number and its clock's -/
def MoAt (H : Hp) (t : Addr) (mo : Nat × Q) : Prop := ∃ c, H t = some (.tup [.int (mo.1 : Nat), .ref c]) ∧ H c = some (tupQ mo.2)
theorem MoAt.same {H H' : Hp} {t : Addr} {mo : Nat × Q} (h : MoAt H t mo) (s : Same H H') : MoAt H' t mo := by
  obtain ⟨c, h1, h2⟩ := h
  exact ⟨c, s _ _ h1, s _ _ h2⟩
theorem MoAt.tups {H H' : Hp} {t : Addr} {mo : Nat × Q} (h : MoAt H t mo) (s : ∀ b xs, H b = some (.tup xs) → H' b = some (.tup xs)) : MoAt H' t mo := by
  obtain ⟨c, h1, h2⟩ := h
  exact ⟨c, s _ _ h1, s _ _ h2⟩
theorem im0 {i : Nat} {c : Addr} : atI ([.int (i : Nat), .ref c] : List V) 0 = some (.int (i : Nat)) := atI_nat (j := 0) rfl
theorem im1 {i : Nat} {c : Addr} : atI ([.int (i : Nat), .ref c] : List V) 1 = some (.ref c) := atI_nat (j := 1) rfl
theorem dec_nat (a b : Nat) : decide (V.int (a : Int) = V.int (b : Int)) = (a == b) := by
  by_cases h : a = b
  · subst h
    simp
  · have h2 : ¬ V.int (a : Int) = V.int (b : Int) := fun q => h (by have := V.int.inj q; omega)
    rw [decide_eq_false h2]
    exact (beq_eq_false_iff_ne.mpr h).symm
theorem sm_hears {n : Now} (ok : OkN n) {l : Letter} (h1 : l.i < n.st.length) (h2 : l.j < n.st.length) (h3 : Ma.OkC l.s) : Sm ((stAt n.st l.j).hears ((stAt n.st l.i).at_ l.s)) :=
  Sm.of (Ma.hears_B (ok.ok h2) (Ma.at_ok (ok.ok h1) h3)) (by decide) (by decide)
/-- the letters followed, as the dict holds them -/
def fol (F : List Nat) : List (Key × V) := F.map fun (m : Nat) => ((Sum.inl ((m : Nat) : Int) : Key), V.bl true)
theorem fol_val (m : Nat) : ∀ F : List Nat, (valV (fol F) (Sum.inl (m : Int))).isSome = decide (m ∈ F)
  | [] => by simp [fol, valV]
  | x :: r => by
    have ih := fol_val m r
    show (valV (((Sum.inl (x : Int) : Key), V.bl true) :: fol r) (Sum.inl (m : Int))).isSome = decide (m ∈ x :: r)
    by_cases e : x = m
    · subst e
      rw [valV_pos (p := ((Sum.inl (x : Int) : Key), V.bl true)) rfl]
      simp
    · rw [valV_neg (p := ((Sum.inl (x : Int) : Key), V.bl true)) (fun q => e (by have := Sum.inl.inj q; omega)), ih]
      simp [List.mem_cons, Ne.symm e]
theorem fol_put {m : Nat} {F : List Nat} (h : m ∉ F) : putK (fol F) (Sum.inl (m : Int)) (V.bl true) = fol (F ++ [m]) := by
  have e : ((fol F).any fun kv => decide (kv.1 = Sum.inl (m : Int))) = false := by
    rw [valV_any, fol_val]
    exact decide_eq_false h
  unfold putK
  rw [e, if_neg Bool.false_ne_true]
  unfold fol
  rw [List.map_append]
  rfl
theorem now_letter {n : Now} (m : Nat) : n.comes m = (stAt n.st (n.letter m).j).hears ((stAt n.st (n.letter m).i).at_ (n.letter m).s) := rfl
section
variable {P : Program} {w : World} {K : PySem.W.Frag} {mg : Str → Option Value} {base : Heap} {A : Ad}
def sp_has_come (A : Ad) : Sp := fun vs H R _ => ∃ (p t : Addr) (n : Now) (l : Letter) (mo : Nat × Q), vs = [.ref p, .ref t] ∧ OkN n ∧ LetAt A H n.st p l ∧ (l.i < n.st.length ∧ l.j < n.st.length ∧ Ma.OkC l.s) ∧ MoAt H t mo ∧ Sm mo.2 ∧
  R (.bl (l.j == mo.1 && ((stAt n.st l.j).hears ((stAt n.st l.i).at_ l.s)).le mo.2)) H
theorem ok_has_come (T : Txt K mg A) : FnOk P w K mg base CX0 2 A.f_has_come A.fd_has_come ["letter", "moment"] (sp_has_come A) := by
  refine T.d_has_come.F.ok sc_has_come (fun vs H Q E h => ?_) (fun cdv _ outer s H vs R E hr h => ?_)
  · obtain ⟨p, t, n, l, mo, rfl, _⟩ := h
    rfl
  · obtain ⟨p, t, n, l, mo, rfl, ok, ⟨dx, ls, lc, g1, g2, g3⟩, ⟨o1, o2, o3⟩, ⟨c, m1, m2⟩, sm, k⟩ := h
    refine ⟨_, (pss_one (ps_ret (pe_and (pe_cmpR op_eq (pe_fld (pv 0) rfl) (pe_ix ix_tup (pv 1) pe_int (fun _ _ => rfl)) (nomark _)) (pe_one (pe_call (ok_at_most T) (hr.mono (by decide)) (by rfl) T.d_at_most.g T.d_at_most.F.kp T.d_at_most.b .nil pass0 (pa_cons (pe_fld (pv 0) rfl) (pa_cons (pe_ix ix_tup (pv 1) pe_int (fun _ _ => rfl)) pa_nil))))))), ?_⟩
    refine ⟨_, rfl, p, _, dx, _, _, rfl, g1, T.cLetter.cl, T.cLetter.na _ (.tail _ (.head _)), fs_Letter_receiver _ _ _ _, _, rfl, t, _, _, _, rfl, rfl, SqT.of m1, im0, rfl, _, rfl, ?_⟩
    rw [dec_nat]
    cases e : (l.j == mo.1) with
    | false =>
      refine iteF ?_
      rw [e, Bool.false_and] at k
      exact k
    | true =>
      refine iteT ⟨_, rfl, p, _, dx, _, _, rfl, g1, T.cLetter.cl, T.cLetter.na _ (.tail _ (.tail _ (.tail _ (.head _)))), fs_Letter_arrives _ _ _ _, _, rfl, t, _, _, _, rfl, rfl, SqT.of m1, im1, ?_⟩
      rw [e, Bool.true_and] at k
      exact ⟨lc, c, _, _, rfl, g3, m2, sm_hears ok o1 o2 o3, sm, k⟩
def sp_came_to_be (A : Ad) : Sp := fun vs H R _ => ∃ (p t : Addr) (st : List Station) (f : Fact) (mo : Nat × Q), vs = [.ref p, .ref t] ∧ FactAt A H st p f ∧ Ma.OkC f.s ∧ MoAt H t mo ∧ Sm mo.2 ∧ R (.bl (f.i == mo.1 && f.s.le mo.2)) H
theorem ok_came_to_be (T : Txt K mg A) : FnOk P w K mg base CX0 2 A.f_came_to_be A.fd_came_to_be ["fact", "moment"] (sp_came_to_be A) := by
  refine T.d_came_to_be.F.ok sc_came_to_be (fun vs H Q E h => ?_) (fun cdv _ outer s H vs R E hr h => ?_)
  · obtain ⟨p, t, n, l, mo, rfl, _⟩ := h
    rfl
  · obtain ⟨p, t, st, f, mo, rfl, ⟨dx, ls, lc, g1, g2, g3⟩, ok, ⟨c, m1, m2⟩, sm, k⟩ := h
    refine ⟨_, (pss_one (ps_ret (pe_and (pe_cmpR op_eq (pe_fld (pv 0) rfl) (pe_ix ix_tup (pv 1) pe_int (fun _ _ => rfl)) (nomark _)) (pe_one (pe_call (ok_at_most T) (hr.mono (by decide)) (by rfl) T.d_at_most.g T.d_at_most.F.kp T.d_at_most.b .nil pass0 (pa_cons (pe_fld (pv 0) rfl) (pa_cons (pe_ix ix_tup (pv 1) pe_int (fun _ _ => rfl)) pa_nil))))))), ?_⟩
    refine ⟨_, rfl, p, _, dx, _, _, rfl, g1, T.cFact.cl, T.cFact.na _ (.head _), fs_Fact_station _ _ _, _, rfl, t, _, _, _, rfl, rfl, SqT.of m1, im0, rfl, _, rfl, ?_⟩
    rw [dec_nat]
    cases e : (f.i == mo.1) with
    | false =>
      refine iteF ?_
      rw [e, Bool.false_and] at k
      exact k
    | true =>
      refine iteT ⟨_, rfl, p, _, dx, _, _, rfl, g1, T.cFact.cl, T.cFact.na _ (.tail _ (.head _)), fs_Fact_when _ _ _, _, rfl, t, _, _, _, rfl, rfl, SqT.of m1, im1, ?_⟩
      rw [e, Bool.true_and] at k
      exact ⟨ls, c, _, _, rfl, g2, m2, sm_c ok, sm, k⟩
/-- what stands between two turns of the walk over the moments -/
structure MoInv (A : Ad) (H : Hp) (n : Now) (i : Nat) (s : Q) (fd ml : Addr) (p t : Nat) (F : List Nat) (ts : List Addr) (H' : Hp) : Prop where
  same : Same H H'
  nf : H fd = none
  nm : H ml = none
  fo : H' fd = some (.dK (fol F))
  mo : H' ml = some (.lst (refs ts))
  pr : Paired (MoAt H') ts (Ma.moms n i s F)
  wk : Ma.Walked n i s F p t
def sp_moments_behind (A : Ad) : Sp := fun vs H R _ => ∃ (a c : Addr) (n : Now) (i : Nat) (q : Q), vs = [.ref a, .int (i : Nat), .ref c] ∧ NowAt A H a n ∧ OkN n ∧ H c = some (tupQ q) ∧ Sm q ∧
  ∀ H' p ts F, Same H H' → H' p = some (.lst (refs ts)) → Paired (MoAt H') ts (Ma.moms n i q F) → Ma.Walked n i q F (F.length + 1) 0 → R (.ref p) H'
theorem sm_moms {n : Now} (ok : OkN n) {i : Nat} {q : Q} (sq : Sm q) {F : List Nat} (hF : ∀ m ∈ F, m < n.letters.length) {mo : Nat × Q} (h : mo ∈ Ma.moms n i q F) : Sm mo.2 := by
  unfold Ma.moms at h
  rcases List.mem_cons.mp h with rfl | h
  · exact sq
  · obtain ⟨m, hm, rfl⟩ := List.mem_map.mp h
    exact sm_c (ok.letter (hF m hm)).2.2
theorem ok_moments_behind (T : Txt K mg A) : FnOk P w K mg base CX0 3 A.f_moments_behind A.fd_moments_behind ["state", "station", "clock"] (sp_moments_behind A) := by
  refine T.d_moments_behind.F.ok sc_moments_behind (fun vs H Q E h => ?_) (fun cdv _ outer s H vs R E hr h => ?_)
  · obtain ⟨a, c, n, i, q, rfl, _⟩ := h
    rfl
  · obtain ⟨a, c, n, i, q, rfl, ⟨dx, ls, lf, ll, ss, fs, ms, hn⟩, ok, hc, sq, k⟩ := h
    refine ⟨_, (pss_cons (ps_set (i := 3) sc_moments_behind.nd rfl (Or.inl rfl) pe_dnewK)
 (pss_cons (ps_set (i := 4) sc_moments_behind.nd rfl (Or.inl rfl) (pe_lst (pa_cons (pe_tup (pa_cons (pv 1) (pa_cons (pv 2) pa_nil))) pa_nil)))
 (pss_cons (ps_set (i := 5) sc_moments_behind.nd rfl (Or.inl rfl) pe_int)
 (pss_cons (ps_while PassesOwn.never (pt_cmpR op_lt (pv 5) (pe_callB call_len_seq (by rfl) T.b_len (by decide +kernel) (pa_cons (pv 4) pa_nil)) (nomark _)) (pss_cons (ps_set (i := 6) sc_moments_behind.nd rfl (Or.inl rfl) (pe_ix ix_list (pv 4) (pv 5) (fun _ _ => rfl)))
 (pss_cons (ps_for PassesOwn.never rfl (pi_enum (by rfl) T.b_enumerate (pa_cons (pe_fld (pv 0) rfl) pa_nil)) (pg_tup (by rfl) (pgs_cons (pg_name (i := 7) sc_moments_behind.nd rfl (Or.inl rfl)) (pgs_cons (pg_name (i := 8) sc_moments_behind.nd rfl (Or.inl rfl)) pgs_nil))) (pss_one (ps_if (PW.pt (pw_and (pt_cmp (pc_dnotin (hu_of hr) (pv 7) (pv 3))) (pw_and1 (pt_val (pe_call (ok_has_come T) (hr.mono (by decide)) (by rfl) T.d_has_come.g T.d_has_come.F.kp T.d_has_come.b .nil pass0 (pa_cons (pv 8) (pa_cons (pv 6) pa_nil))))))) (pss_cons (ps_dput (hu_of hr) (pv 3) (pv 7) pe_bl rfl)
 (pss_one (ps_expr (pe_bm PySem.F.plainAttrs_list PySem.F.slot_list_append PySem.F.type_list_append mt_append (pv 4) (pa_cons (pe_tup (pa_cons (pe_fld (pv 8) rfl) (pa_cons (pe_fld (pv 8) rfl) pa_nil))) pa_nil))))) pss_nil)))
 (pss_one (ps_aug (i := 5) sc_moments_behind.nd rfl (Or.inl rfl) pe_int ip_add)))))
 (pss_one (ps_ret (pv 4))))))), ?_⟩
    intro fd nfd
    refine ⟨_, rfl, _, rfl, (by show 2 ≤ sizeLine; decide), fun t0 nt0 => ⟨(by show 1 ≤ sizeLine; decide), fun ml nml => ?_⟩⟩
    have s1 : Same H (upd H fd (.dK [])) := same_upd nfd
    have s2 := s1.trans (same_upd (o := .tup [.int (i : Nat), .ref c]) nt0)
    have s3 := s2.trans (same_upd (o := .lst (refs [t0])) nml)
    have I0 : MoInv A H n i q fd ml 0 0 [] [t0] (upd (upd (upd H fd (.dK [])) t0 (.tup [.int (i : Nat), .ref c])) ml (.lst (refs [t0]))) := by
      refine ⟨s3, nfd, s2.free nml, ?_, upd_same, .cons ⟨c, upd_at upd_same nml, s3 _ _ hc⟩ .nil, Ma.walked_start i q⟩
      exact upd_at (upd_at (upd_same (H := H) (a := fd) (o := .dK [])) nt0) nml
    refine while_by (fun σ H' => ∃ (p : Nat) (F : List Nat) (ts : List Addr) (v6 v7 v8 : Option V), σ = [some (.ref a), some (.int (i : Nat)), some (.ref c), some (.ref fd), some (.ref ml), some (.int (p : Nat)), v6, v7, v8] ∧ p ≤ F.length + 1 ∧ MoInv A H n i q fd ml p 0 F ts H')
      (fun σ _ => match σ with
        | [_, _, _, _, _, some (.int p), _, _, _] => 8 - p.toNat
        | _ => 0) ⟨0, [], [t0], none, none, none, rfl, by simp, I0⟩ ?_ ?_
    · rintro σ H' ⟨p, F, ts, v6, v7, v8, rfl, hp, I⟩
      have hts : ts.length = F.length + 1 := (pr_len I.pr).trans (Ma.moms_len n i q F)
      have hF6 : F.length ≤ 6 := Nat.le_trans I.wk.len ok.nl
      refine ⟨_, rfl, _, rfl, ml, _, rfl, .inl (SqL.of I.mo), _, _, rfl, rfl, _, rfl, ?_⟩
      rw [List.length_map, hts]
      by_cases cp : p < F.length + 1
      · have dc : decide ((p : Int) < ((F.length + 1 : Nat) : Int)) = true := decide_eq_true (by omega)
        rw [dc]
        refine iteT ?_
        -- moment = moments[place]
        obtain ⟨mo, hmo⟩ : ∃ mo, (Ma.moms n i q F)[p]? = some mo := ⟨_, List.getElem?_eq_getElem (by rw [Ma.moms_len]; exact cp)⟩
        obtain ⟨tp, htp, hmt⟩ := pr_get I.pr hmo
        have smo : Sm mo.2 := sm_moms ok sq I.wk.lt (List.mem_of_getElem? hmo)
        refine ⟨_, rfl, _, rfl, ml, _, _, _, rfl, rfl, SqL.of I.mo, atI_nat (j := p) (by rw [List.getElem?_map, htp]; rfl), ?_⟩
        -- for m, letter in enumerate(state.letters)
        have hn' := hn.same I.same
        refine ⟨_, rfl, a, _, dx, _, _, rfl, hn'.o, T.cState.cl, T.cState.na _ (.tail _ (.tail _ (.head _))), fs_State_letters _ _ _ _ _, ll, _, rfl, SqL.of hn'.l, ?_⟩
        refine for_it (walk_enum (xs := refs ms)) (fun m σ H2 => ∃ (F2 : List Nat) (ts2 : List Addr) (v7 v8 : Option V), σ = [some (.ref a), some (.int (i : Nat)), some (.ref c), some (.ref fd), some (.ref ml), some (.int (p : Nat)), some (.ref tp), v7, v8] ∧
            MoInv A H n i q fd ml p m F2 ts2 H2 ∧ (Ma.moms n i q F2)[p]? = some mo ∧ MoAt H2 tp mo) ⟨F, ts, v7, v8, rfl, I, hmo, hmt⟩ ?_ ?_ ?_
        · rintro m σ H2 _ ⟨F2, ts2, v7, v8, rfl, I2, _⟩
          exact SqL.of (I2.same _ _ hn.l)
        · rintro m y σ H2 H3 hm ⟨F2, ts2, v7, v8, rfl, I2, hmo2, hmt2⟩ ⟨T0, z1, z2, rfl, nT, rfl, e1, e2⟩
          obtain rfl := Option.some.inj e1
          have hml : m < n.letters.length := by
            rw [List.length_map] at hm
            rw [← pr_len hn.lp]
            exact hm
          obtain ⟨lp, hlp, hl⟩ := hn.letter hml
          obtain rfl := Option.some.inj (e2.symm.trans hlp)
          have sT : Same H2 (upd H2 T0 (.tup [.int (m : Nat), .ref lp])) := same_upd nT
          refine ⟨T0, _, rfl, SqT.of upd_same, rfl, _, _, rfl, _, _, rfl, rfl, ?_⟩
          have I3 : MoInv A H n i q fd ml p m F2 ts2 (upd H2 T0 (.tup [.int (m : Nat), .ref lp])) :=
            ⟨I2.same.trans sT, I2.nf, I2.nm, sT _ _ I2.fo, sT _ _ I2.mo, pr_map I2.pr fun _ _ _ h => h.same sT, I2.wk⟩
          have hmt3 := hmt2.same sT
          generalize upd H2 T0 (.tup [.int (m : Nat), .ref lp]) = H3 at I3 hmt3
          have hl3 := hl.same I3.same
          -- if m not in followed and has_come(letter, moment)
          refine ⟨_, rfl, _, rfl, fd, _, rfl, DGet.k (k := Sum.inl (m : Int)) I3.fo, _, rfl, ?_⟩
          rw [fol_val]
          by_cases cF : m ∈ F2
          · rw [decide_eq_true cF]
            refine iteF (iteF ?_)
            exact ⟨F2, ts2, _, _, rfl, ⟨I3.same, I3.nf, I3.nm, I3.fo, I3.mo, I3.pr, I3.wk.skip hmo2 (.inl cF)⟩, hmo2, hmt3⟩
          · rw [decide_eq_false cF]
            refine iteT ⟨_, rfl, _, rfl, lp, tp, n, n.letter m, mo, rfl, ok, hl3, ok.letter hml, hmt3, smo, _, rfl, ?_⟩
            have ec : ((n.letter m).j == mo.1 && ((stAt n.st (n.letter m).j).hears ((stAt n.st (n.letter m).i).at_ (n.letter m).s)).le mo.2) = Ma.comeB n m mo.1 mo.2 := rfl
            rw [ec]
            cases cb : Ma.comeB n m mo.1 mo.2 with
            | false =>
              refine iteF ?_
              exact ⟨F2, ts2, _, _, rfl, ⟨I3.same, I3.nf, I3.nm, I3.fo, I3.mo, I3.pr, I3.wk.skip hmo2 (.inr cb)⟩, hmo2, hmt3⟩
            | true =>
              refine iteT ?_
              have W4 := I3.wk.take hmo2 hml cF cb
              have hF26 : F2.length ≤ 6 := Nat.le_trans I3.wk.len ok.nl
              have hts2 : ts2.length = F2.length + 1 := (pr_len I3.pr).trans (Ma.moms_len n i q F2)
              -- followed[m] = True
              refine ⟨_, rfl, _, rfl, fd, _, rfl, DPut.k (k := Sum.inl (m : Int)) I3.fo (by unfold fol; rw [List.length_map]; exact Nat.lt_of_le_of_lt (m := 6) hF26 (by decide)), ?_⟩
              rw [fol_put cF]
              have mf : ml ≠ fd := ne_of I3.mo I3.fo (by intro z; cases z)
              have k4 : ∀ b o, b ≠ fd → H3 b = some o → upd H3 fd (.dK (fol (F2 ++ [m]))) b = some o := fun b o nb h => by
                rw [upd_ne nb]
                exact h
              have f4 : upd H3 fd (.dK (fol (F2 ++ [m]))) fd = some (.dK (fol (F2 ++ [m]))) := upd_same
              generalize upd H3 fd (.dK (fol (F2 ++ [m]))) = H4 at k4 f4 ⊢
              obtain ⟨dl, tl, cl, g1, g2, g3⟩ := hl3
              have nt4 : ∀ b xs, H3 b = some (.tup xs) → H4 b = some (.tup xs) := fun b xs h => k4 _ _ (ne_of h I3.fo (by intro z; cases z)) h
              have g1' := k4 _ _ (ne_of g1 I3.fo (by intro z; cases z)) g1
              -- moments.append((letter.sender, letter.sent))
              refine ⟨_, rfl, .inl ⟨rfl, _, SqL.of (k4 _ _ mf I3.mo)⟩, _, rfl, lp, _, dl, _, _, rfl, g1', T.cLetter.cl, T.cLetter.na _ (.head _), fs_Letter_sender _ _ _ _,
                _, rfl, lp, _, dl, _, _, rfl, g1', T.cLetter.cl, T.cLetter.na _ (.tail _ (.tail _ (.head _))), fs_Letter_sent _ _ _ _, (by show 2 ≤ sizeLine; decide), fun tn ntn => ?_⟩
              have s5 : Same H4 (upd H4 tn (.tup [.int ((n.letter m).i : Nat), .ref tl])) := same_upd ntn
              have t5 : upd H4 tn (.tup [.int ((n.letter m).i : Nat), .ref tl]) tn = some (.tup [.int ((n.letter m).i : Nat), .ref tl]) := upd_same
              generalize upd H4 tn (.tup [.int ((n.letter m).i : Nat), .ref tl]) = H5 at s5 t5 ⊢
              have m5 := s5 _ _ (k4 _ _ mf I3.mo)
              refine ⟨ml, _, _, rfl, rfl, m5, by rw [List.length_map, hts2]; exact Nat.lt_of_le_of_lt (m := 7) (by omega) (by decide), ?_⟩
              have eL : refs ts2 ++ [V.ref tn] = refs (ts2 ++ [tn]) := (List.map_append (l₁ := ts2) (l₂ := [tn]) (f := V.ref)).symm
              rw [eL]
              have nt6 : ∀ b xs, H3 b = some (.tup xs) → upd H5 ml (.lst (refs (ts2 ++ [tn]))) b = some (.tup xs) := fun b xs h => by
                rw [upd_ne (ne_of h I3.mo (by intro z; cases z))]
                exact s5 _ _ (nt4 _ _ h)
              refine ⟨F2 ++ [m], ts2 ++ [tn], _, _, rfl, ⟨fun b o h => ?_, I3.nf, I3.nm, ?_, upd_same, ?_, W4⟩, ?_, hmt3.tups nt6⟩
              · rw [upd_ne (ne_of_none h I3.nm)]
                exact s5 _ _ (k4 _ _ (ne_of_none h I3.nf) (I3.same _ _ h))
              · rw [upd_ne mf.symm]
                exact s5 _ _ f4
              · rw [Ma.moms_snoc]
                refine pr_snoc ⟨tl, ?_, nt6 _ _ g2⟩ (pr_map I3.pr fun _ _ _ h => h.tups nt6)
                rw [upd_ne (ne_of t5 m5 (by intro z; cases z))]
                exact t5
              · rw [Ma.moms_snoc, List.getElem?_append_left (List.getElem?_eq_some_iff.mp hmo2).1]
                exact hmo2
        · rintro σ H2 ⟨F2, ts2, v7, v8, rfl, I2, hmo2, hmt2⟩
          rw [List.length_map, pr_len hn.lp] at I2
          have hp2 : p < F2.length + 1 := by
            have := (List.getElem?_eq_some_iff.mp hmo2).1
            rw [Ma.moms_len] at this
            exact this
          have hF26 : F2.length ≤ 6 := Nat.le_trans I2.wk.len ok.nl
          refine ⟨_, rfl, _, _, rfl, rfl, ⟨p + 1, F2, ts2, _, _, _, rfl, hp2, ⟨I2.same, I2.nf, I2.nm, I2.fo, I2.mo, I2.pr, I2.wk.next⟩⟩, ?_⟩
          show 8 - ((p : Int) + 1).toNat < 8 - (p : Int).toNat
          omega
      · have dc : decide ((p : Int) < ((F.length + 1 : Nat) : Int)) = false := decide_eq_false (by omega)
        rw [dc]
        have ep : p = F.length + 1 := by omega
        subst ep
        exact iteF ⟨_, rfl, k H' ml ts F I.same I.mo I.pr I.wk⟩
    · intro σ H Q Q' hq h
      obtain ⟨v, h1, v2, h2, p, xs, h3, h4, i', j', h5, h6, kk, h7, h8⟩ := h
      exact ⟨v, h1, v2, h2, p, xs, h3, h4, i', j', h5, h6, kk, h7, hq _ _ h8⟩
end
end Py
namespace Py
open PySem PySem.Spec PyProof.Rows L2
open Kv414 (Q gcd')
open Kv415 (Station Point)
open Kv417 (Fact Letter Now Abs)
abbrev nums (l : List Nat) : List V := l.map fun (k : Nat) => V.int ((k : Nat) : Int)
theorem range_filter_snoc (p : Nat → Bool) (f : Nat) : (List.range (f + 1)).filter p = (List.range f).filter p ++ (if p f then [f] else []) := by
  rw [List.range_succ, List.filter_append]
  cases h : p f <;> simp [h]
theorem nums_snoc (l : List Nat) (f : Nat) : nums (l ++ [f]) = nums l ++ [V.int ((f : Nat) : Int)] := List.map_append
section
variable {P : Program} {w : World} {K : PySem.W.Frag} {mg : Str → Option Value} {base : Heap} {A : Ad}
def sp_facts_known (A : Ad) : Sp := fun vs H R _ => ∃ (a c : Addr) (n : Now) (i : Nat) (q : Q), vs = [.ref a, .int (i : Nat), .ref c] ∧ NowAt A H a n ∧ OkN n ∧ H c = some (tupQ q) ∧ Sm q ∧
  ∀ H' p, Same H H' → H p = none → H' p = some (.lst (nums (n.known i q))) → R (.ref p) H'
theorem ok_facts_known (T : Txt K mg A) : FnOk P w K mg base CX0 4 A.f_facts_known A.fd_facts_known ["state", "station", "clock"] (sp_facts_known A) := by
  refine T.d_facts_known.F.ok sc_facts_known (fun vs H Q E h => ?_) (fun cdv _ outer s H vs R E hr h => ?_)
  · obtain ⟨a, c, n, i, q, rfl, _⟩ := h
    rfl
  · obtain ⟨a, c, n, i, q, rfl, hN, ok, hc, sq, k⟩ := h
    refine ⟨_, (pss_cons (ps_set (i := 3) sc_facts_known.nd rfl (Or.inl rfl) (pe_call (ok_moments_behind T) (hr.mono (by decide)) (by rfl) T.d_moments_behind.g T.d_moments_behind.F.kp T.d_moments_behind.b .nil pass0 (pa_cons (pv 0) (pa_cons (pv 1) (pa_cons (pv 2) pa_nil)))))
 (pss_cons (ps_set (i := 4) sc_facts_known.nd rfl (Or.inl rfl) (pe_lst pa_nil))
 (pss_cons (ps_for PassesOwn.never rfl (pi_enum (by rfl) T.b_enumerate (pa_cons (pe_fld (pv 0) rfl) pa_nil)) (pg_tup (by rfl) (pgs_cons (pg_name (i := 5) sc_facts_known.nd rfl (Or.inl rfl)) (pgs_cons (pg_name (i := 6) sc_facts_known.nd rfl (Or.inr rfl)) pgs_nil))) (pss_one (ps_if (pt_val (pe_callB (cr_any rfl) (by rfl) T.b_any (by decide +kernel) (pa_cons (pe_lc (own := [("moment", 7)]) (g := gName 7) (tt := tYes) rfl sc_facts_known.nd (pi_list (pv 3)) (blkOk_by (N := N_facts_known) (sc := defScope s_facts_known) (by decide +kernel)) (fun _ _ _ _ _ => (pg_name (i := 7) sc_facts_known.nd rfl (Or.inl rfl))) (fun _ _ _ _ _ => pts_nil) (fun _ _ _ _ _ => (pe_call (ok_came_to_be T) (hr.mono (by decide)) (by rfl) T.d_came_to_be.g T.d_came_to_be.F.kp T.d_came_to_be.b .nil pass0 (pa_cons (pv 6) (pa_cons (pv 7) pa_nil))))) pa_nil))) (pss_one (ps_expr (pe_bm PySem.F.plainAttrs_list PySem.F.slot_list_append PySem.F.type_list_append mt_append (pv 4) (pa_cons (pv 5) pa_nil)))) pss_nil)))
 (pss_one (ps_ret (pv 4)))))), ?_⟩
    refine ⟨_, rfl, _, rfl, _, rfl, a, c, n, i, q, rfl, hN, ok, hc, sq, fun H1 ml ts F s1 hml hpr hwk => ?_⟩
    refine ⟨Nat.zero_le _, fun kl nkl => ?_⟩
    obtain ⟨dx, ls, lf, ll, ss, fs, ms, hn⟩ := hN
    have hn1 := (hn.same s1).same (same_upd (o := .lst []) nkl)
    have e7 : ts.length = F.length + 1 := (pr_len hpr).trans (Ma.moms_len n i q F)
    have hF6 : F.length ≤ 6 := Nat.le_trans hwk.len ok.nl
    refine ⟨_, rfl, a, _, dx, _, _, rfl, hn1.o, T.cState.cl, T.cState.na _ (.tail _ (.head _)), fs_State_facts _ _ _ _ _, lf, _, rfl, SqL.of hn1.f, ?_⟩
    refine for_it (walk_enum (xs := refs fs)) (fun f σ H2 => ∃ (v5 v6 v7 : Option V), σ = [some (.ref a), some (.int (i : Nat)), some (.ref c), some (.ref ml), some (.ref kl), v5, v6, v7] ∧ f ≤ n.facts.length ∧ Same H1 H2 ∧
        H2 kl = some (.lst (nums ((List.range f).filter fun f => (Ma.moms n i q F).any fun mo => Ma.ownB n f mo.1 mo.2))))
      ⟨none, none, none, rfl, Nat.zero_le _, same_upd nkl, upd_same⟩ ?_ ?_ ?_
    · rintro f σ H2 _ ⟨v5, v6, v7, rfl, _, s2, _⟩
      exact SqL.of ((s1.trans s2) _ _ hn.f)
    · rintro f y σ H2 H3 hf ⟨v5, v6, v7, rfl, _, s2, hk⟩ ⟨T0, z1, z2, rfl, nT, rfl, e1, e2⟩
      obtain rfl := Option.some.inj e1
      have hfl : f < n.facts.length := by
        rw [List.length_map] at hf
        rw [← pr_len hn.fp]
        exact hf
      obtain ⟨fp, hfp, hfa⟩ := hn.fact hfl
      obtain rfl := Option.some.inj (e2.symm.trans hfp)
      have sT : Same H2 (upd H2 T0 (.tup [.int (f : Nat), .ref fp])) := same_upd nT
      refine ⟨T0, _, rfl, SqT.of upd_same, rfl, _, _, rfl, _, _, rfl, rfl, ?_⟩
      have s3 := s2.trans sT
      have hk3 := sT _ _ hk
      generalize upd H2 T0 (.tup [.int (f : Nat), .ref fp]) = H3 at s3 hk3 ⊢
      -- any([came_to_be(fact, moment) for moment in moments])
      refine ⟨_, rfl, ml, rfl, ⟨_, SqL.of (s3 _ _ hml)⟩, fun D nD => ?_⟩
      refine lc_list (K := K) (a := ml) (xs := refs ts) (fun j H4 => Same H3 H4 ∧ H4 D = some (.lst (((Ma.moms n i q F).take j).map fun mo => V.bl (Ma.ownB n f mo.1 mo.2)))) ⟨same_upd nD, upd_same⟩ ?_ ?_ ?_
      · rintro j H4 _ ⟨s4, _⟩
        exact SqL.of ((s3.trans s4) _ _ hml)
      · rintro j y H4 hj ⟨s4, hD⟩
        have hjl : j < ts.length := by
          have := (List.getElem?_eq_some_iff.mp hj).1
          rw [List.length_map] at this
          exact this
        obtain ⟨mo, hmo⟩ : ∃ mo, (Ma.moms n i q F)[j]? = some mo := ⟨_, List.getElem?_eq_getElem (by rw [Ma.moms_len]; omega)⟩
        obtain ⟨tp, htp, hmt⟩ := pr_get hpr hmo
        have ey : y = V.ref tp := by
          rw [List.getElem?_map, htp] at hj
          exact (Option.some.inj hj).symm
        subst ey
        have smo : Sm mo.2 := sm_moms ok sq hwk.lt (List.mem_of_getElem? hmo)
        have sH := s1.trans (s3.trans s4)
        refine ⟨rfl, ?_⟩
        unfold tYes
        dsimp only
        rw [if_pos rfl]
        refine ⟨_, rfl, _, rfl, fp, tp, n.st, n.fact f, mo, rfl, hfa.same sH, (ok.fact hfl).2, hmt.same (s3.trans s4), smo, ?_⟩
        refine ⟨_, hD, ?_, ?_, ?_⟩
        · rw [List.length_map, List.length_take, Ma.moms_len]
          exact Nat.lt_of_le_of_lt (m := 7) (by omega) (by decide)
        · intro b o h
          rw [upd_ne (ne_of_none h nD)]
          exact s4 _ _ h
        · rw [upd_same, List.take_add_one, hmo, List.map_append]
          rfl
      · rintro H4 ⟨s4, hD⟩
        have hlen : (refs ts).length = (Ma.moms n i q F).length := by rw [List.length_map]; exact pr_len hpr
        rw [hlen, List.take_length] at hD
        refine ⟨D, (Ma.moms n i q F).map (fun mo => Ma.ownB n f mo.1 mo.2), rfl, SqL.of (by rw [hD, List.map_map]; rfl), _, rfl, ?_⟩
        have ea : ((Ma.moms n i q F).map (fun mo => Ma.ownB n f mo.1 mo.2)).any id = (Ma.moms n i q F).any fun mo => Ma.ownB n f mo.1 mo.2 := by
          rw [List.any_map]
          rfl
        rw [ea]
        have step := range_filter_snoc (fun f => (Ma.moms n i q F).any fun mo => Ma.ownB n f mo.1 mo.2) f
        have hk4 := s4 _ _ hk3
        cases cb : (Ma.moms n i q F).any fun mo => Ma.ownB n f mo.1 mo.2 with
        | false =>
          refine iteF ⟨_, _, _, rfl, hfl, s3.trans s4, ?_⟩
          rw [step, cb, if_neg Bool.false_ne_true, List.append_nil]
          exact hk4
        | true =>
          refine iteT ⟨_, rfl, .inl ⟨rfl, _, SqL.of hk4⟩, _, rfl, kl, _, _, rfl, rfl, hk4, ?_, ?_⟩
          · rw [List.length_map]
            have := List.length_filter_le (fun f => (Ma.moms n i q F).any fun mo => Ma.ownB n f mo.1 mo.2) (List.range f)
            rw [List.length_range] at this
            have := ok.nf
            exact Nat.lt_of_le_of_lt (m := 6) (by omega) (by decide)
          · refine ⟨_, _, _, rfl, hfl, fun b o h => ?_, ?_⟩
            · rw [upd_ne (ne_of_none h nkl)]
              exact (s3.trans s4) _ _ h
            · rw [upd_same, step, cb, if_pos rfl, nums_snoc]
    · rintro σ H2 ⟨v5, v6, v7, rfl, _, s2, hk⟩
      refine ⟨_, rfl, k H2 kl (s1.trans s2) (s1.free nkl) ?_⟩
      rw [hk, List.length_map, pr_len hn.fp, hwk.known]
def sp_could_know (A : Ad) : Sp := fun vs H R _ => ∃ (a c : Addr) (n : Now) (i f : Nat) (q : Q), vs = [.ref a, .int (i : Nat), .int (f : Nat), .ref c] ∧ NowAt A H a n ∧ OkN n ∧ i < n.st.length ∧ f < n.facts.length ∧ H c = some (tupQ q) ∧ Sm q ∧
  ∀ H', Same H H' → R (.bl ((n.first i f).le q)) H'
theorem now_first {n : Now} {i f : Nat} : n.first i f = (stAt n.st i).hears ((stAt n.st (n.fact f).i).at_ (n.fact f).s) := rfl
theorem ok_where {n : Now} (ok : OkN n) {f : Nat} (hf : f < n.facts.length) : Ma.OkP ((stAt n.st (n.fact f).i).at_ (n.fact f).s) := Ma.at_ok (ok.ok (ok.fact hf).1) (ok.fact hf).2
def sp_first_heard (A : Ad) : Sp := fun vs H R _ => ∃ (a : Addr) (n : Now) (i f : Nat), vs = [.ref a, .int (i : Nat), .int (f : Nat)] ∧ NowAt A H a n ∧ OkN n ∧ i < n.st.length ∧ f < n.facts.length ∧ RetQ H (n.first i f) R
theorem ok_first_heard (T : Txt K mg A) : FnOk P w K mg base CX0 6 A.f_first_heard A.fd_first_heard ["state", "station", "f"] (sp_first_heard A) := by
  refine T.d_first_heard.F.ok sc_first_heard (fun vs H Q E h => ?_) (fun cdv _ outer s H vs R E hr h => ?_)
  · obtain ⟨a, n, i, f, rfl, _⟩ := h
    rfl
  · obtain ⟨a, n, i, f, rfl, ⟨dx, ls, lf, ll, ss, fs, ms, hn⟩, ok, hi, hf, k⟩ := h
    obtain ⟨sp, hsp, hst⟩ := hn.station hi
    obtain ⟨fp, hfp, ⟨df, ft, fc, g1, g2, g3⟩⟩ := hn.fact hf
    refine ⟨_, (pss_one (ps_ret (pe_call (ok_hears T) (hr.mono (by decide)) (by rfl) T.d_hears.g T.d_hears.F.kp T.d_hears.b .nil pass0 (pa_cons (pe_ix ix_list (pe_fld (pv 0) rfl) (pv 1) (fun _ _ => rfl)) (pa_cons (pe_fld (pe_ix ix_list (pe_fld (pv 0) rfl) (pv 2) (fun _ _ => rfl)) rfl) pa_nil))))), ?_⟩
    refine ⟨_, rfl, a, _, dx, _, _, rfl, hn.o, T.cState.cl, T.cState.na _ (.head _), fs_State_stations _ _ _ _ _, _, rfl, ls, _, _, _, rfl, rfl, SqL.of hn.s, atI_nat (j := i) hsp,
      _, rfl, a, _, dx, _, _, rfl, hn.o, T.cState.cl, T.cState.na _ (.tail _ (.head _)), fs_State_facts _ _ _ _ _, _, rfl, lf, _, _, _, rfl, rfl, SqL.of hn.f, atI_nat (j := f) hfp,
      fp, _, df, _, _, rfl, g1, T.cFact.cl, T.cFact.na _ (.tail _ (.tail _ (.head _))), fs_Fact_point _ _ _, ?_⟩
    exact ⟨sp, fc, _, _, rfl, hst, ok.ok hi, g3, ok_where ok hf, k⟩
theorem ok_could_know (T : Txt K mg A) : FnOk P w K mg base CX0 7 A.f_could_know A.fd_could_know ["state", "station", "f", "clock"] (sp_could_know A) := by
  refine T.d_could_know.F.ok sc_could_know (fun vs H Q E h => ?_) (fun cdv _ outer s H vs R E hr h => ?_)
  · obtain ⟨a, c, n, i, f, q, rfl, _⟩ := h
    rfl
  · obtain ⟨a, c, n, i, f, q, rfl, ⟨dx, ls, lf, ll, ss, fs, ms, hn⟩, ok, hi, hf, hc, sq, k⟩ := h
    refine ⟨_, (pss_one (ps_ret (pe_call (ok_at_most T) (hr.mono (by decide)) (by rfl) T.d_at_most.g T.d_at_most.F.kp T.d_at_most.b .nil pass0 (pa_cons (pe_call (ok_first_heard T) (hr.mono (by decide)) (by rfl) T.d_first_heard.g T.d_first_heard.F.kp T.d_first_heard.b .nil pass0 (pa_cons (pv 0) (pa_cons (pv 1) (pa_cons (pv 2) pa_nil)))) (pa_cons (pv 3) pa_nil))))), ?_⟩
    refine ⟨_, rfl, _, rfl, _, rfl, a, n, i, f, rfl, ⟨dx, ls, lf, ll, ss, fs, ms, hn⟩, ok, hi, hf, fun pr H1 s1 hpr => ?_⟩
    refine ⟨_, rfl, pr, c, _, _, rfl, hpr, s1 _ _ hc, Sm.of (Ma.hears_B (ok.ok hi) (ok_where ok hf)) (by decide) (by decide), sq, ?_⟩
    exact k H1 s1
def sp_judge (A : Ad) : Sp := fun vs H R _ => ∃ (a c : Addr) (n : Now) (i f : Nat) (q : Q), vs = [.ref a, .int (i : Nat), .int (f : Nat), .ref c] ∧ NowAt A H a n ∧ OkN n ∧ i < n.st.length ∧ f < n.facts.length ∧ H c = some (tupQ q) ∧ Sm q ∧
  ∀ H', Same H H' → R (.int ((n.judge i f q : Nat) : Int)) H'
theorem inV_nums (f : Nat) (l : List Nat) : inV (.int (f : Nat)) (nums l) = l.contains f := by
  unfold inV nums
  rw [List.any_map, List.contains_eq_any_beq]
  refine List.any_congr rfl fun x => ?_
  show (((x : Nat) : Int) == ((f : Nat) : Int)) = (f == x)
  rw [Bool.eq_iff_iff, beq_iff_eq, beq_iff_eq]
  omega
theorem flat_nums (l : List Nat) : (nums l).all flatV = true := by
  rw [List.all_map]
  exact List.all_eq_true.mpr fun _ _ => rfl
theorem could_has {n : Now} {i f : Nat} {q : Q} (hf : f < n.facts.length) : (n.could i q).contains f = (n.first i f).le q := by
  unfold Now.could
  rw [Ma.contains_filter, decide_eq_true hf, Bool.true_and]
theorem ok_judge (T : Txt K mg A) : FnOk P w K mg base CX0 8 A.f_judge A.fd_judge ["state", "i", "f", "clock"] (sp_judge A) := by
  refine T.d_judge.F.ok sc_judge (fun vs H Q E h => ?_) (fun cdv _ outer s H vs R E hr h => ?_)
  · obtain ⟨a, c, n, i, f, q, rfl, _⟩ := h
    rfl
  · obtain ⟨a, c, n, i, f, q, rfl, hn, ok, hi, hf, hc, sq, k⟩ := h
    refine ⟨_, (pss_cons (ps_if (pt_cmpR op_in_seq (pv 2) (pe_call (ok_facts_known T) (hr.mono (by decide)) (by rfl) T.d_facts_known.g T.d_facts_known.F.kp T.d_facts_known.b .nil pass0 (pa_cons (pv 0) (pa_cons (pv 1) (pa_cons (pv 3) pa_nil)))) (by rfl)) (pss_one (ps_ret (pe_glob (v := .int (2)) rfl T.k_KNOWN ⟨_, rfl⟩))) pss_nil)
 (pss_cons (ps_if (pt_val (pe_call (ok_could_know T) (hr.mono (by decide)) (by rfl) T.d_could_know.g T.d_could_know.F.kp T.d_could_know.b .nil pass0 (pa_cons (pv 0) (pa_cons (pv 1) (pa_cons (pv 2) (pa_cons (pv 3) pa_nil)))))) (pss_one (ps_ret (pe_glob (v := .int (1)) rfl T.k_POSSIBLE ⟨_, rfl⟩))) pss_nil)
 (pss_one (ps_ret (pe_glob (v := .int (0)) rfl T.k_IMPOSSIBLE ⟨_, rfl⟩))))), ?_⟩
    refine ⟨_, rfl, _, rfl, _, rfl, _, rfl, a, c, n, i, q, rfl, hn, ok, hc, sq, fun H1 p s1 _ hp => ?_⟩
    refine ⟨p, _, rfl, .inl (SqL.of hp), rfl, flat_nums _, _, rfl, ?_⟩
    rw [if_neg Bool.false_ne_true, inV_nums]
    unfold Now.judge at k
    cases c1 : (n.known i q).contains f with
    | true =>
      rw [c1, if_pos rfl] at k
      exact iteT (k H1 s1)
    | false =>
      rw [c1, if_neg Bool.false_ne_true] at k
      refine iteF ⟨_, rfl, _, rfl, _, rfl, _, rfl, a, c, n, i, f, q, rfl, hn.same s1, ok, hi, hf, s1 _ _ hc, sq, fun H2 s2 => ⟨_, rfl, ?_⟩⟩
      rw [could_has hf] at k
      cases c2 : (n.first i f).le q with
      | true =>
        rw [c2, if_pos rfl] at k
        exact iteT (k H2 (s1.trans s2))
      | false =>
        rw [c2, if_neg Bool.false_ne_true] at k
        exact iteF (k H2 (s1.trans s2))
end
end Py
namespace Py
open PySem PySem.Spec PyProof.Rows L2
open Kv414 (Q gcd')
open Kv415 (Station Point)
open Kv417 (Fact Letter Now Abs)
/-- a call's answer is given back as a list, the desk stands as told; all else stands as it did -/
def Ret (A : Ad) (H : Hp) (d : Addr) (s : Kv417.State) (r : List Int) (R : VK) : Prop := ∀ H' p, Same (wo H d) (wo H' d) → DeskAt A H' d s → H' p = some (.lst (r.map V.int)) → R (.ref p) H'
theorem DeskAt.same {A : Ad} {H H' : Hp} {d : Addr} {s : Kv417.State} (h : DeskAt A H d s) (t : Same H H') : DeskAt A H' d s := by
  cases s with
  | none =>
    obtain ⟨dx, l, h1⟩ := h
    exact ⟨dx, l, t _ _ h1⟩
  | some a =>
    obtain ⟨dx, n, l, ps, h1, h2, h3, h4⟩ := h
    exact ⟨dx, n, l, ps, t _ _ h1, wo_same t _ _ h2, h3.same (wo_same t), pr_map h4 fun _ _ _ q => q.same (wo_same t)⟩
theorem Ret.look {A : Ad} {H H' : Hp} {d p : Addr} {s : Kv417.State} {r : List Int} {R : VK} (k : Ret A H d s r R) (hd : DeskAt A H d s) (t : Same H H') (hp : H' p = some (.lst (r.map V.int))) : R (.ref p) H' := k H' p (wo_same t) (hd.same t) hp
/-- what a call does, and its answer -/
def RetC (A : Ad) (H : Hp) (d : Addr) (a : Abs) (c : Kv417.Call) (R : VK) : Prop := Ret A H d (some (a.does c).1) (Kv417Neutral.row (a.does c).2) R
theorem RetC.of {A : Ad} {H : Hp} {d : Addr} {a : Abs} {c : Kv417.Call} {R : VK} {z : Abs × Kv417.Ans} (k : RetC A H d a c R) (e : a.does c = z) : Ret A H d (some z.1) (Kv417Neutral.row z.2) R := by
  unfold RetC at k
  rw [e] at k
  exact k
/-- a refusal, or a look of one number -/
theorem RetC.say {A : Ad} {H : Hp} {d p : Addr} {a : Abs} {c : Kv417.Call} {R : VK} {v : Int} {H' : Hp} (k : RetC A H d a c R) (hd : DeskAt A H d (some a)) (e : a.does c = (a, Kv417.say v)) (t : Same H H') (hp : H' p = none) : R (.ref p) (upd H' p (.lst [.int v])) :=
  Ret.look (k.of e) hd (t.trans (same_upd hp)) upd_same
theorem noS_of {n : Now} {i : Nat} (h : i < n.st.length) : n.noS i = false := decide_eq_false (by omega)
theorem noS_not {n : Now} {i : Nat} (h : ¬ i < n.st.length) : n.noS i = true := decide_eq_true (by omega)
theorem noF_of {n : Now} {i : Nat} (h : i < n.facts.length) : n.noF i = false := decide_eq_false (by omega)
theorem noF_not {n : Now} {i : Nat} (h : ¬ i < n.facts.length) : n.noF i = true := decide_eq_true (by omega)
theorem noL_of {n : Now} {i : Nat} (h : i < n.letters.length) : n.noL i = false := decide_eq_false (by omega)
theorem noL_not {n : Now} {i : Nat} (h : ¬ i < n.letters.length) : n.noL i = true := decide_eq_true (by omega)
theorem Draft.ne {A : Ad} {H : Hp} {d : Addr} {a : Abs} {H' : Hp} {x dd dy c1 c2 c3 l : Addr} {ss fs ms ps : List Addr} (D : Draft A H d a H' x dd dy c1 c2 c3 l ss fs ms ps) : x ≠ c1 ∧ x ≠ c2 ∧ x ≠ c3 ∧ x ≠ d ∧ c1 ≠ d ∧ c2 ≠ d ∧ c3 ≠ d :=
  ⟨ne_of D.nw.o D.nw.s (by intro z; cases z), ne_of D.nw.o D.nw.f (by intro z; cases z), ne_of D.nw.o D.nw.l (by intro z; cases z), wo_ne D.nw.o, wo_ne D.nw.s, wo_ne D.nw.f, wo_ne D.nw.l⟩
/-- how many there are -/
theorem Draft.lens {A : Ad} {H : Hp} {d : Addr} {a : Abs} {H' : Hp} {x dd dy c1 c2 c3 l : Addr} {ss fs ms ps : List Addr} (D : Draft A H d a H' x dd dy c1 c2 c3 l ss fs ms ps) : ss.length = a.now.st.length ∧ fs.length = a.now.facts.length ∧ ms.length = a.now.letters.length :=
  ⟨pr_len D.sp0, pr_len D.fp0, pr_len D.lp0⟩
theorem getD_snoc {st : List Station} {s : Station} {i : Nat} (h : i < st.length) : stAt (st ++ [s]) i = stAt st i := by
  unfold stAt
  rw [List.getD_eq_getElem?_getD, List.getD_eq_getElem?_getD, List.getElem?_append_left h]
theorem refs_snoc (l : List Addr) (x : Addr) : refs l ++ [V.ref x] = refs (l ++ [x]) := (List.map_append (l₁ := l) (l₂ := [x]) (f := V.ref)).symm
/-- this object is no desk -/
def NotDesk (o : HO) : Prop := ∀ C e u v, o ≠ .ins C e (fs_Desk u v)
theorem nd_tup {xs : List V} : NotDesk (.tup xs) := fun _ _ _ _ z => by cases z
theorem nd_lst {xs : List V} : NotDesk (.lst xs) := fun _ _ _ _ z => by cases z
theorem nd_Fact {C e : Addr} {a b c : V} : NotDesk (.ins C e (fs_Fact a b c)) := fun _ _ _ _ z => by
  injection z with _ _ z3
  cases z3
theorem nd_Letter {C e : Addr} {a b c d : V} : NotDesk (.ins C e (fs_Letter a b c d)) := fun _ _ _ _ z => by
  injection z with _ _ z3
  cases z3
theorem nd_Station {C e : Addr} {a b c : V} : NotDesk (.ins C e (fs_Station a b c)) := fun _ _ _ _ z => by
  injection z with _ _ z3
  cases z3
theorem nd_State {C e : Addr} {a b c d f : V} : NotDesk (.ins C e (fs_State a b c d f)) := fun _ _ _ _ z => by
  injection z with _ _ z3
  cases z3
theorem nd_Point {C e : Addr} {a b : V} : NotDesk (.ins C e (fs_Point a b)) := fun _ _ u v z => by
  injection z with _ _ z3
  have h : ("minus" : Str) = "state" := congrArg Prod.fst (List.cons.inj z3).1
  exact absurd h (by decide +kernel)
section
variable {P : Program} {w : World} {K : PySem.W.Frag} {mg : Str → Option Value} {base : Heap} {A : Ad}
def sp_is_near : Sp := fun vs H R _ => ∃ z : Int, vs = [.int z] ∧ R (.bl (Kv414.ok z)) H
theorem ok_is_near (T : Txt K mg A) : FnOk P w K mg base CX0 1 A.f_is_near A.fd_is_near ["number"] sp_is_near := by
  refine T.d_is_near.F.ok sc_is_near (fun vs H Q E h => ?_) (fun cdv _ outer s H vs R E hr h => ?_)
  · obtain ⟨z, rfl, _⟩ := h
    rfl
  · obtain ⟨z, rfl, k⟩ := h
    refine ⟨_, (pss_one (ps_ret (pe_chain op_le op_le (pe_un un_neg (pe_glob (v := .int (99)) rfl T.k_FARTHEST ⟨_, rfl⟩)) (pv 0) (pe_glob (v := .int (99)) rfl T.k_FARTHEST ⟨_, rfl⟩)))), ?_⟩
    refine ⟨_, rfl, _, rfl, _, _, rfl, rfl, _, rfl, ?_⟩
    unfold Kv414.ok at k
    by_cases c : (-99 : Int) ≤ z
    · rw [decide_eq_true c, Bool.true_and] at k
      rw [decide_eq_true c]
      exact iteT ⟨_, _, rfl, rfl, k⟩
    · rw [decide_eq_false c, Bool.false_and] at k
      rw [decide_eq_false c]
      exact iteF k
def sp_is_factor_part : Sp := fun vs H R _ => ∃ z : Int, vs = [.int z] ∧ R (.bl (decide (1 ≤ z) && decide (z ≤ 9))) H
theorem ok_is_factor_part (T : Txt K mg A) : FnOk P w K mg base CX0 1 A.f_is_factor_part A.fd_is_factor_part ["number"] sp_is_factor_part := by
  refine T.d_is_factor_part.F.ok sc_is_factor_part (fun vs H Q E h => ?_) (fun cdv _ outer s H vs R E hr h => ?_)
  · obtain ⟨z, rfl, _⟩ := h
    rfl
  · obtain ⟨z, rfl, k⟩ := h
    refine ⟨_, (pss_one (ps_ret (pe_chain op_le op_le pe_int (pv 0) (pe_glob (v := .int (9)) rfl T.k_GREATEST_FACTOR ⟨_, rfl⟩)))), ?_⟩
    refine ⟨_, rfl, _, _, rfl, rfl, _, rfl, ?_⟩
    by_cases c : (1 : Int) ≤ z
    · rw [decide_eq_true c, Bool.true_and] at k
      rw [decide_eq_true c]
      exact iteT ⟨_, _, rfl, rfl, k⟩
    · rw [decide_eq_false c, Bool.false_and] at k
      rw [decide_eq_false c]
      exact iteF k
def sp_is_clock_number : Sp := fun vs H R _ => ∃ n d : Int, vs = [.int n, .int d] ∧ R (.bl (Kv415.okT n d.toNat)) H
theorem okT_eq (n d : Int) : Kv415.okT n d.toNat = ((decide (-999 ≤ n) && decide (n ≤ 999)) && (decide (1 ≤ d) && decide (d ≤ 99))) := by
  unfold Kv415.okT
  rw [Bool.and_assoc]
  congr 1
  have e1 : decide (1 ≤ d.toNat) = decide (1 ≤ d) := by
    apply Bool.eq_iff_iff.mpr
    rw [decide_eq_true_iff, decide_eq_true_iff]
    omega
  have e2 : decide (d.toNat ≤ 99) = decide (d ≤ 99) := by
    apply Bool.eq_iff_iff.mpr
    rw [decide_eq_true_iff, decide_eq_true_iff]
    omega
  rw [e1, e2]
theorem ok_is_clock_number (T : Txt K mg A) : FnOk P w K mg base CX0 1 A.f_is_clock_number A.fd_is_clock_number ["n", "d"] sp_is_clock_number := by
  refine T.d_is_clock_number.F.ok sc_is_clock_number (fun vs H Q E h => ?_) (fun cdv _ outer s H vs R E hr h => ?_)
  · obtain ⟨n, d, rfl, _⟩ := h
    rfl
  · obtain ⟨n, d, rfl, k⟩ := h
    rw [okT_eq] at k
    refine ⟨_, (pss_one (ps_ret (pe_and (pe_chain op_le op_le (pe_un un_neg (pe_glob (v := .int (999)) rfl T.k_GREATEST_N ⟨_, rfl⟩)) (pv 0) (pe_glob (v := .int (999)) rfl T.k_GREATEST_N ⟨_, rfl⟩)) (pe_one (pe_chain op_le op_le pe_int (pv 1) (pe_glob (v := .int (99)) rfl T.k_GREATEST_D ⟨_, rfl⟩)))))), ?_⟩
    refine ⟨_, rfl, _, rfl, _, _, rfl, rfl, _, rfl, ?_⟩
    by_cases c1 : (-999 : Int) ≤ n
    · rw [decide_eq_true c1, Bool.true_and] at k
      rw [decide_eq_true c1]
      refine iteT ⟨_, _, rfl, rfl, _, rfl, ?_⟩
      by_cases c2 : n ≤ 999
      · rw [decide_eq_true c2, Bool.true_and] at k
        rw [decide_eq_true c2]
        refine iteT ⟨_, rfl, _, _, rfl, rfl, _, rfl, ?_⟩
        by_cases c3 : (1 : Int) ≤ d
        · rw [decide_eq_true c3, Bool.true_and] at k
          rw [decide_eq_true c3]
          exact iteT ⟨_, _, rfl, rfl, k⟩
        · rw [decide_eq_false c3, Bool.false_and] at k
          rw [decide_eq_false c3]
          exact iteF k
      · rw [decide_eq_false c2, Bool.false_and] at k
        rw [decide_eq_false c2]
        exact iteF k
    · rw [decide_eq_false c1, Bool.false_and, Bool.false_and] at k
      rw [decide_eq_false c1]
      exact iteF ⟨_, rfl, iteF k⟩
def sp_fact (A : Ad) : Sp := fun vs H R _ => ∃ (d : Addr) (a : Abs) (i n q : Int), vs = [.ref d, .int i, .int n, .int q] ∧ DeskAt A H d (some a) ∧ OkA a ∧ 0 ≤ i ∧ 0 ≤ q ∧ RetC A H d a (.fact i.toNat n q.toNat) R
theorem does_fact (a : Abs) (i : Nat) (n : Int) (d : Nat) : a.does (.fact i n d) = if a.now.noS i then (a, Kv417.say (-2)) else if Kv415.okT n d = false then (a, Kv417.say (-22)) else if 6 ≤ a.now.facts.length then (a, Kv417.say (-28)) else a.to_ { a.now with facts := a.now.facts ++ [⟨i, Kv415.t_ n d⟩] } (Kv417.num a.now.facts.length) := rfl
theorem ok_fact (T : Txt K mg A) : FnOk P w K mg base CX0 5 A.f_fact A.fd_fact ["desk", "i", "n", "d"] (sp_fact A) := by
  refine T.d_fact.F.ok sc_fact (fun vs H Q E h => ?_) (fun cdv _ outer s H vs R E hr h => ?_)
  · obtain ⟨d, a, i, n, q, rfl, _⟩ := h
    rfl
  · obtain ⟨d, a, i, n, q, rfl, hd, ok, hi, hq, k⟩ := h
    obtain ⟨dd, nn, pl, ps, h1, h2, h3, h4⟩ := id hd
    have hN : NowAt A H nn a.now := h3.same (wo_le H d)
    obtain ⟨i, rfl⟩ : ∃ j : Nat, i = (j : Int) := ⟨i.toNat, by omega⟩
    rw [Int.toNat_natCast] at k
    refine ⟨_, (pss_cons (ps_if (pt_not (pt_val (pe_call (ok_has_station T) (hr.mono (by decide)) (by rfl) T.d_has_station.g T.d_has_station.F.kp T.d_has_station.b .nil pass0 (pa_cons (pe_fld (pv 0) rfl) (pa_cons (pv 1) pa_nil))))) (pss_one (ps_ret (pe_lst (pa_cons (pe_glob (v := .int (-2)) rfl T.k_NO_SUCH ⟨_, rfl⟩) pa_nil)))) pss_nil)
 (pss_cons (ps_if (pt_not (pt_val (pe_call (ok_is_clock_number T) (hr.mono (by decide)) (by rfl) T.d_is_clock_number.g T.d_is_clock_number.F.kp T.d_is_clock_number.b .nil pass0 (pa_cons (pv 2) (pa_cons (pv 3) pa_nil))))) (pss_one (ps_ret (pe_lst (pa_cons (pe_glob (v := .int (-22)) rfl T.k_OUT_OF_RANGE ⟨_, rfl⟩) pa_nil)))) pss_nil)
 (pss_cons (ps_if (pt_cmpR op_ge (pe_callB call_len_seq (by rfl) T.b_len (by decide +kernel) (pa_cons (pe_fld (pe_fld (pv 0) rfl) rfl) pa_nil)) (pe_glob (v := .int (6)) rfl T.k_MOST_FACTS ⟨_, rfl⟩) (nomark _)) (pss_one (ps_ret (pe_lst (pa_cons (pe_glob (v := .int (-28)) rfl T.k_TOO_MANY ⟨_, rfl⟩) pa_nil)))) pss_nil)
 (pss_cons (ps_set (i := 4) sc_fact.nd rfl (Or.inl rfl) (pe_call (ok_start_change T) (hr.mono (by decide)) (by rfl) T.d_start_change.g T.d_start_change.F.kp T.d_start_change.b .nil pass0 (pa_cons (pv 0) pa_nil)))
 (pss_cons (ps_set (i := 5) sc_fact.nd rfl (Or.inl rfl) (pe_call (ok_fraction T) (hr.mono (by decide)) (by rfl) T.d_fraction.g T.d_fraction.F.kp T.d_fraction.b .nil pass0 (pa_cons (pv 2) (pa_cons (pv 3) pa_nil))))
 (pss_cons (ps_expr (pe_bm PySem.F.plainAttrs_list PySem.F.slot_list_append PySem.F.type_list_append mt_append (pe_fld (pv 4) rfl) (pa_cons (pe_make T.cFact.M (oki_Fact T) (hr.mono (by decide)) (by rfl) T.cFact.g T.cFact.b .nil pass0 (pa_cons (pv 1) (pa_cons (pv 5) (pa_cons (pe_call (ok_point_at T) (hr.mono (by decide)) (by rfl) T.d_point_at.g T.d_point_at.F.kp T.d_point_at.b .nil pass0 (pa_cons (pe_ix ix_list (pe_fld (pv 4) rfl) (pv 1) (fun _ _ => rfl)) (pa_cons (pv 5) pa_nil))) pa_nil)))) pa_nil)))
 (pss_one (ps_ret (pe_lst (pa_cons (pe_op op_sub (pe_callB call_len_seq (by rfl) T.b_len (by decide +kernel) (pa_cons (pe_fld (pv 4) rfl) pa_nil)) pe_int) pa_nil)))))))))), ?_⟩
    refine ⟨_, rfl, d, _, dd, _, _, rfl, h1, T.cDesk.cl, T.cDesk.na _ (.head _), fs_Desk_state _ _, _, rfl, nn, a.now, _, rfl, hN, hi, _, rfl, ?_⟩
    rw [Int.toNat_natCast]
    by_cases c1 : i < a.now.st.length
    case neg =>
      rw [decide_eq_false c1]
      refine iteT ⟨by show 1 ≤ sizeLine; decide, fun p hp => ?_⟩
      exact k.say hd (by rw [does_fact, if_pos (noS_not c1)]) (Same.refl H) hp
    rw [decide_eq_true c1]
    have e1 := does_fact a i n q.toNat
    rw [noS_of c1, if_neg Bool.false_ne_true] at e1
    refine iteF ⟨_, rfl, _, rfl, n, q, rfl, _, rfl, ?_⟩
    cases c2 : Kv415.okT n q.toNat with
    | false =>
      rw [c2, if_pos rfl] at e1
      refine iteT ⟨by show 1 ≤ sizeLine; decide, fun p hp => ?_⟩
      exact k.say hd e1 (Same.refl H) hp
    | true =>
    rw [c2, if_neg (by decide)] at e1
    obtain ⟨dx, ls, lf, ll, ss0, fs0, ms0, hR⟩ := id hN
    refine iteF ⟨_, rfl, d, _, dd, _, _, rfl, h1, T.cDesk.cl, T.cDesk.na _ (.head _), fs_Desk_state _ _, nn, _, dx, _, _, rfl, hR.o, T.cState.cl, T.cState.na _ (.tail _ (.head _)), fs_State_facts _ _ _ _ _, lf, _, rfl, .inl (SqL.of hR.f), _, _, rfl, rfl, _, rfl, ?_⟩
    rw [List.length_map, pr_len hR.fp]
    by_cases c3 : 6 ≤ a.now.facts.length
    · rw [if_pos c3] at e1
      have dc : decide ((6 : Int) ≤ ((a.now.facts.length : Nat) : Int)) = true := decide_eq_true (by omega)
      rw [dc]
      refine iteT ⟨by show 1 ≤ sizeLine; decide, fun p hp => ?_⟩
      exact k.say hd e1 (Same.refl H) hp
    rw [if_neg c3] at e1
    have dc : decide ((6 : Int) ≤ ((a.now.facts.length : Nat) : Int)) = false := decide_eq_false (by omega)
    rw [dc]
    refine iteF ?_
    -- state = start_change(desk)
    refine ⟨_, rfl, d, a, rfl, hd, ok.len, fun H1 x d1 dy c1' c2' c3' l ss fs ms ps D => ?_⟩
    obtain ⟨x1, x2, x3, xd, y1, y2, y3⟩ := D.ne
    obtain ⟨z1, z2, z3⟩ := D.lens
    have okt := Ma.t_ok c2
    have hq0 : 0 < q := by
      rw [okT_eq] at c2
      simp only [Bool.and_eq_true, decide_eq_true_eq] at c2
      omega
    have hbn : n.natAbs < 2 ^ 200 ∧ q.natAbs < 2 ^ 200 := by
      rw [okT_eq] at c2
      simp only [Bool.and_eq_true, decide_eq_true_eq] at c2
      exact ⟨Nat.lt_of_le_of_lt (m := 999) (by omega) (by decide), Nat.lt_of_le_of_lt (m := 99) (by omega) (by decide)⟩
    -- when = fraction(n, d)
    refine ⟨_, rfl, _, rfl, n, q, rfl, hq0, hbn.1, hbn.2, fun pw H2 s2 hw => ?_⟩
    -- state.facts.append(..)
    have w12 : Same (wo H1 d) H2 := (wo_le H1 d).trans s2
    have hR2 := D.nw.same w12
    refine ⟨_, rfl, x, _, dy, _, _, rfl, hR2.o, T.cState.cl, T.cState.na _ (.tail _ (.head _)), fs_State_facts _ _ _ _ _, .inl ⟨rfl, _, SqL.of hR2.f⟩, ?_⟩
    obtain ⟨sp, hsp, hst⟩ := hR2.station c1
    refine ⟨_, rfl, _, rfl, _, rfl, x, _, dy, _, _, rfl, hR2.o, T.cState.cl, T.cState.na _ (.head _), fs_State_stations _ _ _ _ _, _, rfl, c1', _, _, _, rfl, rfl, SqL.of hR2.s, atI_nat (j := i) hsp, _, rfl, ?_⟩
    refine ⟨sp, pw, _, _, rfl, hst, ok.now.ok c1, hw, okt, fun pp H3 s3 hpp => ?_⟩
    intro xf df nxf ndf nef
    refine ⟨xf, df, _, _, _, rfl, upd_same, rfl, ?_⟩
    rw [upd_upd]
    have s4 : Same H3 (upd (upd H3 df (.own xf)) xf (.ins A.C_Fact df (fs_Fact (.int (i : Int)) (.ref pw) (.ref pp)))) := same_made nxf ndf
    have hxf : upd (upd H3 df (.own xf)) xf (.ins A.C_Fact df (fs_Fact (.int (i : Int)) (.ref pw) (.ref pp))) xf = some (.ins A.C_Fact df (fs_Fact (.int (i : Int)) (.ref pw) (.ref pp))) := upd_same
    generalize upd (upd H3 df (.own xf)) xf (.ins A.C_Fact df (fs_Fact (.int (i : Int)) (.ref pw) (.ref pp))) = H4 at s4 hxf ⊢
    have s24 := s3.trans s4
    have s14 := s2.trans s24
    have hR4 := hR2.same s24
    refine ⟨c2', _, _, rfl, rfl, hR4.f, by rw [List.length_map, z2]; exact Nat.lt_of_le_of_lt (m := 6) (by omega) (by decide), ?_⟩
    rw [refs_snoc]
    have xc : xf ≠ c2' := ne_of hxf hR4.f (by intro z; cases z)
    -- return [len(state.facts) - 1]
    refine ⟨_, rfl, x, _, dy, _, _, rfl, (by rw [upd_ne x2]; exact hR4.o), T.cState.cl, T.cState.na _ (.tail _ (.head _)), fs_State_facts _ _ _ _ _, c2', _, rfl, .inl (SqL.of upd_same), _, _, rfl, rfl, by show 1 ≤ sizeLine; decide, fun p hp => ?_⟩
    have kp : ∀ b o, b ≠ c2' → H4 b = some o → upd (upd H4 c2' (.lst (refs (fs ++ [xf])))) p (.lst [.int ((((refs (fs ++ [xf])).length : Nat) : Int) - 1)]) b = some o := fun b o nb h => by
      have h' : upd H4 c2' (.lst (refs (fs ++ [xf]))) b = some o := by rw [upd_ne nb]; exact h
      exact upd_at h' hp
    have hp5 : upd (upd H4 c2' (.lst (refs (fs ++ [xf])))) p (.lst [.int ((((refs (fs ++ [xf])).length : Nat) : Int) - 1)]) p = some (.lst [.int ((((refs (fs ++ [xf])).length : Nat) : Int) - 1)]) := upd_same
    have hc5 : upd (upd H4 c2' (.lst (refs (fs ++ [xf])))) p (.lst [.int ((((refs (fs ++ [xf])).length : Nat) : Int) - 1)]) c2' = some (.lst (refs (fs ++ [xf]))) := upd_at upd_same hp
    generalize upd (upd H4 c2' (.lst (refs (fs ++ [xf])))) p (.lst [.int ((((refs (fs ++ [xf])).length : Nat) : Int) - 1)]) = H5 at kp hp5 hc5 ⊢
    have kD : ∀ b o, H1 b = some o → b ≠ x → b ≠ c1' → b ≠ c2' → b ≠ c3' → H5 b = some o := fun b o h _ _ n2 _ => kp b o n2 (s14 _ _ h)
    have sD := D.keep kD
    have hd4 := s14 _ _ D.dk
    have isf : ∀ {b : Addr} {o : HO}, H4 b = some o → (∀ f, o ≠ .lst f) → NotDesk o → wo H5 d b = some o := fun {b o} h n1 n2 =>
      wo_of (kp b o (ne_of h hR4.f (n1 _)) h) (fun z => by rw [z, hd4] at h; exact n2 _ _ _ _ (Option.some.inj h).symm)
    refine (k.of e1) H5 p sD (D.done kD ⟨dy, c1', c2', c3', ss, fs ++ [xf], ms, ⟨wo_of (kp _ _ x2 hR4.o) xd, wo_of (kp _ _ D.e12 hR4.s) y1, wo_of hc5 y2, wo_of (kp _ _ D.e23.symm hR4.l) y3, pr_map D.sp0 fun _ _ _ h => h.same sD, pr_snoc ?_ (pr_map D.fp0 fun _ _ _ h => h.same sD), pr_map D.lp0 fun _ _ _ h => h.same sD⟩⟩) ?_
    · obtain ⟨dp, u0, v0, g1, g2, g3⟩ := hpp.same s4
      exact ⟨df, pw, pp, isf hxf (by intro f z; cases z) nd_Fact, isf (s24 _ _ hw) (by intro f z; cases z) nd_tup, dp, u0, v0, isf g1 (by intro f z; cases z) nd_Point, isf g2 (by intro f z; cases z) nd_tup, isf g3 (by intro f z; cases z) nd_tup⟩
    · rw [hp5]
      show some (HO.lst [V.int ((((refs (fs ++ [xf])).length : Nat) : Int) - 1)]) = some (HO.lst [V.int ((a.now.facts.length : Nat) : Int)])
      congr 4
      rw [List.length_map, List.length_append, List.length_singleton, z2]
      omega
end
end Py
namespace Py
open PySem PySem.Spec PyProof.Rows L2
open Kv414 (Q gcd' Factor)
open Kv415 (Station Point)
open Kv417 (Fact Letter Now Abs)
theorem fac_red {p q : Nat} (hq : 0 < q) : Q.red ⟨(p : Int), q⟩ = (Factor.red ⟨p, q⟩).up := by
  rw [Ma.red_eq hq]
  unfold Factor.red Factor.up
  have e : gcd' (p : Int) q = Nat.gcd p q := by
    unfold gcd'
    rw [Int.natAbs_natCast]
  simp only [e]
  rw [Int.natCast_ediv]
theorem okF_eq {p q : Int} (hp : 0 ≤ p) (hq : 0 ≤ q) : Kv414.okF p.toNat q.toNat = ((decide (1 ≤ p) && decide (p ≤ 9)) && (decide (1 ≤ q) && decide (q ≤ 9))) := by
  unfold Kv414.okF
  have e1 : decide (1 ≤ p.toNat) = decide (1 ≤ p) := by apply Bool.eq_iff_iff.mpr; rw [decide_eq_true_iff, decide_eq_true_iff]; omega
  have e2 : decide (p.toNat ≤ 9) = decide (p ≤ 9) := by apply Bool.eq_iff_iff.mpr; rw [decide_eq_true_iff, decide_eq_true_iff]; omega
  have e3 : decide (1 ≤ q.toNat) = decide (1 ≤ q) := by apply Bool.eq_iff_iff.mpr; rw [decide_eq_true_iff, decide_eq_true_iff]; omega
  have e4 : decide (q.toNat ≤ 9) = decide (q ≤ 9) := by apply Bool.eq_iff_iff.mpr; rw [decide_eq_true_iff, decide_eq_true_iff]; omega
  rw [e1, e2, e3, e4, Bool.and_assoc (decide (1 ≤ p) && decide (p ≤ 9))]
/-- from a draft: one object more in a list, behind it the list that is answered -/
theorem okT_pos {n q : Int} (c : Kv415.okT n q.toNat = true) : 0 < q ∧ n.natAbs < 2 ^ 200 ∧ q.natAbs < 2 ^ 200 := by
  rw [okT_eq] at c
  simp only [Bool.and_eq_true, decide_eq_true_eq] at c
  exact ⟨by omega, Nat.lt_of_le_of_lt (m := 999) (by omega) (by decide), Nat.lt_of_le_of_lt (m := 99) (by omega) (by decide)⟩
section
variable {P : Program} {w : World} {K : PySem.W.Frag} {mg : Str → Option Value} {base : Heap} {A : Ad}
def sp_station (A : Ad) : Sp := fun vs H R _ => ∃ (d : Addr) (a : Abs) (t x p q : Int), vs = [.ref d, .int t, .int x, .int p, .int q] ∧ DeskAt A H d (some a) ∧ OkA a ∧ 0 ≤ p ∧ 0 ≤ q ∧ RetC A H d a (.station t x p.toNat q.toNat) R
theorem does_station (a : Abs) (t x : Int) (p q : Nat) : a.does (.station t x p q) = if Kv414.ok t = false ∨ Kv414.ok x = false ∨ Kv414.okF p q = false then (a, Kv417.say (-22)) else if 4 ≤ a.now.st.length then (a, Kv417.say (-28)) else a.to_ { a.now with st := a.now.st ++ [⟨⟨t, x⟩, Factor.red ⟨p, q⟩⟩] } (Kv417.num a.now.st.length) := rfl
theorem ok_station (T : Txt K mg A) : FnOk P w K mg base CX0 5 A.f_station A.fd_station ["desk", "t", "x", "p", "q"] (sp_station A) := by
  refine T.d_station.F.ok sc_station (fun vs H Q E h => ?_) (fun cdv _ outer s H vs R E hr h => ?_)
  · obtain ⟨d, a, t, x, p, q, rfl, _⟩ := h
    rfl
  · obtain ⟨d, a, t, xx, p, q, rfl, hd, ok, hp0, hq0, k⟩ := h
    obtain ⟨dd, nn, pl, ps, h1, h2, h3, h4⟩ := id hd
    have hN : NowAt A H nn a.now := h3.same (wo_le H d)
    refine ⟨_, (pss_cons (ps_if (pt_not (PW.pt (pw_and (pt_val (pe_call (ok_is_near T) (hr.mono (by decide)) (by rfl) T.d_is_near.g T.d_is_near.F.kp T.d_is_near.b .nil pass0 (pa_cons (pv 1) pa_nil))) (pw_and (pt_val (pe_call (ok_is_near T) (hr.mono (by decide)) (by rfl) T.d_is_near.g T.d_is_near.F.kp T.d_is_near.b .nil pass0 (pa_cons (pv 2) pa_nil))) (pw_and (pt_val (pe_call (ok_is_factor_part T) (hr.mono (by decide)) (by rfl) T.d_is_factor_part.g T.d_is_factor_part.F.kp T.d_is_factor_part.b .nil pass0 (pa_cons (pv 3) pa_nil))) (pw_and1 (pt_val (pe_call (ok_is_factor_part T) (hr.mono (by decide)) (by rfl) T.d_is_factor_part.g T.d_is_factor_part.F.kp T.d_is_factor_part.b .nil pass0 (pa_cons (pv 4) pa_nil))))))))) (pss_one (ps_ret (pe_lst (pa_cons (pe_glob (v := .int (-22)) rfl T.k_OUT_OF_RANGE ⟨_, rfl⟩) pa_nil)))) pss_nil)
 (pss_cons (ps_if (pt_cmpR op_ge (pe_callB call_len_seq (by rfl) T.b_len (by decide +kernel) (pa_cons (pe_fld (pe_fld (pv 0) rfl) rfl) pa_nil)) (pe_glob (v := .int (4)) rfl T.k_MOST_STATIONS ⟨_, rfl⟩) (nomark _)) (pss_one (ps_ret (pe_lst (pa_cons (pe_glob (v := .int (-28)) rfl T.k_TOO_MANY ⟨_, rfl⟩) pa_nil)))) pss_nil)
 (pss_cons (ps_set (i := 5) sc_station.nd rfl (Or.inl rfl) (pe_call (ok_start_change T) (hr.mono (by decide)) (by rfl) T.d_start_change.g T.d_start_change.F.kp T.d_start_change.b .nil pass0 (pa_cons (pv 0) pa_nil)))
 (pss_cons (ps_expr (pe_bm PySem.F.plainAttrs_list PySem.F.slot_list_append PySem.F.type_list_append mt_append (pe_fld (pv 5) rfl) (pa_cons (pe_make T.cStation.M (oki_Station T) (hr.mono (by decide)) (by rfl) T.cStation.g T.cStation.b .nil pass0 (pa_cons (pv 1) (pa_cons (pv 2) (pa_cons (pe_call (ok_fraction T) (hr.mono (by decide)) (by rfl) T.d_fraction.g T.d_fraction.F.kp T.d_fraction.b .nil pass0 (pa_cons (pv 3) (pa_cons (pv 4) pa_nil))) pa_nil)))) pa_nil)))
 (pss_one (ps_ret (pe_lst (pa_cons (pe_op op_sub (pe_callB call_len_seq (by rfl) T.b_len (by decide +kernel) (pa_cons (pe_fld (pv 5) rfl) pa_nil)) pe_int) pa_nil)))))))), ?_⟩
    have e1 := does_station a t xx p.toNat q.toNat
    have oF := okF_eq hp0 hq0
    have refuse : a.does (.station t xx p.toNat q.toNat) = (a, Kv417.say (-22)) → (1 ≤ sizeLine) ∧ ∀ z, H z = none → R (.ref z) (upd H z (.lst [.int (-22)])) := fun e => ⟨by decide, fun z hz => k.say hd e (Same.refl H) hz⟩
    refine ⟨_, rfl, t, rfl, _, rfl, ?_⟩
    cases ct : Kv414.ok t with
    | false =>
      rw [if_pos (.inl ct)] at e1
      exact iteF (iteT (refuse e1))
    | true =>
    refine iteT ⟨_, rfl, xx, rfl, _, rfl, ?_⟩
    cases cx : Kv414.ok xx with
    | false =>
      rw [if_pos (.inr (.inl cx))] at e1
      exact iteF (iteT (refuse e1))
    | true =>
    refine iteT ⟨_, rfl, p, rfl, _, rfl, ?_⟩
    cases cp : (decide (1 ≤ p) && decide (p ≤ 9)) with
    | false =>
      rw [cp, Bool.false_and] at oF
      rw [if_pos (.inr (.inr oF))] at e1
      exact iteF (iteT (refuse e1))
    | true =>
    rw [cp, Bool.true_and] at oF
    refine iteT ⟨_, rfl, q, rfl, _, rfl, ?_⟩
    cases cq : (decide (1 ≤ q) && decide (q ≤ 9)) with
    | false =>
      rw [cq] at oF
      rw [if_pos (.inr (.inr oF))] at e1
      exact iteT (refuse e1)
    | true =>
    rw [cq] at oF
    rw [if_neg (by rw [ct, cx, oF]; simp)] at e1
    simp only [Bool.and_eq_true, decide_eq_true_eq] at cp cq
    obtain ⟨dx, ls, lf, ll, ss0, fs0, ms0, hR⟩ := id hN
    refine iteF ⟨_, rfl, d, _, dd, _, _, rfl, h1, T.cDesk.cl, T.cDesk.na _ (.head _), fs_Desk_state _ _, nn, _, dx, _, _, rfl, hR.o, T.cState.cl, T.cState.na _ (.head _), fs_State_stations _ _ _ _ _, ls, _, rfl, .inl (SqL.of hR.s), _, _, rfl, rfl, _, rfl, ?_⟩
    rw [List.length_map, pr_len hR.sp]
    by_cases c3 : 4 ≤ a.now.st.length
    · rw [if_pos c3] at e1
      have dc : decide ((4 : Int) ≤ ((a.now.st.length : Nat) : Int)) = true := decide_eq_true (by omega)
      rw [dc]
      refine iteT ⟨by show 1 ≤ sizeLine; decide, fun p hp => ?_⟩
      exact k.say hd e1 (Same.refl H) hp
    rw [if_neg c3] at e1
    have dc : decide ((4 : Int) ≤ ((a.now.st.length : Nat) : Int)) = false := decide_eq_false (by omega)
    rw [dc]
    refine iteF ?_
    refine ⟨_, rfl, d, a, rfl, hd, ok.len, fun H1 x d1 dy c1' c2' c3' l ss fs ms ps D => ?_⟩
    obtain ⟨x1, x2, x3, xd, y1, y2, y3⟩ := D.ne
    obtain ⟨z1, z2, z3⟩ := D.lens
    have hR1 := D.nw.same (wo_le H1 d)
    refine ⟨_, rfl, x, _, dy, _, _, rfl, hR1.o, T.cState.cl, T.cState.na _ (.head _), fs_State_stations _ _ _ _ _, .inl ⟨rfl, _, SqL.of hR1.s⟩, ?_⟩
    refine ⟨_, rfl, _, rfl, _, rfl, _, rfl, p, q, rfl, by omega, Nat.lt_of_le_of_lt (m := 9) (by omega) (by decide), Nat.lt_of_le_of_lt (m := 9) (by omega) (by decide), fun pw H3 s3 hw => ?_⟩
    intro xf df nxf ndf nef
    refine ⟨xf, df, _, _, _, rfl, upd_same, rfl, ?_⟩
    rw [upd_upd]
    have s4 : Same H3 (upd (upd H3 df (.own xf)) xf (.ins A.C_Station df (fs_Station (.int t) (.int xx) (.ref pw)))) := same_made nxf ndf
    have hxf : upd (upd H3 df (.own xf)) xf (.ins A.C_Station df (fs_Station (.int t) (.int xx) (.ref pw))) xf = some (.ins A.C_Station df (fs_Station (.int t) (.int xx) (.ref pw))) := upd_same
    generalize upd (upd H3 df (.own xf)) xf (.ins A.C_Station df (fs_Station (.int t) (.int xx) (.ref pw))) = H4 at s4 hxf ⊢
    have s14 := s3.trans s4
    have hR4 := hR1.same s14
    refine ⟨c1', _, _, rfl, rfl, hR4.s, by rw [List.length_map, z1]; exact Nat.lt_of_le_of_lt (m := 4) (by omega) (by decide), ?_⟩
    rw [refs_snoc]
    refine ⟨_, rfl, x, _, dy, _, _, rfl, (by rw [upd_ne x1]; exact hR4.o), T.cState.cl, T.cState.na _ (.head _), fs_State_stations _ _ _ _ _, c1', _, rfl, .inl (SqL.of upd_same), _, _, rfl, rfl, by show 1 ≤ sizeLine; decide, fun p' hp => ?_⟩
    have kp : ∀ b o, b ≠ c1' → H4 b = some o → upd (upd H4 c1' (.lst (refs (ss ++ [xf])))) p' (.lst [.int ((((refs (ss ++ [xf])).length : Nat) : Int) - 1)]) b = some o := fun b o nb h => by
      have h' : upd H4 c1' (.lst (refs (ss ++ [xf]))) b = some o := by rw [upd_ne nb]; exact h
      exact upd_at h' hp
    have hp5 : upd (upd H4 c1' (.lst (refs (ss ++ [xf])))) p' (.lst [.int ((((refs (ss ++ [xf])).length : Nat) : Int) - 1)]) p' = some (.lst [.int ((((refs (ss ++ [xf])).length : Nat) : Int) - 1)]) := upd_same
    have hc5 : upd (upd H4 c1' (.lst (refs (ss ++ [xf])))) p' (.lst [.int ((((refs (ss ++ [xf])).length : Nat) : Int) - 1)]) c1' = some (.lst (refs (ss ++ [xf]))) := upd_at upd_same hp
    generalize upd (upd H4 c1' (.lst (refs (ss ++ [xf])))) p' (.lst [.int ((((refs (ss ++ [xf])).length : Nat) : Int) - 1)]) = H5 at kp hp5 hc5 ⊢
    have kD : ∀ b o, H1 b = some o → b ≠ x → b ≠ c1' → b ≠ c2' → b ≠ c3' → H5 b = some o := fun b o h _ n1 _ _ => kp b o n1 (s14 _ _ h)
    have sD := D.keep kD
    have hd4 := s14 _ _ D.dk
    have isf : ∀ {b : Addr} {o : HO}, H4 b = some o → (∀ f, o ≠ .lst f) → NotDesk o → wo H5 d b = some o := fun {b o} h n1 n2 =>
      wo_of (kp b o (ne_of h hR4.s (n1 _)) h) (fun z => by rw [z, hd4] at h; exact n2 _ _ _ _ (Option.some.inj h).symm)
    refine (k.of e1) H5 p' sD (D.done kD ⟨dy, c1', c2', c3', ss ++ [xf], fs, ms, ⟨wo_of (kp _ _ x1 hR4.o) xd, wo_of hc5 y1, wo_of (kp _ _ D.e12.symm hR4.f) y2, wo_of (kp _ _ D.e13.symm hR4.l) y3, pr_snoc ?_ (pr_map D.sp0 fun _ _ _ h => h.same sD), pr_map D.fp0 fun _ f hm h => ?_, pr_map D.lp0 fun _ f hm h => ?_⟩⟩) ?_
    · refine ⟨df, pw, isf hxf (by intro f z; cases z) nd_Station, ?_⟩
      have e : Kv414.Q.red ⟨p, q.toNat⟩ = (Factor.red ⟨p.toNat, q.toNat⟩).up := by
        rw [← fac_red (by omega), Int.toNat_of_nonneg hp0]
      rw [e] at hw
      exact isf (s4 _ _ hw) (by intro f z; cases z) nd_tup
    · obtain ⟨dx, t', c, g1, g2, g3⟩ := h.same sD
      refine ⟨dx, t', c, g1, g2, ?_⟩
      show PtAt A _ c ((stAt (a.now.st ++ [_]) f.i).at_ f.s)
      rw [getD_snoc (ok.now.fi f hm).1]
      exact g3
    · obtain ⟨dx, t', c, g1, g2, g3⟩ := h.same sD
      refine ⟨dx, t', c, g1, g2, ?_⟩
      show _ = some (tupQ ((stAt (a.now.st ++ [_]) f.j).hears ((stAt (a.now.st ++ [_]) f.i).at_ f.s)))
      rw [getD_snoc (ok.now.li f hm).1, getD_snoc (ok.now.li f hm).2.1]
      exact g3
    · rw [hp5]
      show some (HO.lst [V.int ((((refs (ss ++ [xf])).length : Nat) : Int) - 1)]) = some (HO.lst [V.int ((a.now.st.length : Nat) : Int)])
      congr 4
      rw [List.length_map, List.length_append, List.length_singleton, z1]
      omega
def sp_letter (A : Ad) : Sp := fun vs H R _ => ∃ (d : Addr) (a : Abs) (i j n q : Int), vs = [.ref d, .int i, .int j, .int n, .int q] ∧ DeskAt A H d (some a) ∧ OkA a ∧ 0 ≤ i ∧ 0 ≤ j ∧ 0 ≤ q ∧ RetC A H d a (.letter i.toNat j.toNat n q.toNat) R
theorem does_letter (a : Abs) (i j : Nat) (n : Int) (d : Nat) : a.does (.letter i j n d) = if a.now.noS i ∨ a.now.noS j then (a, Kv417.say (-2)) else if i = j ∨ Kv415.okT n d = false then (a, Kv417.say (-22)) else if 6 ≤ a.now.letters.length then (a, Kv417.say (-28)) else a.to_ { a.now with letters := a.now.letters ++ [⟨i, j, Kv415.t_ n d⟩] } (Kv417.num a.now.letters.length) := rfl
theorem ok_letter (T : Txt K mg A) : FnOk P w K mg base CX0 6 A.f_letter A.fd_letter ["desk", "i", "j", "n", "d"] (sp_letter A) := by
  refine T.d_letter.F.ok sc_letter (fun vs H Q E h => ?_) (fun cdv _ outer s H vs R E hr h => ?_)
  · obtain ⟨d, a, i, j, n, q, rfl, _⟩ := h
    rfl
  · obtain ⟨d, a, i, j, n, q, rfl, hd, ok, hi, hj, hq, k⟩ := h
    obtain ⟨dd, nn, pl, ps, h1, h2, h3, h4⟩ := id hd
    have hN : NowAt A H nn a.now := h3.same (wo_le H d)
    obtain ⟨i, rfl⟩ : ∃ z : Nat, i = (z : Int) := ⟨i.toNat, by omega⟩
    obtain ⟨j, rfl⟩ : ∃ z : Nat, j = (z : Int) := ⟨j.toNat, by omega⟩
    rw [Int.toNat_natCast, Int.toNat_natCast] at k
    have e1 := does_letter a i j n q.toNat
    refine ⟨_, (pss_cons (ps_if (pt_not (PW.pt (pw_and (pt_val (pe_call (ok_has_station T) (hr.mono (by decide)) (by rfl) T.d_has_station.g T.d_has_station.F.kp T.d_has_station.b .nil pass0 (pa_cons (pe_fld (pv 0) rfl) (pa_cons (pv 1) pa_nil)))) (pw_and1 (pt_val (pe_call (ok_has_station T) (hr.mono (by decide)) (by rfl) T.d_has_station.g T.d_has_station.F.kp T.d_has_station.b .nil pass0 (pa_cons (pe_fld (pv 0) rfl) (pa_cons (pv 2) pa_nil)))))))) (pss_one (ps_ret (pe_lst (pa_cons (pe_glob (v := .int (-2)) rfl T.k_NO_SUCH ⟨_, rfl⟩) pa_nil)))) pss_nil)
 (pss_cons (ps_if (PW.pt (pw_or (pt_cmpR op_eq (pv 1) (pv 2) (nomark _)) (pw_or1 (pt_not (pt_val (pe_call (ok_is_clock_number T) (hr.mono (by decide)) (by rfl) T.d_is_clock_number.g T.d_is_clock_number.F.kp T.d_is_clock_number.b .nil pass0 (pa_cons (pv 3) (pa_cons (pv 4) pa_nil)))))))) (pss_one (ps_ret (pe_lst (pa_cons (pe_glob (v := .int (-22)) rfl T.k_OUT_OF_RANGE ⟨_, rfl⟩) pa_nil)))) pss_nil)
 (pss_cons (ps_if (pt_cmpR op_ge (pe_callB call_len_seq (by rfl) T.b_len (by decide +kernel) (pa_cons (pe_fld (pe_fld (pv 0) rfl) rfl) pa_nil)) (pe_glob (v := .int (6)) rfl T.k_MOST_LETTERS ⟨_, rfl⟩) (nomark _)) (pss_one (ps_ret (pe_lst (pa_cons (pe_glob (v := .int (-28)) rfl T.k_TOO_MANY ⟨_, rfl⟩) pa_nil)))) pss_nil)
 (pss_cons (ps_set (i := 5) sc_letter.nd rfl (Or.inl rfl) (pe_call (ok_start_change T) (hr.mono (by decide)) (by rfl) T.d_start_change.g T.d_start_change.F.kp T.d_start_change.b .nil pass0 (pa_cons (pv 0) pa_nil)))
 (pss_cons (ps_set (i := 6) sc_letter.nd rfl (Or.inl rfl) (pe_call (ok_fraction T) (hr.mono (by decide)) (by rfl) T.d_fraction.g T.d_fraction.F.kp T.d_fraction.b .nil pass0 (pa_cons (pv 3) (pa_cons (pv 4) pa_nil))))
 (pss_cons (ps_set (i := 7) sc_letter.nd rfl (Or.inl rfl) (pe_call (ok_hears T) (hr.mono (by decide)) (by rfl) T.d_hears.g T.d_hears.F.kp T.d_hears.b .nil pass0 (pa_cons (pe_ix ix_list (pe_fld (pv 5) rfl) (pv 2) (fun _ _ => rfl)) (pa_cons (pe_call (ok_point_at T) (hr.mono (by decide)) (by rfl) T.d_point_at.g T.d_point_at.F.kp T.d_point_at.b .nil pass0 (pa_cons (pe_ix ix_list (pe_fld (pv 5) rfl) (pv 1) (fun _ _ => rfl)) (pa_cons (pv 6) pa_nil))) pa_nil))))
 (pss_cons (ps_expr (pe_bm PySem.F.plainAttrs_list PySem.F.slot_list_append PySem.F.type_list_append mt_append (pe_fld (pv 5) rfl) (pa_cons (pe_make T.cLetter.M (oki_Letter T) (hr.mono (by decide)) (by rfl) T.cLetter.g T.cLetter.b .nil pass0 (pa_cons (pv 1) (pa_cons (pv 2) (pa_cons (pv 6) (pa_cons (pv 7) pa_nil))))) pa_nil)))
 (pss_one (ps_ret (pe_lst (pa_cons (pe_op op_sub (pe_callB call_len_seq (by rfl) T.b_len (by decide +kernel) (pa_cons (pe_fld (pv 5) rfl) pa_nil)) pe_int) pa_nil))))))))))), ?_⟩
    refine ⟨_, rfl, d, _, dd, _, _, rfl, h1, T.cDesk.cl, T.cDesk.na _ (.head _), fs_Desk_state _ _, _, rfl, nn, a.now, _, rfl, hN, hi, _, rfl, ?_⟩
    rw [Int.toNat_natCast]
    by_cases c1 : i < a.now.st.length
    case neg =>
      rw [decide_eq_false c1]
      rw [if_pos (.inl (noS_not c1))] at e1
      refine iteF (iteT ⟨by show 1 ≤ sizeLine; decide, fun p hp => ?_⟩)
      exact k.say hd e1 (Same.refl H) hp
    rw [decide_eq_true c1]
    refine iteT ⟨_, rfl, d, _, dd, _, _, rfl, h1, T.cDesk.cl, T.cDesk.na _ (.head _), fs_Desk_state _ _, _, rfl, nn, a.now, _, rfl, hN, hj, _, rfl, ?_⟩
    rw [Int.toNat_natCast]
    by_cases c1j : j < a.now.st.length
    case neg =>
      rw [decide_eq_false c1j]
      rw [if_pos (.inr (noS_not c1j))] at e1
      refine iteT ⟨by show 1 ≤ sizeLine; decide, fun p hp => ?_⟩
      exact k.say hd e1 (Same.refl H) hp
    rw [decide_eq_true c1j]
    rw [noS_of c1, noS_of c1j, if_neg (by simp)] at e1
    refine iteF ⟨_, rfl, _, rfl, rfl, _, rfl, ?_⟩
    rw [dec_nat]
    by_cases cij : i = j
    · rw [beq_iff_eq.mpr cij]
      rw [if_pos (.inl cij)] at e1
      refine iteT (iteT ⟨by show 1 ≤ sizeLine; decide, fun p hp => ?_⟩)
      exact k.say hd e1 (Same.refl H) hp
    rw [beq_eq_false_iff_ne.mpr cij]
    refine iteF ⟨_, rfl, _, rfl, n, q, rfl, _, rfl, ?_⟩
    cases c2 : Kv415.okT n q.toNat with
    | false =>
      rw [c2, if_pos (.inr rfl)] at e1
      refine iteT ⟨by show 1 ≤ sizeLine; decide, fun p hp => ?_⟩
      exact k.say hd e1 (Same.refl H) hp
    | true =>
    rw [c2, if_neg (by simp [cij])] at e1
    obtain ⟨dx, ls, lf, ll, ss0, fs0, ms0, hR⟩ := id hN
    refine iteF ⟨_, rfl, d, _, dd, _, _, rfl, h1, T.cDesk.cl, T.cDesk.na _ (.head _), fs_Desk_state _ _, nn, _, dx, _, _, rfl, hR.o, T.cState.cl, T.cState.na _ (.tail _ (.tail _ (.head _))), fs_State_letters _ _ _ _ _, ll, _, rfl, .inl (SqL.of hR.l), _, _, rfl, rfl, _, rfl, ?_⟩
    rw [List.length_map, pr_len hR.lp]
    by_cases c3 : 6 ≤ a.now.letters.length
    · rw [if_pos c3] at e1
      have dc : decide ((6 : Int) ≤ ((a.now.letters.length : Nat) : Int)) = true := decide_eq_true (by omega)
      rw [dc]
      refine iteT ⟨by show 1 ≤ sizeLine; decide, fun p hp => ?_⟩
      exact k.say hd e1 (Same.refl H) hp
    rw [if_neg c3] at e1
    have dc : decide ((6 : Int) ≤ ((a.now.letters.length : Nat) : Int)) = false := decide_eq_false (by omega)
    rw [dc]
    refine iteF ?_
    refine ⟨_, rfl, d, a, rfl, hd, ok.len, fun H1 x d1 dy c1' c2' c3' l ss fs ms ps D => ?_⟩
    obtain ⟨x1, x2, x3, xd, y1, y2, y3⟩ := D.ne
    obtain ⟨z1, z2, z3⟩ := D.lens
    have okt := Ma.t_ok c2
    obtain ⟨hq0, hb1, hb2⟩ := okT_pos c2
    refine ⟨_, rfl, _, rfl, n, q, rfl, hq0, hb1, hb2, fun pw H2 s2 hw => ?_⟩
    have w12 : Same (wo H1 d) H2 := (wo_le H1 d).trans s2
    have hR2 := D.nw.same w12
    obtain ⟨si, hsi, hsti⟩ := hR2.station c1
    obtain ⟨sj, hsj, hstj⟩ := hR2.station c1j
    -- arrives = hears(state.stations[j], point_at(state.stations[i], sent))
    refine ⟨_, rfl, x, _, dy, _, _, rfl, hR2.o, T.cState.cl, T.cState.na _ (.head _), fs_State_stations _ _ _ _ _, _, rfl, c1', _, _, _, rfl, rfl, SqL.of hR2.s, atI_nat (j := j) hsj,
      _, rfl, x, _, dy, _, _, rfl, hR2.o, T.cState.cl, T.cState.na _ (.head _), fs_State_stations _ _ _ _ _, _, rfl, c1', _, _, _, rfl, rfl, SqL.of hR2.s, atI_nat (j := i) hsi, _, rfl, ?_⟩
    refine ⟨si, pw, _, _, rfl, hsti, ok.now.ok c1, hw, okt, fun pp H3 s3 hpp => ?_⟩
    refine ⟨sj, pp, _, _, rfl, hstj.same s3, ok.now.ok c1j, hpp, Ma.at_ok (ok.now.ok c1) okt, fun pr H3' s3' hpr => ?_⟩
    have s23 := s3.trans s3'
    have hR3 := hR2.same s23
    -- state.letters.append(Letter(i, j, sent, arrives))
    refine ⟨_, rfl, x, _, dy, _, _, rfl, hR3.o, T.cState.cl, T.cState.na _ (.tail _ (.tail _ (.head _))), fs_State_letters _ _ _ _ _, .inl ⟨rfl, _, SqL.of hR3.l⟩, ?_⟩
    refine ⟨_, rfl, _, rfl, _, rfl, _, rfl, ?_⟩
    intro xf df nxf ndf nef
    refine ⟨xf, df, _, _, _, _, rfl, upd_same, rfl, ?_⟩
    rw [upd_upd]
    have s4 : Same H3' (upd (upd H3' df (.own xf)) xf (.ins A.C_Letter df (fs_Letter (.int (i : Int)) (.int (j : Int)) (.ref pw) (.ref pr)))) := same_made nxf ndf
    have hxf : upd (upd H3' df (.own xf)) xf (.ins A.C_Letter df (fs_Letter (.int (i : Int)) (.int (j : Int)) (.ref pw) (.ref pr))) xf = some (.ins A.C_Letter df (fs_Letter (.int (i : Int)) (.int (j : Int)) (.ref pw) (.ref pr))) := upd_same
    generalize upd (upd H3' df (.own xf)) xf (.ins A.C_Letter df (fs_Letter (.int (i : Int)) (.int (j : Int)) (.ref pw) (.ref pr))) = H4 at s4 hxf ⊢
    have s24 := s23.trans s4
    have s14 := s2.trans s24
    have hR4 := hR2.same s24
    refine ⟨c3', _, _, rfl, rfl, hR4.l, by rw [List.length_map, z3]; exact Nat.lt_of_le_of_lt (m := 6) (by omega) (by decide), ?_⟩
    rw [refs_snoc]
    refine ⟨_, rfl, x, _, dy, _, _, rfl, (by rw [upd_ne x3]; exact hR4.o), T.cState.cl, T.cState.na _ (.tail _ (.tail _ (.head _))), fs_State_letters _ _ _ _ _, c3', _, rfl, .inl (SqL.of upd_same), _, _, rfl, rfl, by show 1 ≤ sizeLine; decide, fun p hp => ?_⟩
    have kp : ∀ b o, b ≠ c3' → H4 b = some o → upd (upd H4 c3' (.lst (refs (ms ++ [xf])))) p (.lst [.int ((((refs (ms ++ [xf])).length : Nat) : Int) - 1)]) b = some o := fun b o nb h => by
      have h' : upd H4 c3' (.lst (refs (ms ++ [xf]))) b = some o := by rw [upd_ne nb]; exact h
      exact upd_at h' hp
    have hp5 : upd (upd H4 c3' (.lst (refs (ms ++ [xf])))) p (.lst [.int ((((refs (ms ++ [xf])).length : Nat) : Int) - 1)]) p = some (.lst [.int ((((refs (ms ++ [xf])).length : Nat) : Int) - 1)]) := upd_same
    have hc5 : upd (upd H4 c3' (.lst (refs (ms ++ [xf])))) p (.lst [.int ((((refs (ms ++ [xf])).length : Nat) : Int) - 1)]) c3' = some (.lst (refs (ms ++ [xf]))) := upd_at upd_same hp
    generalize upd (upd H4 c3' (.lst (refs (ms ++ [xf])))) p (.lst [.int ((((refs (ms ++ [xf])).length : Nat) : Int) - 1)]) = H5 at kp hp5 hc5 ⊢
    have kD : ∀ b o, H1 b = some o → b ≠ x → b ≠ c1' → b ≠ c2' → b ≠ c3' → H5 b = some o := fun b o h _ _ _ n3 => kp b o n3 (s14 _ _ h)
    have sD := D.keep kD
    have hd4 := s14 _ _ D.dk
    have isf : ∀ {b : Addr} {o : HO}, H4 b = some o → (∀ f, o ≠ .lst f) → NotDesk o → wo H5 d b = some o := fun {b o} h n1 n2 =>
      wo_of (kp b o (ne_of h hR4.l (n1 _)) h) (fun z => by rw [z, hd4] at h; exact n2 _ _ _ _ (Option.some.inj h).symm)
    refine (k.of e1) H5 p sD (D.done kD ⟨dy, c1', c2', c3', ss, fs, ms ++ [xf], ⟨wo_of (kp _ _ x3 hR4.o) xd, wo_of (kp _ _ D.e13 hR4.s) y1, wo_of (kp _ _ D.e23 hR4.f) y2, wo_of hc5 y3, pr_map D.sp0 fun _ _ _ h => h.same sD, pr_map D.fp0 fun _ _ _ h => h.same sD, pr_snoc ?_ (pr_map D.lp0 fun _ _ _ h => h.same sD)⟩⟩) ?_
    · exact ⟨df, pw, pr, isf hxf (by intro f z; cases z) nd_Letter, isf (s24 _ _ hw) (by intro f z; cases z) nd_tup, isf (s4 _ _ hpr) (by intro f z; cases z) nd_tup⟩
    · rw [hp5]
      show some (HO.lst [V.int ((((refs (ms ++ [xf])).length : Nat) : Int) - 1)]) = some (HO.lst [V.int ((a.now.letters.length : Nat) : Int)])
      congr 4
      rw [List.length_map, List.length_append, List.length_singleton, z3]
      omega
end
end Py
namespace Py
open PySem PySem.Spec PyProof.Rows L2
open Kv414 (Q gcd' Factor)
open Kv415 (Station Point)
open Kv417 (Fact Letter Now Abs)
theorem refs_pop (l : List Addr) : (refs l).dropLast = refs l.dropLast := by
  unfold refs
  rw [List.map_dropLast]
theorem refs_last {l : List Addr} (h : 0 < l.length) : ∃ y, (refs l)[(refs l).length - 1]? = some y := ⟨_, List.getElem?_eq_getElem (by rw [List.length_map]; omega)⟩
section
variable {P : Program} {w : World} {K : PySem.W.Frag} {mg : Str → Option Value} {base : Heap} {A : Ad}
def sp_0 (A : Ad) (c : Kv417.Call) : Sp := fun vs H R _ => ∃ (d : Addr) (a : Abs), vs = [.ref d] ∧ DeskAt A H d (some a) ∧ OkA a ∧ RetC A H d a c R
theorem does_unfact (a : Abs) : a.does .unfact = if a.now.facts.isEmpty then (a, Kv417.say (-6)) else a.to_ { a.now with facts := a.now.facts.dropLast } (Kv417.num (a.now.facts.length - 1)) := rfl
theorem does_unletter (a : Abs) : a.does .unletter = if a.now.letters.isEmpty then (a, Kv417.say (-6)) else a.to_ { a.now with letters := a.now.letters.dropLast } (Kv417.num (a.now.letters.length - 1)) := rfl
theorem ok_unfact (T : Txt K mg A) : FnOk P w K mg base CX0 5 A.f_unfact A.fd_unfact ["desk"] (sp_0 A .unfact) := by
  refine T.d_unfact.F.ok sc_unfact (fun vs H Q E h => ?_) (fun cdv _ outer s H vs R E hr h => ?_)
  · obtain ⟨d, a, rfl, _⟩ := h
    rfl
  · obtain ⟨d, a, rfl, hd, ok, k⟩ := h
    obtain ⟨dd, nn, pl, ps, h1, h2, h3, h4⟩ := id hd
    have hN : NowAt A H nn a.now := h3.same (wo_le H d)
    obtain ⟨dx, ls, lf, ll, ss0, fs0, ms0, hR⟩ := id hN
    have e1 := does_unfact a
    refine ⟨_, (pss_cons (ps_if (pt_cmpR op_eq (pe_callB call_len_seq (by rfl) T.b_len (by decide +kernel) (pa_cons (pe_fld (pe_fld (pv 0) rfl) rfl) pa_nil)) pe_int (nomark _)) (pss_one (ps_ret (pe_lst (pa_cons (pe_glob (v := .int (-6)) rfl T.k_NONE_LEFT ⟨_, rfl⟩) pa_nil)))) pss_nil)
 (pss_cons (ps_set (i := 1) sc_unfact.nd rfl (Or.inl rfl) (pe_call (ok_start_change T) (hr.mono (by decide)) (by rfl) T.d_start_change.g T.d_start_change.F.kp T.d_start_change.b .nil pass0 (pa_cons (pv 0) pa_nil)))
 (pss_cons (ps_expr (pe_bm0 PySem.F.plainAttrs_list PySem.F.slot_list_pop PySem.F.type_list_pop mt_pop (pe_fld (pv 1) rfl)))
 (pss_one (ps_ret (pe_lst (pa_cons (pe_callB call_len_seq (by rfl) T.b_len (by decide +kernel) (pa_cons (pe_fld (pv 1) rfl) pa_nil)) pa_nil))))))), ?_⟩
    refine ⟨_, rfl, d, _, dd, _, _, rfl, h1, T.cDesk.cl, T.cDesk.na _ (.head _), fs_Desk_state _ _, nn, _, dx, _, _, rfl, hR.o, T.cState.cl, T.cState.na _ (.tail _ (.head _)), fs_State_facts _ _ _ _ _, lf, _, rfl, .inl (SqL.of hR.f), rfl, _, rfl, ?_⟩
    rw [List.length_map, pr_len hR.fp, show (V.int 0) = V.int ((0 : Nat) : Int) from rfl, dec_nat]
    cases c : (a.now.facts.length == 0) with
    | true =>
      have c' : a.now.facts.isEmpty = true := by rw [List.isEmpty_iff_length_eq_zero]; exact beq_iff_eq.mp c
      rw [if_pos c'] at e1
      refine iteT ⟨by show 1 ≤ sizeLine; decide, fun p hp => ?_⟩
      exact k.say hd e1 (Same.refl H) hp
    | false =>
    have c0 : a.now.facts.length ≠ 0 := beq_eq_false_iff_ne.mp c
    have c' : ¬ a.now.facts.isEmpty = true := by rw [List.isEmpty_iff_length_eq_zero]; exact c0
    rw [if_neg c'] at e1
    refine iteF ?_
    refine ⟨_, rfl, d, a, rfl, hd, ok.len, fun H1 x d1 dy c1' c2' c3' l ss fs ms ps D => ?_⟩
    obtain ⟨x1, x2, x3, xd, y1, y2, y3⟩ := D.ne
    obtain ⟨z1, z2, z3⟩ := D.lens
    have hR1 := D.nw.same (wo_le H1 d)
    obtain ⟨y, hy⟩ := refs_last (l := fs) (by omega)
    refine ⟨_, rfl, x, _, dy, _, _, rfl, hR1.o, T.cState.cl, T.cState.na _ (.tail _ (.head _)), fs_State_facts _ _ _ _ _, .inl ⟨rfl, _, SqL.of hR1.f⟩, c2', _, y, rfl, rfl, hR1.f, hy, ?_⟩
    rw [refs_pop]
    refine ⟨_, rfl, x, _, dy, _, _, rfl, (by rw [upd_ne x2]; exact hR1.o), T.cState.cl, T.cState.na _ (.tail _ (.head _)), fs_State_facts _ _ _ _ _, c2', _, rfl, .inl (SqL.of upd_same), by show 1 ≤ sizeLine; decide, fun p hp => ?_⟩
    have kp : ∀ b o, b ≠ c2' → H1 b = some o → upd (upd H1 c2' (.lst (refs fs.dropLast))) p (.lst [.int (((refs fs.dropLast).length : Nat) : Int)]) b = some o := fun b o nb h => by
      have h' : upd H1 c2' (.lst (refs fs.dropLast)) b = some o := by rw [upd_ne nb]; exact h
      exact upd_at h' hp
    have hp5 : upd (upd H1 c2' (.lst (refs fs.dropLast))) p (.lst [.int (((refs fs.dropLast).length : Nat) : Int)]) p = some (.lst [.int (((refs fs.dropLast).length : Nat) : Int)]) := upd_same
    have hc5 : upd (upd H1 c2' (.lst (refs fs.dropLast))) p (.lst [.int (((refs fs.dropLast).length : Nat) : Int)]) c2' = some (.lst (refs fs.dropLast)) := upd_at upd_same hp
    generalize upd (upd H1 c2' (.lst (refs fs.dropLast))) p (.lst [.int (((refs fs.dropLast).length : Nat) : Int)]) = H5 at kp hp5 hc5 ⊢
    have kD : ∀ b o, H1 b = some o → b ≠ x → b ≠ c1' → b ≠ c2' → b ≠ c3' → H5 b = some o := fun b o h _ _ n2 _ => kp b o n2 h
    have sD := D.keep kD
    refine (k.of e1) H5 p sD (D.done kD ⟨dy, c1', c2', c3', ss, fs.dropLast, ms, ⟨wo_of (kp _ _ x2 hR1.o) xd, wo_of (kp _ _ D.e12 hR1.s) y1, wo_of hc5 y2, wo_of (kp _ _ D.e23.symm hR1.l) y3, pr_map D.sp0 fun _ _ _ h => h.same sD, pr_pop (pr_map D.fp0 fun _ _ _ h => h.same sD), pr_map D.lp0 fun _ _ _ h => h.same sD⟩⟩) ?_
    rw [hp5]
    show some (HO.lst [V.int (((refs fs.dropLast).length : Nat) : Int)]) = some (HO.lst [V.int ((a.now.facts.length - 1 : Nat) : Int)])
    rw [List.length_map, List.length_dropLast, z2]
theorem ok_unletter (T : Txt K mg A) : FnOk P w K mg base CX0 5 A.f_unletter A.fd_unletter ["desk"] (sp_0 A .unletter) := by
  refine T.d_unletter.F.ok sc_unletter (fun vs H Q E h => ?_) (fun cdv _ outer s H vs R E hr h => ?_)
  · obtain ⟨d, a, rfl, _⟩ := h
    rfl
  · obtain ⟨d, a, rfl, hd, ok, k⟩ := h
    obtain ⟨dd, nn, pl, ps, h1, h2, h3, h4⟩ := id hd
    have hN : NowAt A H nn a.now := h3.same (wo_le H d)
    obtain ⟨dx, ls, lf, ll, ss0, fs0, ms0, hR⟩ := id hN
    have e1 := does_unletter a
    refine ⟨_, (pss_cons (ps_if (pt_cmpR op_eq (pe_callB call_len_seq (by rfl) T.b_len (by decide +kernel) (pa_cons (pe_fld (pe_fld (pv 0) rfl) rfl) pa_nil)) pe_int (nomark _)) (pss_one (ps_ret (pe_lst (pa_cons (pe_glob (v := .int (-6)) rfl T.k_NONE_LEFT ⟨_, rfl⟩) pa_nil)))) pss_nil)
 (pss_cons (ps_set (i := 1) sc_unletter.nd rfl (Or.inl rfl) (pe_call (ok_start_change T) (hr.mono (by decide)) (by rfl) T.d_start_change.g T.d_start_change.F.kp T.d_start_change.b .nil pass0 (pa_cons (pv 0) pa_nil)))
 (pss_cons (ps_expr (pe_bm0 PySem.F.plainAttrs_list PySem.F.slot_list_pop PySem.F.type_list_pop mt_pop (pe_fld (pv 1) rfl)))
 (pss_one (ps_ret (pe_lst (pa_cons (pe_callB call_len_seq (by rfl) T.b_len (by decide +kernel) (pa_cons (pe_fld (pv 1) rfl) pa_nil)) pa_nil))))))), ?_⟩
    refine ⟨_, rfl, d, _, dd, _, _, rfl, h1, T.cDesk.cl, T.cDesk.na _ (.head _), fs_Desk_state _ _, nn, _, dx, _, _, rfl, hR.o, T.cState.cl, T.cState.na _ (.tail _ (.tail _ (.head _))), fs_State_letters _ _ _ _ _, ll, _, rfl, .inl (SqL.of hR.l), rfl, _, rfl, ?_⟩
    rw [List.length_map, pr_len hR.lp, show (V.int 0) = V.int ((0 : Nat) : Int) from rfl, dec_nat]
    cases c : (a.now.letters.length == 0) with
    | true =>
      have c' : a.now.letters.isEmpty = true := by rw [List.isEmpty_iff_length_eq_zero]; exact beq_iff_eq.mp c
      rw [if_pos c'] at e1
      refine iteT ⟨by show 1 ≤ sizeLine; decide, fun p hp => ?_⟩
      exact k.say hd e1 (Same.refl H) hp
    | false =>
    have c0 : a.now.letters.length ≠ 0 := beq_eq_false_iff_ne.mp c
    have c' : ¬ a.now.letters.isEmpty = true := by rw [List.isEmpty_iff_length_eq_zero]; exact c0
    rw [if_neg c'] at e1
    refine iteF ?_
    refine ⟨_, rfl, d, a, rfl, hd, ok.len, fun H1 x d1 dy c1' c2' c3' l ss fs ms ps D => ?_⟩
    obtain ⟨x1, x2, x3, xd, y1, y2, y3⟩ := D.ne
    obtain ⟨z1, z2, z3⟩ := D.lens
    have hR1 := D.nw.same (wo_le H1 d)
    obtain ⟨y, hy⟩ := refs_last (l := ms) (by omega)
    refine ⟨_, rfl, x, _, dy, _, _, rfl, hR1.o, T.cState.cl, T.cState.na _ (.tail _ (.tail _ (.head _))), fs_State_letters _ _ _ _ _, .inl ⟨rfl, _, SqL.of hR1.l⟩, c3', _, y, rfl, rfl, hR1.l, hy, ?_⟩
    rw [refs_pop]
    refine ⟨_, rfl, x, _, dy, _, _, rfl, (by rw [upd_ne x3]; exact hR1.o), T.cState.cl, T.cState.na _ (.tail _ (.tail _ (.head _))), fs_State_letters _ _ _ _ _, c3', _, rfl, .inl (SqL.of upd_same), by show 1 ≤ sizeLine; decide, fun p hp => ?_⟩
    have kp : ∀ b o, b ≠ c3' → H1 b = some o → upd (upd H1 c3' (.lst (refs ms.dropLast))) p (.lst [.int (((refs ms.dropLast).length : Nat) : Int)]) b = some o := fun b o nb h => by
      have h' : upd H1 c3' (.lst (refs ms.dropLast)) b = some o := by rw [upd_ne nb]; exact h
      exact upd_at h' hp
    have hp5 : upd (upd H1 c3' (.lst (refs ms.dropLast))) p (.lst [.int (((refs ms.dropLast).length : Nat) : Int)]) p = some (.lst [.int (((refs ms.dropLast).length : Nat) : Int)]) := upd_same
    have hc5 : upd (upd H1 c3' (.lst (refs ms.dropLast))) p (.lst [.int (((refs ms.dropLast).length : Nat) : Int)]) c3' = some (.lst (refs ms.dropLast)) := upd_at upd_same hp
    generalize upd (upd H1 c3' (.lst (refs ms.dropLast))) p (.lst [.int (((refs ms.dropLast).length : Nat) : Int)]) = H5 at kp hp5 hc5 ⊢
    have kD : ∀ b o, H1 b = some o → b ≠ x → b ≠ c1' → b ≠ c2' → b ≠ c3' → H5 b = some o := fun b o h _ _ _ n3 => kp b o n3 h
    have sD := D.keep kD
    refine (k.of e1) H5 p sD (D.done kD ⟨dy, c1', c2', c3', ss, fs, ms.dropLast, ⟨wo_of (kp _ _ x3 hR1.o) xd, wo_of (kp _ _ D.e13 hR1.s) y1, wo_of (kp _ _ D.e23 hR1.f) y2, wo_of hc5 y3, pr_map D.sp0 fun _ _ _ h => h.same sD, pr_map D.fp0 fun _ _ _ h => h.same sD, pr_pop (pr_map D.lp0 fun _ _ _ h => h.same sD)⟩⟩) ?_
    rw [hp5]
    show some (HO.lst [V.int (((refs ms.dropLast).length : Nat) : Int)]) = some (HO.lst [V.int ((a.now.letters.length - 1 : Nat) : Int)])
    rw [List.length_map, List.length_dropLast, z3]
def sp_claim (A : Ad) : Sp := fun vs H R _ => ∃ (d : Addr) (a : Abs) (i f n q : Int), vs = [.ref d, .int i, .int f, .int n, .int q] ∧ DeskAt A H d (some a) ∧ OkA a ∧ 0 ≤ i ∧ 0 ≤ f ∧ 0 ≤ q ∧ RetC A H d a (.claim i.toNat f.toNat n q.toNat) R
theorem does_claim (a : Abs) (i f : Nat) (n : Int) (d : Nat) : a.does (.claim i f n d) = if a.now.noS i ∨ a.now.noF f then (a, Kv417.say (-2)) else if Kv415.okT n d = false then (a, Kv417.say (-22)) else
    a.to_ { a.now with held := a.now.held + 1, false_ := a.now.false_ + Kv417.bit (a.now.judge i f (Kv415.t_ n d) == 0) } (Kv417.num (a.now.judge i f (Kv415.t_ n d))) := rfl
theorem ok_claim (T : Txt K mg A) : FnOk P w K mg base CX0 9 A.f_claim A.fd_claim ["desk", "i", "f", "n", "d"] (sp_claim A) := by
  refine T.d_claim.F.ok sc_claim (fun vs H Q E h => ?_) (fun cdv _ outer s H vs R E hr h => ?_)
  · obtain ⟨d, a, i, j, n, q, rfl, _⟩ := h
    rfl
  · obtain ⟨d, a, i, f, n, q, rfl, hd, ok, hi, hf, hq, k⟩ := h
    obtain ⟨dd, nn, pl, ps, h1, h2, h3, h4⟩ := id hd
    have hN : NowAt A H nn a.now := h3.same (wo_le H d)
    obtain ⟨i, rfl⟩ : ∃ z : Nat, i = (z : Int) := ⟨i.toNat, by omega⟩
    obtain ⟨f, rfl⟩ : ∃ z : Nat, f = (z : Int) := ⟨f.toNat, by omega⟩
    rw [Int.toNat_natCast, Int.toNat_natCast] at k
    have e1 := does_claim a i f n q.toNat
    refine ⟨_, (pss_cons (ps_if (pt_not (PW.pt (pw_and (pt_val (pe_call (ok_has_station T) (hr.mono (by decide)) (by rfl) T.d_has_station.g T.d_has_station.F.kp T.d_has_station.b .nil pass0 (pa_cons (pe_fld (pv 0) rfl) (pa_cons (pv 1) pa_nil)))) (pw_and1 (pt_val (pe_call (ok_has_fact T) (hr.mono (by decide)) (by rfl) T.d_has_fact.g T.d_has_fact.F.kp T.d_has_fact.b .nil pass0 (pa_cons (pe_fld (pv 0) rfl) (pa_cons (pv 2) pa_nil)))))))) (pss_one (ps_ret (pe_lst (pa_cons (pe_glob (v := .int (-2)) rfl T.k_NO_SUCH ⟨_, rfl⟩) pa_nil)))) pss_nil)
 (pss_cons (ps_if (pt_not (pt_val (pe_call (ok_is_clock_number T) (hr.mono (by decide)) (by rfl) T.d_is_clock_number.g T.d_is_clock_number.F.kp T.d_is_clock_number.b .nil pass0 (pa_cons (pv 3) (pa_cons (pv 4) pa_nil))))) (pss_one (ps_ret (pe_lst (pa_cons (pe_glob (v := .int (-22)) rfl T.k_OUT_OF_RANGE ⟨_, rfl⟩) pa_nil)))) pss_nil)
 (pss_cons (ps_set (i := 5) sc_claim.nd rfl (Or.inl rfl) (pe_call (ok_start_change T) (hr.mono (by decide)) (by rfl) T.d_start_change.g T.d_start_change.F.kp T.d_start_change.b .nil pass0 (pa_cons (pv 0) pa_nil)))
 (pss_cons (ps_set (i := 6) sc_claim.nd rfl (Or.inl rfl) (pe_call (ok_judge T) (hr.mono (by decide)) (by rfl) T.d_judge.g T.d_judge.F.kp T.d_judge.b .nil pass0 (pa_cons (pv 5) (pa_cons (pv 1) (pa_cons (pv 2) (pa_cons (pe_call (ok_fraction T) (hr.mono (by decide)) (by rfl) T.d_fraction.g T.d_fraction.F.kp T.d_fraction.b .nil pass0 (pa_cons (pv 3) (pa_cons (pv 4) pa_nil))) pa_nil))))))
 (pss_cons (ps_fldaug (pv 5) pe_int in_add)
 (pss_cons (ps_if (pt_cmpR op_eq (pv 6) (pe_glob (v := .int (0)) rfl T.k_IMPOSSIBLE ⟨_, rfl⟩) (nomark _)) (pss_one (ps_fldaug (pv 5) pe_int in_add)) pss_nil)
 (pss_one (ps_ret (pe_lst (pa_cons (pv 6) pa_nil)))))))))), ?_⟩
    refine ⟨_, rfl, d, _, dd, _, _, rfl, h1, T.cDesk.cl, T.cDesk.na _ (.head _), fs_Desk_state _ _, _, rfl, nn, a.now, _, rfl, hN, hi, _, rfl, ?_⟩
    rw [Int.toNat_natCast]
    by_cases c1 : i < a.now.st.length
    case neg =>
      rw [decide_eq_false c1]
      rw [if_pos (.inl (noS_not c1))] at e1
      refine iteF (iteT ⟨by show 1 ≤ sizeLine; decide, fun p hp => ?_⟩)
      exact k.say hd e1 (Same.refl H) hp
    rw [decide_eq_true c1]
    refine iteT ⟨_, rfl, d, _, dd, _, _, rfl, h1, T.cDesk.cl, T.cDesk.na _ (.head _), fs_Desk_state _ _, _, rfl, nn, a.now, _, rfl, hN, hf, _, rfl, ?_⟩
    rw [Int.toNat_natCast]
    by_cases c1j : f < a.now.facts.length
    case neg =>
      rw [decide_eq_false c1j]
      rw [if_pos (.inr (noF_not c1j))] at e1
      refine iteT ⟨by show 1 ≤ sizeLine; decide, fun p hp => ?_⟩
      exact k.say hd e1 (Same.refl H) hp
    rw [decide_eq_true c1j]
    rw [noS_of c1, noF_of c1j, if_neg (by simp)] at e1
    refine iteF ⟨_, rfl, _, rfl, n, q, rfl, _, rfl, ?_⟩
    cases c2 : Kv415.okT n q.toNat with
    | false =>
      rw [c2, if_pos rfl] at e1
      refine iteT ⟨by show 1 ≤ sizeLine; decide, fun p hp => ?_⟩
      exact k.say hd e1 (Same.refl H) hp
    | true =>
    rw [c2, if_neg (by decide)] at e1
    refine iteF ?_
    refine ⟨_, rfl, d, a, rfl, hd, ok.len, fun H1 x d1 dy c1' c2' c3' l ss fs ms ps D => ?_⟩
    obtain ⟨x1, x2, x3, xd, y1, y2, y3⟩ := D.ne
    have okt := Ma.t_ok c2
    obtain ⟨hq0, hb1, hb2⟩ := okT_pos c2
    refine ⟨_, rfl, _, rfl, _, rfl, _, rfl, _, rfl, n, q, rfl, hq0, hb1, hb2, fun pw H2 s2 hw => ?_⟩
    have hR2 := D.nw.same ((wo_le H1 d).trans s2)
    refine ⟨x, pw, a.now, i, f, _, rfl, ⟨_, _, _, _, _, _, _, hR2⟩, ok.now, c1, c1j, hw, sm_c okt, fun H3 s3 => ?_⟩
    have hR3 := hR2.same s3
    have s13 := s2.trans s3
    generalize hv : a.now.judge i f (Kv415.t_ n q.toNat) = v at e1 ⊢
    have hv' : a.now.judge i f (Kv414.Q.red ⟨n, q.toNat⟩) = v := hv
    rw [hv']
    -- state.claims += 1
    refine ⟨_, rfl, x, _, dy, _, _, rfl, hR3.o, T.cState.cl, T.cState.na _ (.tail _ (.tail _ (.tail _ (.head _)))), fs_State_claims _ _ _ _ _, _, _, rfl, rfl, dy, _, hR3.o, (by show 5 < 1000; decide), ?_⟩
    rw [pf_State_claims]
    -- if verdict == IMPOSSIBLE: state.impossible += 1
    refine ⟨_, rfl, rfl, _, rfl, ?_⟩
    rw [show (V.int 0) = V.int ((0 : Nat) : Int) from rfl, dec_nat]
    have fin : ∀ (H5 : Hp) (m : Nat), (∀ b o, b ≠ x → H3 b = some o → H5 b = some o) → H5 x = some (.ins A.C_State dy (fs_State (.ref c1') (.ref c2') (.ref c3') (.int ((a.now.held : Nat) + 1 : Int)) (.int ((m : Nat) : Int)))) →
        m = a.now.false_ + Kv417.bit (v == 0) → ∀ p, H5 p = none → R (.ref p) (upd H5 p (.lst [.int (v : Nat)])) := fun H5 m k5 h5 em p hp => by
      have kp : ∀ b o, b ≠ x → H3 b = some o → upd H5 p (.lst [.int ((v : Nat) : Int)]) b = some o := fun b o nb h => upd_at (k5 b o nb h) hp
      have kD : ∀ b o, H1 b = some o → b ≠ x → b ≠ c1' → b ≠ c2' → b ≠ c3' → upd H5 p (.lst [.int ((v : Nat) : Int)]) b = some o := fun b o h nx _ _ _ => kp b o nx (s13 _ _ h)
      have sD := D.keep kD
      subst em
      exact (k.of e1) _ p sD (D.done kD ⟨dy, c1', c2', c3', ss, fs, ms, ⟨wo_of (upd_at h5 hp) xd, wo_of (kp _ _ x1.symm hR3.s) y1, wo_of (kp _ _ x2.symm hR3.f) y2, wo_of (kp _ _ x3.symm hR3.l) y3, pr_map D.sp0 fun _ _ _ h => h.same sD, pr_map D.fp0 fun _ _ _ h => h.same sD, pr_map D.lp0 fun _ _ _ h => h.same sD⟩⟩) upd_same
    cases cv : (v == 0) with
    | true =>
      refine iteT ⟨_, rfl, x, _, dy, _, _, rfl, upd_same, T.cState.cl, T.cState.na _ (.tail _ (.tail _ (.tail _ (.tail _ (.head _))))), fs_State_impossible _ _ _ _ _, _, _, rfl, rfl, dy, _, upd_same, (by show 5 < 1000; decide), ?_⟩
      rw [pf_State_impossible, upd_upd]
      refine ⟨_, rfl, by show 1 ≤ sizeLine; decide, fun p hp => ?_⟩
      exact fin _ (a.now.false_ + 1) (fun b o nb h => by rw [upd_ne nb]; exact h) upd_same (by rw [cv]; rfl) p hp
    | false =>
      refine iteF ⟨_, rfl, by show 1 ≤ sizeLine; decide, fun p hp => ?_⟩
      exact fin _ a.now.false_ (fun b o nb h => by rw [upd_ne nb]; exact h) upd_same (by rw [cv]; rfl) p hp
def sp_begin (A : Ad) : Sp := fun vs H R _ => ∃ (d : Addr) (s : Kv417.State), vs = [.ref d] ∧ DeskAt A H d s ∧ Ret A H d (some ⟨⟨[], [], [], 0, 0⟩, []⟩) [0] R
theorem desk_any {A : Ad} {H : Hp} {d : Addr} {s : Kv417.State} (h : DeskAt A H d s) : ∃ dx u v, H d = some (.ins A.C_Desk dx (fs_Desk u v)) := by
  cases s with
  | none =>
    obtain ⟨dx, l, h⟩ := h
    exact ⟨_, _, _, h⟩
  | some a =>
    obtain ⟨dx, n, l, ps, h, _⟩ := h
    exact ⟨_, _, _, h⟩
theorem ok_begin (T : Txt K mg A) : FnOk P w K mg base CX0 3 A.f_begin A.fd_begin ["desk"] (sp_begin A) := by
  refine T.d_begin.F.ok sc_begin (fun vs H Q E h => ?_) (fun cdv _ outer s H vs R E hr h => ?_)
  · obtain ⟨d, a, rfl, _⟩ := h
    rfl
  · obtain ⟨d, st, rfl, hd, k⟩ := h
    obtain ⟨dd, u, v, h1⟩ := desk_any hd
    refine ⟨_, (pss_cons (ps_fld (pv 0) (pe_make0 T.cState.M (oki_State T) (hr.mono (by decide)) (by rfl) T.cState.g T.cState.b .nil pass0) rfl)
 (pss_cons (ps_fld (pv 0) (pe_lst pa_nil) rfl)
 (pss_one (ps_ret (pe_lst (pa_cons pe_int pa_nil)))))), ?_⟩
    intro x dx nx nd ne
    refine ⟨x, dx, rfl, upd_same, fun H1 l1 l2 l3 kp hx g1 g2 g3 => ⟨rfl, ?_⟩⟩
    have s1 : Same H H1 := Same.keep nx nd kp
    have xd : x ≠ d := (ne_of_none h1 nx).symm
    refine ⟨_, rfl, d, _, dd, _, rfl, s1 _ _ h1, T.cDesk.cl, T.cDesk.na _ (.head _), (by show 2 < 1000; decide), ?_⟩
    rw [pf_Desk_state]
    refine ⟨Nat.zero_le _, fun l nl => ?_⟩
    have ld : l ≠ d := (ne_of_none upd_same nl).symm
    refine ⟨_, rfl, d, _, dd, _, rfl, upd_at upd_same nl, T.cDesk.cl, T.cDesk.na _ (.tail _ (.head _)), (by show 2 < 1000; decide), ?_⟩
    rw [pf_Desk_past]
    refine ⟨by show 1 ≤ sizeLine; decide, fun p hp => ?_⟩
    have kk : ∀ b o, b ≠ d → H1 b = some o → upd (upd (upd (upd H1 d (.ins A.C_Desk dd (fs_Desk (.ref x) v))) l (.lst [])) d (.ins A.C_Desk dd (fs_Desk (.ref x) (.ref l)))) p (.lst [.int 0]) b = some o := fun b o nb h => by
      refine upd_at ?_ hp
      rw [upd_ne nb]
      refine upd_at ?_ nl
      rw [upd_ne nb]
      exact h
    have hd5 : upd (upd (upd (upd H1 d (.ins A.C_Desk dd (fs_Desk (.ref x) v))) l (.lst [])) d (.ins A.C_Desk dd (fs_Desk (.ref x) (.ref l)))) p (.lst [.int 0]) d = some (.ins A.C_Desk dd (fs_Desk (.ref x) (.ref l))) := upd_at upd_same hp
    have hl5 : upd (upd (upd (upd H1 d (.ins A.C_Desk dd (fs_Desk (.ref x) v))) l (.lst [])) d (.ins A.C_Desk dd (fs_Desk (.ref x) (.ref l)))) p (.lst [.int 0]) l = some (.lst []) := by
      refine upd_at ?_ hp
      rw [upd_ne ld, upd_same]
    have hp5 : upd (upd (upd (upd H1 d (.ins A.C_Desk dd (fs_Desk (.ref x) v))) l (.lst [])) d (.ins A.C_Desk dd (fs_Desk (.ref x) (.ref l)))) p (.lst [.int 0]) p = some (.lst [.int 0]) := upd_same
    generalize upd (upd (upd (upd H1 d (.ins A.C_Desk dd (fs_Desk (.ref x) v))) l (.lst [])) d (.ins A.C_Desk dd (fs_Desk (.ref x) (.ref l)))) p (.lst [.int 0]) = H5 at kk hd5 hl5 hp5 ⊢
    have hd1 := s1 _ _ h1
    have n1 : l1 ≠ d := ne_of g1 hd1 (by intro z; cases z)
    have n2 : l2 ≠ d := ne_of g2 hd1 (by intro z; cases z)
    have n3 : l3 ≠ d := ne_of g3 hd1 (by intro z; cases z)
    refine k H5 p (fun b o h => wo_of (kk b o (wo_ne h) (s1 _ _ (wo_at h))) (wo_ne h)) ⟨dd, x, l, [], hd5, wo_of hl5 ld, ⟨dx, l1, l2, l3, [], [], [], ⟨wo_of (kk _ _ xd hx) xd, wo_of (kk _ _ n1 g1) n1, wo_of (kk _ _ n2 g2) n2, wo_of (kk _ _ n3 g3) n3, .nil, .nil, .nil⟩⟩, .nil⟩ hp5
end
end Py
namespace Py
open PySem PySem.Spec PyProof.Rows L2
open Kv414 (Q gcd' Factor)
open Kv415 (Station Point)
open Kv417 (Fact Letter Now Abs)
section
variable {P : Program} {w : World} {K : PySem.W.Frag} {mg : Str → Option Value} {base : Heap} {A : Ad}
def sp_1 (A : Ad) (c : Nat → Kv417.Call) : Sp := fun vs H R _ => ∃ (d : Addr) (a : Abs) (i : Int), vs = [.ref d, .int i] ∧ DeskAt A H d (some a) ∧ OkA a ∧ 0 ≤ i ∧ RetC A H d a (c i.toNat) R
theorem does_is (a : Abs) (i : Nat) : a.does (.is i) = if a.now.noS i then (a, Kv417.say (-2)) else (a, ⟨0, [(a.now.at_ i).e.t, (a.now.at_ i).e.x, ((a.now.at_ i).k.p : Nat), ((a.now.at_ i).k.q : Nat)]⟩) := rfl
theorem ok_is_station (T : Txt K mg A) : FnOk P w K mg base CX0 2 A.f_is_station A.fd_is_station ["desk", "i"] (sp_1 A .is) := by
  refine T.d_is_station.F.ok sc_is_station (fun vs H Q E h => ?_) (fun cdv _ outer s H vs R E hr h => ?_)
  · obtain ⟨d, a, i, rfl, _⟩ := h
    rfl
  · obtain ⟨d, a, i, rfl, hd, ok, hi, k⟩ := h
    obtain ⟨dd, nn, pl, ps, h1, h2, h3, h4⟩ := id hd
    have hN : NowAt A H nn a.now := h3.same (wo_le H d)
    obtain ⟨i, rfl⟩ : ∃ j : Nat, i = (j : Int) := ⟨i.toNat, by omega⟩
    rw [Int.toNat_natCast] at k
    have e1 := does_is a i
    refine ⟨_, (pss_cons (ps_if (pt_not (pt_val (pe_call (ok_has_station T) (hr.mono (by decide)) (by rfl) T.d_has_station.g T.d_has_station.F.kp T.d_has_station.b .nil pass0 (pa_cons (pe_fld (pv 0) rfl) (pa_cons (pv 1) pa_nil))))) (pss_one (ps_ret (pe_lst (pa_cons (pe_glob (v := .int (-2)) rfl T.k_NO_SUCH ⟨_, rfl⟩) pa_nil)))) pss_nil)
 (pss_cons (ps_set (i := 2) sc_is_station.nd rfl (Or.inl rfl) (pe_ix ix_list (pe_fld (pe_fld (pv 0) rfl) rfl) (pv 1) (fun _ _ => rfl)))
 (pss_one (ps_ret (pe_op op_cat (pe_lst (pa_cons pe_int (pa_cons (pe_fld (pv 2) rfl) (pa_cons (pe_fld (pv 2) rfl) pa_nil)))) (pe_callTy call_list_of (by rfl) T.b_list (by decide +kernel) (pa_cons (pe_fld (pv 2) rfl) pa_nil))))))), ?_⟩
    refine ⟨_, rfl, d, _, dd, _, _, rfl, h1, T.cDesk.cl, T.cDesk.na _ (.head _), fs_Desk_state _ _, _, rfl, nn, a.now, _, rfl, hN, hi, _, rfl, ?_⟩
    rw [Int.toNat_natCast]
    by_cases c1 : i < a.now.st.length
    case neg =>
      rw [decide_eq_false c1]
      rw [if_pos (noS_not c1)] at e1
      refine iteT ⟨by show 1 ≤ sizeLine; decide, fun p hp => ?_⟩
      exact k.say hd e1 (Same.refl H) hp
    rw [decide_eq_true c1]
    rw [noS_of c1, if_neg Bool.false_ne_true] at e1
    obtain ⟨dx, ls, lf, ll, ss, fs, ms, hR⟩ := id hN
    obtain ⟨sp, hsp, ⟨ds, kf, g1, g2⟩⟩ := hR.station c1
    refine iteF ⟨_, rfl, d, _, dd, _, _, rfl, h1, T.cDesk.cl, T.cDesk.na _ (.head _), fs_Desk_state _ _, nn, _, dx, _, _, rfl, hR.o, T.cState.cl, T.cState.na _ (.head _), fs_State_stations _ _ _ _ _, _, rfl, ls, _, _, _, rfl, rfl, SqL.of hR.s, atI_nat (j := i) hsp, ?_⟩
    refine ⟨_, rfl, sp, _, ds, _, _, rfl, g1, T.cStation.cl, T.cStation.na _ (.head _), fs_Station_time _ _ _, _, rfl, sp, _, ds, _, _, rfl, g1, T.cStation.cl, T.cStation.na _ (.tail _ (.head _)), fs_Station_place _ _ _, by show 3 ≤ sizeLine; decide, fun q1 m1 => ?_⟩
    have s1 : Same H (upd H q1 (.lst [.int 0, .int (stAt a.now.st i).e.t, .int (stAt a.now.st i).e.x])) := same_upd m1
    have hq1 : upd H q1 (.lst [.int 0, .int (stAt a.now.st i).e.t, .int (stAt a.now.st i).e.x]) q1 = some (.lst [.int 0, .int (stAt a.now.st i).e.t, .int (stAt a.now.st i).e.x]) := upd_same
    generalize upd H q1 (.lst [.int 0, .int (stAt a.now.st i).e.t, .int (stAt a.now.st i).e.x]) = H1 at s1 hq1 ⊢
    refine ⟨_, rfl, sp, _, ds, _, _, rfl, s1 _ _ g1, T.cStation.cl, T.cStation.na _ (.tail _ (.tail _ (.head _))), fs_Station_factor _ _ _, kf, _, rfl, .inr (at0 (s1 _ _ g2)), fun q2 m2 => ?_⟩
    refine ⟨q1, q2, _, _, rfl, rfl, upd_at hq1 m2, upd_same, by show 5 ≤ sizeLine; decide, fun p hp => ?_⟩
    exact Ret.look (k.of e1) hd (s1.trans ((same_upd m2).trans (same_upd hp))) upd_same
theorem does_factis (a : Abs) (f : Nat) : a.does (.factis f) = if a.now.noF f then (a, Kv417.say (-2)) else (a, ⟨((a.now.fact f).i : Nat), (a.now.fact f).s.told⟩) := rfl
theorem ok_factis (T : Txt K mg A) : FnOk P w K mg base CX0 2 A.f_factis A.fd_factis ["desk", "f"] (sp_1 A .factis) := by
  refine T.d_factis.F.ok sc_factis (fun vs H Q E h => ?_) (fun cdv _ outer s H vs R E hr h => ?_)
  · obtain ⟨d, a, i, rfl, _⟩ := h
    rfl
  · obtain ⟨d, a, i, rfl, hd, ok, hi, k⟩ := h
    obtain ⟨dd, nn, pl, ps, h1, h2, h3, h4⟩ := id hd
    have hN : NowAt A H nn a.now := h3.same (wo_le H d)
    obtain ⟨i, rfl⟩ : ∃ j : Nat, i = (j : Int) := ⟨i.toNat, by omega⟩
    rw [Int.toNat_natCast] at k
    have e1 := does_factis a i
    refine ⟨_, (pss_cons (ps_if (pt_not (pt_val (pe_call (ok_has_fact T) (hr.mono (by decide)) (by rfl) T.d_has_fact.g T.d_has_fact.F.kp T.d_has_fact.b .nil pass0 (pa_cons (pe_fld (pv 0) rfl) (pa_cons (pv 1) pa_nil))))) (pss_one (ps_ret (pe_lst (pa_cons (pe_glob (v := .int (-2)) rfl T.k_NO_SUCH ⟨_, rfl⟩) pa_nil)))) pss_nil)
 (pss_cons (ps_set (i := 2) sc_factis.nd rfl (Or.inl rfl) (pe_ix ix_list (pe_fld (pe_fld (pv 0) rfl) rfl) (pv 1) (fun _ _ => rfl)))
 (pss_one (ps_ret (pe_op op_cat (pe_lst (pa_cons (pe_fld (pv 2) rfl) pa_nil)) (pe_callTy call_list_of (by rfl) T.b_list (by decide +kernel) (pa_cons (pe_fld (pv 2) rfl) pa_nil))))))), ?_⟩
    refine ⟨_, rfl, d, _, dd, _, _, rfl, h1, T.cDesk.cl, T.cDesk.na _ (.head _), fs_Desk_state _ _, _, rfl, nn, a.now, _, rfl, hN, hi, _, rfl, ?_⟩
    rw [Int.toNat_natCast]
    by_cases c1 : i < a.now.facts.length
    case neg =>
      rw [decide_eq_false c1]
      rw [if_pos (noF_not c1)] at e1
      refine iteT ⟨by show 1 ≤ sizeLine; decide, fun p hp => ?_⟩
      exact k.say hd e1 (Same.refl H) hp
    rw [decide_eq_true c1]
    rw [noF_of c1, if_neg Bool.false_ne_true, Ma.told_low (ok.now.fact c1).2.low] at e1
    obtain ⟨dx, ls, lf, ll, ss, fs, ms, hR⟩ := id hN
    obtain ⟨fp, hfp, ⟨df, ft, fc, g1, g2, g3⟩⟩ := hR.fact c1
    refine iteF ⟨_, rfl, d, _, dd, _, _, rfl, h1, T.cDesk.cl, T.cDesk.na _ (.head _), fs_Desk_state _ _, nn, _, dx, _, _, rfl, hR.o, T.cState.cl, T.cState.na _ (.tail _ (.head _)), fs_State_facts _ _ _ _ _, _, rfl, lf, _, _, _, rfl, rfl, SqL.of hR.f, atI_nat (j := i) hfp, ?_⟩
    refine ⟨_, rfl, fp, _, df, _, _, rfl, g1, T.cFact.cl, T.cFact.na _ (.head _), fs_Fact_station _ _ _, by show 1 ≤ sizeLine; decide, fun q1 m1 => ?_⟩
    have s1 : Same H (upd H q1 (.lst [.int ((a.now.fact i).i : Nat)])) := same_upd m1
    refine ⟨_, rfl, fp, _, df, _, _, rfl, s1 _ _ g1, T.cFact.cl, T.cFact.na _ (.tail _ (.head _)), fs_Fact_when _ _ _, ft, _, rfl, .inr (at0 (s1 _ _ g2)), fun q2 m2 => ?_⟩
    refine ⟨q1, q2, _, _, rfl, rfl, upd_at upd_same m2, upd_same, by show 3 ≤ sizeLine; decide, fun p hp => ?_⟩
    exact Ret.look (k.of e1) hd (s1.trans ((same_upd m2).trans (same_upd hp))) upd_same
theorem does_letteris (a : Abs) (m : Nat) : a.does (.letteris m) = if a.now.noL m then (a, Kv417.say (-2)) else (a, ⟨((a.now.letter m).i : Nat), ((a.now.letter m).j : Nat) :: (a.now.letter m).s.told⟩) := rfl
theorem ok_letteris (T : Txt K mg A) : FnOk P w K mg base CX0 2 A.f_letteris A.fd_letteris ["desk", "m"] (sp_1 A .letteris) := by
  refine T.d_letteris.F.ok sc_letteris (fun vs H Q E h => ?_) (fun cdv _ outer s H vs R E hr h => ?_)
  · obtain ⟨d, a, i, rfl, _⟩ := h
    rfl
  · obtain ⟨d, a, i, rfl, hd, ok, hi, k⟩ := h
    obtain ⟨dd, nn, pl, ps, h1, h2, h3, h4⟩ := id hd
    have hN : NowAt A H nn a.now := h3.same (wo_le H d)
    obtain ⟨i, rfl⟩ : ∃ j : Nat, i = (j : Int) := ⟨i.toNat, by omega⟩
    rw [Int.toNat_natCast] at k
    have e1 := does_letteris a i
    refine ⟨_, (pss_cons (ps_if (pt_not (pt_val (pe_call (ok_has_letter T) (hr.mono (by decide)) (by rfl) T.d_has_letter.g T.d_has_letter.F.kp T.d_has_letter.b .nil pass0 (pa_cons (pe_fld (pv 0) rfl) (pa_cons (pv 1) pa_nil))))) (pss_one (ps_ret (pe_lst (pa_cons (pe_glob (v := .int (-2)) rfl T.k_NO_SUCH ⟨_, rfl⟩) pa_nil)))) pss_nil)
 (pss_cons (ps_set (i := 2) sc_letteris.nd rfl (Or.inl rfl) (pe_ix ix_list (pe_fld (pe_fld (pv 0) rfl) rfl) (pv 1) (fun _ _ => rfl)))
 (pss_one (ps_ret (pe_op op_cat (pe_lst (pa_cons (pe_fld (pv 2) rfl) (pa_cons (pe_fld (pv 2) rfl) pa_nil))) (pe_callTy call_list_of (by rfl) T.b_list (by decide +kernel) (pa_cons (pe_fld (pv 2) rfl) pa_nil))))))), ?_⟩
    refine ⟨_, rfl, d, _, dd, _, _, rfl, h1, T.cDesk.cl, T.cDesk.na _ (.head _), fs_Desk_state _ _, _, rfl, nn, a.now, _, rfl, hN, hi, _, rfl, ?_⟩
    rw [Int.toNat_natCast]
    by_cases c1 : i < a.now.letters.length
    case neg =>
      rw [decide_eq_false c1]
      rw [if_pos (noL_not c1)] at e1
      refine iteT ⟨by show 1 ≤ sizeLine; decide, fun p hp => ?_⟩
      exact k.say hd e1 (Same.refl H) hp
    rw [decide_eq_true c1]
    rw [noL_of c1, if_neg Bool.false_ne_true, Ma.told_low (ok.now.letter c1).2.2.low] at e1
    obtain ⟨dx, ls, lf, ll, ss, fs, ms, hR⟩ := id hN
    obtain ⟨fp, hfp, ⟨df, ft, fc, g1, g2, g3⟩⟩ := hR.letter c1
    refine iteF ⟨_, rfl, d, _, dd, _, _, rfl, h1, T.cDesk.cl, T.cDesk.na _ (.head _), fs_Desk_state _ _, nn, _, dx, _, _, rfl, hR.o, T.cState.cl, T.cState.na _ (.tail _ (.tail _ (.head _))), fs_State_letters _ _ _ _ _, _, rfl, ll, _, _, _, rfl, rfl, SqL.of hR.l, atI_nat (j := i) hfp, ?_⟩
    refine ⟨_, rfl, fp, _, df, _, _, rfl, g1, T.cLetter.cl, T.cLetter.na _ (.head _), fs_Letter_sender _ _ _ _, _, rfl, fp, _, df, _, _, rfl, g1, T.cLetter.cl, T.cLetter.na _ (.tail _ (.head _)), fs_Letter_receiver _ _ _ _, by show 2 ≤ sizeLine; decide, fun q1 m1 => ?_⟩
    have s1 : Same H (upd H q1 (.lst [.int ((a.now.letter i).i : Nat), .int ((a.now.letter i).j : Nat)])) := same_upd m1
    refine ⟨_, rfl, fp, _, df, _, _, rfl, s1 _ _ g1, T.cLetter.cl, T.cLetter.na _ (.tail _ (.tail _ (.head _))), fs_Letter_sent _ _ _ _, ft, _, rfl, .inr (at0 (s1 _ _ g2)), fun q2 m2 => ?_⟩
    refine ⟨q1, q2, _, _, rfl, rfl, upd_at upd_same m2, upd_same, by show 4 ≤ sizeLine; decide, fun p hp => ?_⟩
    exact Ret.look (k.of e1) hd (s1.trans ((same_upd m2).trans (same_upd hp))) upd_same
theorem does_comes (a : Abs) (m : Nat) : a.does (.comes m) = if a.now.noL m then (a, Kv417.say (-2)) else (a, ⟨0, (a.now.comes m).told⟩) := rfl
theorem comes_low {n : Now} (ok : OkN n) {m : Nat} (h : m < n.letters.length) : Ma.Low (n.comes m) := Ma.hears_low (ok.ok (ok.letter h).2.1) (Ma.at_ok (ok.ok (ok.letter h).1) (ok.letter h).2.2)
theorem ok_comes (T : Txt K mg A) : FnOk P w K mg base CX0 2 A.f_comes A.fd_comes ["desk", "m"] (sp_1 A .comes) := by
  refine T.d_comes.F.ok sc_comes (fun vs H Q E h => ?_) (fun cdv _ outer s H vs R E hr h => ?_)
  · obtain ⟨d, a, i, rfl, _⟩ := h
    rfl
  · obtain ⟨d, a, i, rfl, hd, ok, hi, k⟩ := h
    obtain ⟨dd, nn, pl, ps, h1, h2, h3, h4⟩ := id hd
    have hN : NowAt A H nn a.now := h3.same (wo_le H d)
    obtain ⟨i, rfl⟩ : ∃ j : Nat, i = (j : Int) := ⟨i.toNat, by omega⟩
    rw [Int.toNat_natCast] at k
    have e1 := does_comes a i
    refine ⟨_, (pss_cons (ps_if (pt_not (pt_val (pe_call (ok_has_letter T) (hr.mono (by decide)) (by rfl) T.d_has_letter.g T.d_has_letter.F.kp T.d_has_letter.b .nil pass0 (pa_cons (pe_fld (pv 0) rfl) (pa_cons (pv 1) pa_nil))))) (pss_one (ps_ret (pe_lst (pa_cons (pe_glob (v := .int (-2)) rfl T.k_NO_SUCH ⟨_, rfl⟩) pa_nil)))) pss_nil)
 (pss_one (ps_ret (pe_op op_cat (pe_lst (pa_cons pe_int pa_nil)) (pe_callTy call_list_of (by rfl) T.b_list (by decide +kernel) (pa_cons (pe_fld (pe_ix ix_list (pe_fld (pe_fld (pv 0) rfl) rfl) (pv 1) (fun _ _ => rfl)) rfl) pa_nil)))))), ?_⟩
    refine ⟨_, rfl, d, _, dd, _, _, rfl, h1, T.cDesk.cl, T.cDesk.na _ (.head _), fs_Desk_state _ _, _, rfl, nn, a.now, _, rfl, hN, hi, _, rfl, ?_⟩
    rw [Int.toNat_natCast]
    by_cases c1 : i < a.now.letters.length
    case neg =>
      rw [decide_eq_false c1]
      rw [if_pos (noL_not c1)] at e1
      refine iteT ⟨by show 1 ≤ sizeLine; decide, fun p hp => ?_⟩
      exact k.say hd e1 (Same.refl H) hp
    rw [decide_eq_true c1]
    rw [noL_of c1, if_neg Bool.false_ne_true, Ma.told_low (comes_low ok.now c1)] at e1
    obtain ⟨dx, ls, lf, ll, ss, fs, ms, hR⟩ := id hN
    obtain ⟨fp, hfp, ⟨df, ft, fc, g1, g2, g3⟩⟩ := hR.letter c1
    refine iteF ⟨by show 1 ≤ sizeLine; decide, fun q1 m1 => ?_⟩
    have s1 : Same H (upd H q1 (.lst [.int 0])) := same_upd m1
    have hR1 := hR.same s1
    refine ⟨_, rfl, d, _, dd, _, _, rfl, s1 _ _ h1, T.cDesk.cl, T.cDesk.na _ (.head _), fs_Desk_state _ _, nn, _, dx, _, _, rfl, hR1.o, T.cState.cl, T.cState.na _ (.tail _ (.tail _ (.head _))), fs_State_letters _ _ _ _ _, _, rfl, ll, _, _, _, rfl, rfl, SqL.of hR1.l, atI_nat (j := i) hfp,
      fp, _, df, _, _, rfl, s1 _ _ g1, T.cLetter.cl, T.cLetter.na _ (.tail _ (.tail _ (.tail _ (.head _)))), fs_Letter_arrives _ _ _ _, fc, _, rfl, .inr (at0 (s1 _ _ g3)), fun q2 m2 => ?_⟩
    refine ⟨q1, q2, _, _, rfl, rfl, upd_at upd_same m2, upd_same, by show 3 ≤ sizeLine; decide, fun p hp => ?_⟩
    exact Ret.look (k.of e1) hd (s1.trans ((same_upd m2).trans (same_upd hp))) upd_same
theorem does_where (a : Abs) (f : Nat) : a.does (.where_ f) = if a.now.noF f then (a, Kv417.say (-2)) else (a, ⟨0, (a.now.where_ f).time.told ++ (a.now.where_ f).place.told⟩) := rfl
theorem half_low {x : Q} (h : 0 < x.d) : Ma.Low (x.mul ⟨1, 2⟩) := Ma.mul_low h (by decide)
theorem ok_where_ (T : Txt K mg A) : FnOk P w K mg base CX0 5 A.f_where A.fd_where ["desk", "f"] (sp_1 A .where_) := by
  refine T.d_where.F.ok sc_where (fun vs H Q E h => ?_) (fun cdv _ outer s H vs R E hr h => ?_)
  · obtain ⟨d, a, i, rfl, _⟩ := h
    rfl
  · obtain ⟨d, a, i, rfl, hd, ok, hi, k⟩ := h
    obtain ⟨dd, nn, pl, ps, h1, h2, h3, h4⟩ := id hd
    have hN : NowAt A H nn a.now := h3.same (wo_le H d)
    obtain ⟨i, rfl⟩ : ∃ j : Nat, i = (j : Int) := ⟨i.toNat, by omega⟩
    rw [Int.toNat_natCast] at k
    have e1 := does_where a i
    refine ⟨_, (pss_cons (ps_if (pt_not (pt_val (pe_call (ok_has_fact T) (hr.mono (by decide)) (by rfl) T.d_has_fact.g T.d_has_fact.F.kp T.d_has_fact.b .nil pass0 (pa_cons (pe_fld (pv 0) rfl) (pa_cons (pv 1) pa_nil))))) (pss_one (ps_ret (pe_lst (pa_cons (pe_glob (v := .int (-2)) rfl T.k_NO_SUCH ⟨_, rfl⟩) pa_nil)))) pss_nil)
 (pss_cons (ps_set (i := 2) sc_where.nd rfl (Or.inl rfl) (pe_fld (pe_ix ix_list (pe_fld (pe_fld (pv 0) rfl) rfl) (pv 1) (fun _ _ => rfl)) rfl))
 (pss_one (ps_ret (pe_op op_cat (pe_op op_cat (pe_lst (pa_cons pe_int pa_nil)) (pe_callTy call_list_of (by rfl) T.b_list (by decide +kernel) (pa_cons (pe_call (ok_time_of T) (hr.mono (by decide)) (by rfl) T.d_time_of.g T.d_time_of.F.kp T.d_time_of.b .nil pass0 (pa_cons (pv 2) pa_nil)) pa_nil))) (pe_callTy call_list_of (by rfl) T.b_list (by decide +kernel) (pa_cons (pe_call (ok_place_of T) (hr.mono (by decide)) (by rfl) T.d_place_of.g T.d_place_of.F.kp T.d_place_of.b .nil pass0 (pa_cons (pv 2) pa_nil)) pa_nil))))))), ?_⟩
    refine ⟨_, rfl, d, _, dd, _, _, rfl, h1, T.cDesk.cl, T.cDesk.na _ (.head _), fs_Desk_state _ _, _, rfl, nn, a.now, _, rfl, hN, hi, _, rfl, ?_⟩
    rw [Int.toNat_natCast]
    by_cases c1 : i < a.now.facts.length
    case neg =>
      rw [decide_eq_false c1]
      rw [if_pos (noF_not c1)] at e1
      refine iteT ⟨by show 1 ≤ sizeLine; decide, fun p hp => ?_⟩
      exact k.say hd e1 (Same.refl H) hp
    rw [decide_eq_true c1]
    have okp := ok_where ok.now c1
    have l1 : Ma.Low (a.now.where_ i).time := half_low (Ma.add_B okp.u okp.v).pos
    have l2 : Ma.Low (a.now.where_ i).place := half_low (Ma.sub_B okp.v okp.u).pos
    rw [noF_of c1, if_neg Bool.false_ne_true, Ma.told_low l1, Ma.told_low l2] at e1
    obtain ⟨dx, ls, lf, ll, ss, fs, ms, hR⟩ := id hN
    obtain ⟨fp, hfp, ⟨df, ft, fc, g1, g2, g3⟩⟩ := hR.fact c1
    refine iteF ⟨_, rfl, d, _, dd, _, _, rfl, h1, T.cDesk.cl, T.cDesk.na _ (.head _), fs_Desk_state _ _, nn, _, dx, _, _, rfl, hR.o, T.cState.cl, T.cState.na _ (.tail _ (.head _)), fs_State_facts _ _ _ _ _, _, rfl, lf, _, _, _, rfl, rfl, SqL.of hR.f, atI_nat (j := i) hfp,
      fp, _, df, _, _, rfl, g1, T.cFact.cl, T.cFact.na _ (.tail _ (.tail _ (.head _))), fs_Fact_point _ _ _, by show 1 ≤ sizeLine; decide, fun q1 m1 => ?_⟩
    have s1 : Same H (upd H q1 (.lst [.int 0])) := same_upd m1
    refine ⟨_, rfl, fc, _, rfl, g3.same s1, okp, fun t1 H2 s2 ht1 => ?_⟩
    refine ⟨t1, _, rfl, .inr (at0 ht1), fun q2 m2 => ?_⟩
    have s12 := s1.trans s2
    refine ⟨q1, q2, _, _, rfl, rfl, upd_at (s2 _ _ upd_same) m2, upd_same, by show 3 ≤ sizeLine; decide, fun q3 m3 => ?_⟩
    have s13 := fun (o : HO) => s12.trans ((same_upd m2).trans (same_upd (o := o) m3))
    refine ⟨_, rfl, fc, _, rfl, g3.same (s13 _), okp, fun t2 H3 s3 ht2 => ?_⟩
    refine ⟨t2, _, rfl, .inr (at0 ht2), fun q4 m4 => ?_⟩
    refine ⟨q3, q4, _, _, rfl, rfl, upd_at (s3 _ _ upd_same) m4, upd_same, by show 5 ≤ sizeLine; decide, fun p hp => ?_⟩
    exact Ret.look (k.of e1) hd ((s13 _).trans (s3.trans ((same_upd m4).trans (same_upd hp)))) upd_same
theorem does_in (a : Abs) (m : Nat) : a.does (.in_ m) = if a.now.noL m then (a, Kv417.say (-2)) else (a, Kv417.list (a.now.in_ m)) := rfl
theorem row_list (l : List Nat) : (Kv417Neutral.row (Kv417.list l)).map V.int = [V.int ((l.length : Nat) : Int)] ++ nums l := by
  show V.int ((l.length : Nat) : Int) :: (l.map Int.ofNat).map V.int = V.int ((l.length : Nat) : Int) :: nums l
  rw [List.map_map]
  rfl
theorem known_len {n : Now} {i : Nat} {q : Q} : (n.known i q).length ≤ n.facts.length := by
  unfold Now.known
  rw [Ma.knows_eq]
  have := List.length_filter_le (Ma.inK n n.letters.length i q) (List.range n.facts.length)
  rw [List.length_range] at this
  exact this
theorem ok_in_letter (T : Txt K mg A) : FnOk P w K mg base CX0 5 A.f_in_letter A.fd_in_letter ["desk", "m"] (sp_1 A .in_) := by
  refine T.d_in_letter.F.ok sc_in_letter (fun vs H Q E h => ?_) (fun cdv _ outer s H vs R E hr h => ?_)
  · obtain ⟨d, a, i, rfl, _⟩ := h
    rfl
  · obtain ⟨d, a, i, rfl, hd, ok, hi, k⟩ := h
    obtain ⟨dd, nn, pl, ps, h1, h2, h3, h4⟩ := id hd
    have hN : NowAt A H nn a.now := h3.same (wo_le H d)
    obtain ⟨i, rfl⟩ : ∃ j : Nat, i = (j : Int) := ⟨i.toNat, by omega⟩
    rw [Int.toNat_natCast] at k
    have e1 := does_in a i
    refine ⟨_, (pss_cons (ps_if (pt_not (pt_val (pe_call (ok_has_letter T) (hr.mono (by decide)) (by rfl) T.d_has_letter.g T.d_has_letter.F.kp T.d_has_letter.b .nil pass0 (pa_cons (pe_fld (pv 0) rfl) (pa_cons (pv 1) pa_nil))))) (pss_one (ps_ret (pe_lst (pa_cons (pe_glob (v := .int (-2)) rfl T.k_NO_SUCH ⟨_, rfl⟩) pa_nil)))) pss_nil)
 (pss_cons (ps_set (i := 2) sc_in_letter.nd rfl (Or.inl rfl) (pe_ix ix_list (pe_fld (pe_fld (pv 0) rfl) rfl) (pv 1) (fun _ _ => rfl)))
 (pss_cons (ps_set (i := 3) sc_in_letter.nd rfl (Or.inl rfl) (pe_call (ok_facts_known T) (hr.mono (by decide)) (by rfl) T.d_facts_known.g T.d_facts_known.F.kp T.d_facts_known.b .nil pass0 (pa_cons (pe_fld (pv 0) rfl) (pa_cons (pe_fld (pv 2) rfl) (pa_cons (pe_fld (pv 2) rfl) pa_nil)))))
 (pss_one (ps_ret (pe_op op_cat (pe_lst (pa_cons (pe_callB call_len_seq (by rfl) T.b_len (by decide +kernel) (pa_cons (pv 3) pa_nil)) pa_nil)) (pv 3))))))), ?_⟩
    refine ⟨_, rfl, d, _, dd, _, _, rfl, h1, T.cDesk.cl, T.cDesk.na _ (.head _), fs_Desk_state _ _, _, rfl, nn, a.now, _, rfl, hN, hi, _, rfl, ?_⟩
    rw [Int.toNat_natCast]
    by_cases c1 : i < a.now.letters.length
    case neg =>
      rw [decide_eq_false c1]
      rw [if_pos (noL_not c1)] at e1
      refine iteT ⟨by show 1 ≤ sizeLine; decide, fun p hp => ?_⟩
      exact k.say hd e1 (Same.refl H) hp
    rw [decide_eq_true c1]
    rw [noL_of c1, if_neg Bool.false_ne_true] at e1
    obtain ⟨dx, ls, lf, ll, ss, fs, ms, hR⟩ := id hN
    obtain ⟨fp, hfp, ⟨df, ft, fc, g1, g2, g3⟩⟩ := hR.letter c1
    refine iteF ⟨_, rfl, d, _, dd, _, _, rfl, h1, T.cDesk.cl, T.cDesk.na _ (.head _), fs_Desk_state _ _, nn, _, dx, _, _, rfl, hR.o, T.cState.cl, T.cState.na _ (.tail _ (.tail _ (.head _))), fs_State_letters _ _ _ _ _, _, rfl, ll, _, _, _, rfl, rfl, SqL.of hR.l, atI_nat (j := i) hfp, ?_⟩
    refine ⟨_, rfl, d, _, dd, _, _, rfl, h1, T.cDesk.cl, T.cDesk.na _ (.head _), fs_Desk_state _ _, _, rfl, fp, _, df, _, _, rfl, g1, T.cLetter.cl, T.cLetter.na _ (.head _), fs_Letter_sender _ _ _ _, _, rfl, fp, _, df, _, _, rfl, g1, T.cLetter.cl, T.cLetter.na _ (.tail _ (.tail _ (.head _))), fs_Letter_sent _ _ _ _, ?_⟩
    refine ⟨nn, ft, a.now, _, _, rfl, hN, ok.now, g2, sm_c (ok.now.letter c1).2.2, fun H1 p1 s1 _ hp1 => ?_⟩
    have hl6 : (a.now.in_ i).length ≤ 6 := Nat.le_trans known_len ok.now.nf
    refine ⟨_, rfl, p1, _, rfl, .inl (SqL.of hp1), by show 1 ≤ sizeLine; decide, fun q1 m1 => ?_⟩
    refine ⟨_, rfl, q1, p1, _, _, rfl, rfl, upd_same, upd_at hp1 m1, ?_, fun p hp => ?_⟩
    · rw [List.length_map, List.length_singleton]
      exact Nat.le_trans (m := 7) (Nat.add_le_add_left hl6 1) (by decide)
    · refine Ret.look (k.of e1) hd (s1.trans ((same_upd m1).trans (same_upd hp))) ?_
      rw [upd_same, row_list, List.length_map]
      rfl
end
end Py
namespace Py
open PySem PySem.Spec PyProof.Rows L2
section
variable {K : PySem.W.Frag} {mg : Str → Option Value} {h : Heap} {Goal : Prop}
theorem df_go {x : Str} {st : Stmt} {ps : List Str} {f : Addr} {oc : Value} {od an : Option Addr} {osl : Array (Option Value)} {kV doc pm cdv ct : Value} (X : K.In h) (G : h.Ns mainGlobals mg) (a : PySem.W.nsIn K mainGlobals x = some (some (.ref f)))
    (l : K.lookup f = some ⟨oc, od, .func (PySem.W.fnOf x x (defArgs st) (defBody st) (defScope st) .none kV doc pm an cdv ct), osl⟩) (c : PySem.W.codeIn K cdv x = true) (k : PySem.W.keepIn K (.ref f) = true)
    (hb : ∀ (kV doc pm : Value) (an : Option Addr) (cdv ct : Value) (us : List Value), us.length = ps.length → bindArgs (PySem.W.fnOf x x (defArgs st) (defBody st) (defScope st) .none kV doc pm an cdv ct) ⟨us, []⟩ = pure (ps.zip us))
    (rest : ∀ f' fd, f' = f → Df K mg x st ps f' fd → Goal) : Goal :=
  rest f _ rfl ⟨fun_mk l c k, (fun_mk (st := st) l c k).binds hb, PySem.W.mg_of X G a⟩
def AllNo (K : PySem.W.Frag) (C : Addr) : List Str → Prop
  | [] => True
  | s :: r => PySem.W.findIn K (.ref C) s = some none ∧ AllNo K C r
theorem AllNo.na {C : Addr} : ∀ {fl : List Str}, AllNo K C fl → ∀ s ∈ fl, NoAttr K C s
  | [], _, _, h => by cases h
  | _ :: _, ⟨h1, _⟩, _, .head _ => h1
  | _ :: _, ⟨_, h2⟩, _, .tail _ m => h2.na _ m
theorem kl_go {x qual : Str} {st : Stmt} {ps fl : List Str} {C f : Addr} {oc : Value} {od an : Option Addr} {osl : Array (Option Value)} {kV doc pm cdv ct : Value} (X : K.In h) (G : h.Ns mainGlobals mg) (aC : PySem.W.nsIn K mainGlobals x = some (some (.ref C)))
    (a1 : PySem.W.findIn K (.ref C) "__init__" = some (some (.ref f))) (i1 : PySem.W.isFn K (.ref f) = true) (l1 : K.lookup f = some ⟨oc, od, .func (PySem.W.fnOf "__init__" qual (defArgs st) (defBody st) (defScope st) .none kV doc pm an cdv ct), osl⟩) (c1 : PySem.W.codeIn K cdv qual = true) (k1 : PySem.W.keepIn K (.ref f) = true)
    (pg : PySem.W.plainGet K C Str.empty = true) (hd : PySem.W.hasDictIn K C = true) (po : PySem.W.plainOver K C = true) (sa : PySem.W.findIn K (.ref C) "__setattr__" = some (some (.builtin "object.__setattr__"))) (mk : PySem.W.makesIn K C = true) (kc : PySem.W.keepIn K (.ref C) = true)
    (na : AllNo K C fl)
    (hb : ∀ (kV doc pm : Value) (an : Option Addr) (cdv ct : Value) (us : List Value), us.length = ps.length → bindArgs (PySem.W.fnOf "__init__" qual (defArgs st) (defBody st) (defScope st) .none kV doc pm an cdv ct) ⟨us, []⟩ = pure (ps.zip us))
    (rest : ∀ C f fd, Kl K mg x qual st ps fl C f fd → Goal) : Goal :=
  rest C f _ ⟨⟨pg, hd, po, sa⟩, PySem.W.mg_of X G aC, ⟨mk, a1, i1, kc⟩, fun_mk l1 c1 k1, (fun_mk (st := st) l1 c1 k1).binds hb, na.na⟩
theorem ci_go {x : Str} {i : Int} {t : Tok} (X : K.In h) (G : h.Ns mainGlobals mg) (a : PySem.W.nsIn K mainGlobals x = some (some (.int i t))) (rest : ∀ t, mg x = some (.int i t) → Goal) : Goal := rest t (PySem.W.mg_of X G a)
theorem cr_go {x : Str} {r : Addr} {o : Obj} (X : K.In h) (G : h.Ns mainGlobals mg) (a : PySem.W.nsIn K mainGlobals x = some (some (.ref r))) (l : K.lookup r = some o) (rest : (mg x = some (.ref r) ∧ K.lookup r = some o) → Goal) : Goal := rest ⟨PySem.W.mg_of X G a, l⟩
theorem bn_go {x : Str} (X : K.In h) (G : h.Ns mainGlobals mg) (a : PySem.W.nsIn K mainGlobals x = some none) (rest : mg x = none → Goal) : Goal := rest (PySem.W.mg_none_of X G a)
theorem bn_of {x : Str} (X : K.In h) (G : h.Ns mainGlobals mg) (a : PySem.W.nsIn K mainGlobals x = some none) : mg x = none := PySem.W.mg_none_of X G a
end
def spAns (K : PySem.W.Frag) : Sp := fun vs H Q _ => ∃ (a : Addr) (ns : List Int), vs = [.ref a] ∧ SqL K H a (ns.map V.int) ∧ ns.length ≤ 1280 ∧ PyKv417.answers_asked ns = true ∧
  ∀ (H' : Hp) (p : Addr), H' p = some (.lst ((PyKv417.answers ns).map V.int)) → Q (.ref p) H'
end Py
namespace Py
open PySem PySem.Spec PyProof.Rows L2
open Kv414 (Q gcd' Factor)
open Kv415 (Station Point)
open Kv417 (Fact Letter Now Abs)
/-! ### what is no locked thing stands -/
def Nf (o : HO) : Prop := ∀ a u, o ≠ .frz a u
def Stay (H H' : Hp) : Prop := ∀ b o, H b = some o → Nf o → H' b = some o
theorem nf_tup {xs : List V} : Nf (.tup xs) := fun _ _ z => by cases z
theorem nf_lst {xs : List V} : Nf (.lst xs) := fun _ _ z => by cases z
theorem nf_ins {C d : Addr} {fs : List (Str × V)} : Nf (.ins C d fs) := fun _ _ z => by cases z
theorem stay_wo {H H' : Hp} {d : Addr} (s : Stay H H') : Stay (wo H d) (wo H' d) := fun b o h n => wo_of (s b o (wo_at h) n) (wo_ne h)
theorem PtAt.stay {A : Ad} {H H' : Hp} {p : Addr} {pt : Point} (h : PtAt A H p pt) (s : Stay H H') : PtAt A H' p pt := by
  obtain ⟨dx, u, v, h1, h2, h3⟩ := h
  exact ⟨dx, u, v, s _ _ h1 nf_ins, s _ _ h2 nf_tup, s _ _ h3 nf_tup⟩
theorem StAt.stay {A : Ad} {H H' : Hp} {p : Addr} {a : Station} (h : StAt A H p a) (s : Stay H H') : StAt A H' p a := by
  obtain ⟨dx, k, h1, h2⟩ := h
  exact ⟨dx, k, s _ _ h1 nf_ins, s _ _ h2 nf_tup⟩
theorem FactAt.stay {A : Ad} {H H' : Hp} {st : List Station} {p : Addr} {f : Fact} (h : FactAt A H st p f) (s : Stay H H') : FactAt A H' st p f := by
  obtain ⟨dx, t, c, h1, h2, h3⟩ := h
  exact ⟨dx, t, c, s _ _ h1 nf_ins, s _ _ h2 nf_tup, h3.stay s⟩
theorem LetAt.stay {A : Ad} {H H' : Hp} {st : List Station} {p : Addr} {f : Letter} (h : LetAt A H st p f) (s : Stay H H') : LetAt A H' st p f := by
  obtain ⟨dx, t, c, h1, h2, h3⟩ := h
  exact ⟨dx, t, c, s _ _ h1 nf_ins, s _ _ h2 nf_tup, s _ _ h3 nf_tup⟩
theorem NowAt.stay {A : Ad} {H H' : Hp} {a : Addr} {n : Now} (h : NowAt A H a n) (s : Stay H H') : NowAt A H' a n := by
  obtain ⟨dx, ls, lf, ll, ss, fs, ms, h⟩ := h
  exact ⟨dx, ls, lf, ll, ss, fs, ms, ⟨s _ _ h.o nf_ins, s _ _ h.s nf_lst, s _ _ h.f nf_lst, s _ _ h.l nf_lst, pr_map h.sp fun _ _ _ q => q.stay s, pr_map h.fp fun _ _ _ q => q.stay s, pr_map h.lp fun _ _ _ q => q.stay s⟩⟩
theorem DeskAt.stay {A : Ad} {H H' : Hp} {d : Addr} {s : Kv417.State} (h : DeskAt A H d s) (t : Stay H H') : DeskAt A H' d s := by
  cases s with
  | none =>
    obtain ⟨dx, l, h1⟩ := h
    exact ⟨dx, l, t _ _ h1 nf_ins⟩
  | some a =>
    obtain ⟨dx, n, l, ps, h1, h2, h3, h4⟩ := h
    exact ⟨dx, n, l, ps, t _ _ h1 nf_ins, stay_wo t _ _ h2 nf_lst, h3.stay (stay_wo t), pr_map h4 fun _ _ _ q => q.stay (stay_wo t)⟩
/-! ### the promise of a call told by its number, and the loop over the calls -/
/-- an answer of the j-th call with its numbers -/
def sp_answer_to (A : Ad) : Sp := fun vs H R _ => ∃ (d tl : Addr) (s : Kv417.State) (j : Nat) (told : List Int), vs = [.ref d, .int (j : Nat), .ref tl] ∧ DeskAt A H d s ∧ Ma.OkO s ∧ H tl = some (.lst (told.map V.int)) ∧ j < 25 ∧ Ma.argcs[j]? = some told.length ∧
  Kv417Neutral.asked1 [(j : Int) :: told] = true ∧ Ret A H d (Kv417Neutral.step s [(j : Int) :: told]).1 (Kv417Neutral.step s [(j : Int) :: told]).2 R
theorem cut_ints (ns : List Int) (a b : Nat) (h : b ≤ ns.length) : cutV (ns.map V.int) (some ((a : Nat) : Int)) (some ((b : Nat) : Int)) = ((ns.drop a).take (b - a)).map V.int := by
  unfold cutV
  rw [HT.sIx_nat, HT.sIx_nat, List.length_map, Nat.min_eq_left h]
  by_cases c : a ≤ ns.length
  · rw [Nat.min_eq_left c, List.map_take, List.map_drop]
  · have e1 : min a ns.length = ns.length := Nat.min_eq_right (by omega)
    have e2 : b - ns.length = 0 := by omega
    have e3 : b - a = 0 := by omega
    rw [e1, e2, e3]
    rfl
theorem argcs_at {j n : Nat} (h : Ma.argcs[j]? = some n) : (Ma.argcs.map fun (k : Nat) => V.int ((k : Nat) : Int))[j]? = some (V.int ((n : Nat) : Int)) := by
  rw [List.getElem?_map, h]
  rfl
theorem row_len (s : Kv417.State) (c : List (List Int)) (r : List (List (List Int))) (l : List Int) (h : PyFlat.told (PyFlat.played Kv417Neutral.step s (c :: r)) = l) :
    l = ((Kv417Neutral.step s c).2.length : Int) :: ((Kv417Neutral.step s c).2 ++ PyFlat.told (PyFlat.played Kv417Neutral.step (Kv417Neutral.step s c).1 r)) := by
  rw [← h]
  show PyFlat.told ((Kv417Neutral.step s c).2 :: _) = _
  rw [Ma.told_cons]
section
variable {P : Program} {w : World} {K : PySem.W.Frag} {mg : Str → Option Value} {base : Heap} {A : Ad}
theorem ok_answers_of (T : Txt K mg A) (kA : ∀ H : Hp, SqT K H A.a_ARGUMENTS (Ma.argcs.map fun (k : Nat) => V.int ((k : Nat) : Int))) {lv : Nat}
    (ok_answer_to : ∀ {base : Heap}, Txt K mg A → FnOk P w K mg base CX0 lv A.f_answer_to A.fd_answer_to ["desk", "number", "told"] (sp_answer_to A)) (hlv : 2 ≤ lv) : FnOk P w K mg base CX0 (lv + 1) A.f_answers A.fd_answers ["calls"] (spAns K) := by
  refine T.d_answers.F.ok sc_answers (fun vs H Q E h => ?_) (fun cdv _ outer s H vs R E hr h => ?_)
  · obtain ⟨a, ns, rfl, _⟩ := h
    rfl
  · obtain ⟨ca, ns, rfl, hS, hlen, hask, k⟩ := h
    obtain ⟨raw, hraw, has, hshort⟩ := Ma.asked_of hask
    have hans := Ma.answers_of hraw
    refine ⟨_, (pss_cons (ps_set (i := 1) sc_answers.nd rfl (Or.inl rfl) (pe_make0 T.cDesk.M (oki_Desk T) (hr.mono (by omega)) (by rfl) T.cDesk.g T.cDesk.b .nil pass0))
 (pss_cons (ps_set (i := 2) sc_answers.nd rfl (Or.inl rfl) (pe_lst pa_nil))
 (pss_cons (ps_set (i := 3) sc_answers.nd rfl (Or.inl rfl) pe_int)
 (pss_cons (ps_while PassesOwn.never (pt_cmpR op_lt (pv 3) (pe_callB call_len_seq (by rfl) T.b_len (by decide +kernel) (pa_cons (pv 0) pa_nil)) (nomark _)) (pss_cons (ps_set (i := 4) sc_answers.nd rfl (Or.inl rfl) (pe_ix ix_list (pv 0) (pv 3) (fun _ _ => rfl)))
 (pss_cons (ps_set (i := 5) sc_answers.nd rfl (Or.inl rfl) (pe_op op_add (pe_op op_add (pv 3) pe_int) (pe_ix ix_tup (pe_glob (v := .ref A.a_ARGUMENTS) rfl T.k_ARGUMENTS rfl) (pv 4) (fun _ _ => rfl))))
 (pss_cons (ps_set (i := 6) sc_answers.nd rfl (Or.inl rfl) (pe_lock (pe_call (ok_answer_to T) (hr.mono (by omega)) (by rfl) T.d_answer_to.g T.d_answer_to.F.kp T.d_answer_to.b .nil pass0 (pa_cons (pv 1) (pa_cons (pv 4) (pa_cons (pe_slice sl_list (pv 0) (po_some (pe_op op_add (pv 3) pe_int)) (po_some (pv 5))) pa_nil))))))
 (pss_cons (ps_expr (pe_bm PySem.F.plainAttrs_list PySem.F.slot_list_append PySem.F.type_list_append mt_append (pv 2) (pa_cons (pe_callB call_len_seq (by rfl) T.b_len (by decide +kernel) (pa_cons (pv 6) pa_nil)) pa_nil)))
 (pss_cons (ps_expr (pe_bm PySem.F.plainAttrs_list PySem.F.slot_list_extend PySem.F.type_list_extend mt_extend (pv 2) (pa_cons (pv 6) pa_nil)))
 (pss_one (ps_set (i := 3) sc_answers.nd rfl (Or.inl rfl) (pv 5)))))))))
 (pss_one (ps_ret (pv 2))))))), ?_⟩
    -- desk = Desk()
    intro d dx nd ndx ned
    refine ⟨d, dx, rfl, upd_same, fun H1 l1 kp hd => ⟨rfl, ?_⟩⟩
    have s1 : Same H H1 := Same.keep nd ndx kp
    -- given = []
    refine ⟨Nat.zero_le _, fun g ng => ?_⟩
    have gd : g ≠ d := (ne_of_none hd ng).symm
    have hg2 : upd H1 g (.lst []) g = some (.lst []) := upd_same
    have s2 : Same H1 (upd H1 g (.lst [])) := same_upd ng
    have w2 : Same H (wo (wo (upd H1 g (.lst [])) d) g) := fun b o h => by
      have h1 := s1 _ _ h
      exact wo_of (wo_of (s2 _ _ h1) (ne_of_none h nd)) (ne_of_none h1 ng)
    have D2 : DeskAt A (wo (upd H1 g (.lst [])) g) d none := ⟨dx, l1, wo_of (s2 _ _ hd) gd.symm⟩
    generalize upd H1 g (.lst []) = H2 at hg2 s2 w2 D2 ⊢
    -- the loop
    refine while_by (fun σ H' => ∃ (pl : Nat) (st : Kv417.State) (f : Nat) (rest : List (List (List Int))) (gv : List Int) (v4 v5 v6 : Option V), σ = [some (.ref ca), some (.ref d), some (.ref g), some (.int (pl : Nat)), v4, v5, v6] ∧
        pl ≤ ns.length ∧ PyFlat.calls PyKv417.shape f (ns.drop pl) = some rest ∧ (∀ c ∈ rest, Kv417Neutral.asked1 c = true) ∧ Ma.OkO st ∧
        DeskAt A (wo H' g) d st ∧ H' g = some (.lst (gv.map V.int)) ∧ SqL K (wo (wo H' d) g) ca (ns.map V.int) ∧
        PyKv417.answers ns = gv ++ PyFlat.told (PyFlat.played Kv417Neutral.step st rest))
      (fun σ _ => match σ with
        | [_, _, _, some (.int p), _, _, _] => ns.length - p.toNat
        | _ => 0) ⟨0, none, ns.length, raw, [], none, none, none, rfl, Nat.zero_le _, hraw, has, trivial, D2, hg2, w2.seq hS, by rw [hans]; rfl⟩ ?_ ?_
    · rintro σ H' ⟨pl, st, f, rest, gv, v4, v5, v6, rfl, hpl, hcalls, hasked, okst, hD, hg, hS', heq⟩
      have wS : Same (wo (wo H' d) g) H' := (wo_le _ g).trans (wo_le H' d)
      refine ⟨_, rfl, _, rfl, ca, _, rfl, .inl (wS.seq hS'), _, _, rfl, rfl, _, rfl, ?_⟩
      rw [List.length_map]
      by_cases cp : pl < ns.length
      · have dc : decide ((pl : Int) < ((ns.length : Nat) : Int)) = true := decide_eq_true (by omega)
        rw [dc]
        refine iteT ?_
        obtain ⟨z, hz⟩ : ∃ z, ns[pl]? = some z := ⟨_, List.getElem?_eq_getElem cp⟩
        have hdrop : ns.drop pl = z :: ns.drop (pl + 1) := by
          obtain ⟨h1, h2⟩ := List.getElem?_eq_some_iff.mp hz
          rw [List.drop_eq_getElem_cons h1, h2]
        rcases Ma.calls_step hcalls with ⟨e, _⟩ | ⟨j, n, r, f', rest', e1, hj, hn, hnr, e2, hrest⟩
        · rw [hdrop] at e
          cases e
        rw [hdrop] at e1
        obtain ⟨rfl, rfl⟩ := List.cons.inj e1
        subst e2
        -- number = calls[place]
        refine ⟨_, rfl, _, rfl, ca, _, _, _, rfl, rfl, wS.seq hS', atI_nat (j := pl) (by rw [List.getElem?_map, hz]; rfl), ?_⟩
        -- behind = place + 1 + ARGUMENTS[number]
        refine ⟨_, rfl, _, _, rfl, rfl, _, rfl, A.a_ARGUMENTS, _, _, _, rfl, rfl, kA H', atI_nat (j := j) (argcs_at hn), _, _, rfl, rfl, ?_⟩
        have hbe : ((pl : Nat) : Int) + 1 + ((n : Nat) : Int) = ((pl + 1 + n : Nat) : Int) := by omega
        show gName 5 (V.int (((pl : Nat) : Int) + 1 + ((n : Nat) : Int))) _ _ _
        rw [hbe]
        have hln : pl + 1 + n ≤ ns.length := by
          rw [List.length_drop] at hnr
          omega
        -- answer = answer_to(desk, number, calls[place + 1:behind]), given locked
        refine ⟨g, _, hg, trivial, fun od => ?_⟩
        have sL : Same (wo H' g) (upd H' g (.frz od (.lst (gv.map V.int)))) := fun b o h => by
          rw [upd_ne (wo_ne h)]
          exact wo_at h
        have sL2 : Same (wo (wo H' d) g) (wo (upd H' g (.frz od (.lst (gv.map V.int)))) d) := fun b o h => wo_of (sL _ _ (wo_of (wo_at (wo_at h)) (wo_ne h))) (wo_ne (wo_at h))
        have hgL : upd H' g (.frz od (.lst (gv.map V.int))) g = some (.frz od (.lst (gv.map V.int))) := upd_same
        have DL := hD.same sL
        generalize upd H' g (.frz od (.lst (gv.map V.int))) = HL at sL sL2 hgL DL ⊢
        refine ⟨_, rfl, _, rfl, _, rfl, _, rfl, _, _, rfl, rfl, _, rfl, _, rfl, _, rfl, ca, _, rfl, ((sL2.trans (wo_le HL d)).seq hS'), fun tl ntl => ?_⟩
        have hp1 : ((pl : Nat) : Int) + 1 = ((pl + 1 : Nat) : Int) := by omega
        rw [hp1, cut_ints ns (pl + 1) (pl + 1 + n) hln, show pl + 1 + n - (pl + 1) = n by omega]
        have sT : Same HL (upd HL tl (.lst (((ns.drop (pl + 1)).take n).map V.int))) := same_upd ntl
        have hlt : ((ns.drop (pl + 1)).take n).length = n := by rw [List.length_take]; omega
        refine ⟨d, tl, st, j, (ns.drop (pl + 1)).take n, rfl, DL.same sT, okst, upd_same, hj, by rw [hlt]; exact hn, hasked _ (List.mem_cons_self ..), fun H3 p3 s3 D3 hp3 => ?_⟩
        have gd' : g ≠ d := gd
        have s3' : Same (wo HL d) (wo H3 d) := (wo_same sT).trans s3
        have hg3 : H3 g = some (.frz od (.lst (gv.map V.int))) := wo_at (s3' _ _ (wo_of hgL gd'))
        refine ⟨hg3, ?_⟩
        -- unlocked again
        have St : Stay H3 (wo (upd H3 g (.lst (gv.map V.int))) g) := fun b o h nf => by
          have bg : b ≠ g := fun z => by
            rw [z, hg3] at h
            exact nf _ _ (Option.some.inj h).symm
          exact wo_of (by rw [upd_ne bg]; exact h) bg
        have D4 := D3.stay St
        have hg4 : upd H3 g (.lst (gv.map V.int)) g = some (.lst (gv.map V.int)) := upd_same
        have pg : p3 ≠ g := ne_of hp3 hg3 (by intro z; cases z)
        have hp4 : wo (upd H3 g (.lst (gv.map V.int))) g p3 = some (.lst ((Kv417Neutral.step st [(j : Int) :: (ns.drop (pl + 1)).take n]).2.map V.int)) := wo_of (by rw [upd_ne pg]; exact hp3) pg
        have hS4 : SqL K (wo (wo (upd H3 g (.lst (gv.map V.int))) d) g) ca (ns.map V.int) := by
          have q : Same (wo (wo H' d) g) (wo (wo (upd H3 g (.lst (gv.map V.int))) d) g) := fun b o h => by
            have h3 := s3' _ _ (sL2 _ _ h)
            have bg := wo_ne h
            exact wo_of (wo_of (by rw [upd_ne bg]; exact wo_at h3) (wo_ne h3)) bg
          exact q.seq hS'
        generalize upd H3 g (.lst (gv.map V.int)) = H4 at D4 hg4 hp4 hS4 ⊢
        have hrow := row_len st [(j : Int) :: (ns.drop (pl + 1)).take n] rest' _ rfl
        have heq' := heq
        rw [hrow] at heq'
        generalize hr2 : (Kv417Neutral.step st [(j : Int) :: (ns.drop (pl + 1)).take n]).2 = row at hp4 heq'
        have hlen2 := hshort
        rw [heq', List.length_append, List.length_cons, List.length_append] at hlen2
        -- given.append(len(answer))
        refine ⟨_, rfl, .inl ⟨rfl, _, SqL.of hg4⟩, _, rfl, p3, _, rfl, .inl (SqL.of (wo_at hp4)), g, _, _, rfl, rfl, hg4, by rw [List.length_map]; exact Nat.lt_of_le_of_lt (m := 10000000) (by omega) (by decide), ?_⟩
        rw [List.length_map]
        have e5 : gv.map V.int ++ [V.int ((row.length : Nat) : Int)] = (gv ++ [((row.length : Nat) : Int)]).map V.int := by rw [List.map_append]; rfl
        rw [e5]
        have hg5 : upd H4 g (.lst ((gv ++ [((row.length : Nat) : Int)]).map V.int)) g = some (.lst ((gv ++ [((row.length : Nat) : Int)]).map V.int)) := upd_same
        have hp5 : upd H4 g (.lst ((gv ++ [((row.length : Nat) : Int)]).map V.int)) p3 = some (.lst (row.map V.int)) := by rw [upd_ne pg]; exact wo_at hp4
        -- given.extend(answer)
        refine ⟨_, rfl, .inl ⟨rfl, _, SqL.of hg5⟩, _, rfl, g, p3, _, _, rfl, rfl, hg5, hp5, by rw [List.length_map, List.length_map, List.length_append, List.length_singleton]; exact Nat.le_trans (m := 10000000) (by omega) (by decide), ?_⟩
        rw [upd_upd, ← List.map_append]
        have wo6 : ∀ o, wo (upd H4 g o) g = wo H4 g := fun o => by
          funext b
          unfold wo
          by_cases c : b = g
          · rw [if_pos c, if_pos c]
          · rw [if_neg c, if_neg c, upd_ne c]
        have wo7 : ∀ o, wo (wo (upd H4 g o) d) g = wo (wo H4 d) g := fun o => by
          funext b
          unfold wo
          by_cases c : b = g
          · rw [if_pos c, if_pos c]
          · rw [if_neg c, if_neg c, upd_ne c]
        -- place = behind
        refine ⟨_, rfl, ⟨pl + 1 + n, _, f', rest', gv ++ [((row.length : Nat) : Int)] ++ row, _, _, _, rfl, hln, ?_, fun c hc => hasked c (List.mem_cons_of_mem _ hc), Ma.ok_step okst _, by rw [wo6]; exact D4, upd_same, by rw [wo7]; exact hS4, ?_⟩, ?_⟩
        · rw [List.drop_drop] at hrest
          exact hrest
        · rw [heq', List.append_assoc, List.append_assoc]
          rfl
        · show ns.length - ((pl + 1 + n : Nat) : Int).toNat < ns.length - ((pl : Nat) : Int).toNat
          omega
      · have dc : decide ((pl : Int) < ((ns.length : Nat) : Int)) = false := decide_eq_false (by omega)
        rw [dc]
        have ep : pl = ns.length := by omega
        subst ep
        rw [List.drop_length] at hcalls
        have er : rest = [] := by
          rcases Ma.calls_step hcalls with ⟨_, e⟩ | ⟨j, n, r, f', rest', e1, _⟩
          · exact e
          · cases e1
        subst er
        refine iteF ⟨_, rfl, k H' g ?_⟩
        rw [heq]
        show _ = some (HO.lst ((gv ++ []).map V.int))
        rw [List.append_nil]
        exact hg
    · intro σ H Q Q' hq h
      obtain ⟨v, h1, v2, h2, p, xs, h3, h4, i', j', h5, h6, kk, h7, h8⟩ := h
      exact ⟨v, h1, v2, h2, p, xs, h3, h4, i', j', h5, h6, kk, h7, hq _ _ h8⟩
end
end Py
namespace Py
open PySem PySem.Spec PyProof.Rows L2
open Kv414 (Q gcd' Factor)
open Kv415 (Station Point)
open Kv417 (Fact Letter Now Abs)
theorem nums_short {p : Nat → Bool} {f m : Nat} (h6 : m ≤ 6) (hf : f < m) : (nums ((List.range f).filter p)).length < sizeLine := by
  rw [List.length_map]
  have := List.length_filter_le p (List.range f)
  rw [List.length_range] at this
  exact Nat.lt_of_le_of_lt (m := 6) (by omega) (by decide)
section
variable {P : Program} {w : World} {K : PySem.W.Frag} {mg : Str → Option Value} {base : Heap} {A : Ad}
def sp_counted : Sp := fun vs H R _ => ∃ (p : Addr) (l : List Nat), vs = [.ref p] ∧ H p = some (.lst (nums l)) ∧ l.length ≤ 6 ∧ ∀ H' q, Same H H' → H' q = some (.lst ((Kv417Neutral.row (Kv417.list l)).map V.int)) → R (.ref q) H'
theorem ok_counted (T : Txt K mg A) : FnOk P w K mg base CX0 1 A.f_counted A.fd_counted ["facts"] sp_counted := by
  refine T.d_counted.F.ok sc_counted (fun vs H Q E h => ?_) (fun cdv _ outer s H vs R E hr h => ?_)
  · obtain ⟨p, l, rfl, _⟩ := h
    rfl
  · obtain ⟨p1, l, rfl, hp1, hl6, k⟩ := h
    refine ⟨_, (pss_one (ps_ret (pe_op op_cat (pe_lst (pa_cons (pe_callB call_len_seq (by rfl) T.b_len (by decide +kernel) (pa_cons (pv 0) pa_nil)) pa_nil)) (pv 0)))), ?_⟩
    refine ⟨_, rfl, p1, _, rfl, .inl (SqL.of hp1), by show 1 ≤ sizeLine; decide, fun q1 m1 => ?_⟩
    refine ⟨_, rfl, q1, p1, _, _, rfl, rfl, upd_same, upd_at hp1 m1, ?_, fun p hp => ?_⟩
    · rw [List.length_map, List.length_singleton]
      exact Nat.le_trans (m := 7) (Nat.add_le_add_left hl6 1) (by decide)
    · refine k _ p ((same_upd m1).trans (same_upd hp)) ?_
      rw [upd_same, row_list, List.length_map]
def sp_has_both (A : Ad) : Sp := fun vs H R _ => ∃ (a : Addr) (n : Now) (i f : Int), vs = [.ref a, .int i, .int f] ∧ NowAt A H a n ∧ 0 ≤ i ∧ 0 ≤ f ∧ R (.bl (decide (i.toNat < n.st.length) && decide (f.toNat < n.facts.length))) H
theorem ok_has_both (T : Txt K mg A) : FnOk P w K mg base CX0 2 A.f_has_both A.fd_has_both ["state", "i", "f"] (sp_has_both A) := by
  refine T.d_has_both.F.ok sc_has_both (fun vs H Q E h => ?_) (fun cdv _ outer s H vs R E hr h => ?_)
  · obtain ⟨p, n, i, f, rfl, _⟩ := h
    rfl
  · obtain ⟨a, n, i, f, rfl, hN, hi, hf, k⟩ := h
    refine ⟨_, (pss_one (ps_ret (pe_and (pe_call (ok_has_station T) (hr.mono (by decide)) (by rfl) T.d_has_station.g T.d_has_station.F.kp T.d_has_station.b .nil pass0 (pa_cons (pv 0) (pa_cons (pv 1) pa_nil))) (pe_one (pe_call (ok_has_fact T) (hr.mono (by decide)) (by rfl) T.d_has_fact.g T.d_has_fact.F.kp T.d_has_fact.b .nil pass0 (pa_cons (pv 0) (pa_cons (pv 2) pa_nil))))))), ?_⟩
    refine ⟨_, rfl, _, rfl, a, n, i, rfl, hN, hi, _, rfl, ?_⟩
    cases c : decide (i.toNat < n.st.length) with
    | false =>
      rw [c, Bool.false_and] at k
      exact iteF k
    | true =>
      rw [c, Bool.true_and] at k
      exact iteT ⟨_, rfl, _, rfl, a, n, f, rfl, hN, hf, k⟩
def sp_known (A : Ad) (c : Nat → Int → Nat → Kv417.Call) : Sp := fun vs H R _ => ∃ (d : Addr) (a : Abs) (i n q : Int), vs = [.ref d, .int i, .int n, .int q] ∧ DeskAt A H d (some a) ∧ OkA a ∧ 0 ≤ i ∧ 0 ≤ q ∧ RetC A H d a (c i.toNat n q.toNat) R
theorem does_known (a : Abs) (i : Nat) (n : Int) (d : Nat) : a.does (.known i n d) = if a.now.noS i then (a, Kv417.say (-2)) else if Kv415.okT n d = false then (a, Kv417.say (-22)) else (a, Kv417.list (a.now.known i (Kv415.t_ n d))) := rfl
theorem ok_known (T : Txt K mg A) : FnOk P w K mg base CX0 5 A.f_known A.fd_known ["desk", "i", "n", "d"] (sp_known A .known) := by
  refine T.d_known.F.ok sc_known (fun vs H Q E h => ?_) (fun cdv _ outer s H vs R E hr h => ?_)
  · obtain ⟨d, a, i, n, q, rfl, _⟩ := h
    rfl
  · obtain ⟨d, a, i, n, q, rfl, hd, ok, hi, hq, k⟩ := h
    obtain ⟨dd, nn, pl, ps, h1, h2, h3, h4⟩ := id hd
    have hN : NowAt A H nn a.now := h3.same (wo_le H d)
    obtain ⟨i, rfl⟩ : ∃ j : Nat, i = (j : Int) := ⟨i.toNat, by omega⟩
    rw [Int.toNat_natCast] at k
    have e1 := does_known a i n q.toNat
    refine ⟨_, (pss_cons (ps_if (pt_not (pt_val (pe_call (ok_has_station T) (hr.mono (by decide)) (by rfl) T.d_has_station.g T.d_has_station.F.kp T.d_has_station.b .nil pass0 (pa_cons (pe_fld (pv 0) rfl) (pa_cons (pv 1) pa_nil))))) (pss_one (ps_ret (pe_lst (pa_cons (pe_glob (v := .int (-2)) rfl T.k_NO_SUCH ⟨_, rfl⟩) pa_nil)))) pss_nil)
 (pss_cons (ps_if (pt_not (pt_val (pe_call (ok_is_clock_number T) (hr.mono (by decide)) (by rfl) T.d_is_clock_number.g T.d_is_clock_number.F.kp T.d_is_clock_number.b .nil pass0 (pa_cons (pv 2) (pa_cons (pv 3) pa_nil))))) (pss_one (ps_ret (pe_lst (pa_cons (pe_glob (v := .int (-22)) rfl T.k_OUT_OF_RANGE ⟨_, rfl⟩) pa_nil)))) pss_nil)
 (pss_one (ps_ret (pe_call (ok_counted T) (hr.mono (by decide)) (by rfl) T.d_counted.g T.d_counted.F.kp T.d_counted.b .nil pass0 (pa_cons (pe_call (ok_facts_known T) (hr.mono (by decide)) (by rfl) T.d_facts_known.g T.d_facts_known.F.kp T.d_facts_known.b .nil pass0 (pa_cons (pe_fld (pv 0) rfl) (pa_cons (pv 1) (pa_cons (pe_call (ok_fraction T) (hr.mono (by decide)) (by rfl) T.d_fraction.g T.d_fraction.F.kp T.d_fraction.b .nil pass0 (pa_cons (pv 2) (pa_cons (pv 3) pa_nil))) pa_nil)))) pa_nil)))))), ?_⟩
    refine ⟨_, rfl, d, _, dd, _, _, rfl, h1, T.cDesk.cl, T.cDesk.na _ (.head _), fs_Desk_state _ _, _, rfl, nn, a.now, _, rfl, hN, hi, _, rfl, ?_⟩
    rw [Int.toNat_natCast]
    by_cases c1 : i < a.now.st.length
    case neg =>
      rw [decide_eq_false c1]
      rw [if_pos (noS_not c1)] at e1
      refine iteT ⟨by show 1 ≤ sizeLine; decide, fun p hp => ?_⟩
      exact k.say hd e1 (Same.refl H) hp
    rw [decide_eq_true c1]
    rw [noS_of c1, if_neg Bool.false_ne_true] at e1
    refine iteF ⟨_, rfl, _, rfl, n, q, rfl, _, rfl, ?_⟩
    cases c2 : Kv415.okT n q.toNat with
    | false =>
      rw [c2, if_pos rfl] at e1
      refine iteT ⟨by show 1 ≤ sizeLine; decide, fun p hp => ?_⟩
      exact k.say hd e1 (Same.refl H) hp
    | true =>
    rw [c2, if_neg (by decide)] at e1
    have okt := Ma.t_ok c2
    obtain ⟨hq0, hb1, hb2⟩ := okT_pos c2
    refine iteF ⟨_, rfl, d, _, dd, _, _, rfl, h1, T.cDesk.cl, T.cDesk.na _ (.head _), fs_Desk_state _ _, _, rfl, _, rfl, _, rfl, n, q, rfl, hq0, hb1, hb2, fun pw H2 s2 hw => ?_⟩
    refine ⟨nn, pw, a.now, _, _, rfl, hN.same s2, ok.now, hw, sm_c okt, fun H3 p3 s3 _ hp3 => ?_⟩
    refine ⟨p3, _, rfl, hp3, Nat.le_trans known_len ok.now.nf, fun H4 p4 s4 hp4 => ?_⟩
    exact Ret.look (k.of e1) hd (s2.trans (s3.trans s4)) hp4
theorem does_could (a : Abs) (i : Nat) (n : Int) (d : Nat) : a.does (.could i n d) = if a.now.noS i then (a, Kv417.say (-2)) else if Kv415.okT n d = false then (a, Kv417.say (-22)) else (a, Kv417.list (a.now.could i (Kv415.t_ n d))) := rfl
theorem ok_could (T : Txt K mg A) : FnOk P w K mg base CX0 8 A.f_could A.fd_could ["desk", "i", "n", "d"] (sp_known A .could) := by
  refine T.d_could.F.ok sc_could (fun vs H Q E h => ?_) (fun cdv _ outer s H vs R E hr h => ?_)
  · obtain ⟨d, a, i, n, q, rfl, _⟩ := h
    rfl
  · obtain ⟨d, a, i, n, q, rfl, hd, ok, hi, hq, k⟩ := h
    obtain ⟨dd, nn, pl, ps, h1, h2, h3, h4⟩ := id hd
    have hN : NowAt A H nn a.now := h3.same (wo_le H d)
    obtain ⟨i, rfl⟩ : ∃ j : Nat, i = (j : Int) := ⟨i.toNat, by omega⟩
    rw [Int.toNat_natCast] at k
    have e1 := does_could a i n q.toNat
    refine ⟨_, (pss_cons (ps_set (i := 4) sc_could.nd rfl (Or.inr rfl) (pe_fld (pv 0) rfl))
 (pss_cons (ps_if (pt_not (pt_val (pe_call (ok_has_station T) (hr.mono (by decide)) (by rfl) T.d_has_station.g T.d_has_station.F.kp T.d_has_station.b .nil pass0 (pa_cons (pv 4) (pa_cons (pv 1) pa_nil))))) (pss_one (ps_ret (pe_lst (pa_cons (pe_glob (v := .int (-2)) rfl T.k_NO_SUCH ⟨_, rfl⟩) pa_nil)))) pss_nil)
 (pss_cons (ps_if (pt_not (pt_val (pe_call (ok_is_clock_number T) (hr.mono (by decide)) (by rfl) T.d_is_clock_number.g T.d_is_clock_number.F.kp T.d_is_clock_number.b .nil pass0 (pa_cons (pv 2) (pa_cons (pv 3) pa_nil))))) (pss_one (ps_ret (pe_lst (pa_cons (pe_glob (v := .int (-22)) rfl T.k_OUT_OF_RANGE ⟨_, rfl⟩) pa_nil)))) pss_nil)
 (pss_cons (ps_set (i := 5) sc_could.nd rfl (Or.inr rfl) (pe_call (ok_fraction T) (hr.mono (by decide)) (by rfl) T.d_fraction.g T.d_fraction.F.kp T.d_fraction.b .nil pass0 (pa_cons (pv 2) (pa_cons (pv 3) pa_nil))))
 (pss_one (ps_ret (pe_call (ok_counted T) (hr.mono (by decide)) (by rfl) T.d_counted.g T.d_counted.F.kp T.d_counted.b .nil pass0 (pa_cons (pe_lc (own := [("f", 6)]) (g := gName 6)  rfl sc_could.nd (pi_range1 (by rfl) T.b_range (pa_cons (pe_callB call_len_seq (by rfl) T.b_len (by decide +kernel) (pa_cons (pe_fld (pv 4) rfl) pa_nil)) pa_nil)) (blkOk_by (N := N_could) (sc := defScope s_could) (by decide +kernel)) (fun _ _ _ _ _ => (pg_name (i := 6) sc_could.nd rfl (Or.inl rfl))) (fun _ _ _ _ _ => pts_one (pt_val (pe_call (ok_could_know T) (hr.mono (by decide)) (by rfl) T.d_could_know.g T.d_could_know.F.kp T.d_could_know.b .nil pass0 (pa_cons (pv 4) (pa_cons (pv 1) (pa_cons (pv 6) (pa_cons (pv 5) pa_nil))))))) (fun _ _ _ _ _ => (pv 6))) pa_nil)))))))), ?_⟩
    refine ⟨_, rfl, d, _, dd, _, _, rfl, h1, T.cDesk.cl, T.cDesk.na _ (.head _), fs_Desk_state _ _, ?_⟩
    refine ⟨_, rfl, _, rfl, nn, a.now, _, rfl, hN, hi, _, rfl, ?_⟩
    rw [Int.toNat_natCast]
    by_cases c1 : i < a.now.st.length
    case neg =>
      rw [decide_eq_false c1]
      rw [if_pos (noS_not c1)] at e1
      refine iteT ⟨by show 1 ≤ sizeLine; decide, fun p hp => ?_⟩
      exact k.say hd e1 (Same.refl H) hp
    rw [decide_eq_true c1]
    rw [noS_of c1, if_neg Bool.false_ne_true] at e1
    refine iteF ⟨_, rfl, _, rfl, n, q, rfl, _, rfl, ?_⟩
    cases c2 : Kv415.okT n q.toNat with
    | false =>
      rw [c2, if_pos rfl] at e1
      refine iteT ⟨by show 1 ≤ sizeLine; decide, fun p hp => ?_⟩
      exact k.say hd e1 (Same.refl H) hp
    | true =>
    rw [c2, if_neg (by decide)] at e1
    have okt := Ma.t_ok c2
    obtain ⟨hq0, hb1, hb2⟩ := okT_pos c2
    refine iteF ⟨_, rfl, _, rfl, n, q, rfl, hq0, hb1, hb2, fun pw H2 s2 hw => ?_⟩
    obtain ⟨dx, ls, lf, ll, ss, fs, ms, hR⟩ := id hN
    have hR2 := hR.same s2
    have hlen : ((refs fs).length : Int) = ((a.now.facts.length : Nat) : Int) := by rw [List.length_map, pr_len hR.fp]
    refine ⟨_, rfl, nn, _, dx, _, _, rfl, hR2.o, T.cState.cl, T.cState.na _ (.tail _ (.head _)), fs_State_facts _ _ _ _ _, lf, _, rfl, .inl (SqL.of hR2.f), ?_⟩
    rw [hlen]
    have hn6 := ok.now.nf
    refine ⟨_, rfl, by omega, Int.lt_of_le_of_lt (b := 6) (by omega) (by decide), fun D nD => ?_⟩
    rw [Int.toNat_natCast]
    refine lc_range (fun j H4 => Same H2 H4 ∧ H4 D = some (.lst (nums ((List.range j).filter fun f => (a.now.first i f).le (Kv415.t_ n q.toNat))))) ⟨same_upd nD, upd_same⟩ ?_ ?_
    · rintro f H4 hf ⟨s4, hD⟩
      refine ⟨rfl, ?_⟩
      have s24 := s2.trans s4
      have ef : (0 : Int) + (f : Nat) = ((f : Nat) : Int) := Int.zero_add _
      rw [ef]
      refine ⟨_, rfl, _, rfl, _, rfl, _, rfl, nn, pw, a.now, i, f, _, rfl, hN.same s24, ok.now, c1, hf, s4 _ _ hw, sm_c okt, fun H5 s5 => ?_⟩
      have step := range_filter_snoc (fun f => (a.now.first i f).le (Kv415.t_ n q.toNat)) f
      obtain ⟨b, hb⟩ : ∃ b, (a.now.first i f).le (Kv415.t_ n q.toNat) = b := ⟨_, rfl⟩
      have hD5 := s5 _ _ hD
      rw [hb] at step
      refine ⟨b, congrArg V.bl hb, ?_⟩
      cases b with
      | false =>
        refine iteF ⟨s4.trans s5, ?_⟩
        rw [step, if_neg Bool.false_ne_true, List.append_nil]
        exact hD5
      | true =>
        refine iteT ⟨_, rfl, _, hD5, nums_short hn6 hf, fun b o h => ?_, ?_⟩
        · rw [upd_ne (ne_of_none h nD)]
          exact (s4.trans s5) _ _ h
        · rw [upd_same, step, if_pos rfl, nums_snoc]
    · rintro H4 ⟨s4, hD⟩
      refine ⟨D, _, rfl, hD, ?_, fun H5 p5 s5 hp5 => ?_⟩
      · refine Nat.le_trans (List.length_filter_le _ _) ?_
        rw [List.length_range]
        exact hn6
      · exact Ret.look (k.of e1) hd (s2.trans (s4.trans s5)) hp5
def sp_2 (A : Ad) (c : Nat → Nat → Kv417.Call) : Sp := fun vs H R _ => ∃ (d : Addr) (a : Abs) (i f : Int), vs = [.ref d, .int i, .int f] ∧ DeskAt A H d (some a) ∧ OkA a ∧ 0 ≤ i ∧ 0 ≤ f ∧ RetC A H d a (c i.toNat f.toNat) R
theorem does_first (a : Abs) (i f : Nat) : a.does (.first i f) = if a.now.noS i ∨ a.now.noF f then (a, Kv417.say (-2)) else (a, ⟨0, (a.now.first i f).told⟩) := rfl
theorem noSF {n : Now} {i f : Nat} (h : (decide (i < n.st.length) && decide (f < n.facts.length)) = false) : n.noS i = true ∨ n.noF f = true := by
  rw [Bool.and_eq_false_iff, decide_eq_false_iff_not, decide_eq_false_iff_not] at h
  rcases h with h | h
  · exact .inl (noS_not h)
  · exact .inr (noF_not h)
theorem hasSF {n : Now} {i f : Nat} (h : (decide (i < n.st.length) && decide (f < n.facts.length)) = true) : i < n.st.length ∧ f < n.facts.length ∧ ¬ (n.noS i = true ∨ n.noF f = true) := by
  rw [Bool.and_eq_true, decide_eq_true_iff, decide_eq_true_iff] at h
  refine ⟨h.1, h.2, ?_⟩
  rw [noS_of h.1, noF_of h.2]
  simp
theorem first_ok {n : Now} (ok : OkN n) {i f : Nat} (hi : i < n.st.length) (hf : f < n.facts.length) : Ma.OkT (n.first i f) := ⟨Ma.hears_B (ok.ok hi) (ok_where ok hf), Ma.hears_low (ok.ok hi) (ok_where ok hf)⟩
theorem sm_t {q : Q} (h : Ma.OkT q) : Sm q := Sm.of h.b (by decide) (by decide)
theorem ok_first (T : Txt K mg A) : FnOk P w K mg base CX0 7 A.f_first A.fd_first ["desk", "i", "f"] (sp_2 A .first) := by
  refine T.d_first.F.ok sc_first (fun vs H Q E h => ?_) (fun cdv _ outer s H vs R E hr h => ?_)
  · obtain ⟨d, a, i, f, rfl, _⟩ := h
    rfl
  · obtain ⟨d, a, i, f, rfl, hd, ok, hi, hf, k⟩ := h
    obtain ⟨dd, nn, pl, ps, h1, h2, h3, h4⟩ := id hd
    have hN : NowAt A H nn a.now := h3.same (wo_le H d)
    obtain ⟨i, rfl⟩ : ∃ j : Nat, i = (j : Int) := ⟨i.toNat, by omega⟩
    obtain ⟨f, rfl⟩ : ∃ j : Nat, f = (j : Int) := ⟨f.toNat, by omega⟩
    rw [Int.toNat_natCast, Int.toNat_natCast] at k
    have e1 := does_first a i f
    refine ⟨_, (pss_cons (ps_if (pt_not (pt_val (pe_call (ok_has_both T) (hr.mono (by decide)) (by rfl) T.d_has_both.g T.d_has_both.F.kp T.d_has_both.b .nil pass0 (pa_cons (pe_fld (pv 0) rfl) (pa_cons (pv 1) (pa_cons (pv 2) pa_nil)))))) (pss_one (ps_ret (pe_lst (pa_cons (pe_glob (v := .int (-2)) rfl T.k_NO_SUCH ⟨_, rfl⟩) pa_nil)))) pss_nil)
 (pss_one (ps_ret (pe_op op_cat (pe_lst (pa_cons pe_int pa_nil)) (pe_callTy call_list_of (by rfl) T.b_list (by decide +kernel) (pa_cons (pe_call (ok_first_heard T) (hr.mono (by decide)) (by rfl) T.d_first_heard.g T.d_first_heard.F.kp T.d_first_heard.b .nil pass0 (pa_cons (pe_fld (pv 0) rfl) (pa_cons (pv 1) (pa_cons (pv 2) pa_nil)))) pa_nil)))))), ?_⟩
    refine ⟨_, rfl, d, _, dd, _, _, rfl, h1, T.cDesk.cl, T.cDesk.na _ (.head _), fs_Desk_state _ _, _, rfl, _, rfl, nn, a.now, _, _, rfl, hN, hi, hf, _, rfl, ?_⟩
    rw [Int.toNat_natCast, Int.toNat_natCast]
    cases c1 : (decide (i < a.now.st.length) && decide (f < a.now.facts.length)) with
    | false =>
      rw [if_pos (noSF c1)] at e1
      refine iteT ⟨by show 1 ≤ sizeLine; decide, fun p hp => ?_⟩
      exact k.say hd e1 (Same.refl H) hp
    | true =>
    obtain ⟨ci, cf, cn⟩ := hasSF c1
    rw [if_neg cn, Ma.told_low (first_ok ok.now ci cf).low] at e1
    refine iteF ⟨by show 1 ≤ sizeLine; decide, fun q1 m1 => ?_⟩
    have s1 : Same H (upd H q1 (.lst [.int 0])) := same_upd m1
    refine ⟨_, rfl, d, _, dd, _, _, rfl, s1 _ _ h1, T.cDesk.cl, T.cDesk.na _ (.head _), fs_Desk_state _ _, _, rfl, _, rfl, nn, a.now, i, f, rfl, hN.same s1, ok.now, ci, cf, fun p2 H2 s2 hp2 => ?_⟩
    refine ⟨p2, _, rfl, .inr (at0 hp2), fun q2 m2 => ?_⟩
    refine ⟨q1, q2, _, _, rfl, rfl, upd_at (s2 _ _ upd_same) m2, upd_same, by show 3 ≤ sizeLine; decide, fun p hp => ?_⟩
    exact Ret.look (k.of e1) hd (s1.trans (s2.trans ((same_upd m2).trans (same_upd hp)))) upd_same
end
end Py
namespace Py
open PySem PySem.Spec PyProof.Rows L2
open Kv414 (Q gcd' Factor)
open Kv415 (Station Point)
open Kv417 (Fact Letter Now Abs)
/-- a fraction, or None -/
def OptAt (H : Hp) (v : V) : Option Q → Prop
  | none => v = .non
  | some q => ∃ p, v = .ref p ∧ H p = some (tupQ q)
theorem OptAt.same {H H' : Hp} {v : V} {o : Option Q} (h : OptAt H v o) (s : Same H H') : OptAt H' v o := by
  cases o with
  | none => exact h
  | some q =>
    obtain ⟨p, e, hp⟩ := h
    exact ⟨p, e, s _ _ hp⟩
theorem comes_ok {n : Now} (ok : OkN n) {m : Nat} (h : m < n.letters.length) : Ma.OkT (n.comes m) :=
  ⟨Ma.hears_B (ok.ok (ok.letter h).2.1) (Ma.at_ok (ok.ok (ok.letter h).1) (ok.letter h).2.2), comes_low ok h⟩
theorem knewTo_ok {n : Now} (ok : OkN n) {i f : Nat} (hf : f < n.facts.length) : ∀ m, m ≤ n.letters.length → ∀ q, Ma.knewTo n i f m = some q → Ma.OkT q
  | 0, _, q, e => by
    unfold Ma.knewTo at e
    rw [show List.range 0 = [] from rfl] at e
    have e' : (if (n.fact f).i = i then some (n.fact f).s else none) = some q := e
    split at e'
    · rw [← Option.some.inj e']
      exact (ok.fact hf).2.t
    · cases e'
  | m + 1, h, q, e => by
    cases c : Ma.brings n i f m with
    | false =>
      rw [Ma.knewTo_no c] at e
      exact knewTo_ok ok hf m (by omega) q e
    | true =>
      rw [Ma.knewTo_yes c] at e
      have hc := comes_ok ok (m := m) (by omega)
      cases e2 : Ma.knewTo n i f m with
      | none =>
        rw [e2] at e
        rw [← Option.some.inj (show some (n.comes m) = some q from e)]
        exact hc
      | some y =>
        rw [e2] at e
        have hy := knewTo_ok ok hf m (by omega) y e2
        have e' : (if y.le (n.comes m) then some y else some (n.comes m)) = some q := e
        split at e'
        · rw [← Option.some.inj e']
          exact hy
        · rw [← Option.some.inj e']
          exact hc
theorem ite_at {b : Bool} {X Y : Prop} {N : L2.St → Hp → Prop} {σ : V → L2.St} {H : Hp} {Z : V → Prop} (v1 v2 : V) (h1 : b = true → Z v1) (h2 : b = false → Z v2) (hx : N (σ v1) H → X) (hy : N (σ v2) H → Y) (h : ∀ v, Z v → N (σ v) H) : if b = true then X else Y := by
  cases b with
  | true =>
    rw [if_pos rfl]
    exact hx (h v1 (h1 rfl))
  | false =>
    rw [if_neg Bool.false_ne_true]
    exact hy (h v2 (h2 rfl))
section
variable {P : Program} {w : World} {K : PySem.W.Frag} {mg : Str → Option Value} {base : Heap} {A : Ad}
def sp_first_known (A : Ad) : Sp := fun vs H R _ => ∃ (a : Addr) (n : Now) (i f : Nat), vs = [.ref a, .int (i : Nat), .int (f : Nat)] ∧ NowAt A H a n ∧ OkN n ∧ f < n.facts.length ∧ ∀ H' v, Same H H' → OptAt H' v (n.knew i f) → R v H'
theorem ok_first_known (T : Txt K mg A) : FnOk P w K mg base CX0 5 A.f_first_known A.fd_first_known ["state", "station", "f"] (sp_first_known A) := by
  refine T.d_first_known.F.ok sc_first_known (fun vs H Q E h => ?_) (fun cdv _ outer s H vs R E hr h => ?_)
  · obtain ⟨a, n, i, f, rfl, _⟩ := h
    rfl
  · obtain ⟨a, n, i, f, rfl, hN, ok, hf, k⟩ := h
    obtain ⟨dx, ls, lf, ll, ss, fs, ms, hn⟩ := id hN
    obtain ⟨fp, hfp, ⟨df, ft, fc, g1, g2, g3⟩⟩ := hn.fact hf
    refine ⟨_, (pss_cons (ps_set (i := 3) sc_first_known.nd rfl (Or.inl rfl) (pe_ix ix_list (pe_fld (pv 0) rfl) (pv 2) (fun _ _ => rfl)))
 (pss_cons (ps_set (i := 4) sc_first_known.nd rfl (Or.inl rfl) pe_non)
 (pss_cons (ps_if (pt_cmpR op_eq (pe_fld (pv 3) rfl) (pv 1) (nomark _)) (pss_one (ps_set (i := 4) sc_first_known.nd rfl (Or.inl rfl) (pe_fld (pv 3) rfl))) pss_nil)
 (pss_cons (ps_for PassesOwn.never rfl (pi_list (pe_fld (pv 0) rfl)) (pg_name (i := 5) sc_first_known.nd rfl (Or.inl rfl)) (pss_one (ps_if (PW.pt (pw_and (pt_cmpR op_eq (pe_fld (pv 5) rfl) (pv 1) (nomark _)) (pw_and1 (pt_cmpR op_in_seq (pv 2) (pe_call (ok_facts_known T) (hr.mono (by decide)) (by rfl) T.d_facts_known.g T.d_facts_known.F.kp T.d_facts_known.b .nil pass0 (pa_cons (pv 0) (pa_cons (pe_fld (pv 5) rfl) (pa_cons (pe_fld (pv 5) rfl) pa_nil)))) (by rfl))))) (pss_one (ps_set (i := 4) sc_first_known.nd rfl (Or.inl rfl) (pe_ifExp (pt_cmpR op_isN (pv 4) pe_non (nomark _)) (pe_fld (pv 5) rfl) (pe_call (ok_lesser_of T) (hr.mono (by decide)) (by rfl) T.d_lesser_of.g T.d_lesser_of.F.kp T.d_lesser_of.b .nil pass0 (pa_cons (pv 4) (pa_cons (pe_fld (pv 5) rfl) pa_nil)))))) pss_nil)))
 (pss_one (ps_ret (pv 4))))))), ?_⟩
    -- fact = state.facts[f]; least = None
    refine ⟨_, rfl, a, _, dx, _, _, rfl, hn.o, T.cState.cl, T.cState.na _ (.tail _ (.head _)), fs_State_facts _ _ _ _ _, _, rfl, lf, _, _, _, rfl, rfl, SqL.of hn.f, atI_nat (j := f) hfp, ?_⟩
    -- if fact.station == station
    refine ⟨_, rfl, fp, _, df, _, _, rfl, g1, T.cFact.cl, T.cFact.na _ (.head _), fs_Fact_station _ _ _, _, rfl, rfl, _, rfl, ?_⟩
    rw [dec_nat]
    refine ite_at (σ := fun v => [some (.ref a), some (.int (i : Nat)), some (.int (f : Nat)), some (.ref fp), some v, none]) (Z := fun v => OptAt H v (Ma.knewTo n i f 0)) (.ref ft) .non (fun e => ?_) (fun e => ?_)
      (fun kk => ⟨_, rfl, fp, _, df, _, _, rfl, g1, T.cFact.cl, T.cFact.na _ (.tail _ (.head _)), fs_Fact_when _ _ _, kk⟩) (fun kk => kk) (fun v hv => ?_)
    · have e0 : Ma.knewTo n i f 0 = some (n.fact f).s := if_pos (beq_iff_eq.mp e)
      rw [e0]
      exact ⟨ft, rfl, g2⟩
    · have e0 : Ma.knewTo n i f 0 = none := if_neg (beq_eq_false_iff_ne.mp e)
      rw [e0]
      rfl
    -- for letter in state.letters
    refine ⟨_, rfl, a, _, dx, _, _, rfl, hn.o, T.cState.cl, T.cState.na _ (.tail _ (.tail _ (.head _))), fs_State_letters _ _ _ _ _, ll, rfl, ⟨_, SqL.of hn.l⟩, ?_⟩
    refine for_it (walk_list (xs := refs ms)) (fun m σ H2 => ∃ (v : V) (v5 : Option V), σ = [some (.ref a), some (.int (i : Nat)), some (.int (f : Nat)), some (.ref fp), some v, v5] ∧ m ≤ n.letters.length ∧ Same H H2 ∧ OptAt H2 v (Ma.knewTo n i f m))
      ⟨v, none, rfl, Nat.zero_le _, Same.refl H, hv⟩ ?_ ?_ ?_
    · rintro m σ H2 _ ⟨v, v5, rfl, _, s2, _⟩
      exact SqL.of (s2 _ _ hn.l)
    · rintro m y σ H2 H3 hm ⟨v, v5, rfl, _, s2, hv⟩ ⟨rfl, ey⟩
      have hml : m < n.letters.length := by
        rw [List.length_map] at hm
        rw [← pr_len hn.lp]
        exact hm
      obtain ⟨mp, hmp, ⟨dm, mt, mc, l1, l2, l3⟩⟩ := (hn.same s2).letter hml
      obtain rfl := Option.some.inj (ey.symm.trans hmp)
      refine ⟨_, rfl, mp, _, dm, _, _, rfl, l1, T.cLetter.cl, T.cLetter.na _ (.tail _ (.head _)), fs_Letter_receiver _ _ _ _, _, rfl, rfl, _, rfl, ?_⟩
      rw [dec_nat]
      cases c1 : ((n.letter m).j == i) with
      | false =>
        have hb : Ma.brings n i f m = false := by
          unfold Ma.brings
          rw [c1, Bool.false_and]
        refine iteF (iteF ⟨v, _, rfl, hml, s2, ?_⟩)
        rw [Ma.knewTo_no hb]
        exact hv
      | true =>
      refine iteT ⟨_, rfl, _, rfl, _, rfl, mp, _, dm, _, _, rfl, l1, T.cLetter.cl, T.cLetter.na _ (.head _), fs_Letter_sender _ _ _ _, _, rfl, mp, _, dm, _, _, rfl, l1, T.cLetter.cl, T.cLetter.na _ (.tail _ (.tail _ (.head _))), fs_Letter_sent _ _ _ _, ?_⟩
      refine ⟨a, mt, n, (n.letter m).i, (n.letter m).s, rfl, hN.same s2, ok, l2, sm_c (ok.letter hml).2.2, fun H3 p3 s3 _ hp3 => ?_⟩
      refine ⟨p3, _, rfl, .inl (SqL.of hp3), rfl, flat_nums _, _, rfl, ?_⟩
      rw [if_neg Bool.false_ne_true, inV_nums]
      have s23 := s2.trans s3
      have hv3 := hv.same s3
      cases c2 : (n.known (n.letter m).i (n.letter m).s).contains f with
      | false =>
        have hb : Ma.brings n i f m = false := by
          unfold Ma.brings
          rw [c1, Bool.true_and]
          exact c2
        refine iteF ⟨v, _, rfl, hml, s23, ?_⟩
        rw [Ma.knewTo_no hb]
        exact hv3
      | true =>
      have hb : Ma.brings n i f m = true := by
        unfold Ma.brings
        rw [c1, Bool.true_and]
        exact c2
      refine iteT ⟨_, rfl, rfl, _, rfl, ?_⟩
      have hc3 := s3 _ _ l3
      cases e : Ma.knewTo n i f m with
      | none =>
        rw [e] at hv3
        have ev : v = .non := hv3
        subst ev
        rw [decide_eq_true rfl]
        refine iteT ⟨_, rfl, mp, _, dm, _, _, rfl, s3 _ _ l1, T.cLetter.cl, T.cLetter.na _ (.tail _ (.tail _ (.tail _ (.head _)))), fs_Letter_arrives _ _ _ _, ?_⟩
        refine ⟨.ref mc, _, rfl, hml, s23, ?_⟩
        rw [Ma.knewTo_yes hb, e]
        exact ⟨mc, rfl, hc3⟩
      | some y =>
        have oky := knewTo_ok ok hf m (Nat.le_of_lt hml) y e
        rw [e] at hv3
        obtain ⟨yp, rfl, hy⟩ := hv3
        rw [decide_eq_false (by intro z; cases z)]
        refine iteF ⟨_, rfl, _, rfl, mp, _, dm, _, _, rfl, s3 _ _ l1, T.cLetter.cl, T.cLetter.na _ (.tail _ (.tail _ (.tail _ (.head _)))), fs_Letter_arrives _ _ _ _, ?_⟩
        refine ⟨yp, mc, y, n.comes m, rfl, hy, hc3, sm_t oky, sm_t (comes_ok ok hml), fun pr H4 s4 hpr => ?_⟩
        refine ⟨.ref pr, _, rfl, hml, s23.trans s4, ?_⟩
        rw [Ma.knewTo_yes hb, e]
        show OptAt H4 (.ref pr) (if y.le (n.comes m) then some y else some (n.comes m))
        dsimp only at hpr
        cases c : y.le (n.comes m) with
        | true =>
          rw [c, if_pos rfl] at hpr
          rw [if_pos rfl]
          exact ⟨pr, rfl, hpr⟩
        | false =>
          rw [c, if_neg Bool.false_ne_true] at hpr
          rw [if_neg Bool.false_ne_true]
          exact ⟨pr, rfl, hpr⟩
    · rintro σ H2 ⟨v, v5, rfl, _, s2, hv⟩
      refine ⟨_, rfl, k H2 v s2 ?_⟩
      rw [List.length_map, pr_len hn.lp, Ma.knewTo_all] at hv
      exact hv
end
end Py
namespace Py
open PySem PySem.Spec PyProof.Rows L2
open Kv414 (Q gcd' Factor)
open Kv415 (Station Point)
open Kv417 (Fact Letter Now Abs)
theorem knew_ok {n : Now} (ok : OkN n) {i f : Nat} (hf : f < n.facts.length) {q : Q} (h : n.knew i f = some q) : Ma.OkT q := by
  rw [← Ma.knewTo_all] at h
  exact knewTo_ok ok hf _ (Nat.le_refl _) q h
section
variable {P : Program} {w : World} {K : PySem.W.Frag} {mg : Str → Option Value} {base : Heap} {A : Ad}
theorem does_knew (a : Abs) (i f : Nat) : a.does (.knew i f) = if a.now.noS i ∨ a.now.noF f then (a, Kv417.say (-2)) else match a.now.knew i f with
    | none => (a, Kv417.say (-33))
    | some s => (a, ⟨0, s.told⟩) := rfl
theorem does_late (a : Abs) (i f : Nat) : a.does (.late i f) = if a.now.noS i ∨ a.now.noF f then (a, Kv417.say (-2)) else match a.now.knew i f with
    | none => (a, Kv417.say (-33))
    | some s => (a, ⟨0, (s.sub (a.now.first i f)).told⟩) := rfl
theorem ok_knew (T : Txt K mg A) : FnOk P w K mg base CX0 6 A.f_knew A.fd_knew ["desk", "i", "f"] (sp_2 A .knew) := by
  refine T.d_knew.F.ok sc_knew (fun vs H Q E h => ?_) (fun cdv _ outer s H vs R E hr h => ?_)
  · obtain ⟨d, a, i, f, rfl, _⟩ := h
    rfl
  · obtain ⟨d, a, i, f, rfl, hd, ok, hi, hf, k⟩ := h
    obtain ⟨dd, nn, pl, ps, h1, h2, h3, h4⟩ := id hd
    have hN : NowAt A H nn a.now := h3.same (wo_le H d)
    obtain ⟨i, rfl⟩ : ∃ j : Nat, i = (j : Int) := ⟨i.toNat, by omega⟩
    obtain ⟨f, rfl⟩ : ∃ j : Nat, f = (j : Int) := ⟨f.toNat, by omega⟩
    rw [Int.toNat_natCast, Int.toNat_natCast] at k
    have e1 := does_knew a i f
    refine ⟨_, (pss_cons (ps_if (pt_not (pt_val (pe_call (ok_has_both T) (hr.mono (by decide)) (by rfl) T.d_has_both.g T.d_has_both.F.kp T.d_has_both.b .nil pass0 (pa_cons (pe_fld (pv 0) rfl) (pa_cons (pv 1) (pa_cons (pv 2) pa_nil)))))) (pss_one (ps_ret (pe_lst (pa_cons (pe_glob (v := .int (-2)) rfl T.k_NO_SUCH ⟨_, rfl⟩) pa_nil)))) pss_nil)
 (pss_cons (ps_set (i := 3) sc_knew.nd rfl (Or.inl rfl) (pe_call (ok_first_known T) (hr.mono (by decide)) (by rfl) T.d_first_known.g T.d_first_known.F.kp T.d_first_known.b .nil pass0 (pa_cons (pe_fld (pv 0) rfl) (pa_cons (pv 1) (pa_cons (pv 2) pa_nil)))))
 (pss_cons (ps_if (pt_cmpR op_isN (pv 3) pe_non (nomark _)) (pss_one (ps_ret (pe_lst (pa_cons (pe_glob (v := .int (-33)) rfl T.k_NEVER ⟨_, rfl⟩) pa_nil)))) pss_nil)
 (pss_one (ps_ret (pe_op op_cat (pe_lst (pa_cons pe_int pa_nil)) (pe_callTy call_list_of (by rfl) T.b_list (by decide +kernel) (pa_cons (pv 3) pa_nil)))))))), ?_⟩
    refine ⟨_, rfl, d, _, dd, _, _, rfl, h1, T.cDesk.cl, T.cDesk.na _ (.head _), fs_Desk_state _ _, _, rfl, _, rfl, nn, a.now, _, _, rfl, hN, hi, hf, _, rfl, ?_⟩
    rw [Int.toNat_natCast, Int.toNat_natCast]
    cases c1 : (decide (i < a.now.st.length) && decide (f < a.now.facts.length)) with
    | false =>
      rw [if_pos (noSF c1)] at e1
      refine iteT ⟨by show 1 ≤ sizeLine; decide, fun p hp => ?_⟩
      exact k.say hd e1 (Same.refl H) hp
    | true =>
    obtain ⟨ci, cf, cn⟩ := hasSF c1
    rw [if_neg cn] at e1
    refine iteF ⟨_, rfl, d, _, dd, _, _, rfl, h1, T.cDesk.cl, T.cDesk.na _ (.head _), fs_Desk_state _ _, _, rfl, _, rfl, nn, a.now, i, f, rfl, hN, ok.now, cf, fun H1 v s1 hv => ?_⟩
    refine ⟨_, rfl, rfl, _, rfl, ?_⟩
    cases e : a.now.knew i f with
    | none =>
      rw [e] at hv e1
      have ev : v = .non := hv
      subst ev
      rw [decide_eq_true rfl]
      refine iteT ⟨by show 1 ≤ sizeLine; decide, fun p hp => ?_⟩
      exact k.say hd e1 s1 hp
    | some q =>
      have okq := knew_ok ok.now cf e
      rw [e] at hv e1
      obtain ⟨qp, rfl, hq⟩ := hv
      have e2 : a.does (.knew i f) = (a, ⟨0, [q.n, (q.d : Nat)]⟩) := by
        rw [e1]
        show (a, (⟨0, q.told⟩ : Kv417.Ans)) = _
        rw [Ma.told_low okq.low]
      rw [decide_eq_false (by intro z; cases z)]
      refine iteF ⟨by show 1 ≤ sizeLine; decide, fun q1 m1 => ?_⟩
      have s2 : Same H1 (upd H1 q1 (.lst [.int 0])) := same_upd m1
      refine ⟨_, rfl, qp, _, rfl, .inr (at0 (s2 _ _ hq)), fun q2 m2 => ?_⟩
      refine ⟨q1, q2, _, _, rfl, rfl, upd_at upd_same m2, upd_same, by show 3 ≤ sizeLine; decide, fun p hp => ?_⟩
      exact Ret.look (k.of e2) hd (s1.trans (s2.trans ((same_upd m2).trans (same_upd hp)))) upd_same
theorem ok_late (T : Txt K mg A) : FnOk P w K mg base CX0 7 A.f_late A.fd_late ["desk", "i", "f"] (sp_2 A .late) := by
  refine T.d_late.F.ok sc_late (fun vs H Q E h => ?_) (fun cdv _ outer s H vs R E hr h => ?_)
  · obtain ⟨d, a, i, f, rfl, _⟩ := h
    rfl
  · obtain ⟨d, a, i, f, rfl, hd, ok, hi, hf, k⟩ := h
    obtain ⟨dd, nn, pl, ps, h1, h2, h3, h4⟩ := id hd
    have hN : NowAt A H nn a.now := h3.same (wo_le H d)
    obtain ⟨i, rfl⟩ : ∃ j : Nat, i = (j : Int) := ⟨i.toNat, by omega⟩
    obtain ⟨f, rfl⟩ : ∃ j : Nat, f = (j : Int) := ⟨f.toNat, by omega⟩
    rw [Int.toNat_natCast, Int.toNat_natCast] at k
    have e1 := does_late a i f
    refine ⟨_, (pss_cons (ps_if (pt_not (pt_val (pe_call (ok_has_both T) (hr.mono (by decide)) (by rfl) T.d_has_both.g T.d_has_both.F.kp T.d_has_both.b .nil pass0 (pa_cons (pe_fld (pv 0) rfl) (pa_cons (pv 1) (pa_cons (pv 2) pa_nil)))))) (pss_one (ps_ret (pe_lst (pa_cons (pe_glob (v := .int (-2)) rfl T.k_NO_SUCH ⟨_, rfl⟩) pa_nil)))) pss_nil)
 (pss_cons (ps_set (i := 3) sc_late.nd rfl (Or.inl rfl) (pe_call (ok_first_known T) (hr.mono (by decide)) (by rfl) T.d_first_known.g T.d_first_known.F.kp T.d_first_known.b .nil pass0 (pa_cons (pe_fld (pv 0) rfl) (pa_cons (pv 1) (pa_cons (pv 2) pa_nil)))))
 (pss_cons (ps_if (pt_cmpR op_isN (pv 3) pe_non (nomark _)) (pss_one (ps_ret (pe_lst (pa_cons (pe_glob (v := .int (-33)) rfl T.k_NEVER ⟨_, rfl⟩) pa_nil)))) pss_nil)
 (pss_one (ps_ret (pe_op op_cat (pe_lst (pa_cons pe_int pa_nil)) (pe_callTy call_list_of (by rfl) T.b_list (by decide +kernel) (pa_cons (pe_call (ok_subtract T) (hr.mono (by decide)) (by rfl) T.d_subtract.g T.d_subtract.F.kp T.d_subtract.b .nil pass0 (pa_cons (pv 3) (pa_cons (pe_call (ok_first_heard T) (hr.mono (by decide)) (by rfl) T.d_first_heard.g T.d_first_heard.F.kp T.d_first_heard.b .nil pass0 (pa_cons (pe_fld (pv 0) rfl) (pa_cons (pv 1) (pa_cons (pv 2) pa_nil)))) pa_nil))) pa_nil)))))))), ?_⟩
    refine ⟨_, rfl, d, _, dd, _, _, rfl, h1, T.cDesk.cl, T.cDesk.na _ (.head _), fs_Desk_state _ _, _, rfl, _, rfl, nn, a.now, _, _, rfl, hN, hi, hf, _, rfl, ?_⟩
    rw [Int.toNat_natCast, Int.toNat_natCast]
    cases c1 : (decide (i < a.now.st.length) && decide (f < a.now.facts.length)) with
    | false =>
      rw [if_pos (noSF c1)] at e1
      refine iteT ⟨by show 1 ≤ sizeLine; decide, fun p hp => ?_⟩
      exact k.say hd e1 (Same.refl H) hp
    | true =>
    obtain ⟨ci, cf, cn⟩ := hasSF c1
    rw [if_neg cn] at e1
    refine iteF ⟨_, rfl, d, _, dd, _, _, rfl, h1, T.cDesk.cl, T.cDesk.na _ (.head _), fs_Desk_state _ _, _, rfl, _, rfl, nn, a.now, i, f, rfl, hN, ok.now, cf, fun H1 v s1 hv => ?_⟩
    refine ⟨_, rfl, rfl, _, rfl, ?_⟩
    cases e : a.now.knew i f with
    | none =>
      rw [e] at hv e1
      have ev : v = .non := hv
      subst ev
      rw [decide_eq_true rfl]
      refine iteT ⟨by show 1 ≤ sizeLine; decide, fun p hp => ?_⟩
      exact k.say hd e1 s1 hp
    | some q =>
      have okq := knew_ok ok.now cf e
      have okf := first_ok ok.now ci cf
      rw [e] at hv e1
      obtain ⟨qp, rfl, hq⟩ := hv
      have e2 : a.does (.late i f) = (a, ⟨0, [(q.sub (a.now.first i f)).n, ((q.sub (a.now.first i f)).d : Nat)]⟩) := by
        rw [e1]
        show (a, (⟨0, (q.sub (a.now.first i f)).told⟩ : Kv417.Ans)) = _
        rw [Ma.told_low (Ma.sub_low okq.b.pos okf.b.pos)]
      rw [decide_eq_false (by intro z; cases z)]
      refine iteF ⟨by show 1 ≤ sizeLine; decide, fun q1 m1 => ?_⟩
      have s2 : Same H1 (upd H1 q1 (.lst [.int 0])) := same_upd m1
      have s12 := s1.trans s2
      refine ⟨_, rfl, _, rfl, d, _, dd, _, _, rfl, s12 _ _ h1, T.cDesk.cl, T.cDesk.na _ (.head _), fs_Desk_state _ _, _, rfl, _, rfl, nn, a.now, i, f, rfl, hN.same s12, ok.now, ci, cf, fun pf H3 s3 hpf => ?_⟩
      refine ⟨qp, pf, _, _, rfl, (s2.trans s3) _ _ hq, hpf, sm_t okq, sm_t okf, fun pr H4 s4 hpr => ?_⟩
      refine ⟨pr, _, rfl, .inr (at0 hpr), fun q2 m2 => ?_⟩
      refine ⟨q1, q2, _, _, rfl, rfl, upd_at ((s3.trans s4) _ _ upd_same) m2, upd_same, by show 3 ≤ sizeLine; decide, fun p hp => ?_⟩
      exact Ret.look (k.of e2) hd (s12.trans ((s3.trans s4).trans ((same_upd m2).trans (same_upd hp)))) upd_same
theorem does_never (a : Abs) (i : Nat) : a.does (.never i) = if a.now.noS i then (a, Kv417.say (-2)) else (a, Kv417.list ((List.range a.now.facts.length).filter fun f => (a.now.knew i f).isNone)) := rfl
theorem ok_never (T : Txt K mg A) : FnOk P w K mg base CX0 6 A.f_never A.fd_never ["desk", "i"] (sp_1 A .never) := by
  refine T.d_never.F.ok sc_never (fun vs H Q E h => ?_) (fun cdv _ outer s H vs R E hr h => ?_)
  · obtain ⟨d, a, i, rfl, _⟩ := h
    rfl
  · obtain ⟨d, a, i, rfl, hd, ok, hi, k⟩ := h
    obtain ⟨dd, nn, pl, ps, h1, h2, h3, h4⟩ := id hd
    have hN : NowAt A H nn a.now := h3.same (wo_le H d)
    obtain ⟨i, rfl⟩ : ∃ j : Nat, i = (j : Int) := ⟨i.toNat, by omega⟩
    rw [Int.toNat_natCast] at k
    have e1 := does_never a i
    refine ⟨_, (pss_cons (ps_set (i := 2) sc_never.nd rfl (Or.inr rfl) (pe_fld (pv 0) rfl))
 (pss_cons (ps_if (pt_not (pt_val (pe_call (ok_has_station T) (hr.mono (by decide)) (by rfl) T.d_has_station.g T.d_has_station.F.kp T.d_has_station.b .nil pass0 (pa_cons (pv 2) (pa_cons (pv 1) pa_nil))))) (pss_one (ps_ret (pe_lst (pa_cons (pe_glob (v := .int (-2)) rfl T.k_NO_SUCH ⟨_, rfl⟩) pa_nil)))) pss_nil)
 (pss_one (ps_ret (pe_call (ok_counted T) (hr.mono (by decide)) (by rfl) T.d_counted.g T.d_counted.F.kp T.d_counted.b .nil pass0 (pa_cons (pe_lc (own := [("f", 3)]) (g := gName 3)  rfl sc_never.nd (pi_range1 (by rfl) T.b_range (pa_cons (pe_callB call_len_seq (by rfl) T.b_len (by decide +kernel) (pa_cons (pe_fld (pv 2) rfl) pa_nil)) pa_nil)) (blkOk_by (N := N_never) (sc := defScope s_never) (by decide +kernel)) (fun _ _ _ _ _ => (pg_name (i := 3) sc_never.nd rfl (Or.inl rfl))) (fun _ _ _ _ _ => pts_one (pt_cmpR op_isN (pe_call (ok_first_known T) (hr.mono (by decide)) (by rfl) T.d_first_known.g T.d_first_known.F.kp T.d_first_known.b .nil pass0 (pa_cons (pv 2) (pa_cons (pv 1) (pa_cons (pv 3) pa_nil)))) pe_non (nomark _))) (fun _ _ _ _ _ => (pv 3))) pa_nil)))))), ?_⟩
    refine ⟨_, rfl, d, _, dd, _, _, rfl, h1, T.cDesk.cl, T.cDesk.na _ (.head _), fs_Desk_state _ _, ?_⟩
    refine ⟨_, rfl, _, rfl, nn, a.now, _, rfl, hN, hi, _, rfl, ?_⟩
    rw [Int.toNat_natCast]
    by_cases c1 : i < a.now.st.length
    case neg =>
      rw [decide_eq_false c1]
      rw [if_pos (noS_not c1)] at e1
      refine iteT ⟨by show 1 ≤ sizeLine; decide, fun p hp => ?_⟩
      exact k.say hd e1 (Same.refl H) hp
    rw [decide_eq_true c1]
    rw [noS_of c1, if_neg Bool.false_ne_true] at e1
    obtain ⟨dx, ls, lf, ll, ss, fs, ms, hR⟩ := id hN
    have hlen : ((refs fs).length : Int) = ((a.now.facts.length : Nat) : Int) := by rw [List.length_map, pr_len hR.fp]
    refine iteF ⟨_, rfl, nn, _, dx, _, _, rfl, hR.o, T.cState.cl, T.cState.na _ (.tail _ (.head _)), fs_State_facts _ _ _ _ _, lf, _, rfl, .inl (SqL.of hR.f), ?_⟩
    rw [hlen]
    have hn6 := ok.now.nf
    refine ⟨_, rfl, by omega, Int.lt_of_le_of_lt (b := 6) (by omega) (by decide), fun D nD => ?_⟩
    rw [Int.toNat_natCast]
    refine lc_range (fun j H4 => Same H H4 ∧ H4 D = some (.lst (nums ((List.range j).filter fun f => (a.now.knew i f).isNone)))) ⟨same_upd nD, upd_same⟩ ?_ ?_
    · rintro f H4 hf ⟨s4, hD⟩
      refine ⟨rfl, ?_⟩
      have ef : (0 : Int) + (f : Nat) = ((f : Nat) : Int) := Int.zero_add _
      rw [ef]
      refine ⟨_, rfl, _, rfl, _, rfl, nn, a.now, i, f, rfl, hN.same s4, ok.now, hf, fun H5 v s5 hv => ?_⟩
      have step := range_filter_snoc (fun f => (a.now.knew i f).isNone) f
      have hD5 := s5 _ _ hD
      obtain ⟨b, hb⟩ : ∃ b, (a.now.knew i f).isNone = b := ⟨_, rfl⟩
      have hvb : decide (v = .non) = b := by
        rw [← hb]
        cases e : a.now.knew i f with
        | none =>
          rw [e] at hv
          exact decide_eq_true hv
        | some q =>
          rw [e] at hv
          obtain ⟨qp, rfl, _⟩ := hv
          exact decide_eq_false (by intro z; cases z)
      rw [hb] at step
      refine ⟨rfl, b, congrArg V.bl hvb, ?_⟩
      cases b with
      | false =>
        refine iteF ⟨s4.trans s5, ?_⟩
        rw [step, if_neg Bool.false_ne_true, List.append_nil]
        exact hD5
      | true =>
        refine iteT ⟨_, rfl, _, hD5, nums_short hn6 hf, fun b o h => ?_, ?_⟩
        · rw [upd_ne (ne_of_none h nD)]
          exact (s4.trans s5) _ _ h
        · rw [upd_same, step, if_pos rfl, nums_snoc]
    · rintro H4 ⟨s4, hD⟩
      refine ⟨D, _, rfl, hD, ?_, fun H5 p5 s5 hp5 => ?_⟩
      · refine Nat.le_trans (List.length_filter_le _ _) ?_
        rw [List.length_range]
        exact hn6
      · exact Ret.look (k.of e1) hd (s4.trans s5) hp5
end
end Py
namespace Py
open PySem PySem.Spec PyProof.Rows L2
open Kv414 (Q gcd' Factor)
open Kv415 (Station Point)
open Kv417 (Fact Letter Now Abs)
section
variable {P : Program} {w : World} {K : PySem.W.Frag} {mg : Str → Option Value} {base : Heap} {A : Ad}
theorem does_own (a : Abs) (i f : Nat) : a.does (.own i f) = if a.now.noS i ∨ a.now.noF f then (a, Kv417.say (-2)) else
    (a, ⟨((a.now.at_ i).side (a.now.where_ f) : Nat), ((a.now.at_ i).own (a.now.where_ f)).1.told ++ ((a.now.at_ i).own (a.now.where_ f)).2.told⟩) := rfl
theorem ok_own (T : Txt K mg A) : FnOk P w K mg base CX0 7 A.f_own A.fd_own ["desk", "i", "f"] (sp_2 A .own) := by
  refine T.d_own.F.ok sc_own (fun vs H Q E h => ?_) (fun cdv _ outer s H vs R E hr h => ?_)
  · obtain ⟨d, a, i, f, rfl, _⟩ := h
    rfl
  · obtain ⟨d, a, i, f, rfl, hd, ok, hi, hf, k⟩ := h
    obtain ⟨dd, nn, pl, ps, h1, h2, h3, h4⟩ := id hd
    have hN : NowAt A H nn a.now := h3.same (wo_le H d)
    obtain ⟨i, rfl⟩ : ∃ j : Nat, i = (j : Int) := ⟨i.toNat, by omega⟩
    obtain ⟨f, rfl⟩ : ∃ j : Nat, f = (j : Int) := ⟨f.toNat, by omega⟩
    rw [Int.toNat_natCast, Int.toNat_natCast] at k
    have e1 := does_own a i f
    refine ⟨_, (pss_cons (ps_set (i := 3) sc_own.nd rfl (Or.inl rfl) (pe_fld (pv 0) rfl))
 (pss_cons (ps_if (pt_not (PW.pt (pw_and (pt_val (pe_call (ok_has_station T) (hr.mono (by decide)) (by rfl) T.d_has_station.g T.d_has_station.F.kp T.d_has_station.b .nil pass0 (pa_cons (pv 3) (pa_cons (pv 1) pa_nil)))) (pw_and1 (pt_val (pe_call (ok_has_fact T) (hr.mono (by decide)) (by rfl) T.d_has_fact.g T.d_has_fact.F.kp T.d_has_fact.b .nil pass0 (pa_cons (pv 3) (pa_cons (pv 2) pa_nil)))))))) (pss_one (ps_ret (pe_lst (pa_cons (pe_glob (v := .int (-2)) rfl T.k_NO_SUCH ⟨_, rfl⟩) pa_nil)))) pss_nil)
 (pss_cons (ps_set (i := 4) sc_own.nd rfl (Or.inl rfl) (pe_ix ix_list (pe_fld (pv 3) rfl) (pv 1) (fun _ _ => rfl)))
 (pss_cons (ps_set (i := 5) sc_own.nd rfl (Or.inl rfl) (pe_fld (pe_ix ix_list (pe_fld (pv 3) rfl) (pv 2) (fun _ _ => rfl)) rfl))
 (pss_one (ps_ret (pe_op op_cat (pe_op op_cat (pe_lst (pa_cons (pe_call (ok_side T) (hr.mono (by decide)) (by rfl) T.d_side.g T.d_side.F.kp T.d_side.b .nil pass0 (pa_cons (pv 4) (pa_cons (pv 5) pa_nil))) pa_nil)) (pe_callTy call_list_of (by rfl) T.b_list (by decide +kernel) (pa_cons (pe_call (ok_own_time T) (hr.mono (by decide)) (by rfl) T.d_own_time.g T.d_own_time.F.kp T.d_own_time.b .nil pass0 (pa_cons (pv 4) (pa_cons (pv 5) pa_nil))) pa_nil))) (pe_callTy call_list_of (by rfl) T.b_list (by decide +kernel) (pa_cons (pe_call (ok_own_place T) (hr.mono (by decide)) (by rfl) T.d_own_place.g T.d_own_place.F.kp T.d_own_place.b .nil pass0 (pa_cons (pv 4) (pa_cons (pv 5) pa_nil))) pa_nil))))))))), ?_⟩
    refine ⟨_, rfl, d, _, dd, _, _, rfl, h1, T.cDesk.cl, T.cDesk.na _ (.head _), fs_Desk_state _ _, ?_⟩
    refine ⟨_, rfl, _, rfl, nn, a.now, _, rfl, hN, hi, _, rfl, ?_⟩
    rw [Int.toNat_natCast]
    by_cases c1 : i < a.now.st.length
    case neg =>
      rw [decide_eq_false c1]
      rw [if_pos (.inl (noS_not c1))] at e1
      refine iteF (iteT ⟨by show 1 ≤ sizeLine; decide, fun p hp => ?_⟩)
      exact k.say hd e1 (Same.refl H) hp
    rw [decide_eq_true c1]
    refine iteT ⟨_, rfl, _, rfl, nn, a.now, _, rfl, hN, hf, _, rfl, ?_⟩
    rw [Int.toNat_natCast]
    by_cases c2 : f < a.now.facts.length
    case neg =>
      rw [decide_eq_false c2]
      rw [if_pos (.inr (noF_not c2))] at e1
      refine iteT ⟨by show 1 ≤ sizeLine; decide, fun p hp => ?_⟩
      exact k.say hd e1 (Same.refl H) hp
    rw [decide_eq_true c2]
    have oks := ok.now.ok c1
    have okp := ok_where ok.now c2
    have l1 : Ma.Low ((a.now.at_ i).own (a.now.where_ f)).1 := Ma.own1_low oks okp
    have l2 : Ma.Low ((a.now.at_ i).own (a.now.where_ f)).2 := Ma.own2_low oks okp
    rw [noS_of c1, noF_of c2, if_neg (by simp), Ma.told_low l1, Ma.told_low l2] at e1
    obtain ⟨dx, ls, lf, ll, ss, fs, ms, hR⟩ := id hN
    obtain ⟨sp, hsp, hst⟩ := hR.station c1
    obtain ⟨fp, hfp, ⟨df, ft, fc, g1, g2, g3⟩⟩ := hR.fact c2
    refine iteF ⟨_, rfl, nn, _, dx, _, _, rfl, hR.o, T.cState.cl, T.cState.na _ (.head _), fs_State_stations _ _ _ _ _, _, rfl, ls, _, _, _, rfl, rfl, SqL.of hR.s, atI_nat (j := i) hsp, ?_⟩
    refine ⟨_, rfl, nn, _, dx, _, _, rfl, hR.o, T.cState.cl, T.cState.na _ (.tail _ (.head _)), fs_State_facts _ _ _ _ _, _, rfl, lf, _, _, _, rfl, rfl, SqL.of hR.f, atI_nat (j := f) hfp, fp, _, df, _, _, rfl, g1, T.cFact.cl, T.cFact.na _ (.tail _ (.tail _ (.head _))), fs_Fact_point _ _ _, ?_⟩
    refine ⟨_, rfl, _, rfl, sp, fc, _, _, rfl, hst, oks, g3, okp, fun H1 s1 => ?_⟩
    refine ⟨by show 1 ≤ sizeLine; decide, fun q1 m1 => ?_⟩
    have s2 := fun (o : HO) => s1.trans (same_upd (o := o) m1)
    refine ⟨_, rfl, _, rfl, sp, fc, _, _, rfl, hst.same (s2 _), oks, g3.same (s2 _), okp, fun t1 H3 s3 ht1 => ?_⟩
    refine ⟨t1, _, rfl, .inr (at0 ht1), fun q2 m2 => ?_⟩
    have s3' := (s2 _).trans s3
    refine ⟨q1, q2, _, _, rfl, rfl, upd_at (s3 _ _ upd_same) m2, upd_same, by show 3 ≤ sizeLine; decide, fun q3 m3 => ?_⟩
    have s4 := fun (u : HO) => s3'.trans ((same_upd m2).trans (same_upd (o := u) m3))
    refine ⟨_, rfl, _, rfl, sp, fc, _, _, rfl, hst.same (s4 _), oks, g3.same (s4 _), okp, fun t2 H5 s5 ht2 => ?_⟩
    refine ⟨t2, _, rfl, .inr (at0 ht2), fun q4 m4 => ?_⟩
    refine ⟨q3, q4, _, _, rfl, rfl, upd_at (s5 _ _ upd_same) m4, upd_same, by show 5 ≤ sizeLine; decide, fun p hp => ?_⟩
    exact Ret.look (k.of e1) hd ((s4 _).trans (s5.trans ((same_upd m4).trans (same_upd hp)))) upd_same
def sp_3 (A : Ad) (c : Nat → Nat → Nat → Kv417.Call) : Sp := fun vs H R _ => ∃ (d : Addr) (a : Abs) (i f g : Int), vs = [.ref d, .int i, .int f, .int g] ∧ DeskAt A H d (some a) ∧ OkA a ∧ 0 ≤ i ∧ 0 ≤ f ∧ 0 ≤ g ∧ RetC A H d a (c i.toNat f.toNat g.toNat) R
theorem does_sooner (a : Abs) (i f g : Nat) : a.does (.sooner i f g) = if a.now.noS i ∨ a.now.noF f ∨ a.now.noF g then (a, Kv417.say (-2)) else
    (a, Kv417.num (if ((a.now.at_ i).own (a.now.where_ f)).1.eq ((a.now.at_ i).own (a.now.where_ g)).1 then 1 else if ((a.now.at_ i).own (a.now.where_ f)).1.le ((a.now.at_ i).own (a.now.where_ g)).1 then 0 else 2)) := rfl
theorem ok_sooner (T : Txt K mg A) : FnOk P w K mg base CX0 7 A.f_sooner A.fd_sooner ["desk", "i", "f", "g"] (sp_3 A .sooner) := by
  refine T.d_sooner.F.ok sc_sooner (fun vs H Q E h => ?_) (fun cdv _ outer s H vs R E hr h => ?_)
  · obtain ⟨d, a, i, f, g, rfl, _⟩ := h
    rfl
  · obtain ⟨d, a, i, f, g, rfl, hd, ok, hi, hf, hg, k⟩ := h
    obtain ⟨dd, nn, pl, ps, h1, h2, h3, h4⟩ := id hd
    have hN : NowAt A H nn a.now := h3.same (wo_le H d)
    obtain ⟨i, rfl⟩ : ∃ j : Nat, i = (j : Int) := ⟨i.toNat, by omega⟩
    obtain ⟨f, rfl⟩ : ∃ j : Nat, f = (j : Int) := ⟨f.toNat, by omega⟩
    obtain ⟨g, rfl⟩ : ∃ j : Nat, g = (j : Int) := ⟨g.toNat, by omega⟩
    rw [Int.toNat_natCast, Int.toNat_natCast, Int.toNat_natCast] at k
    have e1 := does_sooner a i f g
    refine ⟨_, (pss_cons (ps_set (i := 4) sc_sooner.nd rfl (Or.inl rfl) (pe_fld (pv 0) rfl))
 (pss_cons (ps_if (pt_not (PW.pt (pw_and (pt_val (pe_call (ok_has_station T) (hr.mono (by decide)) (by rfl) T.d_has_station.g T.d_has_station.F.kp T.d_has_station.b .nil pass0 (pa_cons (pv 4) (pa_cons (pv 1) pa_nil)))) (pw_and (pt_val (pe_call (ok_has_fact T) (hr.mono (by decide)) (by rfl) T.d_has_fact.g T.d_has_fact.F.kp T.d_has_fact.b .nil pass0 (pa_cons (pv 4) (pa_cons (pv 2) pa_nil)))) (pw_and1 (pt_val (pe_call (ok_has_fact T) (hr.mono (by decide)) (by rfl) T.d_has_fact.g T.d_has_fact.F.kp T.d_has_fact.b .nil pass0 (pa_cons (pv 4) (pa_cons (pv 3) pa_nil))))))))) (pss_one (ps_ret (pe_lst (pa_cons (pe_glob (v := .int (-2)) rfl T.k_NO_SUCH ⟨_, rfl⟩) pa_nil)))) pss_nil)
 (pss_cons (ps_set (i := 5) sc_sooner.nd rfl (Or.inl rfl) (pe_call (ok_own_time T) (hr.mono (by decide)) (by rfl) T.d_own_time.g T.d_own_time.F.kp T.d_own_time.b .nil pass0 (pa_cons (pe_ix ix_list (pe_fld (pv 4) rfl) (pv 1) (fun _ _ => rfl)) (pa_cons (pe_fld (pe_ix ix_list (pe_fld (pv 4) rfl) (pv 2) (fun _ _ => rfl)) rfl) pa_nil))))
 (pss_cons (ps_set (i := 6) sc_sooner.nd rfl (Or.inl rfl) (pe_call (ok_own_time T) (hr.mono (by decide)) (by rfl) T.d_own_time.g T.d_own_time.F.kp T.d_own_time.b .nil pass0 (pa_cons (pe_ix ix_list (pe_fld (pv 4) rfl) (pv 1) (fun _ _ => rfl)) (pa_cons (pe_fld (pe_ix ix_list (pe_fld (pv 4) rfl) (pv 3) (fun _ _ => rfl)) rfl) pa_nil))))
 (pss_cons (ps_if (pt_cmpR (op_eqD hr.units) (pv 5) (pv 6) (nomark _)) (pss_one (ps_ret (pe_lst (pa_cons (pe_glob (v := .int (1)) rfl T.k_SAME_TIME ⟨_, rfl⟩) pa_nil)))) pss_nil)
 (pss_cons (ps_if (pt_val (pe_call (ok_at_most T) (hr.mono (by decide)) (by rfl) T.d_at_most.g T.d_at_most.F.kp T.d_at_most.b .nil pass0 (pa_cons (pv 5) (pa_cons (pv 6) pa_nil)))) (pss_one (ps_ret (pe_lst (pa_cons (pe_glob (v := .int (0)) rfl T.k_SOONER ⟨_, rfl⟩) pa_nil)))) pss_nil)
 (pss_one (ps_ret (pe_lst (pa_cons (pe_glob (v := .int (2)) rfl T.k_LATER ⟨_, rfl⟩) pa_nil)))))))))), ?_⟩
    refine ⟨_, rfl, d, _, dd, _, _, rfl, h1, T.cDesk.cl, T.cDesk.na _ (.head _), fs_Desk_state _ _, ?_⟩
    refine ⟨_, rfl, _, rfl, nn, a.now, _, rfl, hN, hi, _, rfl, ?_⟩
    rw [Int.toNat_natCast]
    by_cases c1 : i < a.now.st.length
    case neg =>
      rw [decide_eq_false c1]
      rw [if_pos (.inl (noS_not c1))] at e1
      refine iteF (iteT ⟨by show 1 ≤ sizeLine; decide, fun p hp => ?_⟩)
      exact k.say hd e1 (Same.refl H) hp
    rw [decide_eq_true c1]
    refine iteT ⟨_, rfl, _, rfl, nn, a.now, _, rfl, hN, hf, _, rfl, ?_⟩
    rw [Int.toNat_natCast]
    by_cases c2 : f < a.now.facts.length
    case neg =>
      rw [decide_eq_false c2]
      rw [if_pos (.inr (.inl (noF_not c2)))] at e1
      refine iteF (iteT ⟨by show 1 ≤ sizeLine; decide, fun p hp => ?_⟩)
      exact k.say hd e1 (Same.refl H) hp
    rw [decide_eq_true c2]
    refine iteT ⟨_, rfl, _, rfl, nn, a.now, _, rfl, hN, hg, _, rfl, ?_⟩
    rw [Int.toNat_natCast]
    by_cases c3 : g < a.now.facts.length
    case neg =>
      rw [decide_eq_false c3]
      rw [if_pos (.inr (.inr (noF_not c3)))] at e1
      refine iteT ⟨by show 1 ≤ sizeLine; decide, fun p hp => ?_⟩
      exact k.say hd e1 (Same.refl H) hp
    rw [decide_eq_true c3]
    have oks := ok.now.ok c1
    have okp := ok_where ok.now c2
    have okq := ok_where ok.now c3
    rw [noS_of c1, noF_of c2, noF_of c3, if_neg (by simp)] at e1
    obtain ⟨dx, ls, lf, ll, ss, fs, ms, hR⟩ := id hN
    obtain ⟨sp, hsp, hst⟩ := hR.station c1
    obtain ⟨fp, hfp, ⟨df, ft, fc, g1, g2, g3⟩⟩ := hR.fact c2
    obtain ⟨gp, hgp, ⟨dg, gt, gc, b1, b2, b3⟩⟩ := hR.fact c3
    refine iteF ⟨_, rfl, nn, _, dx, _, _, rfl, hR.o, T.cState.cl, T.cState.na _ (.head _), fs_State_stations _ _ _ _ _, _, rfl, ls, _, _, _, rfl, rfl, SqL.of hR.s, atI_nat (j := i) hsp,
      _, rfl, nn, _, dx, _, _, rfl, hR.o, T.cState.cl, T.cState.na _ (.tail _ (.head _)), fs_State_facts _ _ _ _ _, _, rfl, lf, _, _, _, rfl, rfl, SqL.of hR.f, atI_nat (j := f) hfp, fp, _, df, _, _, rfl, g1, T.cFact.cl, T.cFact.na _ (.tail _ (.tail _ (.head _))), fs_Fact_point _ _ _, ?_⟩
    refine ⟨sp, fc, _, _, rfl, hst, oks, g3, okp, fun t1 H1 s1 ht1 => ?_⟩
    have hR1 := hR.same s1
    refine ⟨_, rfl, nn, _, dx, _, _, rfl, hR1.o, T.cState.cl, T.cState.na _ (.head _), fs_State_stations _ _ _ _ _, _, rfl, ls, _, _, _, rfl, rfl, SqL.of hR1.s, atI_nat (j := i) hsp,
      _, rfl, nn, _, dx, _, _, rfl, hR1.o, T.cState.cl, T.cState.na _ (.tail _ (.head _)), fs_State_facts _ _ _ _ _, _, rfl, lf, _, _, _, rfl, rfl, SqL.of hR1.f, atI_nat (j := g) hgp, gp, _, dg, _, _, rfl, s1 _ _ b1, T.cFact.cl, T.cFact.na _ (.tail _ (.tail _ (.head _))), fs_Fact_point _ _ _, ?_⟩
    refine ⟨sp, gc, _, _, rfl, hst.same s1, oks, b3.same s1, okq, fun t2 H2 s2 ht2 => ?_⟩
    have s12 := s1.trans s2
    have lx := Ma.own1_low oks okp
    have ly := Ma.own1_low oks okq
    have bx := Ma.own1_B oks okp
    have bY := Ma.own1_B oks okq
    refine ⟨_, rfl, _, rfl, _, _, dp_Q (s2 _ _ ht1), dp_Q ht2, rfl, rfl, _, rfl, ?_⟩
    rw [eqv_Q, eq_low lx ly]
    have e2 : a.does (.sooner i f g) = (a, Kv417.num (if ((stAt a.now.st i).own ((stAt a.now.st (a.now.fact f).i).at_ (a.now.fact f).s)).1.eq ((stAt a.now.st i).own ((stAt a.now.st (a.now.fact g).i).at_ (a.now.fact g).s)).1 then 1 else
      if ((stAt a.now.st i).own ((stAt a.now.st (a.now.fact f).i).at_ (a.now.fact f).s)).1.le ((stAt a.now.st i).own ((stAt a.now.st (a.now.fact g).i).at_ (a.now.fact g).s)).1 then 0 else 2)) := e1
    have ht1' := s2 _ _ ht1
    dsimp only at ht1' ht2 ⊢
    generalize ((stAt a.now.st i).own ((stAt a.now.st (a.now.fact f).i).at_ (a.now.fact f).s)).1 = x at e2 lx bx ht1' ⊢
    generalize ((stAt a.now.st i).own ((stAt a.now.st (a.now.fact g).i).at_ (a.now.fact g).s)).1 = y at e2 ly bY ht2 ⊢
    cases c4 : x.eq y with
    | true =>
      rw [c4, if_pos rfl] at e2
      refine iteT ⟨by show 1 ≤ sizeLine; decide, fun p hp => ?_⟩
      exact Ret.look (k.of e2) hd (s12.trans (same_upd hp)) upd_same
    | false =>
      rw [c4, if_neg Bool.false_ne_true] at e2
      refine iteF ⟨_, rfl, _, rfl, t1, t2, _, _, rfl, ht1', ht2, Sm.of bx (by decide) (by decide), Sm.of bY (by decide) (by decide), _, rfl, ?_⟩
      cases c5 : x.le y with
      | true =>
        rw [c5, if_pos rfl] at e2
        refine iteT ⟨by show 1 ≤ sizeLine; decide, fun p hp => ?_⟩
        exact Ret.look (k.of e2) hd (s12.trans (same_upd hp)) upd_same
      | false =>
        rw [c5, if_neg Bool.false_ne_true] at e2
        refine iteF ⟨by show 1 ≤ sizeLine; decide, fun p hp => ?_⟩
        exact Ret.look (k.of e2) hd (s12.trans (same_upd hp)) upd_same
end
end Py
namespace Py
open PySem PySem.Spec PyProof.Rows L2
open Kv414 (Q gcd' Factor)
open Kv415 (Station Point)
open Kv417 (Fact Letter Now Abs)
theorem heard_num (p q : Point) : (if p.u.le q.u && p.v.le q.v then (if p.u.eq q.u && p.v.eq q.v then 1 else 0) else if q.u.le p.u && q.v.le p.v then 2 else 3) =
    (if (p.u.le q.u && p.v.le q.v) && (q.u.le p.u && q.v.le p.v) then 1 else if p.u.le q.u && p.v.le q.v then 0 else if q.u.le p.u && q.v.le p.v then 2 else 3 : Nat) := by
  rw [Ma.eq_le, Ma.eq_le]
  cases p.u.le q.u <;> cases p.v.le q.v <;> cases q.u.le p.u <;> cases q.v.le p.v <;> rfl
section
variable {P : Program} {w : World} {K : PySem.W.Frag} {mg : Str → Option Value} {base : Heap} {A : Ad}
theorem does_heard (a : Abs) (f g : Nat) : a.does (.heard f g) = if a.now.noF f ∨ a.now.noF g then (a, Kv417.say (-2)) else
    (a, Kv417.num (if (a.now.where_ f).u.le (a.now.where_ g).u && (a.now.where_ f).v.le (a.now.where_ g).v then (if (a.now.where_ f).u.eq (a.now.where_ g).u && (a.now.where_ f).v.eq (a.now.where_ g).v then 1 else 0) else if (a.now.where_ g).u.le (a.now.where_ f).u && (a.now.where_ g).v.le (a.now.where_ f).v then 2 else 3)) := rfl
theorem ok_heard (T : Txt K mg A) : FnOk P w K mg base CX0 3 A.f_heard A.fd_heard ["desk", "f", "g"] (sp_2 A .heard) := by
  refine T.d_heard.F.ok sc_heard (fun vs H Q E h => ?_) (fun cdv _ outer s H vs R E hr h => ?_)
  · obtain ⟨d, a, i, f, rfl, _⟩ := h
    rfl
  · obtain ⟨d, a, f, g, rfl, hd, ok, hf, hg, k⟩ := h
    obtain ⟨dd, nn, pl, ps, h1, h2, h3, h4⟩ := id hd
    have hN : NowAt A H nn a.now := h3.same (wo_le H d)
    obtain ⟨f, rfl⟩ : ∃ j : Nat, f = (j : Int) := ⟨f.toNat, by omega⟩
    obtain ⟨g, rfl⟩ : ∃ j : Nat, g = (j : Int) := ⟨g.toNat, by omega⟩
    rw [Int.toNat_natCast, Int.toNat_natCast] at k
    have e1 := does_heard a f g
    refine ⟨_, (pss_cons (ps_set (i := 3) sc_heard.nd rfl (Or.inl rfl) (pe_fld (pv 0) rfl))
 (pss_cons (ps_if (pt_not (PW.pt (pw_and (pt_val (pe_call (ok_has_fact T) (hr.mono (by decide)) (by rfl) T.d_has_fact.g T.d_has_fact.F.kp T.d_has_fact.b .nil pass0 (pa_cons (pv 3) (pa_cons (pv 1) pa_nil)))) (pw_and1 (pt_val (pe_call (ok_has_fact T) (hr.mono (by decide)) (by rfl) T.d_has_fact.g T.d_has_fact.F.kp T.d_has_fact.b .nil pass0 (pa_cons (pv 3) (pa_cons (pv 2) pa_nil)))))))) (pss_one (ps_ret (pe_lst (pa_cons (pe_glob (v := .int (-2)) rfl T.k_NO_SUCH ⟨_, rfl⟩) pa_nil)))) pss_nil)
 (pss_cons (ps_set (i := 4) sc_heard.nd rfl (Or.inl rfl) (pe_fld (pe_ix ix_list (pe_fld (pv 3) rfl) (pv 1) (fun _ _ => rfl)) rfl))
 (pss_cons (ps_set (i := 5) sc_heard.nd rfl (Or.inl rfl) (pe_fld (pe_ix ix_list (pe_fld (pv 3) rfl) (pv 2) (fun _ _ => rfl)) rfl))
 (pss_cons (ps_set (i := 6) sc_heard.nd rfl (Or.inl rfl) (pe_call (ok_can_have_heard T) (hr.mono (by decide)) (by rfl) T.d_can_have_heard.g T.d_can_have_heard.F.kp T.d_can_have_heard.b .nil pass0 (pa_cons (pv 5) (pa_cons (pv 4) pa_nil))))
 (pss_cons (ps_set (i := 7) sc_heard.nd rfl (Or.inl rfl) (pe_call (ok_can_have_heard T) (hr.mono (by decide)) (by rfl) T.d_can_have_heard.g T.d_can_have_heard.F.kp T.d_can_have_heard.b .nil pass0 (pa_cons (pv 4) (pa_cons (pv 5) pa_nil))))
 (pss_cons (ps_if (PW.pt (pw_and (pt_val (pv 6)) (pw_and1 (pt_val (pv 7))))) (pss_one (ps_ret (pe_lst (pa_cons (pe_glob (v := .int (1)) rfl T.k_SAME_POINT ⟨_, rfl⟩) pa_nil)))) pss_nil)
 (pss_cons (ps_if (pt_val (pv 6)) (pss_one (ps_ret (pe_lst (pa_cons (pe_glob (v := .int (0)) rfl T.k_HEARD_BY_SECOND ⟨_, rfl⟩) pa_nil)))) pss_nil)
 (pss_cons (ps_if (pt_val (pv 7)) (pss_one (ps_ret (pe_lst (pa_cons (pe_glob (v := .int (2)) rfl T.k_HEARD_BY_FIRST ⟨_, rfl⟩) pa_nil)))) pss_nil)
 (pss_one (ps_ret (pe_lst (pa_cons (pe_glob (v := .int (3)) rfl T.k_HEARD_BY_NEITHER ⟨_, rfl⟩) pa_nil))))))))))))), ?_⟩
    refine ⟨_, rfl, d, _, dd, _, _, rfl, h1, T.cDesk.cl, T.cDesk.na _ (.head _), fs_Desk_state _ _, ?_⟩
    refine ⟨_, rfl, _, rfl, nn, a.now, _, rfl, hN, hf, _, rfl, ?_⟩
    rw [Int.toNat_natCast]
    by_cases c2 : f < a.now.facts.length
    case neg =>
      rw [decide_eq_false c2]
      rw [if_pos (.inl (noF_not c2))] at e1
      refine iteF (iteT ⟨by show 1 ≤ sizeLine; decide, fun p hp => ?_⟩)
      exact k.say hd e1 (Same.refl H) hp
    rw [decide_eq_true c2]
    refine iteT ⟨_, rfl, _, rfl, nn, a.now, _, rfl, hN, hg, _, rfl, ?_⟩
    rw [Int.toNat_natCast]
    by_cases c3 : g < a.now.facts.length
    case neg =>
      rw [decide_eq_false c3]
      rw [if_pos (.inr (noF_not c3))] at e1
      refine iteT ⟨by show 1 ≤ sizeLine; decide, fun p hp => ?_⟩
      exact k.say hd e1 (Same.refl H) hp
    rw [decide_eq_true c3]
    have okp := ok_where ok.now c2
    have okq := ok_where ok.now c3
    rw [noF_of c2, noF_of c3, if_neg (by simp), heard_num] at e1
    obtain ⟨dx, ls, lf, ll, ss, fs, ms, hR⟩ := id hN
    obtain ⟨fp, hfp, ⟨df, ft, fc, g1, g2, g3⟩⟩ := hR.fact c2
    obtain ⟨gp, hgp, ⟨dg, gt, gc, b1, b2, b3⟩⟩ := hR.fact c3
    refine iteF ⟨_, rfl, nn, _, dx, _, _, rfl, hR.o, T.cState.cl, T.cState.na _ (.tail _ (.head _)), fs_State_facts _ _ _ _ _, _, rfl, lf, _, _, _, rfl, rfl, SqL.of hR.f, atI_nat (j := f) hfp, fp, _, df, _, _, rfl, g1, T.cFact.cl, T.cFact.na _ (.tail _ (.tail _ (.head _))), fs_Fact_point _ _ _, ?_⟩
    refine ⟨_, rfl, nn, _, dx, _, _, rfl, hR.o, T.cState.cl, T.cState.na _ (.tail _ (.head _)), fs_State_facts _ _ _ _ _, _, rfl, lf, _, _, _, rfl, rfl, SqL.of hR.f, atI_nat (j := g) hgp, gp, _, dg, _, _, rfl, b1, T.cFact.cl, T.cFact.na _ (.tail _ (.tail _ (.head _))), fs_Fact_point _ _ _, ?_⟩
    refine ⟨_, rfl, _, rfl, gc, fc, _, _, rfl, b3, g3, okq, okp, ?_⟩
    refine ⟨_, rfl, _, rfl, fc, gc, _, _, rfl, g3, b3, okp, okq, ?_⟩
    have e2 : a.does (.heard f g) = (a, Kv417.num (if (((stAt a.now.st (a.now.fact f).i).at_ (a.now.fact f).s).u.le ((stAt a.now.st (a.now.fact g).i).at_ (a.now.fact g).s).u && ((stAt a.now.st (a.now.fact f).i).at_ (a.now.fact f).s).v.le ((stAt a.now.st (a.now.fact g).i).at_ (a.now.fact g).s).v) &&
        (((stAt a.now.st (a.now.fact g).i).at_ (a.now.fact g).s).u.le ((stAt a.now.st (a.now.fact f).i).at_ (a.now.fact f).s).u && ((stAt a.now.st (a.now.fact g).i).at_ (a.now.fact g).s).v.le ((stAt a.now.st (a.now.fact f).i).at_ (a.now.fact f).s).v) then 1 else
        if ((stAt a.now.st (a.now.fact f).i).at_ (a.now.fact f).s).u.le ((stAt a.now.st (a.now.fact g).i).at_ (a.now.fact g).s).u && ((stAt a.now.st (a.now.fact f).i).at_ (a.now.fact f).s).v.le ((stAt a.now.st (a.now.fact g).i).at_ (a.now.fact g).s).v then 0 else
        if ((stAt a.now.st (a.now.fact g).i).at_ (a.now.fact g).s).u.le ((stAt a.now.st (a.now.fact f).i).at_ (a.now.fact f).s).u && ((stAt a.now.st (a.now.fact g).i).at_ (a.now.fact g).s).v.le ((stAt a.now.st (a.now.fact f).i).at_ (a.now.fact f).s).v then 2 else 3)) := e1
    clear e1
    generalize (((stAt a.now.st (a.now.fact f).i).at_ (a.now.fact f).s).u.le ((stAt a.now.st (a.now.fact g).i).at_ (a.now.fact g).s).u && ((stAt a.now.st (a.now.fact f).i).at_ (a.now.fact f).s).v.le ((stAt a.now.st (a.now.fact g).i).at_ (a.now.fact g).s).v) = x at e2 ⊢
    generalize (((stAt a.now.st (a.now.fact g).i).at_ (a.now.fact g).s).u.le ((stAt a.now.st (a.now.fact f).i).at_ (a.now.fact f).s).u && ((stAt a.now.st (a.now.fact g).i).at_ (a.now.fact g).s).v.le ((stAt a.now.st (a.now.fact f).i).at_ (a.now.fact f).s).v) = y at e2 ⊢
    refine ⟨_, rfl, _, rfl, ?_⟩
    have fin : ∀ (z : Nat) p, a.does (.heard f g) = (a, Kv417.num z) → H p = none → R (.ref p) (upd H p (.lst [.int (z : Nat)])) := fun z p e hp => Ret.look (k.of e) hd (same_upd hp) upd_same
    cases x with
    | true =>
      refine iteT ⟨_, rfl, _, rfl, ?_⟩
      cases y with
      | true => exact iteT ⟨by show 1 ≤ sizeLine; decide, fun p hp => fin 1 p e2 hp⟩
      | false => exact iteF ⟨_, rfl, _, rfl, iteT ⟨by show 1 ≤ sizeLine; decide, fun p hp => fin 0 p e2 hp⟩⟩
    | false =>
      refine iteF (iteF ⟨_, rfl, _, rfl, iteF ⟨_, rfl, _, rfl, ?_⟩⟩)
      cases y with
      | true => exact iteT ⟨by show 1 ≤ sizeLine; decide, fun p hp => fin 2 p e2 hp⟩
      | false => exact iteF ⟨by show 1 ≤ sizeLine; decide, fun p hp => fin 3 p e2 hp⟩
theorem does_book (a : Abs) : a.does .book = (a, ⟨(a.now.held : Nat), [(a.now.false_ : Nat)]⟩) := rfl
theorem ok_book (T : Txt K mg A) : FnOk P w K mg base CX0 1 A.f_book A.fd_book ["desk"] (sp_0 A .book) := by
  refine T.d_book.F.ok sc_book (fun vs H Q E h => ?_) (fun cdv _ outer s H vs R E hr h => ?_)
  · obtain ⟨d, a, rfl, _⟩ := h
    rfl
  · obtain ⟨d, a, rfl, hd, ok, k⟩ := h
    obtain ⟨dd, nn, pl, ps, h1, h2, h3, h4⟩ := id hd
    have hN : NowAt A H nn a.now := h3.same (wo_le H d)
    obtain ⟨dx, ls, lf, ll, ss, fs, ms, hR⟩ := id hN
    refine ⟨_, (pss_one (ps_ret (pe_lst (pa_cons (pe_fld (pe_fld (pv 0) rfl) rfl) (pa_cons (pe_fld (pe_fld (pv 0) rfl) rfl) pa_nil))))), ?_⟩
    refine ⟨_, rfl, d, _, dd, _, _, rfl, h1, T.cDesk.cl, T.cDesk.na _ (.head _), fs_Desk_state _ _, nn, _, dx, _, _, rfl, hR.o, T.cState.cl, T.cState.na _ (.tail _ (.tail _ (.tail _ (.head _)))), fs_State_claims _ _ _ _ _,
      _, rfl, d, _, dd, _, _, rfl, h1, T.cDesk.cl, T.cDesk.na _ (.head _), fs_Desk_state _ _, nn, _, dx, _, _, rfl, hR.o, T.cState.cl, T.cState.na _ (.tail _ (.tail _ (.tail _ (.tail _ (.head _))))), fs_State_impossible _ _ _ _ _, by show 2 ≤ sizeLine; decide, fun p hp => ?_⟩
    exact Ret.look (k.of (does_book a)) hd (same_upd hp) upd_same
theorem does_state (a : Abs) : a.does .state = (a, ⟨(a.now.st.length : Nat), [(a.now.facts.length : Nat), (a.now.letters.length : Nat), (a.past.length : Nat)]⟩) := rfl
theorem ok_state (T : Txt K mg A) : FnOk P w K mg base CX0 1 A.f_state A.fd_state ["desk"] (sp_0 A .state) := by
  refine T.d_state.F.ok sc_state (fun vs H Q E h => ?_) (fun cdv _ outer s H vs R E hr h => ?_)
  · obtain ⟨d, a, rfl, _⟩ := h
    rfl
  · obtain ⟨d, a, rfl, hd, ok, k⟩ := h
    obtain ⟨dd, nn, pl, ps, h1, h2, h3, h4⟩ := id hd
    have hN : NowAt A H nn a.now := h3.same (wo_le H d)
    obtain ⟨dx, ls, lf, ll, ss, fs, ms, hR⟩ := id hN
    refine ⟨_, (pss_cons (ps_set (i := 1) sc_state.nd rfl (Or.inl rfl) (pe_fld (pv 0) rfl))
 (pss_one (ps_ret (pe_lst (pa_cons (pe_callB call_len_seq (by rfl) T.b_len (by decide +kernel) (pa_cons (pe_fld (pv 1) rfl) pa_nil)) (pa_cons (pe_callB call_len_seq (by rfl) T.b_len (by decide +kernel) (pa_cons (pe_fld (pv 1) rfl) pa_nil)) (pa_cons (pe_callB call_len_seq (by rfl) T.b_len (by decide +kernel) (pa_cons (pe_fld (pv 1) rfl) pa_nil)) (pa_cons (pe_callB call_len_seq (by rfl) T.b_len (by decide +kernel) (pa_cons (pe_fld (pv 0) rfl) pa_nil)) pa_nil)))))))), ?_⟩
    refine ⟨_, rfl, d, _, dd, _, _, rfl, h1, T.cDesk.cl, T.cDesk.na _ (.head _), fs_Desk_state _ _, ?_⟩
    refine ⟨_, rfl, nn, _, dx, _, _, rfl, hR.o, T.cState.cl, T.cState.na _ (.head _), fs_State_stations _ _ _ _ _, ls, _, rfl, .inl (SqL.of hR.s),
      _, rfl, nn, _, dx, _, _, rfl, hR.o, T.cState.cl, T.cState.na _ (.tail _ (.head _)), fs_State_facts _ _ _ _ _, lf, _, rfl, .inl (SqL.of hR.f),
      _, rfl, nn, _, dx, _, _, rfl, hR.o, T.cState.cl, T.cState.na _ (.tail _ (.tail _ (.head _))), fs_State_letters _ _ _ _ _, ll, _, rfl, .inl (SqL.of hR.l),
      _, rfl, d, _, dd, _, _, rfl, h1, T.cDesk.cl, T.cDesk.na _ (.tail _ (.head _)), fs_Desk_past _ _, pl, _, rfl, .inl (SqL.of (wo_at h2)), by show 4 ≤ sizeLine; decide, fun p hp => ?_⟩
    rw [List.length_map, List.length_map, List.length_map, List.length_map, pr_len hR.sp, pr_len hR.fp, pr_len hR.lp, pr_len h4, List.length_reverse]
    exact Ret.look (k.of (does_state a)) hd (same_upd hp) upd_same
def sp_take_back (A : Ad) : Sp := fun vs H R _ => ∃ (d : Addr) (n w : Now) (l : List Now), vs = [.ref d] ∧ DeskAt A H d (some ⟨n, w :: l⟩) ∧ ∀ H', Same (wo H d) (wo H' d) → DeskAt A H' d (some ⟨w, l⟩) → R .non H'
theorem pr_last {α β : Type} {F : α → β → Prop} {y : β} : ∀ {ys : List β} {xs : List α}, Paired F xs (ys ++ [y]) → ∃ zs x, xs = zs ++ [x] ∧ Paired F zs ys ∧ F x y
  | [], _, .cons r .nil => ⟨[], _, rfl, .nil, r⟩
  | _ :: _, _, .cons r t => by
    obtain ⟨zs, x, e, p, q⟩ := pr_last t
    exact ⟨_ :: zs, x, by rw [e]; rfl, .cons r p, q⟩
theorem cut_last (ps : List Addr) (x : Addr) : cutV (refs (ps ++ [x])) none (some (-1)) = refs ps := by
  unfold cutV
  have e1 : HT.sIx (refs (ps ++ [x])).length (refs (ps ++ [x])).length (some (-1)) = ps.length := by
    show (if (-1 : Int) < 0 then ((-1 : Int) + ((refs (ps ++ [x])).length : Int)).toNat else min ((-1 : Int).toNat) (refs (ps ++ [x])).length) = ps.length
    rw [if_pos (by decide), List.length_map, List.length_append, List.length_singleton]
    omega
  rw [e1, HT.sIx_none, List.drop_zero, Nat.sub_zero, ← List.map_take, List.take_left]
theorem ok_take_back (T : Txt K mg A) : FnOk P w K mg base CX0 1 A.f_take_back A.fd_take_back ["desk"] (sp_take_back A) := by
  refine T.d_take_back.F.ok sc_take_back (fun vs H Q E h => ?_) (fun cdv _ outer s H vs R E hr h => ?_)
  · obtain ⟨d, n, w, l, rfl, _⟩ := h
    rfl
  · obtain ⟨d, n, w0, l, rfl, hd, k⟩ := h
    obtain ⟨dd, nn, pl, ps, h1, h2, h3, h4⟩ := hd
    have h4' : Paired (NowAt A (wo H d)) ps (l.reverse ++ [w0]) := by
      rw [← List.reverse_cons]
      exact h4
    obtain ⟨zs, x, rfl, hz, hx⟩ := pr_last h4'
    refine ⟨_, (pss_cons (ps_fld (pv 0) (pe_ix ix_list (pe_fld (pv 0) rfl) (pe_un un_neg pe_int) (fun _ _ => rfl)) rfl)
 (pss_one (ps_fld (pv 0) (pe_slice sl_list (pe_fld (pv 0) rfl) po_none (po_some (pe_un un_neg pe_int))) rfl))), ?_⟩
    have hl : atI (refs (zs ++ [x])) (-1) = some (.ref x) := by
      rw [← refs_snoc]
      exact atI_last _ _
    refine ⟨_, rfl, d, _, dd, _, _, rfl, h1, T.cDesk.cl, T.cDesk.na _ (.tail _ (.head _)), fs_Desk_past _ _, _, rfl, pl, _, _, _, rfl, rfl, SqL.of (wo_at h2), hl, _, rfl, d, _, dd, _, rfl, h1, T.cDesk.cl, T.cDesk.na _ (.head _), (by show 2 < 1000; decide), ?_⟩
    rw [pf_Desk_state]
    have pd : pl ≠ d := wo_ne h2
    refine ⟨_, rfl, d, _, dd, _, _, rfl, upd_same, T.cDesk.cl, T.cDesk.na _ (.tail _ (.head _)), fs_Desk_past _ _, _, rfl, _, rfl, pl, _, rfl, SqL.of (by rw [upd_ne pd]; exact wo_at h2), fun q hq => ?_⟩
    rw [cut_last]
    have qd : q ≠ d := (ne_of_none upd_same hq).symm
    refine ⟨_, rfl, d, _, dd, _, rfl, upd_at upd_same hq, T.cDesk.cl, T.cDesk.na _ (.tail _ (.head _)), (by show 2 < 1000; decide), ?_⟩
    rw [pf_Desk_past]
    have hq' : H q = none := by rw [upd_ne qd] at hq; exact hq
    have sw : Same (wo H d) (wo (upd (upd (upd H d (.ins A.C_Desk dd (fs_Desk (.ref x) (.ref pl)))) q (.lst (refs zs))) d (.ins A.C_Desk dd (fs_Desk (.ref x) (.ref q)))) d) := fun b o h => by
      have hb := wo_at h
      exact wo_of (by rw [upd_ne (wo_ne h), upd_ne (ne_of_none hb hq'), upd_ne (wo_ne h)]; exact hb) (wo_ne h)
    refine k _ sw ⟨dd, x, q, zs, upd_same, ?_, hx.same sw, pr_map hz fun _ _ _ h => h.same sw⟩
    exact wo_of (by rw [upd_ne qd, upd_same]) qd
theorem does_back (a : Abs) : a.does .back = match a.past with
    | [] => (a, Kv417.say (-6))
    | w :: l => (⟨w, l⟩, Kv417.num l.length) := rfl
theorem ok_back (T : Txt K mg A) : FnOk P w K mg base CX0 2 A.f_back A.fd_back ["desk"] (sp_0 A .back) := by
  refine T.d_back.F.ok sc_back (fun vs H Q E h => ?_) (fun cdv _ outer s H vs R E hr h => ?_)
  · obtain ⟨d, a, rfl, _⟩ := h
    rfl
  · obtain ⟨d, a, rfl, hd, ok, k⟩ := h
    obtain ⟨dd, nn, pl, ps, h1, h2, h3, h4⟩ := id hd
    have e1 := does_back a
    refine ⟨_, (pss_cons (ps_if (pt_cmpR op_eq (pe_callB call_len_seq (by rfl) T.b_len (by decide +kernel) (pa_cons (pe_fld (pv 0) rfl) pa_nil)) pe_int (nomark _)) (pss_one (ps_ret (pe_lst (pa_cons (pe_glob (v := .int (-6)) rfl T.k_NONE_LEFT ⟨_, rfl⟩) pa_nil)))) pss_nil)
 (pss_cons (ps_expr (pe_call (ok_take_back T) (hr.mono (by decide)) (by rfl) T.d_take_back.g T.d_take_back.F.kp T.d_take_back.b .nil pass0 (pa_cons (pv 0) pa_nil)))
 (pss_one (ps_ret (pe_lst (pa_cons (pe_callB call_len_seq (by rfl) T.b_len (by decide +kernel) (pa_cons (pe_fld (pv 0) rfl) pa_nil)) pa_nil)))))), ?_⟩
    refine ⟨_, rfl, d, _, dd, _, _, rfl, h1, T.cDesk.cl, T.cDesk.na _ (.tail _ (.head _)), fs_Desk_past _ _, pl, _, rfl, .inl (SqL.of (wo_at h2)), rfl, _, rfl, ?_⟩
    rw [List.length_map, pr_len h4, List.length_reverse, show (V.int 0) = V.int ((0 : Nat) : Int) from rfl, dec_nat]
    obtain ⟨n0, past⟩ := a
    cases past with
    | nil =>
      refine iteT ⟨by show 1 ≤ sizeLine; decide, fun p hp => ?_⟩
      exact k.say hd e1 (Same.refl H) hp
    | cons w0 l =>
      refine iteF ⟨_, rfl, d, n0, w0, l, rfl, hd, fun H1 s1 hd1 => ?_⟩
      obtain ⟨d1, n1, l1, p1, i1, i2, i3, i4⟩ := id hd1
      refine ⟨_, rfl, d, _, d1, _, _, rfl, i1, T.cDesk.cl, T.cDesk.na _ (.tail _ (.head _)), fs_Desk_past _ _, l1, _, rfl, .inl (SqL.of (wo_at i2)), by show 1 ≤ sizeLine; decide, fun p hp => ?_⟩
      rw [List.length_map, pr_len i4, List.length_reverse]
      have sp : Same H1 (upd H1 p (.lst [.int ((l.length : Nat) : Int)])) := same_upd hp
      exact (k.of e1) _ p (fun b o h => wo_same sp _ _ (s1 _ _ h)) (hd1.same sp) upd_same
end
end Py
namespace Py
open PySem PySem.Spec PyProof.Rows L2
/-! ### a dict of the text whose keys are whole numbers: k in d, d[k] -/
structure Ent (e : DictEntry) (kv : Int × V) : Prop where
  key : ∃ t, e.key = .int kv.1 t
  hash : e.hash = hashInt kv.1
  val : RelV kv.2 e.val
structure KDI (K : PySem.W.Frag) (a : Addr) (kvs : List (Int × V)) : Prop where
  ex : ∃ es n, K.lookup a = some ⟨.type "dict", none, .dict es n, #[]⟩ ∧ Paired Ent es.toList kvs
  low : (a == sysModules) = false
theorem ent_find : ∀ {es : List DictEntry} {kvs : List (Int × V)} (k : Int), Paired Ent es kvs →
    (kvs.lookup k = none ∧ es.find? (fun e => Value.isInt k e.key) = none) ∨ ∃ v e, kvs.lookup k = some v ∧ es.find? (fun e => Value.isInt k e.key) = some e ∧ RelV v e.val
  | _, _, k, .nil => .inl ⟨rfl, rfl⟩
  | e :: _, kv :: _, k, .cons r t => by
    obtain ⟨⟨tk, hk⟩, _, hv⟩ := r
    have hi : Value.isInt k e.key = (kv.1 == k) := by
      rw [hk]
      rfl
    rw [List.find?_cons, hi]
    by_cases c : kv.1 = k
    · refine .inr ⟨kv.2, e, ?_, ?_, hv⟩
      · rw [← c]
        obtain ⟨x, y⟩ := kv
        rw [List.lookup_cons, beq_self_eq_true]
      · rw [beq_iff_eq.mpr c]
    · obtain ⟨x, y⟩ := kv
      have c2 : (k == x) = false := beq_eq_false_iff_ne.mpr (Ne.symm c)
      have c3 : (x == k) = false := beq_eq_false_iff_ne.mpr c
      rw [List.lookup_cons, c2]
      simp only [c3]
      exact ent_find k t
theorem ent_all : ∀ {es : List DictEntry} {kvs : List (Int × V)}, Paired Ent es kvs → ∀ e ∈ es, ∃ i t, e.key = .int i t ∧ e.hash = hashInt i
  | _, _, .nil, _, h => by cases h
  | e :: _, kv :: _, .cons r t, x, h => by
    rcases List.mem_cons.mp h with rfl | h
    · obtain ⟨⟨tk, hk⟩, hh, _⟩ := r
      exact ⟨_, tk, hk, hh⟩
    · exact ent_all t x h
section
variable {X : Cx} {pins : List (Addr × Obj)} {σ : L2.St} {H : Hp} {s : Shared}
theorem map_KI {a : Addr} {es : Array DictEntry} {n : Nat} {kvs : List (Int × V)} {prog : Program} {w : World} {K : PySem.W.Frag} {h : Heap} (X : K.In h) (hl : K.lookup a = some ⟨.type "dict", none, .dict es n, #[]⟩) (hk : Paired Ent es.toList kvs) :
    h.MapOf (PySem.intKind prog w) a (fun k => findBy Value.isInt es k) :=
  ⟨_, es, n, X _ _ hl, ⟨rfl, rfl, rfl⟩, rfl, fun e he => by
    obtain ⟨i, t, e1, e2⟩ := ent_all hk e (Array.mem_toList_iff.mpr he)
    exact ⟨i, by rw [e1]; exact PySem.intKind_is prog w i t, e2⟩, fun _ => rfl⟩
theorem find_KI {es : Array DictEntry} (k : Int) : findBy Value.isInt es k = (es.toList.find? fun e => Value.isInt k e.key).map (·.val) := by
  obtain ⟨l⟩ := es
  unfold findBy
  rw [List.find?_toArray]
def rIxWI (K : PySem.W.Frag) : R2 := fun x y H Q => ∃ p kvs i v, x = .ref p ∧ y = .int i ∧ KDI K p kvs ∧ kvs.lookup i = some v ∧ Q v H
theorem ix_wdict : IxR X (rIxWI X.K) := by
  intro value slice pins s σ H x y v u Q I rx ry h hs
  obtain ⟨p, kvs, i, r, rfl, rfl, ⟨⟨es, n, hl, hk⟩, low⟩, e, q⟩ := h
  obtain rfl : v = Value.ref p := rx
  obtain ⟨t, rfl⟩ := ry
  have hm := map_KI (prog := X.prog) (w := X.w) I.kIn hl hk
  rcases ent_find i hk with ⟨z, _⟩ | ⟨v', e', h1, h2, h3⟩
  · rw [e] at z
    cases z
  · obtain rfl := Option.some.inj (e.symm.trans h1)
    exact tail_any hm.typeIs slot_dict_getitem.lookup (wpAny_getItem_of (PySem.intKind_is X.prog X.w i t) hm (v := e'.val) (by rw [find_KI, h2]; rfl) ⟨_, H, I.tok _, h3, q⟩) hs
def rInWI (K : PySem.W.Frag) : R2 := fun x y H Q => ∃ p kvs i, x = .int i ∧ y = .ref p ∧ KDI K p kvs ∧ Q (.bl (kvs.lookup i).isSome) H
theorem op_inW : OpR X (compareOp .In) (rInWI X.K) := by
  intro pins s σ H x y v u Q I rx ry h
  obtain ⟨p, kvs, i, rfl, rfl, ⟨⟨es, n, hl, hk⟩, low⟩, q⟩ := h
  obtain rfl : u = Value.ref p := ry
  obtain ⟨t, rfl⟩ := rx
  refine wpAny_in_of (PySem.intKind_is X.prog X.w i t) low (map_KI (prog := X.prog) (w := X.w) I.kIn hl hk) ?_
  have e : (findBy Value.isInt es i).isSome = (kvs.lookup i).isSome := by
    rw [find_KI]
    rcases ent_find i hk with ⟨h1, h2⟩ | ⟨v', e', h1, h2, h3⟩
    · rw [h1, h2]
      rfl
    · rw [h1, h2]
      rfl
  rw [e]
  exact fin_bl (I.tok _) q rfl
end
end Py
namespace Py
open PySem PySem.Spec PyProof.Rows L2
/-- the def at f keeps the promise sp, wherever k rooms are left -/
structure Kept (P : Program) (w : World) (K : PySem.W.Frag) (mg : Str → Option Value) (base : Heap) (k : Nat) (f : Addr) (sp : Sp) : Prop where
  ex : ∃ (lv : Nat) (fd : FuncData) (ps : List Str), lv ≤ k ∧ FnOk P w K mg base CX0 lv f fd ps sp ∧ PySem.W.keepIn K (.ref f) = true ∧ Binds K fd ps []
/-- a call of what the i-th slot holds: some def, with its promise -/
def tCallF (P : Program) (w : World) (K : PySem.W.Frag) (mg : Str → Option Value) (base : Heap) (k i : Nat) (t : TA) : TE := fun σ H Q => ∃ f sp, σ[i]? = some (some (.ref f)) ∧ Kept P w K mg base k f sp ∧ t σ H fun vs H1 => sp vs H1 Q E0
section
variable {X : Cx} {k i : Nat} {x : Str} {p pos : Pos} {e : Expr} {es : List Expr} {t : TA}
theorem pe_callF (hr : Room k X.A) (hN : X.N[i]? = some x) (hv : Vis X.env.scope x) (ha : PA X (e :: es) t)
    (hdb : (x == ("__debug__" : Str)) = false := by decide) (hcd : (x == ("__classdict__" : Str)) = false := by decide)
    (he : starEach (e :: es) X.env = (false, eval e X.env) :: starEach es X.env := by rfl) (hpl : (backTo pos (starEach es X.env)).any (·.1) = false := by rfl) : PE X (.Call (.Name x p) (e :: es) [] pos) (tCallF X.prog X.w X.K X.mg X.base k i t) := by
  refine ⟨fun pins s σ H Q I h => ?_⟩
  obtain ⟨f, sp, hs, ⟨lv, fd, ps, hlv, F, hk, hb⟩, ht⟩ := h
  refine (pe_callL (i := i) (f := f) (sp := sp) (dvs := []) (E := E0) F (hr.mono hlv) hN hv hk hb .nil pass0 ha hdb hcd he hpl).run pins s σ H Q I ⟨hs, ?_⟩
  have e0 : (fun (vs : List V) (H1 : Hp) => sp (vs ++ []) H1 Q E0) = fun vs H1 => sp vs H1 Q E0 := by
    funext vs H1
    rw [List.append_nil]
  show t σ H (fun vs H1 => sp (vs ++ []) H1 Q E0)
  rw [e0]
  exact ht
end
end Py
namespace Py
open PySem PySem.Spec PyProof.Rows L2
open Kv414 (Q gcd' Factor)
open Kv415 (Station Point)
open Kv417 (Fact Letter Now Abs)
/-! ### the calls by their numbers -/
def kC (A : Ad) : List (Int × V) := [(0, .ref A.f_begin), (1, .ref A.f_station), (2, .ref A.f_fact), (3, .ref A.f_letter), (4, .ref A.f_unfact), (5, .ref A.f_unletter), (6, .ref A.f_claim), (23, .ref A.f_back)]
def kL (A : Ad) : List (Int × V) := [(7, .ref A.f_is_station), (8, .ref A.f_factis), (9, .ref A.f_letteris), (10, .ref A.f_where), (11, .ref A.f_comes), (12, .ref A.f_in_letter), (24, .ref A.f_state)]
def kN (A : Ad) : List (Int × V) := [(13, .ref A.f_known), (14, .ref A.f_could), (15, .ref A.f_first), (16, .ref A.f_knew), (17, .ref A.f_late), (21, .ref A.f_never)]
def kO (A : Ad) : List (Int × V) := [(18, .ref A.f_own), (19, .ref A.f_sooner), (20, .ref A.f_heard), (22, .ref A.f_book)]
def pick (A : Ad) (z : Int) : Option V := match (kC A).lookup z with
  | some v => some v
  | none => match (kL A).lookup z with
    | some v => some v
    | none => match (kN A).lookup z with
      | some v => some v
      | none => (kO A).lookup z
section
variable {P : Program} {w : World} {K : PySem.W.Frag} {mg : Str → Option Value} {base : Heap} {A : Ad}
theorem kept_of {x : Str} {st : Stmt} {ps : List Str} {f : Addr} {fd : FuncData} {lv : Nat} {sp : Sp} (D : Df K mg x st ps f fd) (h : lv ≤ 9) (F : ∀ base, FnOk P w K mg base CX0 lv f fd ps sp) : ∀ base, Kept P w K mg base 9 f sp :=
  fun base => ⟨lv, fd, ps, h, F base, D.F.kp, D.b⟩
theorem ret_eq {H : Hp} {d : Addr} {z y : Kv417.State × List Int} {R : VK} (k : Ret A H d z.1 z.2 R) (e : z = y) : Ret A H d y.1 y.2 R := by
  rw [← e]
  exact k
/-- the call told by z keeps the promise that its numbers ask for -/
def Served (P : Program) (w : World) (K : PySem.W.Frag) (mg : Str → Option Value) (A : Ad) (H : Hp) (d : Addr) (z : Int) (told : List Int) (R : VK) : Prop :=
  ∃ f sp, pick A z = some (.ref f) ∧ (∀ base, Kept P w K mg base 9 f sp) ∧ sp (.ref d :: told.map V.int) H R E0
theorem serve_0 (T : Txt K mg A) {H : Hp} {d : Addr} {s : Kv417.State} {told : List Int} {R : VK} (hd : DeskAt A H d s) (hl : 0 = told.length) (k : Ret A H d (Kv417Neutral.step s [(0 : Int) :: told]).1 (Kv417Neutral.step s [(0 : Int) :: told]).2 R) : Served P w K mg A H d 0 told R :=
  match told, hl with
  | [], _ => ⟨A.f_begin, sp_begin A, rfl, kept_of T.d_begin (by decide) (fun _ => ok_begin T), d, s, rfl, hd, ret_eq k (Ma.step_0 s)⟩
theorem serve_1 (T : Txt K mg A) {H : Hp} {d : Addr} {a : Abs} {told : List Int} {R : VK} (hd : DeskAt A H d (some a)) (ok : OkA a) (hl : 4 = told.length) (q : Kv417Neutral.asked1 [(1 : Int) :: told] = true) (k : Ret A H d (Kv417Neutral.step (some a) [(1 : Int) :: told]).1 (Kv417Neutral.step (some a) [(1 : Int) :: told]).2 R) : Served P w K mg A H d 1 told R :=
  match told, hl with
  | [x, y, z, u], _ => ⟨A.f_station, sp_station A, rfl, kept_of T.d_station (by decide) (fun _ => ok_station T), d, a, x, y, z, u, rfl, hd, ok, (Ma.ask_1 q).1, (Ma.ask_1 q).2, ret_eq k (Ma.step_1 a)⟩
theorem serve_2 (T : Txt K mg A) {H : Hp} {d : Addr} {a : Abs} {told : List Int} {R : VK} (hd : DeskAt A H d (some a)) (ok : OkA a) (hl : 3 = told.length) (q : Kv417Neutral.asked1 [(2 : Int) :: told] = true) (k : Ret A H d (Kv417Neutral.step (some a) [(2 : Int) :: told]).1 (Kv417Neutral.step (some a) [(2 : Int) :: told]).2 R) : Served P w K mg A H d 2 told R :=
  match told, hl with
  | [x, y, z], _ => ⟨A.f_fact, sp_fact A, rfl, kept_of T.d_fact (by decide) (fun _ => ok_fact T), d, a, x, y, z, rfl, hd, ok, (Ma.ask_2 q).1, (Ma.ask_2 q).2, ret_eq k (Ma.step_2 a)⟩
theorem serve_3 (T : Txt K mg A) {H : Hp} {d : Addr} {a : Abs} {told : List Int} {R : VK} (hd : DeskAt A H d (some a)) (ok : OkA a) (hl : 4 = told.length) (q : Kv417Neutral.asked1 [(3 : Int) :: told] = true) (k : Ret A H d (Kv417Neutral.step (some a) [(3 : Int) :: told]).1 (Kv417Neutral.step (some a) [(3 : Int) :: told]).2 R) : Served P w K mg A H d 3 told R :=
  match told, hl with
  | [x, y, z, u], _ => ⟨A.f_letter, sp_letter A, rfl, kept_of T.d_letter (by decide) (fun _ => ok_letter T), d, a, x, y, z, u, rfl, hd, ok, (Ma.ask_3 q).1, (Ma.ask_3 q).2.1, (Ma.ask_3 q).2.2, ret_eq k (Ma.step_3 a)⟩
theorem serve_4 (T : Txt K mg A) {H : Hp} {d : Addr} {a : Abs} {told : List Int} {R : VK} (hd : DeskAt A H d (some a)) (ok : OkA a) (hl : 0 = told.length) (q : Kv417Neutral.asked1 [(4 : Int) :: told] = true) (k : Ret A H d (Kv417Neutral.step (some a) [(4 : Int) :: told]).1 (Kv417Neutral.step (some a) [(4 : Int) :: told]).2 R) : Served P w K mg A H d 4 told R :=
  match told, hl with
  | [], _ => ⟨A.f_unfact, sp_0 A .unfact, rfl, kept_of T.d_unfact (by decide) (fun _ => ok_unfact T), d, a, rfl, hd, ok, ret_eq k (Ma.step_4 a)⟩
theorem serve_5 (T : Txt K mg A) {H : Hp} {d : Addr} {a : Abs} {told : List Int} {R : VK} (hd : DeskAt A H d (some a)) (ok : OkA a) (hl : 0 = told.length) (q : Kv417Neutral.asked1 [(5 : Int) :: told] = true) (k : Ret A H d (Kv417Neutral.step (some a) [(5 : Int) :: told]).1 (Kv417Neutral.step (some a) [(5 : Int) :: told]).2 R) : Served P w K mg A H d 5 told R :=
  match told, hl with
  | [], _ => ⟨A.f_unletter, sp_0 A .unletter, rfl, kept_of T.d_unletter (by decide) (fun _ => ok_unletter T), d, a, rfl, hd, ok, ret_eq k (Ma.step_5 a)⟩
theorem serve_6 (T : Txt K mg A) {H : Hp} {d : Addr} {a : Abs} {told : List Int} {R : VK} (hd : DeskAt A H d (some a)) (ok : OkA a) (hl : 4 = told.length) (q : Kv417Neutral.asked1 [(6 : Int) :: told] = true) (k : Ret A H d (Kv417Neutral.step (some a) [(6 : Int) :: told]).1 (Kv417Neutral.step (some a) [(6 : Int) :: told]).2 R) : Served P w K mg A H d 6 told R :=
  match told, hl with
  | [x, y, z, u], _ => ⟨A.f_claim, sp_claim A, rfl, kept_of T.d_claim (by decide) (fun _ => ok_claim T), d, a, x, y, z, u, rfl, hd, ok, (Ma.ask_6 q).1, (Ma.ask_6 q).2.1, (Ma.ask_6 q).2.2, ret_eq k (Ma.step_6 a)⟩
theorem serve_7 (T : Txt K mg A) {H : Hp} {d : Addr} {a : Abs} {told : List Int} {R : VK} (hd : DeskAt A H d (some a)) (ok : OkA a) (hl : 1 = told.length) (q : Kv417Neutral.asked1 [(7 : Int) :: told] = true) (k : Ret A H d (Kv417Neutral.step (some a) [(7 : Int) :: told]).1 (Kv417Neutral.step (some a) [(7 : Int) :: told]).2 R) : Served P w K mg A H d 7 told R :=
  match told, hl with
  | [x], _ => ⟨A.f_is_station, sp_1 A .is, rfl, kept_of T.d_is_station (by decide) (fun _ => ok_is_station T), d, a, x, rfl, hd, ok, Ma.ask_7 q, ret_eq k (Ma.step_7 a)⟩
theorem serve_8 (T : Txt K mg A) {H : Hp} {d : Addr} {a : Abs} {told : List Int} {R : VK} (hd : DeskAt A H d (some a)) (ok : OkA a) (hl : 1 = told.length) (q : Kv417Neutral.asked1 [(8 : Int) :: told] = true) (k : Ret A H d (Kv417Neutral.step (some a) [(8 : Int) :: told]).1 (Kv417Neutral.step (some a) [(8 : Int) :: told]).2 R) : Served P w K mg A H d 8 told R :=
  match told, hl with
  | [x], _ => ⟨A.f_factis, sp_1 A .factis, rfl, kept_of T.d_factis (by decide) (fun _ => ok_factis T), d, a, x, rfl, hd, ok, Ma.ask_8 q, ret_eq k (Ma.step_8 a)⟩
theorem serve_9 (T : Txt K mg A) {H : Hp} {d : Addr} {a : Abs} {told : List Int} {R : VK} (hd : DeskAt A H d (some a)) (ok : OkA a) (hl : 1 = told.length) (q : Kv417Neutral.asked1 [(9 : Int) :: told] = true) (k : Ret A H d (Kv417Neutral.step (some a) [(9 : Int) :: told]).1 (Kv417Neutral.step (some a) [(9 : Int) :: told]).2 R) : Served P w K mg A H d 9 told R :=
  match told, hl with
  | [x], _ => ⟨A.f_letteris, sp_1 A .letteris, rfl, kept_of T.d_letteris (by decide) (fun _ => ok_letteris T), d, a, x, rfl, hd, ok, Ma.ask_9 q, ret_eq k (Ma.step_9 a)⟩
theorem serve_10 (T : Txt K mg A) {H : Hp} {d : Addr} {a : Abs} {told : List Int} {R : VK} (hd : DeskAt A H d (some a)) (ok : OkA a) (hl : 1 = told.length) (q : Kv417Neutral.asked1 [(10 : Int) :: told] = true) (k : Ret A H d (Kv417Neutral.step (some a) [(10 : Int) :: told]).1 (Kv417Neutral.step (some a) [(10 : Int) :: told]).2 R) : Served P w K mg A H d 10 told R :=
  match told, hl with
  | [x], _ => ⟨A.f_where, sp_1 A .where_, rfl, kept_of T.d_where (by decide) (fun _ => ok_where_ T), d, a, x, rfl, hd, ok, Ma.ask_10 q, ret_eq k (Ma.step_10 a)⟩
theorem serve_11 (T : Txt K mg A) {H : Hp} {d : Addr} {a : Abs} {told : List Int} {R : VK} (hd : DeskAt A H d (some a)) (ok : OkA a) (hl : 1 = told.length) (q : Kv417Neutral.asked1 [(11 : Int) :: told] = true) (k : Ret A H d (Kv417Neutral.step (some a) [(11 : Int) :: told]).1 (Kv417Neutral.step (some a) [(11 : Int) :: told]).2 R) : Served P w K mg A H d 11 told R :=
  match told, hl with
  | [x], _ => ⟨A.f_comes, sp_1 A .comes, rfl, kept_of T.d_comes (by decide) (fun _ => ok_comes T), d, a, x, rfl, hd, ok, Ma.ask_11 q, ret_eq k (Ma.step_11 a)⟩
theorem serve_12 (T : Txt K mg A) {H : Hp} {d : Addr} {a : Abs} {told : List Int} {R : VK} (hd : DeskAt A H d (some a)) (ok : OkA a) (hl : 1 = told.length) (q : Kv417Neutral.asked1 [(12 : Int) :: told] = true) (k : Ret A H d (Kv417Neutral.step (some a) [(12 : Int) :: told]).1 (Kv417Neutral.step (some a) [(12 : Int) :: told]).2 R) : Served P w K mg A H d 12 told R :=
  match told, hl with
  | [x], _ => ⟨A.f_in_letter, sp_1 A .in_, rfl, kept_of T.d_in_letter (by decide) (fun _ => ok_in_letter T), d, a, x, rfl, hd, ok, Ma.ask_12 q, ret_eq k (Ma.step_12 a)⟩
theorem serve_13 (T : Txt K mg A) {H : Hp} {d : Addr} {a : Abs} {told : List Int} {R : VK} (hd : DeskAt A H d (some a)) (ok : OkA a) (hl : 3 = told.length) (q : Kv417Neutral.asked1 [(13 : Int) :: told] = true) (k : Ret A H d (Kv417Neutral.step (some a) [(13 : Int) :: told]).1 (Kv417Neutral.step (some a) [(13 : Int) :: told]).2 R) : Served P w K mg A H d 13 told R :=
  match told, hl with
  | [x, y, z], _ => ⟨A.f_known, sp_known A .known, rfl, kept_of T.d_known (by decide) (fun _ => ok_known T), d, a, x, y, z, rfl, hd, ok, (Ma.ask_13 q).1, (Ma.ask_13 q).2, ret_eq k (Ma.step_13 a)⟩
theorem serve_14 (T : Txt K mg A) {H : Hp} {d : Addr} {a : Abs} {told : List Int} {R : VK} (hd : DeskAt A H d (some a)) (ok : OkA a) (hl : 3 = told.length) (q : Kv417Neutral.asked1 [(14 : Int) :: told] = true) (k : Ret A H d (Kv417Neutral.step (some a) [(14 : Int) :: told]).1 (Kv417Neutral.step (some a) [(14 : Int) :: told]).2 R) : Served P w K mg A H d 14 told R :=
  match told, hl with
  | [x, y, z], _ => ⟨A.f_could, sp_known A .could, rfl, kept_of T.d_could (by decide) (fun _ => ok_could T), d, a, x, y, z, rfl, hd, ok, (Ma.ask_14 q).1, (Ma.ask_14 q).2, ret_eq k (Ma.step_14 a)⟩
theorem serve_15 (T : Txt K mg A) {H : Hp} {d : Addr} {a : Abs} {told : List Int} {R : VK} (hd : DeskAt A H d (some a)) (ok : OkA a) (hl : 2 = told.length) (q : Kv417Neutral.asked1 [(15 : Int) :: told] = true) (k : Ret A H d (Kv417Neutral.step (some a) [(15 : Int) :: told]).1 (Kv417Neutral.step (some a) [(15 : Int) :: told]).2 R) : Served P w K mg A H d 15 told R :=
  match told, hl with
  | [x, y], _ => ⟨A.f_first, sp_2 A .first, rfl, kept_of T.d_first (by decide) (fun _ => ok_first T), d, a, x, y, rfl, hd, ok, (Ma.ask_15 q).1, (Ma.ask_15 q).2, ret_eq k (Ma.step_15 a)⟩
theorem serve_16 (T : Txt K mg A) {H : Hp} {d : Addr} {a : Abs} {told : List Int} {R : VK} (hd : DeskAt A H d (some a)) (ok : OkA a) (hl : 2 = told.length) (q : Kv417Neutral.asked1 [(16 : Int) :: told] = true) (k : Ret A H d (Kv417Neutral.step (some a) [(16 : Int) :: told]).1 (Kv417Neutral.step (some a) [(16 : Int) :: told]).2 R) : Served P w K mg A H d 16 told R :=
  match told, hl with
  | [x, y], _ => ⟨A.f_knew, sp_2 A .knew, rfl, kept_of T.d_knew (by decide) (fun _ => ok_knew T), d, a, x, y, rfl, hd, ok, (Ma.ask_16 q).1, (Ma.ask_16 q).2, ret_eq k (Ma.step_16 a)⟩
theorem serve_17 (T : Txt K mg A) {H : Hp} {d : Addr} {a : Abs} {told : List Int} {R : VK} (hd : DeskAt A H d (some a)) (ok : OkA a) (hl : 2 = told.length) (q : Kv417Neutral.asked1 [(17 : Int) :: told] = true) (k : Ret A H d (Kv417Neutral.step (some a) [(17 : Int) :: told]).1 (Kv417Neutral.step (some a) [(17 : Int) :: told]).2 R) : Served P w K mg A H d 17 told R :=
  match told, hl with
  | [x, y], _ => ⟨A.f_late, sp_2 A .late, rfl, kept_of T.d_late (by decide) (fun _ => ok_late T), d, a, x, y, rfl, hd, ok, (Ma.ask_17 q).1, (Ma.ask_17 q).2, ret_eq k (Ma.step_17 a)⟩
theorem serve_18 (T : Txt K mg A) {H : Hp} {d : Addr} {a : Abs} {told : List Int} {R : VK} (hd : DeskAt A H d (some a)) (ok : OkA a) (hl : 2 = told.length) (q : Kv417Neutral.asked1 [(18 : Int) :: told] = true) (k : Ret A H d (Kv417Neutral.step (some a) [(18 : Int) :: told]).1 (Kv417Neutral.step (some a) [(18 : Int) :: told]).2 R) : Served P w K mg A H d 18 told R :=
  match told, hl with
  | [x, y], _ => ⟨A.f_own, sp_2 A .own, rfl, kept_of T.d_own (by decide) (fun _ => ok_own T), d, a, x, y, rfl, hd, ok, (Ma.ask_18 q).1, (Ma.ask_18 q).2, ret_eq k (Ma.step_18 a)⟩
theorem serve_19 (T : Txt K mg A) {H : Hp} {d : Addr} {a : Abs} {told : List Int} {R : VK} (hd : DeskAt A H d (some a)) (ok : OkA a) (hl : 3 = told.length) (q : Kv417Neutral.asked1 [(19 : Int) :: told] = true) (k : Ret A H d (Kv417Neutral.step (some a) [(19 : Int) :: told]).1 (Kv417Neutral.step (some a) [(19 : Int) :: told]).2 R) : Served P w K mg A H d 19 told R :=
  match told, hl with
  | [x, y, z], _ => ⟨A.f_sooner, sp_3 A .sooner, rfl, kept_of T.d_sooner (by decide) (fun _ => ok_sooner T), d, a, x, y, z, rfl, hd, ok, (Ma.ask_19 q).1, (Ma.ask_19 q).2.1, (Ma.ask_19 q).2.2, ret_eq k (Ma.step_19 a)⟩
theorem serve_20 (T : Txt K mg A) {H : Hp} {d : Addr} {a : Abs} {told : List Int} {R : VK} (hd : DeskAt A H d (some a)) (ok : OkA a) (hl : 2 = told.length) (q : Kv417Neutral.asked1 [(20 : Int) :: told] = true) (k : Ret A H d (Kv417Neutral.step (some a) [(20 : Int) :: told]).1 (Kv417Neutral.step (some a) [(20 : Int) :: told]).2 R) : Served P w K mg A H d 20 told R :=
  match told, hl with
  | [x, y], _ => ⟨A.f_heard, sp_2 A .heard, rfl, kept_of T.d_heard (by decide) (fun _ => ok_heard T), d, a, x, y, rfl, hd, ok, (Ma.ask_20 q).1, (Ma.ask_20 q).2, ret_eq k (Ma.step_20 a)⟩
theorem serve_21 (T : Txt K mg A) {H : Hp} {d : Addr} {a : Abs} {told : List Int} {R : VK} (hd : DeskAt A H d (some a)) (ok : OkA a) (hl : 1 = told.length) (q : Kv417Neutral.asked1 [(21 : Int) :: told] = true) (k : Ret A H d (Kv417Neutral.step (some a) [(21 : Int) :: told]).1 (Kv417Neutral.step (some a) [(21 : Int) :: told]).2 R) : Served P w K mg A H d 21 told R :=
  match told, hl with
  | [x], _ => ⟨A.f_never, sp_1 A .never, rfl, kept_of T.d_never (by decide) (fun _ => ok_never T), d, a, x, rfl, hd, ok, Ma.ask_21 q, ret_eq k (Ma.step_21 a)⟩
theorem serve_22 (T : Txt K mg A) {H : Hp} {d : Addr} {a : Abs} {told : List Int} {R : VK} (hd : DeskAt A H d (some a)) (ok : OkA a) (hl : 0 = told.length) (q : Kv417Neutral.asked1 [(22 : Int) :: told] = true) (k : Ret A H d (Kv417Neutral.step (some a) [(22 : Int) :: told]).1 (Kv417Neutral.step (some a) [(22 : Int) :: told]).2 R) : Served P w K mg A H d 22 told R :=
  match told, hl with
  | [], _ => ⟨A.f_book, sp_0 A .book, rfl, kept_of T.d_book (by decide) (fun _ => ok_book T), d, a, rfl, hd, ok, ret_eq k (Ma.step_22 a)⟩
theorem serve_23 (T : Txt K mg A) {H : Hp} {d : Addr} {a : Abs} {told : List Int} {R : VK} (hd : DeskAt A H d (some a)) (ok : OkA a) (hl : 0 = told.length) (q : Kv417Neutral.asked1 [(23 : Int) :: told] = true) (k : Ret A H d (Kv417Neutral.step (some a) [(23 : Int) :: told]).1 (Kv417Neutral.step (some a) [(23 : Int) :: told]).2 R) : Served P w K mg A H d 23 told R :=
  match told, hl with
  | [], _ => ⟨A.f_back, sp_0 A .back, rfl, kept_of T.d_back (by decide) (fun _ => ok_back T), d, a, rfl, hd, ok, ret_eq k (Ma.step_23 a)⟩
theorem serve_24 (T : Txt K mg A) {H : Hp} {d : Addr} {a : Abs} {told : List Int} {R : VK} (hd : DeskAt A H d (some a)) (ok : OkA a) (hl : 0 = told.length) (q : Kv417Neutral.asked1 [(24 : Int) :: told] = true) (k : Ret A H d (Kv417Neutral.step (some a) [(24 : Int) :: told]).1 (Kv417Neutral.step (some a) [(24 : Int) :: told]).2 R) : Served P w K mg A H d 24 told R :=
  match told, hl with
  | [], _ => ⟨A.f_state, sp_0 A .state, rfl, kept_of T.d_state (by decide) (fun _ => ok_state T), d, a, rfl, hd, ok, ret_eq k (Ma.step_24 a)⟩
theorem served (T : Txt K mg A) {H : Hp} {d : Addr} {s : Kv417.State} {j : Nat} {z : Int} {told : List Int} {R : VK} (hz : z = (j : Int)) (hj : j < 25) (hd : DeskAt A H d s) (ok : Ma.OkO s) (hl : Ma.argcs[j]? = some told.length)
    (q : Kv417Neutral.asked1 [z :: told] = true) (hs : s = none → j = 0) (k : Ret A H d (Kv417Neutral.step s [z :: told]).1 (Kv417Neutral.step s [z :: told]).2 R) : Served P w K mg A H d z told R := by
  have e : j = 0 ∨ j = 1 ∨ j = 2 ∨ j = 3 ∨ j = 4 ∨ j = 5 ∨ j = 6 ∨ j = 7 ∨ j = 8 ∨ j = 9 ∨ j = 10 ∨ j = 11 ∨ j = 12 ∨ j = 13 ∨ j = 14 ∨ j = 15 ∨ j = 16 ∨ j = 17 ∨ j = 18 ∨ j = 19 ∨ j = 20 ∨ j = 21 ∨ j = 22 ∨ j = 23 ∨ j = 24 := by omega
  by_cases c : j = 0
  · subst c
    have hz' : z = 0 := hz
    subst hz'
    exact serve_0 T hd (Option.some.inj hl) k
  · cases s with
    | none => exact absurd (hs rfl) c
    | some a =>
      rcases e with e | rfl | rfl | rfl | rfl | rfl | rfl | rfl | rfl | rfl | rfl | rfl | rfl | rfl | rfl | rfl | rfl | rfl | rfl | rfl | rfl | rfl | rfl | rfl | rfl
      · exact absurd e c
      · obtain rfl : z = 1 := hz
        exact serve_1 T hd ok (Option.some.inj hl) q k
      · obtain rfl : z = 2 := hz
        exact serve_2 T hd ok (Option.some.inj hl) q k
      · obtain rfl : z = 3 := hz
        exact serve_3 T hd ok (Option.some.inj hl) q k
      · obtain rfl : z = 4 := hz
        exact serve_4 T hd ok (Option.some.inj hl) q k
      · obtain rfl : z = 5 := hz
        exact serve_5 T hd ok (Option.some.inj hl) q k
      · obtain rfl : z = 6 := hz
        exact serve_6 T hd ok (Option.some.inj hl) q k
      · obtain rfl : z = 7 := hz
        exact serve_7 T hd ok (Option.some.inj hl) q k
      · obtain rfl : z = 8 := hz
        exact serve_8 T hd ok (Option.some.inj hl) q k
      · obtain rfl : z = 9 := hz
        exact serve_9 T hd ok (Option.some.inj hl) q k
      · obtain rfl : z = 10 := hz
        exact serve_10 T hd ok (Option.some.inj hl) q k
      · obtain rfl : z = 11 := hz
        exact serve_11 T hd ok (Option.some.inj hl) q k
      · obtain rfl : z = 12 := hz
        exact serve_12 T hd ok (Option.some.inj hl) q k
      · obtain rfl : z = 13 := hz
        exact serve_13 T hd ok (Option.some.inj hl) q k
      · obtain rfl : z = 14 := hz
        exact serve_14 T hd ok (Option.some.inj hl) q k
      · obtain rfl : z = 15 := hz
        exact serve_15 T hd ok (Option.some.inj hl) q k
      · obtain rfl : z = 16 := hz
        exact serve_16 T hd ok (Option.some.inj hl) q k
      · obtain rfl : z = 17 := hz
        exact serve_17 T hd ok (Option.some.inj hl) q k
      · obtain rfl : z = 18 := hz
        exact serve_18 T hd ok (Option.some.inj hl) q k
      · obtain rfl : z = 19 := hz
        exact serve_19 T hd ok (Option.some.inj hl) q k
      · obtain rfl : z = 20 := hz
        exact serve_20 T hd ok (Option.some.inj hl) q k
      · obtain rfl : z = 21 := hz
        exact serve_21 T hd ok (Option.some.inj hl) q k
      · obtain rfl : z = 22 := hz
        exact serve_22 T hd ok (Option.some.inj hl) q k
      · obtain rfl : z = 23 := hz
        exact serve_23 T hd ok (Option.some.inj hl) q k
      · obtain rfl : z = 24 := hz
        exact serve_24 T hd ok (Option.some.inj hl) q k
theorem told_none {j : Nat} {told : List Int} (hj : j < 25) (h0 : j ≠ 0) (hl : Ma.argcs[j]? = some told.length) : Kv417Neutral.step none [(j : Int) :: told] = (none, [-11]) := by
  have e : j = 0 ∨ j = 1 ∨ j = 2 ∨ j = 3 ∨ j = 4 ∨ j = 5 ∨ j = 6 ∨ j = 7 ∨ j = 8 ∨ j = 9 ∨ j = 10 ∨ j = 11 ∨ j = 12 ∨ j = 13 ∨ j = 14 ∨ j = 15 ∨ j = 16 ∨ j = 17 ∨ j = 18 ∨ j = 19 ∨ j = 20 ∨ j = 21 ∨ j = 22 ∨ j = 23 ∨ j = 24 := by omega
  rcases e with e | rfl | rfl | rfl | rfl | rfl | rfl | rfl | rfl | rfl | rfl | rfl | rfl | rfl | rfl | rfl | rfl | rfl | rfl | rfl | rfl | rfl | rfl | rfl | rfl
  · exact absurd e h0
  · have hl2 : 4 = told.length := Option.some.inj hl
    match told, hl2 with
    | [x, y, z, u], _ => exact Ma.none_1
  · have hl2 : 3 = told.length := Option.some.inj hl
    match told, hl2 with
    | [x, y, z], _ => exact Ma.none_2
  · have hl2 : 4 = told.length := Option.some.inj hl
    match told, hl2 with
    | [x, y, z, u], _ => exact Ma.none_3
  · have hl2 : 0 = told.length := Option.some.inj hl
    match told, hl2 with
    | [], _ => exact Ma.none_4
  · have hl2 : 0 = told.length := Option.some.inj hl
    match told, hl2 with
    | [], _ => exact Ma.none_5
  · have hl2 : 4 = told.length := Option.some.inj hl
    match told, hl2 with
    | [x, y, z, u], _ => exact Ma.none_6
  · have hl2 : 1 = told.length := Option.some.inj hl
    match told, hl2 with
    | [x], _ => exact Ma.none_7
  · have hl2 : 1 = told.length := Option.some.inj hl
    match told, hl2 with
    | [x], _ => exact Ma.none_8
  · have hl2 : 1 = told.length := Option.some.inj hl
    match told, hl2 with
    | [x], _ => exact Ma.none_9
  · have hl2 : 1 = told.length := Option.some.inj hl
    match told, hl2 with
    | [x], _ => exact Ma.none_10
  · have hl2 : 1 = told.length := Option.some.inj hl
    match told, hl2 with
    | [x], _ => exact Ma.none_11
  · have hl2 : 1 = told.length := Option.some.inj hl
    match told, hl2 with
    | [x], _ => exact Ma.none_12
  · have hl2 : 3 = told.length := Option.some.inj hl
    match told, hl2 with
    | [x, y, z], _ => exact Ma.none_13
  · have hl2 : 3 = told.length := Option.some.inj hl
    match told, hl2 with
    | [x, y, z], _ => exact Ma.none_14
  · have hl2 : 2 = told.length := Option.some.inj hl
    match told, hl2 with
    | [x, y], _ => exact Ma.none_15
  · have hl2 : 2 = told.length := Option.some.inj hl
    match told, hl2 with
    | [x, y], _ => exact Ma.none_16
  · have hl2 : 2 = told.length := Option.some.inj hl
    match told, hl2 with
    | [x, y], _ => exact Ma.none_17
  · have hl2 : 2 = told.length := Option.some.inj hl
    match told, hl2 with
    | [x, y], _ => exact Ma.none_18
  · have hl2 : 3 = told.length := Option.some.inj hl
    match told, hl2 with
    | [x, y, z], _ => exact Ma.none_19
  · have hl2 : 2 = told.length := Option.some.inj hl
    match told, hl2 with
    | [x, y], _ => exact Ma.none_20
  · have hl2 : 1 = told.length := Option.some.inj hl
    match told, hl2 with
    | [x], _ => exact Ma.none_21
  · have hl2 : 0 = told.length := Option.some.inj hl
    match told, hl2 with
    | [], _ => exact Ma.none_22
  · have hl2 : 0 = told.length := Option.some.inj hl
    match told, hl2 with
    | [], _ => exact Ma.none_23
  · have hl2 : 0 = told.length := Option.some.inj hl
    match told, hl2 with
    | [], _ => exact Ma.none_24
theorem skip_if {b : Bool} {c X Y N : Prop} (hy : N → Y) (hx : b = true → (c → N) → X) (h : (b = false ∨ c) → N) : if b = true then X else Y := by
  cases b with
  | true =>
    rw [if_pos rfl]
    exact hx rfl fun hc => h (.inr hc)
  | false =>
    rw [if_neg Bool.false_ne_true]
    exact hy (h (.inl rfl))
/-! ### call_with, answer_to -/
def sp_call_with (P : Program) (w : World) (K : PySem.W.Frag) (mg : Str → Option Value) : Sp := fun vs H R _ => ∃ (f d tl : Addr) (told : List Int) (sp : Sp), vs = [.ref f, .ref d, .ref tl] ∧ H tl = some (.lst (told.map V.int)) ∧ told.length ≤ 4 ∧ (∀ base, Kept P w K mg base 9 f sp) ∧ sp (.ref d :: told.map V.int) H R E0
theorem ok_call_with (T : Txt K mg A) : FnOk P w K mg base CX0 10 A.f_call_with A.fd_call_with ["call", "desk", "told"] (sp_call_with P w K mg) := by
  refine T.d_call_with.F.ok sc_call_with (fun vs H Q E h => ?_) (fun cdv _ outer s H vs R E hr h => ?_)
  · obtain ⟨f, d, tl, told, sp, rfl, _⟩ := h
    rfl
  · obtain ⟨f, d, tl, told, sp, rfl, ht, hlen, kept, k⟩ := h
    refine ⟨_, (pss_cons (ps_if (pt_cmpR op_eq (pe_callB call_len_seq (by rfl) T.b_len (by decide +kernel) (pa_cons (pv 2) pa_nil)) pe_int (nomark _)) (pss_one (ps_ret (pe_callF (k := 9) (i := 0) (hr.mono (by decide)) rfl (by first | exact Or.inl rfl | exact Or.inr (Or.inl rfl)) (pa_cons (pv 1) pa_nil)))) pss_nil)
 (pss_cons (ps_if (pt_cmpR op_eq (pe_callB call_len_seq (by rfl) T.b_len (by decide +kernel) (pa_cons (pv 2) pa_nil)) pe_int (nomark _)) (pss_one (ps_ret (pe_callF (k := 9) (i := 0) (hr.mono (by decide)) rfl (by first | exact Or.inl rfl | exact Or.inr (Or.inl rfl)) (pa_cons (pv 1) (pa_cons (pe_ix ix_list (pv 2) pe_int (fun _ _ => rfl)) pa_nil))))) pss_nil)
 (pss_cons (ps_if (pt_cmpR op_eq (pe_callB call_len_seq (by rfl) T.b_len (by decide +kernel) (pa_cons (pv 2) pa_nil)) pe_int (nomark _)) (pss_one (ps_ret (pe_callF (k := 9) (i := 0) (hr.mono (by decide)) rfl (by first | exact Or.inl rfl | exact Or.inr (Or.inl rfl)) (pa_cons (pv 1) (pa_cons (pe_ix ix_list (pv 2) pe_int (fun _ _ => rfl)) (pa_cons (pe_ix ix_list (pv 2) pe_int (fun _ _ => rfl)) pa_nil)))))) pss_nil)
 (pss_cons (ps_if (pt_cmpR op_eq (pe_callB call_len_seq (by rfl) T.b_len (by decide +kernel) (pa_cons (pv 2) pa_nil)) pe_int (nomark _)) (pss_one (ps_ret (pe_callF (k := 9) (i := 0) (hr.mono (by decide)) rfl (by first | exact Or.inl rfl | exact Or.inr (Or.inl rfl)) (pa_cons (pv 1) (pa_cons (pe_ix ix_list (pv 2) pe_int (fun _ _ => rfl)) (pa_cons (pe_ix ix_list (pv 2) pe_int (fun _ _ => rfl)) (pa_cons (pe_ix ix_list (pv 2) pe_int (fun _ _ => rfl)) pa_nil))))))) pss_nil)
 (pss_one (ps_ret (pe_callF (k := 9) (i := 0) (hr.mono (by decide)) rfl (by first | exact Or.inl rfl | exact Or.inr (Or.inl rfl)) (pa_cons (pv 1) (pa_cons (pe_ix ix_list (pv 2) pe_int (fun _ _ => rfl)) (pa_cons (pe_ix ix_list (pv 2) pe_int (fun _ _ => rfl)) (pa_cons (pe_ix ix_list (pv 2) pe_int (fun _ _ => rfl)) (pa_cons (pe_ix ix_list (pv 2) pe_int (fun _ _ => rfl)) pa_nil)))))))))))), ?_⟩
    have t0 := SqL.of (K := K) ht
    refine ⟨_, rfl, tl, _, rfl, .inl t0, rfl, _, rfl, ?_⟩
    rw [List.length_map, show (V.int 0) = V.int ((0 : Nat) : Int) from rfl, dec_nat]
    cases told with
    | nil => exact iteT ⟨f, sp, rfl, kept _, _, rfl, k⟩
    | cons a told =>
    refine iteF ⟨_, rfl, tl, _, rfl, .inl t0, rfl, _, rfl, ?_⟩
    rw [List.length_map, show (V.int 1) = V.int ((1 : Nat) : Int) from rfl, dec_nat]
    cases told with
    | nil => exact iteT ⟨f, sp, rfl, kept _, _, rfl, _, rfl, tl, _, _, _, rfl, rfl, t0, atI_nat (j := 0) rfl, k⟩
    | cons b told =>
    refine iteF ⟨_, rfl, tl, _, rfl, .inl t0, rfl, _, rfl, ?_⟩
    rw [List.length_map, show (V.int 2) = V.int ((2 : Nat) : Int) from rfl, dec_nat]
    cases told with
    | nil => exact iteT ⟨f, sp, rfl, kept _, _, rfl, _, rfl, tl, _, _, _, rfl, rfl, t0, atI_nat (j := 0) rfl, _, rfl, tl, _, _, _, rfl, rfl, t0, atI_nat (j := 1) rfl, k⟩
    | cons c told =>
    refine iteF ⟨_, rfl, tl, _, rfl, .inl t0, rfl, _, rfl, ?_⟩
    rw [List.length_map, show (V.int 3) = V.int ((3 : Nat) : Int) from rfl, dec_nat]
    cases told with
    | nil => exact iteT ⟨f, sp, rfl, kept _, _, rfl, _, rfl, tl, _, _, _, rfl, rfl, t0, atI_nat (j := 0) rfl, _, rfl, tl, _, _, _, rfl, rfl, t0, atI_nat (j := 1) rfl, _, rfl, tl, _, _, _, rfl, rfl, t0, atI_nat (j := 2) rfl, k⟩
    | cons e told =>
    cases told with
    | nil => exact iteF ⟨f, sp, rfl, kept _, _, rfl, _, rfl, tl, _, _, _, rfl, rfl, t0, atI_nat (j := 0) rfl, _, rfl, tl, _, _, _, rfl, rfl, t0, atI_nat (j := 1) rfl, _, rfl, tl, _, _, _, rfl, rfl, t0, atI_nat (j := 2) rfl, _, rfl, tl, _, _, _, rfl, rfl, t0, atI_nat (j := 3) rfl, k⟩
    | cons g told =>
      simp only [List.length_cons] at hlen
      omega
theorem argcs_le {j n : Nat} (hj : j < 25) (h : Ma.argcs[j]? = some n) : n ≤ 4 := by
  have a : ∀ i : Fin 25, ∀ m, Ma.argcs[i.val]? = some m → m ≤ 4 := by
    intro i m e
    have : ∀ i : Fin 25, (Ma.argcs[i.val]?).getD 0 ≤ 4 := by decide
    have q := this i
    rw [e] at q
    exact q
  exact a ⟨j, hj⟩ n h
theorem ok_answer_to (T : Txt K mg A) (dC : KDI K A.a_CHANGES (kC A)) (dL : KDI K A.a_LOOKS (kL A)) (dN : KDI K A.a_NEWS (kN A)) (dO : KDI K A.a_ORDER (kO A)) : FnOk P w K mg base CX0 11 A.f_answer_to A.fd_answer_to ["desk", "number", "told"] (sp_answer_to A) := by
  refine T.d_answer_to.F.ok sc_answer_to (fun vs H Q E h => ?_) (fun cdv _ outer s H vs R E hr h => ?_)
  · obtain ⟨d, tl, s, j, told, rfl, _⟩ := h
    rfl
  · obtain ⟨d, tl, st, j, told, rfl, hd, ok, ht, hj, hl, ask, k⟩ := h
    refine ⟨_, (pss_cons (ps_if (PW.pt (pw_and (pt_cmpR op_isN (pe_fld (pv 0) rfl) pe_non (nomark _)) (pw_and1 (pt_cmpR op_ne (pv 1) (pe_glob (v := .int (0)) rfl T.k_BEGIN ⟨_, rfl⟩) (nomark _))))) (pss_one (ps_ret (pe_lst (pa_cons (pe_glob (v := .int (-11)) rfl T.k_NOT_BEGUN ⟨_, rfl⟩) pa_nil)))) pss_nil)
 (pss_cons (ps_if (pt_cmpR op_inW (pv 1) (pe_glob (v := .ref A.a_CHANGES) rfl T.k_CHANGES rfl) (by rfl)) (pss_one (ps_ret (pe_call (ok_call_with T) (hr.mono (by decide)) (by rfl) T.d_call_with.g T.d_call_with.F.kp T.d_call_with.b .nil pass0 (pa_cons (pe_ix ix_wdict (pe_glob (v := .ref A.a_CHANGES) rfl T.k_CHANGES rfl) (pv 1) (fun _ _ => rfl)) (pa_cons (pv 0) (pa_cons (pv 2) pa_nil)))))) pss_nil)
 (pss_cons (ps_if (pt_cmpR op_inW (pv 1) (pe_glob (v := .ref A.a_LOOKS) rfl T.k_LOOKS rfl) (by rfl)) (pss_one (ps_ret (pe_call (ok_call_with T) (hr.mono (by decide)) (by rfl) T.d_call_with.g T.d_call_with.F.kp T.d_call_with.b .nil pass0 (pa_cons (pe_ix ix_wdict (pe_glob (v := .ref A.a_LOOKS) rfl T.k_LOOKS rfl) (pv 1) (fun _ _ => rfl)) (pa_cons (pv 0) (pa_cons (pv 2) pa_nil)))))) pss_nil)
 (pss_cons (ps_if (pt_cmpR op_inW (pv 1) (pe_glob (v := .ref A.a_NEWS) rfl T.k_NEWS rfl) (by rfl)) (pss_one (ps_ret (pe_call (ok_call_with T) (hr.mono (by decide)) (by rfl) T.d_call_with.g T.d_call_with.F.kp T.d_call_with.b .nil pass0 (pa_cons (pe_ix ix_wdict (pe_glob (v := .ref A.a_NEWS) rfl T.k_NEWS rfl) (pv 1) (fun _ _ => rfl)) (pa_cons (pv 0) (pa_cons (pv 2) pa_nil)))))) pss_nil)
 (pss_one (ps_ret (pe_call (ok_call_with T) (hr.mono (by decide)) (by rfl) T.d_call_with.g T.d_call_with.F.kp T.d_call_with.b .nil pass0 (pa_cons (pe_ix ix_wdict (pe_glob (v := .ref A.a_ORDER) rfl T.k_ORDER rfl) (pv 1) (fun _ _ => rfl)) (pa_cons (pv 0) (pa_cons (pv 2) pa_nil)))))))))), ?_⟩
    have main : (st = none → j = 0) → Served P w K mg A H d (j : Int) told R := fun hs => served T rfl hj hd ok hl ask hs k
    obtain ⟨dd, u, v, h1⟩ := desk_any hd
    have hle := argcs_le hj hl
    have hu : st = none → u = .non := fun e => by
      subst e
      obtain ⟨dx, l, h⟩ := hd
      have z := Option.some.inj (h1.symm.trans h)
      injection z with _ _ z3
      exact congrArg Prod.snd (List.cons.inj z3).1
    have hu2 : u = .non → st = none := fun e => by
      cases st with
      | none => rfl
      | some a =>
        obtain ⟨dx, n, l, ps, h, _⟩ := hd
        have z := Option.some.inj (h1.symm.trans h)
        injection z with _ _ z3
        have e2 : u = .ref n := congrArg Prod.snd (List.cons.inj z3).1
        rw [e] at e2
        cases e2
    refine ⟨_, rfl, d, _, dd, _, _, rfl, h1, T.cDesk.cl, T.cDesk.na _ (.head _), fs_Desk_state _ _, rfl, _, rfl, ?_⟩
    refine skip_if (c := j = 0) (fun n => iteF n) (fun hb n => ?_) (fun hn => ?_)
    · refine ⟨_, rfl, rfl, _, rfl, ?_⟩
      have e0 : st = none := hu2 (of_decide_eq_true hb)
      subst e0
      rw [show (V.int 0) = V.int ((0 : Nat) : Int) from rfl, dec_nat]
      by_cases c0 : j = 0
      · rw [show (j == 0) = true from beq_iff_eq.mpr c0]
        exact iteF (n c0)
      · rw [show (j == 0) = false from beq_eq_false_iff_ne.mpr c0]
        refine iteT ⟨by show 1 ≤ sizeLine; decide, fun p hp => ?_⟩
        exact Ret.look (ret_eq k (told_none hj c0 hl)) hd (same_upd hp) upd_same
    · have hs : st = none → j = 0 := fun e => by
        rcases hn with hn | hn
        · rw [decide_eq_true (hu e)] at hn
          cases hn
        · exact hn
      obtain ⟨f, sp, hp, kept, hsp⟩ := main hs
      unfold pick at hp
      refine ⟨_, rfl, A.a_CHANGES, kC A, _, rfl, rfl, dC, _, rfl, ?_⟩
      cases hC : (kC A).lookup (j : Int) with
      | some v =>
        rw [hC] at hp
        obtain rfl : v = .ref f := Option.some.inj hp
        exact iteT ⟨_, rfl, A.a_CHANGES, kC A, _, _, rfl, rfl, dC, hC, _, rfl, _, rfl, f, d, tl, told, sp, rfl, ht, hle, kept, hsp⟩
      | none =>
      rw [hC] at hp
      refine iteF ⟨_, rfl, A.a_LOOKS, kL A, _, rfl, rfl, dL, _, rfl, ?_⟩
      cases hL : (kL A).lookup (j : Int) with
      | some v =>
        dsimp only at hp
        rw [hL] at hp
        obtain rfl : v = .ref f := Option.some.inj hp
        exact iteT ⟨_, rfl, A.a_LOOKS, kL A, _, _, rfl, rfl, dL, hL, _, rfl, _, rfl, f, d, tl, told, sp, rfl, ht, hle, kept, hsp⟩
      | none =>
      dsimp only at hp
      rw [hL] at hp
      refine iteF ⟨_, rfl, A.a_NEWS, kN A, _, rfl, rfl, dN, _, rfl, ?_⟩
      cases hN : (kN A).lookup (j : Int) with
      | some v =>
        dsimp only at hp
        rw [hN] at hp
        obtain rfl : v = .ref f := Option.some.inj hp
        exact iteT ⟨_, rfl, A.a_NEWS, kN A, _, _, rfl, rfl, dN, hN, _, rfl, _, rfl, f, d, tl, told, sp, rfl, ht, hle, kept, hsp⟩
      | none =>
      dsimp only at hp
      rw [hN] at hp
      exact iteF ⟨_, rfl, A.a_ORDER, kO A, _, _, rfl, rfl, dO, hp, _, rfl, _, rfl, f, d, tl, told, sp, rfl, ht, hle, kept, hsp⟩
end
end Py
namespace Py
open PySem PySem.Spec PyProof.Rows L2
section
variable {P : Program} {w : World} {K : PySem.W.Frag} {mg : Str → Option Value} {A : Ad}
theorem ent_mk {i hs : Int} {t : Tok} {f n : Addr} (e : f = n) (h : hs = hashInt i) : Ent ⟨hs, .int i t, .ref n⟩ (i, .ref f) := by
  subst e
  exact ⟨⟨t, rfl⟩, h, rfl⟩
theorem kdi_mk {a : Addr} {es : Array DictEntry} {n : Nat} {kvs : List (Int × V)} (l : K.lookup a = some ⟨.type "dict", none, .dict es n, #[]⟩) (p : Paired Ent es.toList kvs) (low : (a == sysModules) = false) : KDI K a kvs := ⟨⟨es, n, l, p⟩, low⟩
theorem tup_mk {a : Addr} {its : Array Value} {n : Nat} {dd : Option Addr} {sl : Array (Option Value)} {xs : List V} (l : K.lookup a = some ⟨.type "tuple", dd, .seq its n, sl⟩) (h : its.size ≤ sizeLine) (v : Vals xs its.toList) : ∀ H : Hp, SqT K H a xs :=
  fun _ => .inr ⟨_, its, n, l, rfl, rfl, h, v⟩
theorem bind_calls {f : Addr} {fd : FuncData} (F : Fun K "answers" "answers" s_answers f fd) : ∀ (s : Shared) (us : List Value), us.length = ["calls"].length → BindsTo s fd ⟨us, []⟩ ((["calls"] : List Str).zip us) := by
  obtain ⟨oc, od, kV, doc, pm, an, cdv, ct, osl, rfl, lk, hcd⟩ := F.ex
  intro s us hl
  match us, hl with
  | [_], _ => exact .of_eq rfl
theorem finish (T : Txt K mg A) {fa : Addr} (hfa : mg "answers" = some (.ref fa)) (dC : KDI K A.a_CHANGES (kC A)) (dL : KDI K A.a_LOOKS (kL A)) (dN : KDI K A.a_NEWS (kN A)) (dO : KDI K A.a_ORDER (kO A))
    (kA : ∀ H : Hp, SqT K H A.a_ARGUMENTS (Ma.argcs.map fun (k : Nat) => V.int ((k : Nat) : Int))) :
    ∃ fd : FuncData, (∀ (s : Shared) (us : List Value), us.length = ["calls"].length → BindsTo s fd ⟨us, []⟩ ((["calls"] : List Str).zip us)) ∧
      ∀ base : Heap, K.In base → base.Ns mainGlobals mg → FnOk P w K mg base CX0 12 fa fd ["calls"] (spAns K) := by
  have e : fa = A.f_answers := by
    have z := hfa.symm.trans T.d_answers.g
    injection z with z
    injection z
  subst e
  exact ⟨A.fd_answers, bind_calls T.d_answers.F, fun base _ _ => ok_answers_of T kA (fun {base} T => ok_answer_to T dC dL dN dO) (by decide)⟩
theorem vals_ints : ∀ {l : List Nat} {its : List Value}, Paired (fun (k : Nat) (v : Value) => ∃ t, v = .int ((k : Nat) : Int) t) l its → Vals (l.map fun (k : Nat) => V.int ((k : Nat) : Int)) its
  | _, _, .nil => .nil
  | _, _, .cons ⟨t, e⟩ r => .cons ⟨t, e⟩ (vals_ints r)
end
end Py
open PySem PySem.W PyProof.Rows
open PySem.W (Codec)
set_option maxRecDepth 100000 in
set_option maxHeartbeats 0 in
theorem PySem.Challenge.cw_whohearddesk_s01_answers_holds : PySem.Challenge.rw_whohearddesk_s01_answers.Holds := by
  w_on; k_headS; (case hw => exact ⟨[.list [.int 0]], by decide +kernel, by decide +kernel⟩)
  k_fillS
  refine L2.walk_specK (r := PySem.Challenge.rw_whohearddesk_s01_answers) (k := 12) (CX := L2.CX0) (ps := ["calls"]) (sp := Py.spAns) (by decide +kernel) rfl rfl ⟨rfl, by decide, by decide⟩ (fun w h Y => PySem.W.kIn_of Y) ?F ?S (fun _ _ _ _ z => z)
  case F =>
    intro w mg fa h Y KX G hmg
    refine' Py.kl_go (x := "Fact") (qual := "Fact.__init__") (st := Py.si_Fact) (ps := ["self", "station", "when", "point"]) (fl := ["station", "when", "point"]) KX G ?aC1 ?aI1 ?iF1 ?lF1 ?cF1 ?kF1 ?pg1 ?hd1 ?po1 ?sa1 ?mk1 ?kc1 ?na1 (fun _ _ _ _ _ _ us hl => match us, hl with | [_, _, _, _], _ => rfl) ?r1
    (case aC1 => k_is); (case aI1 => k_is); (case iF1 => k_is); (case lF1 => k_is); (case cF1 => k_is); (case kF1 => k_is); (case pg1 => k_is); (case hd1 => k_is); (case po1 => k_is); (case sa1 => k_is); (case mk1 => k_is); (case kc1 => k_is)
    (case na1 => (refine And.intro (by k_is) ?_; refine And.intro (by k_is) ?_; refine And.intro (by k_is) ?_; exact trivial))
    intro C_Fact i_Fact id_Fact K_Fact
    refine' Py.kl_go (x := "Letter") (qual := "Letter.__init__") (st := Py.si_Letter) (ps := ["self", "sender", "receiver", "sent", "arrives"]) (fl := ["sender", "receiver", "sent", "arrives"]) KX G ?aC2 ?aI2 ?iF2 ?lF2 ?cF2 ?kF2 ?pg2 ?hd2 ?po2 ?sa2 ?mk2 ?kc2 ?na2 (fun _ _ _ _ _ _ us hl => match us, hl with | [_, _, _, _, _], _ => rfl) ?r2
    (case aC2 => k_is); (case aI2 => k_is); (case iF2 => k_is); (case lF2 => k_is); (case cF2 => k_is); (case kF2 => k_is); (case pg2 => k_is); (case hd2 => k_is); (case po2 => k_is); (case sa2 => k_is); (case mk2 => k_is); (case kc2 => k_is)
    (case na2 => (refine And.intro (by k_is) ?_; refine And.intro (by k_is) ?_; refine And.intro (by k_is) ?_; refine And.intro (by k_is) ?_; exact trivial))
    intro C_Letter i_Letter id_Letter K_Letter
    refine' Py.kl_go (x := "State") (qual := "State.__init__") (st := Py.si_State) (ps := ["self"]) (fl := ["stations", "facts", "letters", "claims", "impossible"]) KX G ?aC3 ?aI3 ?iF3 ?lF3 ?cF3 ?kF3 ?pg3 ?hd3 ?po3 ?sa3 ?mk3 ?kc3 ?na3 (fun _ _ _ _ _ _ us hl => match us, hl with | [_], _ => rfl) ?r3
    (case aC3 => k_is); (case aI3 => k_is); (case iF3 => k_is); (case lF3 => k_is); (case cF3 => k_is); (case kF3 => k_is); (case pg3 => k_is); (case hd3 => k_is); (case po3 => k_is); (case sa3 => k_is); (case mk3 => k_is); (case kc3 => k_is)
    (case na3 => (refine And.intro (by k_is) ?_; refine And.intro (by k_is) ?_; refine And.intro (by k_is) ?_; refine And.intro (by k_is) ?_; refine And.intro (by k_is) ?_; exact trivial))
    intro C_State i_State id_State K_State
    refine' Py.kl_go (x := "Desk") (qual := "Desk.__init__") (st := Py.si_Desk) (ps := ["self"]) (fl := ["state", "past"]) KX G ?aC4 ?aI4 ?iF4 ?lF4 ?cF4 ?kF4 ?pg4 ?hd4 ?po4 ?sa4 ?mk4 ?kc4 ?na4 (fun _ _ _ _ _ _ us hl => match us, hl with | [_], _ => rfl) ?r4
    (case aC4 => k_is); (case aI4 => k_is); (case iF4 => k_is); (case lF4 => k_is); (case cF4 => k_is); (case kF4 => k_is); (case pg4 => k_is); (case hd4 => k_is); (case po4 => k_is); (case sa4 => k_is); (case mk4 => k_is); (case kc4 => k_is)
    (case na4 => (refine And.intro (by k_is) ?_; refine And.intro (by k_is) ?_; exact trivial))
    intro C_Desk i_Desk id_Desk K_Desk
    refine' Py.kl_go (x := "Point") (qual := "Point.__init__") (st := Py.si_Point) (ps := ["self", "minus", "plus"]) (fl := ["minus", "plus"]) KX G ?aC5 ?aI5 ?iF5 ?lF5 ?cF5 ?kF5 ?pg5 ?hd5 ?po5 ?sa5 ?mk5 ?kc5 ?na5 (fun _ _ _ _ _ _ us hl => match us, hl with | [_, _, _], _ => rfl) ?r5
    (case aC5 => k_is); (case aI5 => k_is); (case iF5 => k_is); (case lF5 => k_is); (case cF5 => k_is); (case kF5 => k_is); (case pg5 => k_is); (case hd5 => k_is); (case po5 => k_is); (case sa5 => k_is); (case mk5 => k_is); (case kc5 => k_is)
    (case na5 => (refine And.intro (by k_is) ?_; refine And.intro (by k_is) ?_; exact trivial))
    intro C_Point i_Point id_Point K_Point
    refine' Py.kl_go (x := "Station") (qual := "Station.__init__") (st := Py.si_Station) (ps := ["self", "time", "place", "factor"]) (fl := ["time", "place", "factor"]) KX G ?aC6 ?aI6 ?iF6 ?lF6 ?cF6 ?kF6 ?pg6 ?hd6 ?po6 ?sa6 ?mk6 ?kc6 ?na6 (fun _ _ _ _ _ _ us hl => match us, hl with | [_, _, _, _], _ => rfl) ?r6
    (case aC6 => k_is); (case aI6 => k_is); (case iF6 => k_is); (case lF6 => k_is); (case cF6 => k_is); (case kF6 => k_is); (case pg6 => k_is); (case hd6 => k_is); (case po6 => k_is); (case sa6 => k_is); (case mk6 => k_is); (case kc6 => k_is)
    (case na6 => (refine And.intro (by k_is) ?_; refine And.intro (by k_is) ?_; refine And.intro (by k_is) ?_; exact trivial))
    intro C_Station i_Station id_Station K_Station
    refine' Py.df_go (x := "copy_of") (st := Py.s_copy_of) (ps := ["state"]) KX G ?a7 ?l7 ?c7 ?k7 (fun _ _ _ _ _ _ us hl => match us, hl with | [_], _ => rfl) ?r7
    (case a7 => k_is); (case l7 => k_is); (case c7 => k_is); (case k7 => k_is)
    intro f_copy_of fd_copy_of E_copy_of D_copy_of
    refine' Py.df_go (x := "start_change") (st := Py.s_start_change) (ps := ["desk"]) KX G ?a8 ?l8 ?c8 ?k8 (fun _ _ _ _ _ _ us hl => match us, hl with | [_], _ => rfl) ?r8
    (case a8 => k_is); (case l8 => k_is); (case c8 => k_is); (case k8 => k_is)
    intro f_start_change fd_start_change E_start_change D_start_change
    refine' Py.df_go (x := "take_back") (st := Py.s_take_back) (ps := ["desk"]) KX G ?a9 ?l9 ?c9 ?k9 (fun _ _ _ _ _ _ us hl => match us, hl with | [_], _ => rfl) ?r9
    (case a9 => k_is); (case l9 => k_is); (case c9 => k_is); (case k9 => k_is)
    intro f_take_back fd_take_back E_take_back D_take_back
    refine' Py.df_go (x := "has_station") (st := Py.s_has_station) (ps := ["state", "i"]) KX G ?a10 ?l10 ?c10 ?k10 (fun _ _ _ _ _ _ us hl => match us, hl with | [_, _], _ => rfl) ?r10
    (case a10 => k_is); (case l10 => k_is); (case c10 => k_is); (case k10 => k_is)
    intro f_has_station fd_has_station E_has_station D_has_station
    refine' Py.df_go (x := "has_fact") (st := Py.s_has_fact) (ps := ["state", "f"]) KX G ?a11 ?l11 ?c11 ?k11 (fun _ _ _ _ _ _ us hl => match us, hl with | [_, _], _ => rfl) ?r11
    (case a11 => k_is); (case l11 => k_is); (case c11 => k_is); (case k11 => k_is)
    intro f_has_fact fd_has_fact E_has_fact D_has_fact
    refine' Py.df_go (x := "has_letter") (st := Py.s_has_letter) (ps := ["state", "m"]) KX G ?a12 ?l12 ?c12 ?k12 (fun _ _ _ _ _ _ us hl => match us, hl with | [_, _], _ => rfl) ?r12
    (case a12 => k_is); (case l12 => k_is); (case c12 => k_is); (case k12 => k_is)
    intro f_has_letter fd_has_letter E_has_letter D_has_letter
    refine' Py.df_go (x := "common_divisor") (st := Py.s_common_divisor) (ps := ["a", "b"]) KX G ?a13 ?l13 ?c13 ?k13 (fun _ _ _ _ _ _ us hl => match us, hl with | [_, _], _ => rfl) ?r13
    (case a13 => k_is); (case l13 => k_is); (case c13 => k_is); (case k13 => k_is)
    intro f_common_divisor fd_common_divisor E_common_divisor D_common_divisor
    refine' Py.df_go (x := "fraction") (st := Py.s_fraction) (ps := ["n", "d"]) KX G ?a14 ?l14 ?c14 ?k14 (fun _ _ _ _ _ _ us hl => match us, hl with | [_, _], _ => rfl) ?r14
    (case a14 => k_is); (case l14 => k_is); (case c14 => k_is); (case k14 => k_is)
    intro f_fraction fd_fraction E_fraction D_fraction
    refine' Py.df_go (x := "add") (st := Py.s_add) (ps := ["a", "b"]) KX G ?a15 ?l15 ?c15 ?k15 (fun _ _ _ _ _ _ us hl => match us, hl with | [_, _], _ => rfl) ?r15
    (case a15 => k_is); (case l15 => k_is); (case c15 => k_is); (case k15 => k_is)
    intro f_add fd_add E_add D_add
    refine' Py.df_go (x := "subtract") (st := Py.s_subtract) (ps := ["a", "b"]) KX G ?a16 ?l16 ?c16 ?k16 (fun _ _ _ _ _ _ us hl => match us, hl with | [_, _], _ => rfl) ?r16
    (case a16 => k_is); (case l16 => k_is); (case c16 => k_is); (case k16 => k_is)
    intro f_subtract fd_subtract E_subtract D_subtract
    refine' Py.df_go (x := "multiply") (st := Py.s_multiply) (ps := ["a", "b"]) KX G ?a17 ?l17 ?c17 ?k17 (fun _ _ _ _ _ _ us hl => match us, hl with | [_, _], _ => rfl) ?r17
    (case a17 => k_is); (case l17 => k_is); (case c17 => k_is); (case k17 => k_is)
    intro f_multiply fd_multiply E_multiply D_multiply
    refine' Py.df_go (x := "divide") (st := Py.s_divide) (ps := ["a", "b"]) KX G ?a18 ?l18 ?c18 ?k18 (fun _ _ _ _ _ _ us hl => match us, hl with | [_, _], _ => rfl) ?r18
    (case a18 => k_is); (case l18 => k_is); (case c18 => k_is); (case k18 => k_is)
    intro f_divide fd_divide E_divide D_divide
    refine' Py.df_go (x := "half") (st := Py.s_half) (ps := ["a"]) KX G ?a19 ?l19 ?c19 ?k19 (fun _ _ _ _ _ _ us hl => match us, hl with | [_], _ => rfl) ?r19
    (case a19 => k_is); (case l19 => k_is); (case c19 => k_is); (case k19 => k_is)
    intro f_half fd_half E_half D_half
    refine' Py.df_go (x := "at_most") (st := Py.s_at_most) (ps := ["a", "b"]) KX G ?a20 ?l20 ?c20 ?k20 (fun _ _ _ _ _ _ us hl => match us, hl with | [_, _], _ => rfl) ?r20
    (case a20 => k_is); (case l20 => k_is); (case c20 => k_is); (case k20 => k_is)
    intro f_at_most fd_at_most E_at_most D_at_most
    refine' Py.df_go (x := "greater_of") (st := Py.s_greater_of) (ps := ["a", "b"]) KX G ?a21 ?l21 ?c21 ?k21 (fun _ _ _ _ _ _ us hl => match us, hl with | [_, _], _ => rfl) ?r21
    (case a21 => k_is); (case l21 => k_is); (case c21 => k_is); (case k21 => k_is)
    intro f_greater_of fd_greater_of E_greater_of D_greater_of
    refine' Py.df_go (x := "lesser_of") (st := Py.s_lesser_of) (ps := ["a", "b"]) KX G ?a22 ?l22 ?c22 ?k22 (fun _ _ _ _ _ _ us hl => match us, hl with | [_, _], _ => rfl) ?r22
    (case a22 => k_is); (case l22 => k_is); (case c22 => k_is); (case k22 => k_is)
    intro f_lesser_of fd_lesser_of E_lesser_of D_lesser_of
    refine' Py.df_go (x := "start_of") (st := Py.s_start_of) (ps := ["station"]) KX G ?a23 ?l23 ?c23 ?k23 (fun _ _ _ _ _ _ us hl => match us, hl with | [_], _ => rfl) ?r23
    (case a23 => k_is); (case l23 => k_is); (case c23 => k_is); (case k23 => k_is)
    intro f_start_of fd_start_of E_start_of D_start_of
    refine' Py.df_go (x := "point_at") (st := Py.s_point_at) (ps := ["station", "clock"]) KX G ?a24 ?l24 ?c24 ?k24 (fun _ _ _ _ _ _ us hl => match us, hl with | [_, _], _ => rfl) ?r24
    (case a24 => k_is); (case l24 => k_is); (case c24 => k_is); (case k24 => k_is)
    intro f_point_at fd_point_at E_point_at D_point_at
    refine' Py.df_go (x := "clock_by_minus") (st := Py.s_clock_by_minus) (ps := ["station", "point"]) KX G ?a25 ?l25 ?c25 ?k25 (fun _ _ _ _ _ _ us hl => match us, hl with | [_, _], _ => rfl) ?r25
    (case a25 => k_is); (case l25 => k_is); (case c25 => k_is); (case k25 => k_is)
    intro f_clock_by_minus fd_clock_by_minus E_clock_by_minus D_clock_by_minus
    refine' Py.df_go (x := "clock_by_plus") (st := Py.s_clock_by_plus) (ps := ["station", "point"]) KX G ?a26 ?l26 ?c26 ?k26 (fun _ _ _ _ _ _ us hl => match us, hl with | [_, _], _ => rfl) ?r26
    (case a26 => k_is); (case l26 => k_is); (case c26 => k_is); (case k26 => k_is)
    intro f_clock_by_plus fd_clock_by_plus E_clock_by_plus D_clock_by_plus
    refine' Py.df_go (x := "hears") (st := Py.s_hears) (ps := ["station", "point"]) KX G ?a27 ?l27 ?c27 ?k27 (fun _ _ _ _ _ _ us hl => match us, hl with | [_, _], _ => rfl) ?r27
    (case a27 => k_is); (case l27 => k_is); (case c27 => k_is); (case k27 => k_is)
    intro f_hears fd_hears E_hears D_hears
    refine' Py.df_go (x := "till") (st := Py.s_till) (ps := ["station", "point"]) KX G ?a28 ?l28 ?c28 ?k28 (fun _ _ _ _ _ _ us hl => match us, hl with | [_, _], _ => rfl) ?r28
    (case a28 => k_is); (case l28 => k_is); (case c28 => k_is); (case k28 => k_is)
    intro f_till fd_till E_till D_till
    refine' Py.df_go (x := "own_time") (st := Py.s_own_time) (ps := ["station", "point"]) KX G ?a29 ?l29 ?c29 ?k29 (fun _ _ _ _ _ _ us hl => match us, hl with | [_, _], _ => rfl) ?r29
    (case a29 => k_is); (case l29 => k_is); (case c29 => k_is); (case k29 => k_is)
    intro f_own_time fd_own_time E_own_time D_own_time
    refine' Py.df_go (x := "own_place") (st := Py.s_own_place) (ps := ["station", "point"]) KX G ?a30 ?l30 ?c30 ?k30 (fun _ _ _ _ _ _ us hl => match us, hl with | [_, _], _ => rfl) ?r30
    (case a30 => k_is); (case l30 => k_is); (case c30 => k_is); (case k30 => k_is)
    intro f_own_place fd_own_place E_own_place D_own_place
    refine' Py.df_go (x := "side") (st := Py.s_side) (ps := ["station", "point"]) KX G ?a31 ?l31 ?c31 ?k31 (fun _ _ _ _ _ _ us hl => match us, hl with | [_, _], _ => rfl) ?r31
    (case a31 => k_is); (case l31 => k_is); (case c31 => k_is); (case k31 => k_is)
    intro f_side fd_side E_side D_side
    refine' Py.df_go (x := "can_have_heard") (st := Py.s_can_have_heard) (ps := ["point", "other"]) KX G ?a32 ?l32 ?c32 ?k32 (fun _ _ _ _ _ _ us hl => match us, hl with | [_, _], _ => rfl) ?r32
    (case a32 => k_is); (case l32 => k_is); (case c32 => k_is); (case k32 => k_is)
    intro f_can_have_heard fd_can_have_heard E_can_have_heard D_can_have_heard
    refine' Py.df_go (x := "time_of") (st := Py.s_time_of) (ps := ["point"]) KX G ?a33 ?l33 ?c33 ?k33 (fun _ _ _ _ _ _ us hl => match us, hl with | [_], _ => rfl) ?r33
    (case a33 => k_is); (case l33 => k_is); (case c33 => k_is); (case k33 => k_is)
    intro f_time_of fd_time_of E_time_of D_time_of
    refine' Py.df_go (x := "place_of") (st := Py.s_place_of) (ps := ["point"]) KX G ?a34 ?l34 ?c34 ?k34 (fun _ _ _ _ _ _ us hl => match us, hl with | [_], _ => rfl) ?r34
    (case a34 => k_is); (case l34 => k_is); (case c34 => k_is); (case k34 => k_is)
    intro f_place_of fd_place_of E_place_of D_place_of
    refine' Py.df_go (x := "moments_behind") (st := Py.s_moments_behind) (ps := ["state", "station", "clock"]) KX G ?a35 ?l35 ?c35 ?k35 (fun _ _ _ _ _ _ us hl => match us, hl with | [_, _, _], _ => rfl) ?r35
    (case a35 => k_is); (case l35 => k_is); (case c35 => k_is); (case k35 => k_is)
    intro f_moments_behind fd_moments_behind E_moments_behind D_moments_behind
    refine' Py.df_go (x := "has_come") (st := Py.s_has_come) (ps := ["letter", "moment"]) KX G ?a36 ?l36 ?c36 ?k36 (fun _ _ _ _ _ _ us hl => match us, hl with | [_, _], _ => rfl) ?r36
    (case a36 => k_is); (case l36 => k_is); (case c36 => k_is); (case k36 => k_is)
    intro f_has_come fd_has_come E_has_come D_has_come
    refine' Py.df_go (x := "came_to_be") (st := Py.s_came_to_be) (ps := ["fact", "moment"]) KX G ?a37 ?l37 ?c37 ?k37 (fun _ _ _ _ _ _ us hl => match us, hl with | [_, _], _ => rfl) ?r37
    (case a37 => k_is); (case l37 => k_is); (case c37 => k_is); (case k37 => k_is)
    intro f_came_to_be fd_came_to_be E_came_to_be D_came_to_be
    refine' Py.df_go (x := "facts_known") (st := Py.s_facts_known) (ps := ["state", "station", "clock"]) KX G ?a38 ?l38 ?c38 ?k38 (fun _ _ _ _ _ _ us hl => match us, hl with | [_, _, _], _ => rfl) ?r38
    (case a38 => k_is); (case l38 => k_is); (case c38 => k_is); (case k38 => k_is)
    intro f_facts_known fd_facts_known E_facts_known D_facts_known
    refine' Py.df_go (x := "first_known") (st := Py.s_first_known) (ps := ["state", "station", "f"]) KX G ?a39 ?l39 ?c39 ?k39 (fun _ _ _ _ _ _ us hl => match us, hl with | [_, _, _], _ => rfl) ?r39
    (case a39 => k_is); (case l39 => k_is); (case c39 => k_is); (case k39 => k_is)
    intro f_first_known fd_first_known E_first_known D_first_known
    refine' Py.df_go (x := "first_heard") (st := Py.s_first_heard) (ps := ["state", "station", "f"]) KX G ?a40 ?l40 ?c40 ?k40 (fun _ _ _ _ _ _ us hl => match us, hl with | [_, _, _], _ => rfl) ?r40
    (case a40 => k_is); (case l40 => k_is); (case c40 => k_is); (case k40 => k_is)
    intro f_first_heard fd_first_heard E_first_heard D_first_heard
    refine' Py.df_go (x := "could_know") (st := Py.s_could_know) (ps := ["state", "station", "f", "clock"]) KX G ?a41 ?l41 ?c41 ?k41 (fun _ _ _ _ _ _ us hl => match us, hl with | [_, _, _, _], _ => rfl) ?r41
    (case a41 => k_is); (case l41 => k_is); (case c41 => k_is); (case k41 => k_is)
    intro f_could_know fd_could_know E_could_know D_could_know
    refine' Py.df_go (x := "is_near") (st := Py.s_is_near) (ps := ["number"]) KX G ?a42 ?l42 ?c42 ?k42 (fun _ _ _ _ _ _ us hl => match us, hl with | [_], _ => rfl) ?r42
    (case a42 => k_is); (case l42 => k_is); (case c42 => k_is); (case k42 => k_is)
    intro f_is_near fd_is_near E_is_near D_is_near
    refine' Py.df_go (x := "is_factor_part") (st := Py.s_is_factor_part) (ps := ["number"]) KX G ?a43 ?l43 ?c43 ?k43 (fun _ _ _ _ _ _ us hl => match us, hl with | [_], _ => rfl) ?r43
    (case a43 => k_is); (case l43 => k_is); (case c43 => k_is); (case k43 => k_is)
    intro f_is_factor_part fd_is_factor_part E_is_factor_part D_is_factor_part
    refine' Py.df_go (x := "is_clock_number") (st := Py.s_is_clock_number) (ps := ["n", "d"]) KX G ?a44 ?l44 ?c44 ?k44 (fun _ _ _ _ _ _ us hl => match us, hl with | [_, _], _ => rfl) ?r44
    (case a44 => k_is); (case l44 => k_is); (case c44 => k_is); (case k44 => k_is)
    intro f_is_clock_number fd_is_clock_number E_is_clock_number D_is_clock_number
    refine' Py.df_go (x := "begin") (st := Py.s_begin) (ps := ["desk"]) KX G ?a45 ?l45 ?c45 ?k45 (fun _ _ _ _ _ _ us hl => match us, hl with | [_], _ => rfl) ?r45
    (case a45 => k_is); (case l45 => k_is); (case c45 => k_is); (case k45 => k_is)
    intro f_begin fd_begin E_begin D_begin
    refine' Py.df_go (x := "back") (st := Py.s_back) (ps := ["desk"]) KX G ?a46 ?l46 ?c46 ?k46 (fun _ _ _ _ _ _ us hl => match us, hl with | [_], _ => rfl) ?r46
    (case a46 => k_is); (case l46 => k_is); (case c46 => k_is); (case k46 => k_is)
    intro f_back fd_back E_back D_back
    refine' Py.df_go (x := "station") (st := Py.s_station) (ps := ["desk", "t", "x", "p", "q"]) KX G ?a47 ?l47 ?c47 ?k47 (fun _ _ _ _ _ _ us hl => match us, hl with | [_, _, _, _, _], _ => rfl) ?r47
    (case a47 => k_is); (case l47 => k_is); (case c47 => k_is); (case k47 => k_is)
    intro f_station fd_station E_station D_station
    refine' Py.df_go (x := "fact") (st := Py.s_fact) (ps := ["desk", "i", "n", "d"]) KX G ?a48 ?l48 ?c48 ?k48 (fun _ _ _ _ _ _ us hl => match us, hl with | [_, _, _, _], _ => rfl) ?r48
    (case a48 => k_is); (case l48 => k_is); (case c48 => k_is); (case k48 => k_is)
    intro f_fact fd_fact E_fact D_fact
    refine' Py.df_go (x := "letter") (st := Py.s_letter) (ps := ["desk", "i", "j", "n", "d"]) KX G ?a49 ?l49 ?c49 ?k49 (fun _ _ _ _ _ _ us hl => match us, hl with | [_, _, _, _, _], _ => rfl) ?r49
    (case a49 => k_is); (case l49 => k_is); (case c49 => k_is); (case k49 => k_is)
    intro f_letter fd_letter E_letter D_letter
    refine' Py.df_go (x := "unfact") (st := Py.s_unfact) (ps := ["desk"]) KX G ?a50 ?l50 ?c50 ?k50 (fun _ _ _ _ _ _ us hl => match us, hl with | [_], _ => rfl) ?r50
    (case a50 => k_is); (case l50 => k_is); (case c50 => k_is); (case k50 => k_is)
    intro f_unfact fd_unfact E_unfact D_unfact
    refine' Py.df_go (x := "unletter") (st := Py.s_unletter) (ps := ["desk"]) KX G ?a51 ?l51 ?c51 ?k51 (fun _ _ _ _ _ _ us hl => match us, hl with | [_], _ => rfl) ?r51
    (case a51 => k_is); (case l51 => k_is); (case c51 => k_is); (case k51 => k_is)
    intro f_unletter fd_unletter E_unletter D_unletter
    refine' Py.df_go (x := "judge") (st := Py.s_judge) (ps := ["state", "i", "f", "clock"]) KX G ?a52 ?l52 ?c52 ?k52 (fun _ _ _ _ _ _ us hl => match us, hl with | [_, _, _, _], _ => rfl) ?r52
    (case a52 => k_is); (case l52 => k_is); (case c52 => k_is); (case k52 => k_is)
    intro f_judge fd_judge E_judge D_judge
    refine' Py.df_go (x := "claim") (st := Py.s_claim) (ps := ["desk", "i", "f", "n", "d"]) KX G ?a53 ?l53 ?c53 ?k53 (fun _ _ _ _ _ _ us hl => match us, hl with | [_, _, _, _, _], _ => rfl) ?r53
    (case a53 => k_is); (case l53 => k_is); (case c53 => k_is); (case k53 => k_is)
    intro f_claim fd_claim E_claim D_claim
    refine' Py.df_go (x := "is_station") (st := Py.s_is_station) (ps := ["desk", "i"]) KX G ?a54 ?l54 ?c54 ?k54 (fun _ _ _ _ _ _ us hl => match us, hl with | [_, _], _ => rfl) ?r54
    (case a54 => k_is); (case l54 => k_is); (case c54 => k_is); (case k54 => k_is)
    intro f_is_station fd_is_station E_is_station D_is_station
    refine' Py.df_go (x := "factis") (st := Py.s_factis) (ps := ["desk", "f"]) KX G ?a55 ?l55 ?c55 ?k55 (fun _ _ _ _ _ _ us hl => match us, hl with | [_, _], _ => rfl) ?r55
    (case a55 => k_is); (case l55 => k_is); (case c55 => k_is); (case k55 => k_is)
    intro f_factis fd_factis E_factis D_factis
    refine' Py.df_go (x := "letteris") (st := Py.s_letteris) (ps := ["desk", "m"]) KX G ?a56 ?l56 ?c56 ?k56 (fun _ _ _ _ _ _ us hl => match us, hl with | [_, _], _ => rfl) ?r56
    (case a56 => k_is); (case l56 => k_is); (case c56 => k_is); (case k56 => k_is)
    intro f_letteris fd_letteris E_letteris D_letteris
    refine' Py.df_go (x := "where") (st := Py.s_where) (ps := ["desk", "f"]) KX G ?a57 ?l57 ?c57 ?k57 (fun _ _ _ _ _ _ us hl => match us, hl with | [_, _], _ => rfl) ?r57
    (case a57 => k_is); (case l57 => k_is); (case c57 => k_is); (case k57 => k_is)
    intro f_where fd_where E_where D_where
    refine' Py.df_go (x := "comes") (st := Py.s_comes) (ps := ["desk", "m"]) KX G ?a58 ?l58 ?c58 ?k58 (fun _ _ _ _ _ _ us hl => match us, hl with | [_, _], _ => rfl) ?r58
    (case a58 => k_is); (case l58 => k_is); (case c58 => k_is); (case k58 => k_is)
    intro f_comes fd_comes E_comes D_comes
    refine' Py.df_go (x := "in_letter") (st := Py.s_in_letter) (ps := ["desk", "m"]) KX G ?a59 ?l59 ?c59 ?k59 (fun _ _ _ _ _ _ us hl => match us, hl with | [_, _], _ => rfl) ?r59
    (case a59 => k_is); (case l59 => k_is); (case c59 => k_is); (case k59 => k_is)
    intro f_in_letter fd_in_letter E_in_letter D_in_letter
    refine' Py.df_go (x := "state") (st := Py.s_state) (ps := ["desk"]) KX G ?a60 ?l60 ?c60 ?k60 (fun _ _ _ _ _ _ us hl => match us, hl with | [_], _ => rfl) ?r60
    (case a60 => k_is); (case l60 => k_is); (case c60 => k_is); (case k60 => k_is)
    intro f_state fd_state E_state D_state
    refine' Py.df_go (x := "counted") (st := Py.s_counted) (ps := ["facts"]) KX G ?a61 ?l61 ?c61 ?k61 (fun _ _ _ _ _ _ us hl => match us, hl with | [_], _ => rfl) ?r61
    (case a61 => k_is); (case l61 => k_is); (case c61 => k_is); (case k61 => k_is)
    intro f_counted fd_counted E_counted D_counted
    refine' Py.df_go (x := "has_both") (st := Py.s_has_both) (ps := ["state", "i", "f"]) KX G ?a62 ?l62 ?c62 ?k62 (fun _ _ _ _ _ _ us hl => match us, hl with | [_, _, _], _ => rfl) ?r62
    (case a62 => k_is); (case l62 => k_is); (case c62 => k_is); (case k62 => k_is)
    intro f_has_both fd_has_both E_has_both D_has_both
    refine' Py.df_go (x := "known") (st := Py.s_known) (ps := ["desk", "i", "n", "d"]) KX G ?a63 ?l63 ?c63 ?k63 (fun _ _ _ _ _ _ us hl => match us, hl with | [_, _, _, _], _ => rfl) ?r63
    (case a63 => k_is); (case l63 => k_is); (case c63 => k_is); (case k63 => k_is)
    intro f_known fd_known E_known D_known
    refine' Py.df_go (x := "could") (st := Py.s_could) (ps := ["desk", "i", "n", "d"]) KX G ?a64 ?l64 ?c64 ?k64 (fun _ _ _ _ _ _ us hl => match us, hl with | [_, _, _, _], _ => rfl) ?r64
    (case a64 => k_is); (case l64 => k_is); (case c64 => k_is); (case k64 => k_is)
    intro f_could fd_could E_could D_could
    refine' Py.df_go (x := "first") (st := Py.s_first) (ps := ["desk", "i", "f"]) KX G ?a65 ?l65 ?c65 ?k65 (fun _ _ _ _ _ _ us hl => match us, hl with | [_, _, _], _ => rfl) ?r65
    (case a65 => k_is); (case l65 => k_is); (case c65 => k_is); (case k65 => k_is)
    intro f_first fd_first E_first D_first
    refine' Py.df_go (x := "knew") (st := Py.s_knew) (ps := ["desk", "i", "f"]) KX G ?a66 ?l66 ?c66 ?k66 (fun _ _ _ _ _ _ us hl => match us, hl with | [_, _, _], _ => rfl) ?r66
    (case a66 => k_is); (case l66 => k_is); (case c66 => k_is); (case k66 => k_is)
    intro f_knew fd_knew E_knew D_knew
    refine' Py.df_go (x := "late") (st := Py.s_late) (ps := ["desk", "i", "f"]) KX G ?a67 ?l67 ?c67 ?k67 (fun _ _ _ _ _ _ us hl => match us, hl with | [_, _, _], _ => rfl) ?r67
    (case a67 => k_is); (case l67 => k_is); (case c67 => k_is); (case k67 => k_is)
    intro f_late fd_late E_late D_late
    refine' Py.df_go (x := "never") (st := Py.s_never) (ps := ["desk", "i"]) KX G ?a68 ?l68 ?c68 ?k68 (fun _ _ _ _ _ _ us hl => match us, hl with | [_, _], _ => rfl) ?r68
    (case a68 => k_is); (case l68 => k_is); (case c68 => k_is); (case k68 => k_is)
    intro f_never fd_never E_never D_never
    refine' Py.df_go (x := "own") (st := Py.s_own) (ps := ["desk", "i", "f"]) KX G ?a69 ?l69 ?c69 ?k69 (fun _ _ _ _ _ _ us hl => match us, hl with | [_, _, _], _ => rfl) ?r69
    (case a69 => k_is); (case l69 => k_is); (case c69 => k_is); (case k69 => k_is)
    intro f_own fd_own E_own D_own
    refine' Py.df_go (x := "sooner") (st := Py.s_sooner) (ps := ["desk", "i", "f", "g"]) KX G ?a70 ?l70 ?c70 ?k70 (fun _ _ _ _ _ _ us hl => match us, hl with | [_, _, _, _], _ => rfl) ?r70
    (case a70 => k_is); (case l70 => k_is); (case c70 => k_is); (case k70 => k_is)
    intro f_sooner fd_sooner E_sooner D_sooner
    refine' Py.df_go (x := "heard") (st := Py.s_heard) (ps := ["desk", "f", "g"]) KX G ?a71 ?l71 ?c71 ?k71 (fun _ _ _ _ _ _ us hl => match us, hl with | [_, _, _], _ => rfl) ?r71
    (case a71 => k_is); (case l71 => k_is); (case c71 => k_is); (case k71 => k_is)
    intro f_heard fd_heard E_heard D_heard
    refine' Py.df_go (x := "book") (st := Py.s_book) (ps := ["desk"]) KX G ?a72 ?l72 ?c72 ?k72 (fun _ _ _ _ _ _ us hl => match us, hl with | [_], _ => rfl) ?r72
    (case a72 => k_is); (case l72 => k_is); (case c72 => k_is); (case k72 => k_is)
    intro f_book fd_book E_book D_book
    refine' Py.df_go (x := "answers") (st := Py.s_answers) (ps := ["calls"]) KX G ?a73 ?l73 ?c73 ?k73 (fun _ _ _ _ _ _ us hl => match us, hl with | [_], _ => rfl) ?r73
    (case a73 => k_is); (case l73 => k_is); (case c73 => k_is); (case k73 => k_is)
    intro f_answers fd_answers E_answers D_answers
    refine' Py.df_go (x := "answer_to") (st := Py.s_answer_to) (ps := ["desk", "number", "told"]) KX G ?a74 ?l74 ?c74 ?k74 (fun _ _ _ _ _ _ us hl => match us, hl with | [_, _, _], _ => rfl) ?r74
    (case a74 => k_is); (case l74 => k_is); (case c74 => k_is); (case k74 => k_is)
    intro f_answer_to fd_answer_to E_answer_to D_answer_to
    refine' Py.df_go (x := "call_with") (st := Py.s_call_with) (ps := ["call", "desk", "told"]) KX G ?a75 ?l75 ?c75 ?k75 (fun _ _ _ _ _ _ us hl => match us, hl with | [_, _, _], _ => rfl) ?r75
    (case a75 => k_is); (case l75 => k_is); (case c75 => k_is); (case k75 => k_is)
    intro f_call_with fd_call_with E_call_with D_call_with
    refine' Py.ci_go (x := "MOST_BACK") (i := 10) KX G ?a76 ?r76
    (case a76 => k_is)
    intro t_MOST_BACK k_MOST_BACK
    refine' Py.ci_go (x := "THERE") (i := 0) KX G ?a77 ?r77
    (case a77 => k_is)
    intro t_THERE k_THERE
    refine' Py.ci_go (x := "ON_THE_RIGHT") (i := 1) KX G ?a78 ?r78
    (case a78 => k_is)
    intro t_ON_THE_RIGHT k_ON_THE_RIGHT
    refine' Py.ci_go (x := "ON_THE_LEFT") (i := 2) KX G ?a79 ?r79
    (case a79 => k_is)
    intro t_ON_THE_LEFT k_ON_THE_LEFT
    refine' Py.ci_go (x := "FARTHEST") (i := 99) KX G ?a80 ?r80
    (case a80 => k_is)
    intro t_FARTHEST k_FARTHEST
    refine' Py.ci_go (x := "GREATEST_FACTOR") (i := 9) KX G ?a81 ?r81
    (case a81 => k_is)
    intro t_GREATEST_FACTOR k_GREATEST_FACTOR
    refine' Py.ci_go (x := "GREATEST_N") (i := 999) KX G ?a82 ?r82
    (case a82 => k_is)
    intro t_GREATEST_N k_GREATEST_N
    refine' Py.ci_go (x := "GREATEST_D") (i := 99) KX G ?a83 ?r83
    (case a83 => k_is)
    intro t_GREATEST_D k_GREATEST_D
    refine' Py.ci_go (x := "NO_SUCH") (i := -2) KX G ?a84 ?r84
    (case a84 => k_is)
    intro t_NO_SUCH k_NO_SUCH
    refine' Py.ci_go (x := "NONE_LEFT") (i := -6) KX G ?a85 ?r85
    (case a85 => k_is)
    intro t_NONE_LEFT k_NONE_LEFT
    refine' Py.ci_go (x := "NOT_BEGUN") (i := -11) KX G ?a86 ?r86
    (case a86 => k_is)
    intro t_NOT_BEGUN k_NOT_BEGUN
    refine' Py.ci_go (x := "OUT_OF_RANGE") (i := -22) KX G ?a87 ?r87
    (case a87 => k_is)
    intro t_OUT_OF_RANGE k_OUT_OF_RANGE
    refine' Py.ci_go (x := "TOO_MANY") (i := -28) KX G ?a88 ?r88
    (case a88 => k_is)
    intro t_TOO_MANY k_TOO_MANY
    refine' Py.ci_go (x := "NEVER") (i := -33) KX G ?a89 ?r89
    (case a89 => k_is)
    intro t_NEVER k_NEVER
    refine' Py.ci_go (x := "MOST_STATIONS") (i := 4) KX G ?a90 ?r90
    (case a90 => k_is)
    intro t_MOST_STATIONS k_MOST_STATIONS
    refine' Py.ci_go (x := "MOST_FACTS") (i := 6) KX G ?a91 ?r91
    (case a91 => k_is)
    intro t_MOST_FACTS k_MOST_FACTS
    refine' Py.ci_go (x := "MOST_LETTERS") (i := 6) KX G ?a92 ?r92
    (case a92 => k_is)
    intro t_MOST_LETTERS k_MOST_LETTERS
    refine' Py.ci_go (x := "IMPOSSIBLE") (i := 0) KX G ?a93 ?r93
    (case a93 => k_is)
    intro t_IMPOSSIBLE k_IMPOSSIBLE
    refine' Py.ci_go (x := "POSSIBLE") (i := 1) KX G ?a94 ?r94
    (case a94 => k_is)
    intro t_POSSIBLE k_POSSIBLE
    refine' Py.ci_go (x := "KNOWN") (i := 2) KX G ?a95 ?r95
    (case a95 => k_is)
    intro t_KNOWN k_KNOWN
    refine' Py.cr_go (x := "CHANGES") KX G ?a96 ?l96 ?r96
    (case a96 => k_is); (case l96 => k_is)
    intro k_CHANGES
    refine' Py.cr_go (x := "LOOKS") KX G ?a97 ?l97 ?r97
    (case a97 => k_is); (case l97 => k_is)
    intro k_LOOKS
    refine' Py.cr_go (x := "NEWS") KX G ?a98 ?l98 ?r98
    (case a98 => k_is); (case l98 => k_is)
    intro k_NEWS
    refine' Py.ci_go (x := "SOONER") (i := 0) KX G ?a99 ?r99
    (case a99 => k_is)
    intro t_SOONER k_SOONER
    refine' Py.ci_go (x := "SAME_TIME") (i := 1) KX G ?a100 ?r100
    (case a100 => k_is)
    intro t_SAME_TIME k_SAME_TIME
    refine' Py.ci_go (x := "LATER") (i := 2) KX G ?a101 ?r101
    (case a101 => k_is)
    intro t_LATER k_LATER
    refine' Py.ci_go (x := "HEARD_BY_SECOND") (i := 0) KX G ?a102 ?r102
    (case a102 => k_is)
    intro t_HEARD_BY_SECOND k_HEARD_BY_SECOND
    refine' Py.ci_go (x := "SAME_POINT") (i := 1) KX G ?a103 ?r103
    (case a103 => k_is)
    intro t_SAME_POINT k_SAME_POINT
    refine' Py.ci_go (x := "HEARD_BY_FIRST") (i := 2) KX G ?a104 ?r104
    (case a104 => k_is)
    intro t_HEARD_BY_FIRST k_HEARD_BY_FIRST
    refine' Py.ci_go (x := "HEARD_BY_NEITHER") (i := 3) KX G ?a105 ?r105
    (case a105 => k_is)
    intro t_HEARD_BY_NEITHER k_HEARD_BY_NEITHER
    refine' Py.cr_go (x := "ORDER") KX G ?a106 ?l106 ?r106
    (case a106 => k_is); (case l106 => k_is)
    intro k_ORDER
    refine' Py.ci_go (x := "BEGIN") (i := 0) KX G ?a107 ?r107
    (case a107 => k_is)
    intro t_BEGIN k_BEGIN
    refine' Py.cr_go (x := "ARGUMENTS") KX G ?a108 ?l108 ?r108
    (case a108 => k_is); (case l108 => k_is)
    intro k_ARGUMENTS
    refine' Py.bn_go (x := "abs") KX G ?a109 ?r109
    (case a109 => k_is)
    intro b_abs
    refine' Py.bn_go (x := "any") KX G ?a110 ?r110
    (case a110 => k_is)
    intro b_any
    refine' Py.bn_go (x := "enumerate") KX G ?a111 ?r111
    (case a111 => k_is)
    intro b_enumerate
    refine' Py.bn_go (x := "len") KX G ?a112 ?r112
    (case a112 => k_is)
    intro b_len
    refine' Py.bn_go (x := "list") KX G ?a113 ?r113
    (case a113 => k_is)
    intro b_list
    refine' Py.bn_go (x := "range") KX G ?a114 ?r114
    (case a114 => k_is)
    intro b_range
    clear Y
    exact Py.finish (A := ⟨C_Fact, i_Fact, id_Fact, C_Letter, i_Letter, id_Letter, C_State, i_State, id_State, C_Desk, i_Desk, id_Desk, C_Point, i_Point, id_Point, C_Station, i_Station, id_Station, f_copy_of, fd_copy_of, f_start_change, fd_start_change, f_take_back, fd_take_back, f_has_station, fd_has_station, f_has_fact, fd_has_fact, f_has_letter, fd_has_letter, f_common_divisor, fd_common_divisor, f_fraction, fd_fraction, f_add, fd_add, f_subtract, fd_subtract, f_multiply, fd_multiply, f_divide, fd_divide, f_half, fd_half, f_at_most, fd_at_most, f_greater_of, fd_greater_of, f_lesser_of, fd_lesser_of, f_start_of, fd_start_of, f_point_at, fd_point_at, f_clock_by_minus, fd_clock_by_minus, f_clock_by_plus, fd_clock_by_plus, f_hears, fd_hears, f_till, fd_till, f_own_time, fd_own_time, f_own_place, fd_own_place, f_side, fd_side, f_can_have_heard, fd_can_have_heard, f_time_of, fd_time_of, f_place_of, fd_place_of, f_moments_behind, fd_moments_behind, f_has_come, fd_has_come, f_came_to_be, fd_came_to_be, f_facts_known, fd_facts_known, f_first_known, fd_first_known, f_first_heard, fd_first_heard, f_could_know, fd_could_know, f_is_near, fd_is_near, f_is_factor_part, fd_is_factor_part, f_is_clock_number, fd_is_clock_number, f_begin, fd_begin, f_back, fd_back, f_station, fd_station, f_fact, fd_fact, f_letter, fd_letter, f_unfact, fd_unfact, f_unletter, fd_unletter, f_judge, fd_judge, f_claim, fd_claim, f_is_station, fd_is_station, f_factis, fd_factis, f_letteris, fd_letteris, f_where, fd_where, f_comes, fd_comes, f_in_letter, fd_in_letter, f_state, fd_state, f_counted, fd_counted, f_has_both, fd_has_both, f_known, fd_known, f_could, fd_could, f_first, fd_first, f_knew, fd_knew, f_late, fd_late, f_never, fd_never, f_own, fd_own, f_sooner, fd_sooner, f_heard, fd_heard, f_book, fd_book, f_answers, fd_answers, f_answer_to, fd_answer_to, f_call_with, fd_call_with, t_MOST_BACK, t_THERE, t_ON_THE_RIGHT, t_ON_THE_LEFT, t_FARTHEST, t_GREATEST_FACTOR, t_GREATEST_N, t_GREATEST_D, t_NO_SUCH, t_NONE_LEFT, t_NOT_BEGUN, t_OUT_OF_RANGE, t_TOO_MANY, t_NEVER, t_MOST_STATIONS, t_MOST_FACTS, t_MOST_LETTERS, t_IMPOSSIBLE, t_POSSIBLE, t_KNOWN, _, _, _, t_SOONER, t_SAME_TIME, t_LATER, t_HEARD_BY_SECOND, t_SAME_POINT, t_HEARD_BY_FIRST, t_HEARD_BY_NEITHER, _, t_BEGIN, _⟩) ⟨K_Fact, K_Letter, K_State, K_Desk, K_Point, K_Station, D_copy_of, D_start_change, D_take_back, D_has_station, D_has_fact, D_has_letter, D_common_divisor, D_fraction, D_add, D_subtract, D_multiply, D_divide, D_half, D_at_most, D_greater_of, D_lesser_of, D_start_of, D_point_at, D_clock_by_minus, D_clock_by_plus, D_hears, D_till, D_own_time, D_own_place, D_side, D_can_have_heard, D_time_of, D_place_of, D_moments_behind, D_has_come, D_came_to_be, D_facts_known, D_first_known, D_first_heard, D_could_know, D_is_near, D_is_factor_part, D_is_clock_number, D_begin, D_back, D_station, D_fact, D_letter, D_unfact, D_unletter, D_judge, D_claim, D_is_station, D_factis, D_letteris, D_where, D_comes, D_in_letter, D_state, D_counted, D_has_both, D_known, D_could, D_first, D_knew, D_late, D_never, D_own, D_sooner, D_heard, D_book, D_answers, D_answer_to, D_call_with, k_MOST_BACK, k_THERE, k_ON_THE_RIGHT, k_ON_THE_LEFT, k_FARTHEST, k_GREATEST_FACTOR, k_GREATEST_N, k_GREATEST_D, k_NO_SUCH, k_NONE_LEFT, k_NOT_BEGUN, k_OUT_OF_RANGE, k_TOO_MANY, k_NEVER, k_MOST_STATIONS, k_MOST_FACTS, k_MOST_LETTERS, k_IMPOSSIBLE, k_POSSIBLE, k_KNOWN, k_CHANGES.1, k_LOOKS.1, k_NEWS.1, k_SOONER, k_SAME_TIME, k_LATER, k_HEARD_BY_SECOND, k_SAME_POINT, k_HEARD_BY_FIRST, k_HEARD_BY_NEITHER, k_ORDER.1, k_BEGIN, k_ARGUMENTS.1, b_abs, b_any, b_enumerate, b_len, b_list, b_range⟩ hmg (Py.kdi_mk k_CHANGES.2 (.cons (Py.ent_mk E_begin (by decide +kernel)) (.cons (Py.ent_mk E_station (by decide +kernel)) (.cons (Py.ent_mk E_fact (by decide +kernel)) (.cons (Py.ent_mk E_letter (by decide +kernel)) (.cons (Py.ent_mk E_unfact (by decide +kernel)) (.cons (Py.ent_mk E_unletter (by decide +kernel)) (.cons (Py.ent_mk E_claim (by decide +kernel)) (.cons (Py.ent_mk E_back (by decide +kernel)) .nil)))))))) (by first | exact rfl | (dsimp only; decide +kernel))) (Py.kdi_mk k_LOOKS.2 (.cons (Py.ent_mk E_is_station (by decide +kernel)) (.cons (Py.ent_mk E_factis (by decide +kernel)) (.cons (Py.ent_mk E_letteris (by decide +kernel)) (.cons (Py.ent_mk E_where (by decide +kernel)) (.cons (Py.ent_mk E_comes (by decide +kernel)) (.cons (Py.ent_mk E_in_letter (by decide +kernel)) (.cons (Py.ent_mk E_state (by decide +kernel)) .nil))))))) (by first | exact rfl | (dsimp only; decide +kernel))) (Py.kdi_mk k_NEWS.2 (.cons (Py.ent_mk E_known (by decide +kernel)) (.cons (Py.ent_mk E_could (by decide +kernel)) (.cons (Py.ent_mk E_first (by decide +kernel)) (.cons (Py.ent_mk E_knew (by decide +kernel)) (.cons (Py.ent_mk E_late (by decide +kernel)) (.cons (Py.ent_mk E_never (by decide +kernel)) .nil)))))) (by first | exact rfl | (dsimp only; decide +kernel))) (Py.kdi_mk k_ORDER.2 (.cons (Py.ent_mk E_own (by decide +kernel)) (.cons (Py.ent_mk E_sooner (by decide +kernel)) (.cons (Py.ent_mk E_heard (by decide +kernel)) (.cons (Py.ent_mk E_book (by decide +kernel)) .nil)))) (by first | exact rfl | (dsimp only; decide +kernel)))
      (Py.tup_mk k_ARGUMENTS.2 (by decide +kernel) (Py.vals_ints (by repeat first | exact .nil | refine .cons ⟨_, rfl⟩ ?_)))
  case S =>
    intro K H xs a hO hwi hask hx
    cases hx with
    | cons h1 h2 =>
      cases h2
      cases h1 with
      | lst hs ha =>
        have e := L2.ints_dw a.1 _ ha
        subst e
        have q : ((Codec.inLen 0 1280 a.1 && a.1.all (Codec.inInt (-2147483648) 4294967295)) && true) = true := hwi
        rw [Bool.and_eq_true, Bool.and_eq_true] at q
        exact ⟨_, a.1, rfl, hs, (Codec.inNat_iff.mp q.1.1).2, hask, fun H' p hp => .lst (L2.SqL.of hp) (L2.dw_ints _)⟩
