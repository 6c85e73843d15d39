import PyProof.Rows.All
import Wide.All
import OpenK.AllK
import Wide.FinOn
import PySem.Challenge.RW_buybook_k05_texts_that_are_no_fraction
import HandS.ForMost
import HandS.Gcd
import HandS.Wide
import HandS.WideBits
import HandS.IsInst
import HandS.Codes
import HandS.Zip
import HandS.StrMore
import HandS.FStr
import HandS.Exc
import HandS.ExcInit
import HandS.ExcIs
import HandS.ExcField
import HandS.ExcOwn
import HandS.ClsMeth
import HandS.TryOnly
import HandS.WordsExc
set_option Elab.async false
set_option linter.all false
set_option maxRecDepth 100000
set_option maxHeartbeats 4000000
set_option exponentiation.threshold 300
/-! Num: fractions as rational numbers; Euclid's turns. -/
namespace BB

theorem num_mul_eq {p q : Int} (hq : q ≠ 0) : (Rat.divInt p q).num * q = p * ((Rat.divInt p q).den : Int) := by
  have h := Rat.num_divInt_den (Rat.divInt p q)
  have hd : ((Rat.divInt p q).den : Int) ≠ 0 := by
    have := (Rat.divInt p q).den_nz
    omega
  exact (Rat.divInt_eq_divInt_iff hd hq).mp h

/-- what ratio reckons -/
theorem ratio_num {p q : Int} (hq : q ≠ 0) : p.fdiv (if q < 0 then -((Nat.gcd p.natAbs q.natAbs : Nat) : Int) else ((Nat.gcd p.natAbs q.natAbs : Nat) : Int)) = (Rat.divInt p q).num := by
  have hg : 0 < Nat.gcd p.natAbs q.natAbs := Nat.gcd_pos_of_pos_right _ (by omega)
  have hdp : ((Nat.gcd p.natAbs q.natAbs : Nat) : Int) ∣ p := Int.ofNat_dvd_left.mpr (Nat.gcd_dvd_left _ _)
  rw [Rat.num_divInt]
  have e : q.gcd p = Nat.gcd p.natAbs q.natAbs := by rw [Int.gcd, Nat.gcd_comm]
  rw [e]
  obtain ⟨k, hk⟩ := hdp
  generalize hG : ((Nat.gcd p.natAbs q.natAbs : Nat) : Int) = G at *
  have hG0 : G ≠ 0 := by omega
  by_cases h : q < 0
  · rw [if_pos h, Int.sign_eq_neg_one_of_neg h, hk]
    rw [show -1 * (G * k) = G * (-k) by rw [Int.mul_neg]; omega, Int.mul_ediv_cancel_left _ hG0]
    rw [show G * k = (-G) * (-k) by rw [Int.neg_mul_neg], Int.mul_fdiv_cancel_left _ (by omega)]
  · rw [if_neg h, Int.sign_eq_one_of_pos (by omega), hk, Int.one_mul, Int.mul_ediv_cancel_left _ hG0, Int.mul_fdiv_cancel_left _ hG0]

theorem ratio_den {p q : Int} (hq : q ≠ 0) : q.fdiv (if q < 0 then -((Nat.gcd p.natAbs q.natAbs : Nat) : Int) else ((Nat.gcd p.natAbs q.natAbs : Nat) : Int)) = ((Rat.divInt p q).den : Int) := by
  have hg : 0 < Nat.gcd p.natAbs q.natAbs := Nat.gcd_pos_of_pos_right _ (by omega)
  have hdq : Nat.gcd p.natAbs q.natAbs ∣ q.natAbs := Nat.gcd_dvd_right _ _
  rw [Rat.den_divInt, if_neg hq]
  have e : q.gcd p = Nat.gcd p.natAbs q.natAbs := by rw [Int.gcd, Nat.gcd_comm]
  rw [e]
  obtain ⟨k, hk⟩ := hdq
  generalize hG : Nat.gcd p.natAbs q.natAbs = G at *
  rw [hk, Nat.mul_div_cancel_left _ hg]
  by_cases h : q < 0
  · rw [if_pos h]
    have : q = (-(G : Int)) * (k : Int) := by
      have h2 : (q.natAbs : Int) = -q := by omega
      rw [hk] at h2
      rw [Int.neg_mul, ← Int.natCast_mul]; omega
    rw [this, Int.mul_fdiv_cancel_left _ (by omega)]
  · rw [if_neg h]
    have : q = (G : Int) * (k : Int) := by
      have h2 : (q.natAbs : Int) = q := by omega
      rw [hk] at h2
      rw [← Int.natCast_mul]; omega
    rw [this, Int.mul_fdiv_cancel_left _ (by omega)]

theorem ratio_common {p q : Int} (hq : q ≠ 0) : (if q < 0 then -((Nat.gcd p.natAbs q.natAbs : Nat) : Int) else ((Nat.gcd p.natAbs q.natAbs : Nat) : Int)) ≠ 0 ∧
    (if q < 0 then -((Nat.gcd p.natAbs q.natAbs : Nat) : Int) else ((Nat.gcd p.natAbs q.natAbs : Nat) : Int)).natAbs ≤ q.natAbs := by
  have hg : 0 < Nat.gcd p.natAbs q.natAbs := Nat.gcd_pos_of_pos_right _ (by omega)
  have hl : Nat.gcd p.natAbs q.natAbs ≤ q.natAbs := Nat.le_of_dvd (by omega) (Nat.gcd_dvd_right _ _)
  split <;> omega

theorem rat_add (a b : Rat) : Rat.divInt (a.num * b.den + b.num * a.den) (a.den * b.den) = a + b := by
  rw [Rat.add_def', ← Int.natCast_mul, Rat.divInt_ofNat]
theorem rat_sub (a b : Rat) : Rat.divInt (a.num * b.den - b.num * a.den) (a.den * b.den) = a - b := by
  rw [Rat.sub_def', ← Int.natCast_mul, Rat.divInt_ofNat]
theorem rat_mul (a b : Rat) : Rat.divInt (a.num * b.num) (a.den * b.den) = a * b := by
  rw [Rat.mul_def', ← Int.natCast_mul, Rat.divInt_ofNat]
theorem rat_div (a b : Rat) : Rat.divInt (a.num * b.den) (a.den * b.num) = a / b := by
  rw [Rat.div_def, Rat.inv_def, ← Rat.divInt_mul_divInt, Rat.num_divInt_den]

/-! ### sizes -/
/-- numerator and denominator below 2 ^ n -/
def Sz (n : Nat) (r : Rat) : Prop := r.num.natAbs < 2 ^ n ∧ r.den < 2 ^ n
theorem Sz.mono {n m : Nat} {r : Rat} (h : Sz n r) (k : n ≤ m) : Sz m r :=
  ⟨Nat.lt_of_lt_of_le h.1 (Nat.pow_le_pow_right (by decide) k), Nat.lt_of_lt_of_le h.2 (Nat.pow_le_pow_right (by decide) k)⟩
theorem divInt_le {p q : Int} (hq : q ≠ 0) : (Rat.divInt p q).num.natAbs ≤ p.natAbs ∧ (Rat.divInt p q).den ≤ q.natAbs := by
  constructor
  · rw [Rat.num_divInt, Int.natAbs_ediv_of_dvd ?_]
    · rw [Int.natAbs_mul]
      have : q.sign.natAbs = 1 := Int.natAbs_sign_of_ne_zero hq
      rw [this, Nat.one_mul]
      exact Nat.div_le_self _ _
    · exact Int.dvd_mul_of_dvd_right (Int.gcd_dvd_right ..)
  · rw [Rat.den_divInt, if_neg hq]
    exact Nat.div_le_self _ _
theorem divInt_sz {p q : Int} {n : Nat} (hq : q ≠ 0) (h1 : p.natAbs < 2 ^ n) (h2 : q.natAbs < 2 ^ n) : Sz n (Rat.divInt p q) :=
  ⟨Nat.lt_of_le_of_lt (divInt_le hq).1 h1, Nat.lt_of_le_of_lt (divInt_le hq).2 h2⟩
theorem mul_lt_pow {x y a b : Nat} (h1 : x < 2 ^ a) (h2 : y < 2 ^ b) : x * y < 2 ^ (a + b) := by
  rw [Nat.pow_add]; exact Nat.mul_lt_mul'' h1 h2
theorem natAbs_mul_lt {x y : Int} {a b : Nat} (h1 : x.natAbs < 2 ^ a) (h2 : y.natAbs < 2 ^ b) : (x * y).natAbs < 2 ^ (a + b) := by
  rw [Int.natAbs_mul]; exact mul_lt_pow h1 h2
theorem natAbs_add_lt {x y : Int} {a : Nat} (h1 : x.natAbs < 2 ^ a) (h2 : y.natAbs < 2 ^ a) : (x + y).natAbs < 2 ^ (a + 1) := by
  rw [Nat.pow_succ]; omega
theorem natAbs_sub_lt {x y : Int} {a : Nat} (h1 : x.natAbs < 2 ^ a) (h2 : y.natAbs < 2 ^ a) : (x - y).natAbs < 2 ^ (a + 1) := by
  rw [Nat.pow_succ]; omega
theorem Sz.den {n : Nat} {r : Rat} (h : Sz n r) : ((r.den : Int)).natAbs < 2 ^ n := by
  have := h.2; omega
theorem den_pos (r : Rat) : (0 : Int) < (r.den : Int) := by have := r.den_nz; omega
theorem den_ne (r : Rat) : (r.den : Int) ≠ 0 := by have := r.den_nz; omega
theorem den_mul_pos (r s : Rat) : (0 : Int) < (r.den : Int) * (s.den : Int) := Int.mul_pos (den_pos r) (den_pos s)
theorem cross_lt {a b : Nat} {r s : Rat} (hr : Sz a r) (hs : Sz b s) : (r.num * (s.den : Int)).natAbs < 2 ^ (a + b) ∧ (s.num * (r.den : Int)).natAbs < 2 ^ (a + b) ∧ ((r.den : Int) * (s.den : Int)).natAbs < 2 ^ (a + b) :=
  ⟨natAbs_mul_lt hr.1 hs.den, by rw [Nat.add_comm]; exact natAbs_mul_lt hs.1 hr.den, natAbs_mul_lt hr.den hs.den⟩
theorem Sz.add {a b : Nat} {r s : Rat} (hr : Sz a r) (hs : Sz b s) : Sz (a + b + 1) (r + s) := by
  obtain ⟨h1, h2, h3⟩ := cross_lt hr hs
  rw [← rat_add]
  exact divInt_sz (Int.ne_of_gt (den_mul_pos r s)) (natAbs_add_lt h1 h2) (Nat.lt_of_lt_of_le h3 (Nat.pow_le_pow_right (by decide) (Nat.le_succ _)))
theorem Sz.sub {a b : Nat} {r s : Rat} (hr : Sz a r) (hs : Sz b s) : Sz (a + b + 1) (r - s) := by
  obtain ⟨h1, h2, h3⟩ := cross_lt hr hs
  rw [← rat_sub]
  exact divInt_sz (Int.ne_of_gt (den_mul_pos r s)) (natAbs_sub_lt h1 h2) (Nat.lt_of_lt_of_le h3 (Nat.pow_le_pow_right (by decide) (Nat.le_succ _)))
theorem Sz.mul {a b : Nat} {r s : Rat} (hr : Sz a r) (hs : Sz b s) : Sz (a + b) (r * s) := by
  rw [← rat_mul]
  exact divInt_sz (Int.ne_of_gt (den_mul_pos r s)) (natAbs_mul_lt hr.1 hs.1) (natAbs_mul_lt hr.den hs.den)
theorem Sz.neg {a : Nat} {r : Rat} (hr : Sz a r) : Sz a (-r) := ⟨by rw [Rat.neg_num, Int.natAbs_neg]; exact hr.1, by rw [Rat.neg_den]; exact hr.2⟩
theorem num_ne {r : Rat} (h : r ≠ 0) : r.num ≠ 0 := fun e => h (Rat.num_eq_zero.mp e)
theorem Sz.div {a b : Nat} {r s : Rat} (hr : Sz a r) (hs : Sz b s) (h0 : s ≠ 0) : Sz (a + b) (r / s) := by
  rw [← rat_div]
  exact divInt_sz (Int.mul_ne_zero (den_ne r) (num_ne h0)) (natAbs_mul_lt hr.1 hs.den) (natAbs_mul_lt hr.den hs.1)

/-! ### Euclid -/
/-- what stands after i turns, from a b below 2 ^ L -/
def Euc (L g i : Nat) (a b : Nat) : Prop := Nat.gcd a b = g ∧ (i % 2 = 0 → b < 2 ^ (L - i / 2)) ∧ (i % 2 = 1 → a < 2 ^ (L - i / 2) ∧ b < a)
theorem euc_start {L a b : Nat} (h : b < 2 ^ L) : Euc L (Nat.gcd a b) 0 a b := ⟨rfl, fun _ => h, fun h => by omega⟩
theorem euc_step {L g i a b : Nat} (h : Euc L g i a b) (hb : b ≠ 0) : Euc L g (i + 1) b (a % b) := by
  obtain ⟨hg, h0, h1⟩ := h
  refine ⟨?_, fun e => ?_, fun e => ?_⟩
  · rw [← hg, Nat.gcd_comm a b, Nat.gcd_rec b a, Nat.gcd_comm]
  · obtain ⟨ha, hba⟩ := h1 (by omega)
    have e1 : (i + 1) / 2 = i / 2 + 1 := by omega
    rw [e1]
    have hlt : a % b < b := Nat.mod_lt _ (by omega)
    have hle : a % b + b ≤ a := by
      have := Nat.div_add_mod a b
      have hd : 1 ≤ a / b := Nat.div_pos (by omega) (by omega)
      have : b * 1 ≤ b * (a / b) := Nat.mul_le_mul_left _ hd
      omega
    by_cases hz : L - i / 2 = 0
    · rw [hz] at ha; omega
    · rw [show L - i / 2 = (L - (i / 2 + 1)) + 1 by omega, Nat.pow_succ] at ha
      omega
  · have e1 : (i + 1) / 2 = i / 2 := by omega
    rw [e1]
    exact ⟨h0 (by omega), Nat.mod_lt _ (by omega)⟩
theorem euc_end {L g a b : Nat} (h : Euc L g (2 * L + 2) a b) : a = g := by
  obtain ⟨hg, h0, _⟩ := h
  have := h0 (by omega)
  rw [show L - (2 * L + 2) / 2 = 0 by omega] at this
  have : b = 0 := by omega
  subst this
  rw [← hg, Nat.gcd_zero_right]
theorem euc_zero {L g i a : Nat} (h : Euc L g i a 0) : a = g := by rw [← h.1, Nat.gcd_zero_right]

/-! ### rows -/
def dotR : List Rat → List Rat → Rat
  | r :: rs, s :: ss => r * s + dotR rs ss
  | _, _ => 0
theorem dotR_nil (ss : List Rat) : dotR [] ss = 0 := by cases ss <;> rfl
theorem dotR_take : ∀ (rs ss : List Rat) (i : Nat) (r s : Rat), rs[i]? = some r → ss[i]? = some s → dotR (rs.take (i + 1)) (ss.take (i + 1)) = dotR (rs.take i) (ss.take i) + r * s
  | [], _, _, _, _, h, _ => by simp at h
  | _ :: _, [], _, _, _, _, h => by simp at h
  | a :: rs, b :: ss, 0, r, s, h, h2 => by
    have e1 : a = r := Option.some.inj h
    have e2 : b = s := Option.some.inj h2
    subst e1 e2
    show a * b + dotR (rs.take 0) (ss.take 0) = dotR [] [] + a * b
    rw [List.take_zero, List.take_zero, dotR_nil]
    exact Rat.add_comm _ _
  | a :: rs, b :: ss, i + 1, r, s, h, h2 => by
    have ih := dotR_take rs ss i r s h h2
    show a * b + dotR (rs.take (i + 1)) (ss.take (i + 1)) = a * b + dotR (rs.take i) (ss.take i) + r * s
    rw [ih, Rat.add_assoc]
theorem sz_zero : Sz 1 (0 : Rat) := ⟨by decide, by decide⟩
theorem sz_one : Sz 1 (1 : Rat) := ⟨by decide, by decide⟩
theorem dotR_sz {B : Nat} : ∀ {rs ss : List Rat}, (∀ r ∈ rs, Sz B r) → (∀ s ∈ ss, Sz B s) → Sz (1 + rs.length * (2 * B + 1)) (dotR rs ss)
  | [], ss, _, _ => by rw [dotR_nil]; exact sz_zero.mono (by omega)
  | _ :: _, [], _, _ => sz_zero.mono (by omega)
  | a :: rs, b :: ss, h1, h2 => by
    have ih := dotR_sz (rs := rs) (ss := ss) (fun r hr => h1 r (List.mem_cons_of_mem _ hr)) (fun s hs => h2 s (List.mem_cons_of_mem _ hs))
    have m := (h1 a List.mem_cons_self).mul (h2 b List.mem_cons_self)
    refine (m.add ih).mono ?_
    have e : (rs.length + 1) * (2 * B + 1) = rs.length * (2 * B + 1) + (2 * B + 1) := Nat.succ_mul _ _
    rw [List.length_cons, e]
    generalize rs.length * (2 * B + 1) = n
    omega
theorem divInt_nonneg {p q : Int} (hp : 0 ≤ p) (hq : 0 < q) : 0 ≤ Rat.divInt p q := (Rat.divInt_nonneg_iff_of_pos_right hq).mpr hp
theorem divInt_pos {p q : Int} (hp : 0 < p) (hq : 0 < q) : 0 < Rat.divInt p q := by
  refine Rat.lt_of_le_of_ne (divInt_nonneg (by omega) hq) fun e => ?_
  have := num_mul_eq (p := p) (q := q) (by omega)
  rw [← e] at this
  have h2 : p = 0 := by simpa using this.symm
  omega
theorem num_pos {r : Rat} (h : 0 < r) : 0 < r.num := by
  have h1 := Rat.num_nonneg.mpr (Rat.le_of_lt h)
  have h2 : r.num ≠ 0 := num_ne fun e => by rw [e] at h; exact absurd h (by decide)
  omega
theorem num_nn {r : Rat} (h : 0 ≤ r) : 0 ≤ r.num := Rat.num_nonneg.mpr h
theorem pos_of {r : Rat} (h0 : 0 ≤ r) (h : r.num ≠ 0) : 0 < r := Rat.lt_of_le_of_ne h0 fun e => h (by rw [← e]; rfl)
theorem pow1000 (i : Nat) : 1000 ^ i ≤ 2 ^ (10 * i) := by
  rw [Nat.pow_mul]
  exact Nat.pow_le_pow_left (by decide) i
end BB

set_option maxHeartbeats 4000000
/-! Lay: short words of my own over the hand layer. -/
namespace BB
open PySem PySem.Spec PyProof.Rows L2

/-- a def of the module, by its name and its promise -/
structure Dn (P : Program) (w : World) (K : PySem.W.Frag) (mg : Str → Option Value) (base : Heap) (CX : CXT) (k : Nat) (x : Str) (sp : Sp) : Prop where
  ex : ∃ (f : Addr) (fd : FuncData) (ps : List Str), FnOk P w K mg base CX k f fd ps sp ∧ mg x = some (.ref f) ∧ PySem.W.keepIn K (.ref f) = true ∧ Binds K fd ps []

section
variable {X : Cx} {CX : CXT} {x : Str} {p pos : Pos} {e : Expr} {es : List Expr} {t : TA} {sp : Sp} {k j : Nat} {E : XK}
theorem pe_d (c : Dn X.prog X.w X.K X.mg X.base CX k x sp) (hr : Room j X.A) (hk : k ≤ j) (hg : Gl X x) (hx : Passes CX X E) (ha : PA X (e :: es) t)
    (hdb : (x == ("__debug__" : Str)) = false := by decide) (he : starEach (e :: es) X.env = (false, eval e X.env) :: starEach es X.env := by rfl) (hpl : (backTo pos (starEach es X.env)).any (·.1) = false := by rfl) :
    PE X (.Call (.Name x p) (e :: es) [] pos) (tCall sp [] E t) := by
  obtain ⟨f, fd, ps, F, hm, kp, b⟩ := c.ex
  exact pe_call F (hr.mono hk) hg hm kp b .nil hx ha hdb he hpl
end

/-! ### numbers -/
def CMulG (i j : Int) : Prop := IntMulOk i j
def CDivG (_ j : Int) : Prop := j ≠ 0 ∧ j.natAbs < 2 ^ 9000
section
variable {X : Cx}
theorem op_mulG : OpR X (binaryOp .Mult) (rI CMulG fun i j => .int (i * j)) := opI fun _ _ _ _ _ _ _ hc q => mul_int q hc
theorem op_fdivG : OpR X (binaryOp .FloorDiv) (rI CDivG fun i j => .int (i.fdiv j)) := opI fun _ j _ _ _ _ _ hc q =>
  floordiv_int hc.1 q (.inl (PyProof.noPylong_of_log2 (PySem.Flt.log2_lt_of (by decide) hc.2)))
end
theorem mulG_l {i j : Int} (h : i.natAbs < 2 ^ 60) : CMulG i j := (show CMul i j from .inl ⟨by omega, by omega⟩).ok
theorem mulG_r {i j : Int} (h : j.natAbs < 2 ^ 60) : CMulG i j := (show CMul i j from .inr ⟨by omega, by omega⟩).ok
theorem mulG_b {i j : Int} {a b : Nat} (ha : i.natAbs < 2 ^ a) (hb : j.natAbs < 2 ^ b) (h : a + b ≤ 134217728) : CMulG i j := (mulx_ok ha hb h).ok

theorem bits_lt {n L : Nat} (h : Builtin.Int.intBits (n : Int) = L) : n < 2 ^ L := by
  unfold Builtin.Int.intBits at h
  split at h
  · rename_i z
    have : n = 0 := by
      have := eq_of_beq z
      omega
    subst this
    exact Nat.pow_pos (by decide)
  · subst h
    rw [Int.natAbs_natCast]
    exact Nat.lt_log2_self
theorem bits_le {n m : Nat} (h : n < 2 ^ m) : Builtin.Int.intBits (n : Int) ≤ m + 1 := by
  unfold Builtin.Int.intBits
  split
  · omega
  · rename_i z
    rw [Int.natAbs_natCast]
    by_cases h0 : n = 0
    · subst h0; simp at z
    · have := (Nat.log2_lt h0).mpr h
      omega

/-! ### sequences, as they stand -/
theorem sqt_upd {K : PySem.W.Frag} {H : Hp} {a p : Addr} {xs : List V} {o : HO} (hp : H p = none) (h : SqT K H a xs) : SqT K (upd H p o) a xs := by
  rcases h with (h | ⟨o', h⟩) | h
  · exact .inl (.inl (by rw [upd_ne (ne_of_none h hp)]; exact h))
  · exact .inl (.inr ⟨o', by rw [upd_ne (ne_of_none h hp)]; exact h⟩)
  · exact .inr h
theorem sql_upd {K : PySem.W.Frag} {H : Hp} {a p : Addr} {xs : List V} {o : HO} (hp : H p = none) (h : SqL K H a xs) : SqL K (upd H p o) a xs := by
  rcases h with (h | ⟨o', h⟩) | h
  · exact .inl (.inl (by rw [upd_ne (ne_of_none h hp)]; exact h))
  · exact .inl (.inr ⟨o', by rw [upd_ne (ne_of_none h hp)]; exact h⟩)
  · exact .inr h
theorem sqt_same {K : PySem.W.Frag} {H H' : Hp} {a : Addr} {xs : List V} (e : Same H H') (h : SqT K H a xs) : SqT K H' a xs := by
  rcases h with (h | ⟨o', h⟩) | h
  · exact .inl (.inl (e _ _ h))
  · exact .inl (.inr ⟨o', e _ _ h⟩)
  · exact .inr h
theorem same_upd {H : Hp} {p : Addr} {o : HO} (h : H p = none) : Same H (upd H p o) := fun b x e => by
  rw [upd_ne (ne_of_none e h)]
  exact e
/-- a thing that H₀ did not know may change -/
theorem same_mut {H₀ H : Hp} {p : Addr} {o : HO} (e : Same H₀ H) (h : H₀ p = none) : Same H₀ (upd H p o) := fun b x z => by
  rw [upd_ne (ne_of_none z h)]
  exact e b x z
theorem none_upd {H : Hp} {p q : Addr} {o : HO} (h : (upd H p o) q = none) : H q = none ∧ q ≠ p := by
  by_cases e : q = p
  · subst e; rw [upd_same] at h; cases h
  · rw [upd_ne e] at h; exact ⟨h, e⟩

/-- a fraction that stands at a -/
def IsF (K : PySem.W.Frag) (H : Hp) (a : Addr) (r : Rat) : Prop := SqT K H a [.int r.num, .int (r.den : Int)]
/-- a new fraction -/
def rF (K : PySem.W.Frag) (H : Hp) (r : Rat) (Q : VK) : Prop := ∀ H' a, Same H H' → H a = none → IsF K H' a r → Q (.ref a) H'
theorem IsF.new {K : PySem.W.Frag} {H : Hp} {a p : Addr} {r : Rat} {o : HO} (hp : H p = none) (h : IsF K H a r) : IsF K (upd H p o) a r := sqt_upd hp h
theorem IsF.same {K : PySem.W.Frag} {H H' : Hp} {a : Addr} {r : Rat} (e : Same H H') (h : IsF K H a r) : IsF K H' a r := sqt_same e h
theorem tyT {K : PySem.W.Frag} {H : Hp} {a : Addr} {xs : List V} (h : SqT K H a xs) : TyX K H (.ref a) (.type "tuple") := by
  rcases h with (h | ⟨o', h⟩) | ⟨o, its, n, h, c, _⟩
  · exact .base (.tup h)
  · exact .fTuple h
  · exact .kTuple h c

theorem abs_nn (x : Int) : (0 : Int) ≤ (if x < 0 then -x else x) := by split <;> omega
theorem abs_na (x : Int) : (if x < 0 then -x else x).natAbs = x.natAbs := by split <;> omega
/-! ### drawn rows -/
def isRow (row : List Int) (m : Nat) : Prop := row.length = m ∧ ∀ v ∈ row, 0 ≤ v ∧ v < 1000
theorem isRow.snoc {row : List Int} {m : Nat} {v : Int} (h : isRow row m) (h0 : 0 ≤ v) (h1 : v < 1000) : isRow (row ++ [v]) (m + 1) := by
  refine ⟨by rw [List.length_append, h.1]; rfl, fun u hu => ?_⟩
  rcases List.mem_append.mp hu with hu | hu
  · exact h.2 u hu
  · rw [List.mem_singleton] at hu; subst hu; exact ⟨h0, h1⟩
theorem isRow.get {row : List Int} {n i : Nat} (h : isRow row n) (hi : i < n) : ∃ v, row[i]? = some v ∧ (row.map V.int)[i]? = some (.int v) ∧ 0 ≤ v ∧ v < 1000 := by
  have hl : i < row.length := by rw [h.1]; exact hi
  obtain ⟨h0, h1⟩ := h.2 _ (List.getElem_mem hl)
  exact ⟨row[i], List.getElem?_eq_getElem hl, by rw [List.getElem?_map, List.getElem?_eq_getElem hl]; rfl, h0, h1⟩
theorem isRow.at {row : List Int} {n : Nat} (h : isRow row n) (i : Nat) (hi : i < n) : ∃ v : Int, atI (row.map V.int) (i : Int) = some (.int v) ∧ 0 ≤ v ∧ v < 1000 := by
  obtain ⟨v, _, h2, h3, h4⟩ := h.get hi
  exact ⟨v, atI_nat h2, h3, h4⟩
/-- a row that grows at o -/
def RowAt (H H' : Hp) (o : Addr) (i : Nat) : Prop := H o = none ∧ Same H H' ∧ ∃ rw, isRow rw i ∧ H' o = some (.lst (rw.map V.int))
theorem RowAt.start {H : Hp} {o : Addr} (no : H o = none) : RowAt H (upd H o (.lst [])) o 0 := ⟨no, same_upd no, [], ⟨rfl, fun v hv => by cases hv⟩, upd_same⟩
theorem RowAt.push {H H' : Hp} {o : Addr} {i : Nat} {xs : List V} {z : Int} (r : RowAt H H' o i) (eo : H' o = some (.lst xs)) (h0 : 0 ≤ z) (h1 : z < 1000) : RowAt H (upd H' o (.lst (xs ++ [.int z]))) o (i + 1) := by
  obtain ⟨no, sm, rw, hr, e⟩ := r
  have e2 : xs = rw.map V.int := by
    rw [eo] at e
    exact HO.lst.inj (Option.some.inj e)
  refine ⟨no, same_mut sm no, rw ++ [z], hr.snoc h0 h1, ?_⟩
  rw [upd_same, e2, List.map_append]
  rfl

/-! ### cuts -/
theorem cut_id {D : Ends} {t u : TS} {σ : L2.St} {H : Hp} (Mid : L2.St → Hp → Prop) (h1 : t { D with nx := Mid } σ H) (h2 : ∀ σ' H', Mid σ' H' → u D σ' H') : C8.tCut t u D σ H := ⟨Mid, h1, h2⟩

/-! ### lists of fractions -/
theorem sqt_mut {K : PySem.W.Frag} {H : Hp} {a D : Addr} {xs zs : List V} {o : HO} (hD : H D = some (.lst zs)) (h : SqT K H a xs) : SqT K (upd H D o) a xs := by
  rcases h with (h | ⟨o', h⟩) | h
  · exact .inl (.inl (by rw [upd_ne (ne_of h hD (fun z => nomatch z))]; exact h))
  · exact .inl (.inr ⟨o', by rw [upd_ne (ne_of h hD (fun z => nomatch z))]; exact h⟩)
  · exact .inr h
theorem IsF.mut {K : PySem.W.Frag} {H : Hp} {a D : Addr} {r : Rat} {zs : List V} {o : HO} (hD : H D = some (.lst zs)) (h : IsF K H a r) : IsF K (upd H D o) a r := sqt_mut hD h
/-- fractions, one by one -/
def Fs (K : PySem.W.Frag) (H : Hp) (as : List Addr) (rs : List Rat) : Prop := as.length = rs.length ∧ ∀ (i : Nat) (a : Addr) (r : Rat), as[i]? = some a → rs[i]? = some r → IsF K H a r
theorem Fs.nil {K : PySem.W.Frag} {H : Hp} : Fs K H [] [] := ⟨rfl, fun i a r h _ => by simp at h⟩
theorem Fs.same {K : PySem.W.Frag} {H H' : Hp} {as : List Addr} {rs : List Rat} (e : Same H H') (h : Fs K H as rs) : Fs K H' as rs := ⟨h.1, fun i a r h1 h2 => (h.2 i a r h1 h2).same e⟩
theorem Fs.mut {K : PySem.W.Frag} {H : Hp} {D : Addr} {zs : List V} {o : HO} {as : List Addr} {rs : List Rat} (hD : H D = some (.lst zs)) (h : Fs K H as rs) : Fs K (upd H D o) as rs := ⟨h.1, fun i a r h1 h2 => (h.2 i a r h1 h2).mut hD⟩
theorem Fs.snoc {K : PySem.W.Frag} {H : Hp} {as : List Addr} {rs : List Rat} {a : Addr} {r : Rat} (h : Fs K H as rs) (x : IsF K H a r) : Fs K H (as ++ [a]) (rs ++ [r]) := by
  refine ⟨by rw [List.length_append, List.length_append, h.1]; rfl, fun i b q h1 h2 => ?_⟩
  have hl := h.1
  rcases Nat.lt_or_ge i as.length with hi | hi
  · rw [List.getElem?_append_left hi] at h1
    rw [List.getElem?_append_left (by omega)] at h2
    exact h.2 i b q h1 h2
  · rw [List.getElem?_append_right hi] at h1
    rw [List.getElem?_append_right (by omega)] at h2
    have hi2 : i - as.length = 0 := by
      have := (List.getElem?_eq_some_iff.mp h1).1
      rw [List.length_singleton] at this
      omega
    rw [hi2] at h1
    rw [show i - rs.length = 0 by omega] at h2
    have e1 : a = b := Option.some.inj h1
    have e2 : r = q := Option.some.inj h2
    rw [← e1, ← e2]
    exact x
/-- a list, at l, of these fractions -/
def FsAt (K : PySem.W.Frag) (H : Hp) (l : Addr) (rs : List Rat) : Prop := ∃ as : List Addr, SqL K H l (as.map V.ref) ∧ Fs K H as rs
theorem FsAt.same {K : PySem.W.Frag} {H H' : Hp} {l : Addr} {rs : List Rat} (e : Same H H') (h : FsAt K H l rs) : FsAt K H' l rs := let ⟨as, h1, h2⟩ := h; ⟨as, e.seq h1, h2.same e⟩
/-- the same, tracked -/
def NewFs (K : PySem.W.Frag) (H : Hp) (l : Addr) (rs : List Rat) : Prop := ∃ as : List Addr, H l = some (.lst (as.map V.ref)) ∧ Fs K H as rs
theorem NewFs.at {K : PySem.W.Frag} {H : Hp} {l : Addr} {rs : List Rat} (h : NewFs K H l rs) : FsAt K H l rs := let ⟨as, h1, h2⟩ := h; ⟨as, SqL.of h1, h2⟩
theorem NewFs.same {K : PySem.W.Frag} {H H' : Hp} {l : Addr} {rs : List Rat} (e : Same H H') (h : NewFs K H l rs) : NewFs K H' l rs := let ⟨as, h1, h2⟩ := h; ⟨as, e _ _ h1, h2.same e⟩
def rFs (K : PySem.W.Frag) (H : Hp) (rs : List Rat) (Q : VK) : Prop := ∀ H' l, Same H H' → H l = none → NewFs K H' l rs → Q (.ref l) H'
/-- its places -/
theorem Fs.get {K : PySem.W.Frag} {H : Hp} {as : List Addr} {rs : List Rat} (h : Fs K H as rs) {i : Nat} (hi : i < rs.length) : ∃ a r, as[i]? = some a ∧ (as.map V.ref)[i]? = some (.ref a) ∧ rs[i]? = some r ∧ IsF K H a r := by
  have hl : i < as.length := by rw [h.1]; exact hi
  exact ⟨as[i], rs[i], List.getElem?_eq_getElem hl, by rw [List.getElem?_map, List.getElem?_eq_getElem hl]; rfl, List.getElem?_eq_getElem hi, h.2 i _ _ (List.getElem?_eq_getElem hl) (List.getElem?_eq_getElem hi)⟩
theorem Fs.of {K : PySem.W.Frag} {H : Hp} {as : List Addr} {rs : List Rat} (h : Fs K H as rs) {i : Nat} {x : V} (hx : (as.map V.ref)[i]? = some x) : ∃ a r, x = .ref a ∧ as[i]? = some a ∧ rs[i]? = some r ∧ IsF K H a r ∧ i < rs.length := by
  have hi : i < as.length := by
    have := (List.getElem?_eq_some_iff.mp hx).1
    rw [List.length_map] at this
    exact this
  have hi2 : i < rs.length := by rw [← h.1]; exact hi
  obtain ⟨a, r, e1, e2, e3, e4⟩ := h.get hi2
  rw [hx] at e2
  exact ⟨a, r, Option.some.inj e2, e1, e3, e4, hi2⟩
/-- a list of fractions that grows at D, over H₀ -/
structure Grow (K : PySem.W.Frag) (H₀ H : Hp) (D : Addr) (rs : List Rat) : Prop where
  new : H₀ D = none
  same : Same H₀ H
  ex : NewFs K H D rs
theorem Grow.start {K : PySem.W.Frag} {H : Hp} {D : Addr} (hD : H D = none) : Grow K H (upd H D (.lst [])) D [] := ⟨hD, same_upd hD, [], upd_same, .nil⟩
theorem Grow.step {K : PySem.W.Frag} {H₀ H H1 : Hp} {D a : Addr} {rs : List Rat} {r : Rat} (g : Grow K H₀ H D rs) (s : Same H H1) (x : IsF K H1 a r) (hl : rs.length ≤ 1000) :
    ∃ acc, H1 D = some (.lst acc) ∧ acc.length < sizeLine ∧ Grow K H₀ (upd H1 D (.lst (acc ++ [.ref a]))) D (rs ++ [r]) := by
  obtain ⟨n, sm, as, e, f⟩ := g
  have e1 := s _ _ e
  refine ⟨as.map V.ref, e1, ?_, n, same_mut (sm.trans s) n, as ++ [a], ?_, ((f.same s).snoc x).mut e1⟩
  · rw [List.length_map, f.1]
    exact small1000 hl
  · rw [upd_same, List.map_append]
    rfl
theorem Grow.fs {K : PySem.W.Frag} {H₀ H : Hp} {D l : Addr} {rs ss : List Rat} (g : Grow K H₀ H D rs) (h : FsAt K H₀ l ss) : FsAt K H l ss := h.same g.same

/-- a comprehension over zip of two lists of one length -/
theorem lc_zipL {K : PySem.W.Frag} {a b : Addr} {xs ys : List V} {g : TG} {tt : TT} {te : TE} {vs : List Nat} {σ : L2.St} {H1 : Hp} {D : Addr} {Qd : Hp → Prop} (hl : xs.length = ys.length) (Pv : Nat → Hp → Prop) (h0 : Pv 0 (upd H1 D (.lst []))) (hq : ∀ i H, Pv i H → SqL K H a xs ∧ SqL K H b ys)
    (hs : ∀ (i : Nat) (x y : V) (T : Addr) (H : Hp), xs[i]? = some x → ys[i]? = some y → Pv i H → H T = none → g (.ref T) (wipe σ vs) (upd H T (.tup [x, y])) fun σ2 H2 => wipe σ2 vs = wipe σ vs ∧ tt σ2 H2 fun b H3 =>
      if b = true then te σ2 H3 fun y H4 => ∃ acc, H4 D = some (.lst acc) ∧ acc.length < sizeLine ∧ Pv (i + 1) (upd H4 D (.lst (acc ++ [y]))) else Pv (i + 1) H3) (hd : ∀ H, Pv xs.length H → Qd H) :
    ∃ W : Nat → Nat → Hp → Prop, (∃ m, W 0 m (upd H1 D (.lst []))) ∧ ∀ i m H, W i m H →
      ((Itz K a b).stop i H ∧ Qd H) ∨ ((Itz K a b).go i H ∧ ∃ Nx : Hp → Prop, (∀ H', Nx H' → ∃ m', m' < m ∧ W (i + 1) m' H') ∧ ∀ x H', (Itz K a b).yld i H x H' → g x (wipe σ vs) H' fun σ2 H2 => wipe σ2 vs = wipe σ vs ∧ tt σ2 H2 fun b H3 =>
        if b = true then te σ2 H3 fun y H4 => ∃ acc, H4 D = some (.lst acc) ∧ acc.length < sizeLine ∧ Nx (upd H4 D (.lst (acc ++ [y]))) else Nx H3) := by
  refine ⟨fun i m H => m = xs.length - i ∧ i ≤ xs.length ∧ Pv i H, ⟨xs.length, rfl, Nat.zero_le _, h0⟩, ?_⟩
  rintro i m H ⟨rfl, hi, p⟩
  obtain ⟨qx, qy⟩ := hq i H p
  by_cases hlt : i < xs.length
  · have hx : xs[i]? = some xs[i] := List.getElem?_eq_getElem hlt
    have hlt2 : i < ys.length := by omega
    have hy : ys[i]? = some ys[i] := List.getElem?_eq_getElem hlt2
    refine .inr ⟨⟨xs, ys, _, _, qx, qy, hx, hy⟩, Pv (i + 1), fun H' p' => ⟨xs.length - (i + 1), by omega, rfl, hlt, p'⟩, fun v H' y => ?_⟩
    obtain ⟨T, x', y', rfl, hT, rfl, f1, f2⟩ := y
    exact hs i x' y' T H (f1 xs qx) (f2 ys qy) p hT
  · have e : i = xs.length := by omega
    subst e
    exact .inl ⟨⟨xs, ys, qx, qy, Or.inl (Nat.le_refl _)⟩, hd H p⟩

/-! ### data, for == -/
def fD (r : Rat) : PyData := .tuple [.int r.num, .int (r.den : Int)]
theorem dp_f {K : PySem.W.Frag} {H : Hp} {a : Addr} {r : Rat} (h : IsF K H a r) : Dp K H (.ref a) (fD r) := .tup h (.cons (.int _) (.cons (.int _) .nil))
theorem dpAll_f {K : PySem.W.Frag} {H : Hp} : ∀ (as : List Addr) (rs : List Rat), Fs K H as rs → DpAll K H (as.map V.ref) (rs.map fD)
  | [], [], _ => .nil
  | [], _ :: _, h => by have := h.1; simp at this
  | _ :: _, [], h => by have := h.1; simp at this
  | a :: as, r :: rs, h => .cons (dp_f (h.2 0 a r rfl rfl)) (dpAll_f as rs ⟨by have := h.1; simp at this; exact this, fun i b q h1 h2 => h.2 (i + 1) b q h1 h2⟩)
theorem dp_fs {K : PySem.W.Frag} {H : Hp} {l : Addr} {rs : List Rat} (h : FsAt K H l rs) : Dp K H (.ref l) (.list (rs.map fD)) := let ⟨_, h1, h2⟩ := h; .lst h1 (dpAll_f _ _ h2)
theorem canLay_f : ∀ rs : List Rat, PyData.canLayAll0 (rs.map fD) = true
  | [] => rfl
  | r :: rs => by
    show (PyData.canLay0 (fD r) && PyData.canLayAll0 (rs.map fD)) = true
    rw [canLay_f rs]
    rfl
theorem depth_f : ∀ rs : List Rat, PyData.depthAll (rs.map fD) ≤ 1
  | [] => Nat.zero_le _
  | r :: rs => by
    show max (PyData.depth (fD r)) (PyData.depthAll (rs.map fD)) ≤ 1
    exact Nat.max_le.mpr ⟨Nat.le_refl 1, depth_f rs⟩
theorem shaped_fs (rs : List Rat) : SeqAt.shaped (.list (rs.map fD)) = true := by
  unfold SeqAt.shaped
  rw [show PyData.canLay0 (.list (rs.map fD)) = PyData.canLayAll0 (rs.map fD) from rfl, canLay_f, Bool.true_and]
  refine decide_eq_true ?_
  show PyData.depthAll (rs.map fD) + 1 ≤ 64
  have := depth_f rs
  omega
theorem eqv_fs (rs : List Rat) : PyData.eqv (.list (rs.map fD)) (.list (rs.map fD)) = true := SeqAt.eqv_refl _ (canLay_f rs)

/-- a text, sign by sign -/
theorem for_sgn {x : Str} {g : TG} {tb : TS} {D : Ends} {σ : L2.St} {H : Hp} (Pv : Nat → L2.St → Hp → Prop) (h0 : Pv 0 σ H)
    (turn : ∀ (i c : Nat) (σ : L2.St) (H : Hp), x.cps[i]? = some c → Pv i σ H → g (.str ⟨#[c]⟩) σ H fun σ2 H2 => tb { D with nx := Pv (i + 1), ct := Pv (i + 1), bk := D.nx } σ2 H2) (fin : ∀ σ H, Pv x.cps.size σ H → D.nx σ H) :
    ∃ W : Nat → Nat → L2.St → Hp → Prop, (∃ m, W 0 m σ H) ∧ ∀ i m σ H, W i m σ H →
      ((Its x).stop i H ∧ D.nx σ H) ∨ ((Its x).go i H ∧ ∃ N : L2.St → Hp → Prop, (∀ σ' H', N σ' H' → ∃ m', m' < m ∧ W (i + 1) m' σ' H') ∧ ∀ v H', (Its x).yld i H v H' → g v σ H' fun σ2 H2 => tb { D with nx := N, ct := N, bk := D.nx } σ2 H2) := by
  refine ⟨fun i m σ H => m + i = x.cps.size ∧ Pv i σ H, ⟨x.cps.size, rfl, h0⟩, ?_⟩
  rintro i m σ H ⟨em, p⟩
  rcases Nat.lt_or_ge i x.cps.size with hlt | hge
  · refine .inr ⟨hlt, Pv (i + 1), fun σ' H' p' => ⟨m - 1, by omega, by omega, p'⟩, ?_⟩
    rintro v H' ⟨rfl, c, hc, rfl⟩
    exact turn i c σ H' hc p
  · have e : i = x.cps.size := by omega
    subst e
    exact .inl ⟨Nat.le_refl _, fin σ H p⟩
end BB

set_option maxHeartbeats 4000000
/-! Txt: fractions as texts. -/
namespace BB
open PySem PySem.Builtin PySem.Builtin.Str PySem.StrLaws SX TL NumText

/-- the signs of an int -/
def intL (i : Int) : List Nat := if i < 0 then 45 :: numL i.natAbs else numL i.natAbs
theorem strI_S (i : Int) : Str.ofString (toString i) = S (intL i) := by
  unfold intL
  by_cases h : i < 0
  · rw [if_pos h]
    refine ext_tl ?_
    rw [tl_ofString, PyProof.Rows.toString_neg h]
    have e : (0 : Int) - i = ((i.natAbs : Nat) : Int) := by omega
    rw [String.toList_append, List.map_append, e]
    have e2 := tl_ofString (toString ((i.natAbs : Nat) : Int))
    rw [tl_num] at e2
    rw [← e2]
    rfl
  · rw [if_neg h]
    have e : i = ((i.natAbs : Nat) : Int) := by omega
    rw [show toString i = toString ((i.natAbs : Nat) : Int) from congrArg toString e]
    exact num_S _
/-- the written form -/
def fmtL (r : Rat) : List Nat := if r.den = 1 then intL r.num else intL r.num ++ (47 :: numL r.den)

/-! ### one sign as a separator -/
theorem par1 (s : Nat) : ∀ (l acc : List Nat), (s ∉ l ∧ par [s] acc l = none) ∨ ∃ a b, l = a ++ s :: b ∧ s ∉ a ∧ par [s] acc l = some (acc ++ a, b)
  | [], acc => .inl ⟨by simp, rfl⟩
  | c :: r, acc => by
    by_cases h : c = s
    · subst h
      refine .inr ⟨[], r, rfl, by simp, ?_⟩
      rw [par_hit (show pre [c] (c :: r) = true from pre_self [c] r), List.append_nil]
      rfl
    · rw [par_miss (pre_of_head [] r h)]
      rcases par1 s r (acc ++ [c]) with ⟨h1, h2⟩ | ⟨a, b, e, h1, h2⟩
      · exact .inl ⟨by simp only [List.mem_cons, not_or]; exact ⟨fun z => h z.symm, h1⟩, h2⟩
      · refine .inr ⟨c :: a, b, by rw [e]; rfl, by simp only [List.mem_cons, not_or]; exact ⟨fun z => h z.symm, h1⟩, ?_⟩
        rw [h2, List.append_assoc]
        rfl
theorem partition_S1 {s : Nat} {l : List Nat} (h : s ∉ l) : Txt.partition (S l) (S [s]) = (S l, S [], S []) := by
  rw [partition_par _ _ (by simp), show par (tl (S [s])) [] (tl (S l)) = none from ?_]
  · rfl
  · rcases par1 s l [] with ⟨_, h2⟩ | ⟨a, b, e, _, _⟩
    · exact h2
    · exact absurd (by rw [e]; simp) h
theorem partition_S2 {s : Nat} {a b : List Nat} (h : s ∉ a) : Txt.partition (S (a ++ s :: b)) (S [s]) = (S a, S [s], S b) := by
  rw [partition_par _ _ (by simp), show par (tl (S [s])) [] (tl (S (a ++ s :: b))) = some ([] ++ a, b) from par_part1 (S := []) h]
  rfl

/-! ### the minus sign -/
def minus (l : List Nat) : Bool := l.head? == some 45
def noMinus (l : List Nat) : List Nat := if minus l then l.tail else l
theorem sub0 (l : List Nat) : subAt (S l) (S [45]) 0 = minus l := by
  rw [subAt_eq]
  cases l with
  | nil => rfl
  | cons c r =>
    show ((c :: r).take 1 == [45]) = (some c == some 45)
    rw [List.take_succ_cons, List.take_zero]
    by_cases h : c = 45
    · subst h; rfl
    · rw [beq_eq_false_iff_ne.mpr (by intro z; exact h (List.head_eq_of_cons_eq z)), beq_eq_false_iff_ne.mpr (by intro z; exact h (Option.some.inj z))]
theorem starts_S (l : List Nat) : Txt.startswith (S l) (S [45]) = minus l := by
  unfold Txt.startswith
  rw [sub0]
  cases l with
  | nil => rfl
  | cons c r =>
    rw [decide_eq_true (by simp [Str.length]), Bool.true_and]
theorem remove_S (l : List Nat) : Txt.removeprefix (S l) (S [45]) = S (noMinus l) := by
  unfold Txt.removeprefix noMinus
  rw [sub0]
  cases hm : minus l with
  | false => rfl
  | true =>
    cases l with
    | nil => cases hm
    | cons c r =>
      show Txt.affix (S (c :: r)) (some ((S [45]).length, (S (c :: r)).length)) = S r
      unfold Txt.affix
      have e1 : (S [45]).length = 1 := rfl
      have e2 : (S (c :: r)).length = r.length + 1 := S_len _
      show (if ((S (c :: r)).length - (S [45]).length == (S (c :: r)).length) = true then S (c :: r) else strSub (S (c :: r)) (S [45]).length (S (c :: r)).length) = S r
      rw [if_neg (by rw [e1, e2]; simp), e1]
      refine ext_tl ?_
      rw [tl_strSub_end]
      rfl

/-! ### digits -/
theorem ascii_S {l : List Nat} (h : ∀ c ∈ l, c < 128) : Txt.isascii (S l) = true := by
  unfold Txt.isascii
  rw [← Array.all_toList]
  exact List.all_eq_true.mpr fun c hc => decide_eq_true (h c hc)
theorem digit_ascii : ∀ c : Nat, c < 128 → Unicode.isDigit c = (decide (48 ≤ c) && decide (c ≤ 57)) := by decide +kernel
def digs (l : List Nat) : Bool := l.all fun c => decide (48 ≤ c) && decide (c ≤ 57)
theorem digs_iff {l : List Nat} : digs l = true ↔ AllDigits l := by
  unfold digs
  rw [List.all_eq_true]
  constructor
  · intro h c hc
    have z := h c hc
    rw [Bool.and_eq_true, decide_eq_true_eq, decide_eq_true_eq] at z
    exact z
  · intro h c hc
    rw [Bool.and_eq_true, decide_eq_true_eq, decide_eq_true_eq]
    exact h c hc
theorem isdigit_S {l : List Nat} (h : ∀ c ∈ l, c < 128) : Txt.isdigit (S l) = (decide (0 < l.length) && digs l) := by
  unfold Txt.isdigit digs
  rw [S_len, ← Array.all_toList]
  congr 1
  rw [Bool.eq_iff_iff]
  refine List.all_eq_true.trans (Iff.trans ?_ List.all_eq_true.symm)
  exact ⟨fun z c hc => by rw [← digit_ascii c (h c hc)]; exact z c hc, fun z c hc => by rw [digit_ascii c (h c hc)]; exact z c hc⟩
def digN (l : List Nat) : Option Nat := if l.length ≤ 60 ∧ 0 < l.length ∧ digs l = true then some (digitsVal l) else none
theorem digN_some {l : List Nat} {n : Nat} (h : digN l = some n) : l.length ≤ 60 ∧ 0 < l.length ∧ digs l = true ∧ digitsVal l = n := by
  unfold digN at h
  by_cases c : l.length ≤ 60 ∧ 0 < l.length ∧ digs l = true
  · rw [if_pos c] at h
    exact ⟨c.1, c.2.1, c.2.2, Option.some.inj h⟩
  · rw [if_neg c] at h
    cases h

theorem digits_snoc (l : List Nat) (c : Nat) : digitsVal (l ++ [c]) = digitsVal l * 10 + (c - 48) := by
  unfold digitsVal
  rw [List.foldl_append]
  rfl
theorem revInd {P : List Nat → Prop} (h0 : P []) (hs : ∀ l c, P l → P (l ++ [c])) : ∀ l, P l := fun l => by
  rw [← List.reverse_reverse l]
  induction l.reverse with
  | nil => exact h0
  | cons c r ih => rw [List.reverse_cons]; exact hs _ _ ih
theorem digits_lt : ∀ {l : List Nat}, AllDigits l → digitsVal l < 10 ^ l.length := by
  intro l
  refine revInd (P := fun l => AllDigits l → digitsVal l < 10 ^ l.length) ?_ ?_ l
  · intro _; decide
  · intro l c ih h
    have h1 := ih (fun d hd => h d (List.mem_append_left _ hd))
    have h2 := h c (by simp)
    rw [digits_snoc, List.length_append, List.length_singleton, Nat.pow_succ]
    omega
theorem digits_pos : ∀ {l : List Nat}, AllDigits l → l ≠ [] → l.head? ≠ some 48 → 0 < digitsVal l := by
  intro l
  refine revInd (P := fun l => AllDigits l → l ≠ [] → l.head? ≠ some 48 → 0 < digitsVal l) ?_ ?_ l
  · intro _ h; exact absurd rfl h
  · intro l c ih h _ hh
    have h2 := h c (by simp)
    rw [digits_snoc]
    by_cases hl : l = []
    · subst hl
      have : c ≠ 48 := fun z => hh (by rw [z]; rfl)
      show 0 < 0 * 10 + (c - 48)
      omega
    · have := ih (fun d hd => h d (List.mem_append_left _ hd)) hl (by
        cases l with
        | nil => exact absurd rfl hl
        | cons d r => exact hh)
      omega
/-- digits without a leading zero are the signs of their number -/
theorem canon_num : ∀ {l : List Nat}, AllDigits l → l ≠ [] → (l.length = 1 ∨ l.head? ≠ some 48) → numL (digitsVal l) = l := by
  intro l
  refine revInd (P := fun l => AllDigits l → l ≠ [] → (l.length = 1 ∨ l.head? ≠ some 48) → numL (digitsVal l) = l) ?_ ?_ l
  · intro _ h; exact absurd rfl h
  · intro l c ih h _ hh
    have h2 := h c (by simp)
    rw [digits_snoc]
    by_cases hl : l = []
    · subst hl
      rw [numL_lt (by show 0 * 10 + (c - 48) < 10; omega)]
      show [48 + (0 * 10 + (c - 48))] = [c]
      congr 1
      omega
    · have hh' : l.head? ≠ some 48 := by
        rcases hh with hh | hh
        · rw [List.length_append, List.length_singleton] at hh
          exact absurd (List.length_eq_zero_iff.mp (by omega)) hl
        · cases l with
          | nil => exact absurd rfl hl
          | cons d r => exact hh
      have hd : AllDigits l := fun d hd => h d (List.mem_append_left _ hd)
      have hp := digits_pos hd hl hh'
      rw [numL_step (by omega), show (digitsVal l * 10 + (c - 48)) / 10 = digitsVal l by omega, ih hd hl (.inr hh'), show 48 + (digitsVal l * 10 + (c - 48)) % 10 = c by omega]
theorem numL_lead {n : Nat} : (numL n).length = 1 ∨ (numL n).head? ≠ some 48 := by
  induction n using Nat.strongRecOn with
  | _ n ih =>
    by_cases h : n < 10
    · exact .inl (by rw [numL_lt h]; rfl)
    · right
      rw [numL_step (by omega)]
      have hne := numL_ne (n / 10)
      cases e : numL (n / 10) with
      | nil => exact absurd e hne
      | cons d r =>
        rcases ih (n / 10) (by omega) with h1 | h1
        · rw [e] at h1
          have hr : r = [] := List.length_eq_zero_iff.mp (by simpa using h1)
          subst hr
          show some d ≠ some 48
          intro z
          have z' : d = 48 := Option.some.inj z
          subst z'
          have hv := numL_val (n / 10)
          rw [e] at hv
          have : (0 : Nat) = n / 10 := hv
          omega
        · rw [e] at h1
          exact h1
theorem len_num {n : Nat} : (numL n).length ≤ 60 ↔ n < 10 ^ 60 := by
  constructor
  · intro h
    have := digits_lt (numL_digits n)
    rw [numL_val] at this
    exact Nat.lt_of_lt_of_le this (Nat.pow_le_pow_right (by decide) h)
  · intro h
    exact numL_len (by decide) h
theorem digN_num {n : Nat} (h : n < 10 ^ 60) : digN (numL n) = some n := by
  unfold digN
  rw [if_pos ⟨len_num.mpr h, List.length_pos_iff.mpr (numL_ne n), digs_iff.mpr (numL_digits n)⟩, numL_val]

/-! ### reading a text, as parse_ratio does -/
def signed (b : Bool) (n : Nat) : Int := if b then -(n : Int) else n
def found (l : List Nat) (r : Rat) : Option Rat := if fmtL r = l then some r else none
def parseR (l : List Nat) : Option Rat :=
  match par [47] [] l with
  | none => match digN (noMinus l) with
    | some n => found l (Rat.divInt (signed (minus l) n) 1)
    | none => none
  | some (a, b) => match digN (noMinus a), digN b with
    | some n, some q => if q = 0 then none else found l (Rat.divInt (signed (minus a) n) (q : Int))
    | _, _ => none
theorem int_split (i : Int) : noMinus (intL i) = numL i.natAbs ∧ signed (minus (intL i)) i.natAbs = i := by
  unfold intL
  by_cases h : i < 0
  · rw [if_pos h]
    refine ⟨rfl, ?_⟩
    show -((i.natAbs : Nat) : Int) = i
    omega
  · rw [if_neg h]
    have hm : minus (numL i.natAbs) = false := by
      have hne := numL_ne i.natAbs
      have hf := numL_free (n := i.natAbs) (s := 45) (.inl (by decide))
      cases e : numL i.natAbs with
      | nil => exact absurd e hne
      | cons c r =>
        rw [e] at hf
        exact beq_eq_false_iff_ne.mpr fun z => hf (by rw [Option.some.inj z]; simp)
    unfold noMinus
    rw [hm]
    refine ⟨rfl, ?_⟩
    show ((i.natAbs : Nat) : Int) = i
    omega
theorem int_free (i : Int) : 47 ∉ intL i := by
  unfold intL
  have hf := numL_free (n := i.natAbs) (s := 47) (.inl (by decide))
  split
  · simp only [List.mem_cons, not_or]
    exact ⟨by decide, hf⟩
  · exact hf
theorem div_self (r : Rat) : Rat.divInt r.num (r.den : Int) = r := Rat.num_divInt_den r
/-- the written form is read back -/
theorem parse_fmt {r : Rat} (h1 : r.num.natAbs < 10 ^ 60) (h2 : r.den < 10 ^ 60) : parseR (fmtL r) = some r := by
  obtain ⟨e1, e2⟩ := int_split r.num
  unfold parseR
  by_cases hd : r.den = 1
  · have ef : fmtL r = intL r.num := if_pos hd
    rcases par1 47 (fmtL r) [] with ⟨_, hp⟩ | ⟨a, b, e, _, _⟩
    · rw [hp]
      simp only
      rw [ef, e1, digN_num h1]
      simp only
      rw [e2]
      have er : Rat.divInt r.num 1 = r := by
        have := div_self r
        rw [hd] at this
        exact this
      rw [er]
      unfold found
      rw [if_pos ef]
    · rw [ef] at e
      exact absurd (by rw [e]; simp) (int_free r.num)
  · have ef : fmtL r = intL r.num ++ (47 :: numL r.den) := if_neg hd
    rw [ef, show par [47] [] (intL r.num ++ 47 :: numL r.den) = some ([] ++ intL r.num, numL r.den) from par_part1 (S := []) (int_free r.num)]
    simp only [List.nil_append]
    rw [e1, digN_num h1, digN_num h2]
    simp only
    rw [if_neg r.den_nz, e2, div_self]
    unfold found
    rw [if_pos ef]

theorem found_some {l : List Nat} {r r' : Rat} (h : found l r = some r') : r = r' ∧ fmtL r = l := by
  unfold found at h
  by_cases c : fmtL r = l
  · rw [if_pos c] at h
    exact ⟨Option.some.inj h, c⟩
  · rw [if_neg c] at h
    cases h
/-- what the parts of a text that is read are -/
theorem parse_cases {l : List Nat} {r : Rat} (h : parseR l = some r) : ∃ (t s b : List Nat) (n q : Nat), Txt.partition (S l) (S [47]) = (S t, S s, S b) ∧ (∀ c ∈ t, c ∈ l) ∧ (∀ c ∈ b, c ∈ l) ∧ t.length ≤ l.length ∧ b.length ≤ l.length ∧ digN (noMinus t) = some n ∧
    ((s = [] ∧ q = 1) ∨ (s = [47] ∧ digN b = some q)) ∧ q ≠ 0 ∧ r = Rat.divInt (signed (minus t) n) (q : Int) ∧ fmtL r = l := by
  unfold parseR at h
  rcases par1 47 l [] with ⟨h1, hp⟩ | ⟨a, b, e, h1, hp⟩
  · rw [hp] at h
    simp only at h
    cases hd : digN (noMinus l) with
    | none => rw [hd] at h; cases h
    | some n =>
      rw [hd] at h
      obtain ⟨e1, e2⟩ := found_some h
      exact ⟨l, [], [], n, 1, partition_S1 h1, (fun c hc => hc), (fun c hc => by cases hc), Nat.le_refl _, Nat.zero_le _, hd, .inl ⟨rfl, rfl⟩, by decide, e1.symm, by rw [← e1]; exact e2⟩
  · rw [hp] at h
    simp only [List.nil_append] at h
    cases hd : digN (noMinus a) with
    | none => rw [hd] at h; cases h
    | some n =>
      cases hb : digN b with
      | none => rw [hd, hb] at h; cases h
      | some q =>
        rw [hd, hb] at h
        simp only at h
        by_cases hq : q = 0
        · rw [if_pos hq] at h
          cases h
        · rw [if_neg hq] at h
          obtain ⟨e1, e2⟩ := found_some h
          subst e
          exact ⟨a, [47], b, n, q, partition_S2 h1, fun c hc => by simp [hc], fun c hc => by simp [hc], by simp, by simp; omega, hd, .inr ⟨rfl, hb⟩, hq, e1.symm, by rw [← e1]; exact e2⟩
theorem noMinus_sub {t : List Nat} : ∀ c ∈ noMinus t, c ∈ t := fun c hc => by
  unfold noMinus at hc
  split at hc
  · exact List.mem_of_mem_tail hc
  · exact hc
theorem digN_lt {l : List Nat} {n : Nat} (h : digN l = some n) : n < 10 ^ 60 := by
  obtain ⟨h1, _, h3, h4⟩ := digN_some h
  rw [← h4]
  exact Nat.lt_of_lt_of_le (digits_lt (digs_iff.mp h3)) (Nat.pow_le_pow_right (by decide) h1)
theorem signed_abs (b : Bool) (n : Nat) : (signed b n).natAbs = n := by
  unfold signed
  cases b <;> simp
theorem len_intL {i : Int} (h : i.natAbs < 2 ^ 210) : (intL i).length ≤ 65 := by
  have := numL_len (n := i.natAbs) (k := 64) (by decide) (Nat.lt_trans h (by decide))
  unfold intL
  split
  · rw [List.length_cons]; omega
  · omega
theorem len_fmtL {r : Rat} (h : Sz 210 r) : (fmtL r).length ≤ 130 := by
  have h1 := len_intL h.1
  have h2 := numL_len (n := r.den) (k := 64) (by decide) (Nat.lt_trans h.2 (by decide))
  unfold fmtL
  split
  · omega
  · rw [List.length_append, List.length_cons]; omega
theorem numL_ascii {n c : Nat} (h : c ∈ numL n) : c < 128 := by
  have := numL_digits n c h
  omega
theorem intL_ascii {i : Int} {c : Nat} (h : c ∈ intL i) : c < 128 := by
  unfold intL at h
  split at h
  · rcases List.mem_cons.mp h with h | h
    · omega
    · exact numL_ascii h
  · exact numL_ascii h
theorem fmtL_ascii {r : Rat} {c : Nat} (h : c ∈ fmtL r) : c < 128 := by
  unfold fmtL at h
  split at h
  · exact intL_ascii h
  · rcases List.mem_append.mp h with h | h
    · exact intL_ascii h
    · rcases List.mem_cons.mp h with h | h
      · omega
      · exact numL_ascii h
theorem sz_line {x : Nat} (h : x ≤ 1000) : x ≤ PySem.sizeLine := Nat.le_trans h (by decide)
end BB

set_option maxHeartbeats 4000000
/-! Exc: errors of the text's own, whose maker calls its base's; isinstance of one that bears fields. -/
namespace BB
section
open PySem PySem.W PySem.Spec PySem.Calls PyProof.Rows
variable {prog : Program} {w : World} {A : Around} {E : Value → Shared → Prop} {s : Shared} {K : Frag} {x D : Addr} {ox : Obj} {od : Option Obj}
/-- e.__class__ of an error e, whether it has a dict or none -/
theorem err_class (C : L2.ExcC K D) {Q : Option Value → Shared → Prop} (hf : findObj K D od "__class__" = some (.bind (.builtin "getset_descriptor.__get__") (.builtin "object.__class__")))
    (X : K.In s.heap) (I : InstAt s.heap x ox D od) (q : Q (some (.ref D)) { s with toks := s.toks + 1 }) : wpAny (model prog w) A (getAttr? (.ref x) "__class__") Q E s := by
  rcases s with ⟨hp, g, dr, tk, os⟩
  have ty := I.type (M := model prog w)
  have isB : Looks (model prog w) hp (isInstance (.ref x) (.type "BaseException")) true := ty.andThen (looks_subIn X C.hs)
  have plain : (Value.builtin "BaseException.__getattribute__" == Value.builtin "object.__getattribute__") = false := by decide +kernel
  have way : (onTheHeap (Value.ref D) && Value.builtin "BaseException.__getattribute__" == Value.builtin "object.__getattribute__") = false := by rw [plain]; rfl
  have way2 : (false && onTheHeap (Value.builtin "BaseException.__getattribute__")) = false := rfl
  unfold getAttr? getAttrBy? getAttrBy
  refine wpAny_bind (wpAny_mkText (wpAny_bind (wpAny_attempt (wpAny_holding (wpAny_bind (ty.at (wpAny_bind ((looks_findIn (M := model prog w) X C.hg).at ?_))))))))
  refine (show wpAny _ _ (ite (_ = true) _ _) _ _ _ from ?_)
  rw [way, if_neg Bool.false_ne_true]
  unfold getAttrByItsOwn hookBefore
  refine wpAny_bind ?_
  have on : onTheHeap (Value.ref D) = true := rfl
  rw [if_pos on]
  refine (looks_findIn (M := model prog w) X C.hk).at (wpAny_bind (wpAny_attempt (wpAny_holding ?_)))
  unfold callGetattribute
  rw [way2, if_neg Bool.false_ne_true]
  unfold boundAndCalled
  rw [PySem.F.excAttr_ValueError.ga.bind]
  refine wpAny_bind (wpAny_pure ?_)
  refine (show wpAny _ _ (call (.builtin "BaseException.__getattribute__") [.ref x, .str "__class__" tk]) _ _ _ from ?_)
  refine wpAny_call (codeAny_call_builtin PySem.F.excAttr_ValueError.ga.plain PySem.F.entry_bexc_ga (@check_slot (model prog w) _ _ ⟨hp, g, dr, tk + 1, os⟩ "BaseException.__getattribute__" "BaseException" "__getattribute__" (.ref x) [.str "__class__" tk] [] _ (by decide +kernel) (by decide +kernel) isB (PySem.F.args_bexc_ga _ _) ?_))
  unfold Builtin.«object.__getattribute__»
  refine wpAny_bind (wpAny_of_eq (a := ((Value.ref x : Value), [Value.str "__class__" tk])) (by first | rfl | (simp only [slotArgs]; rfl)) (wpAny_bind (wpAny_pure (wpAny_bind (ty.at (wpAny_bind ((looks_find (M := model prog w) X I hf).at ?_)))))))
  refine (show wpAny _ _ (holding [Value.builtin "object.__class__"] (call (.builtin "getset_descriptor.__get__") [.builtin "object.__class__", .ref x, .ref D]) >>= ret) _ _ _ from ?_)
  refine wpAny_bind (wpAny_holding (wpAny_call (class_get (s := ⟨hp, g, dr, tk + 1, os⟩) X I C.hm (wpAny_pure ?_))))
  refine (show wpAny _ _ (handedOut (.ref D)) _ _ _ from ?_)
  rw [handedOut_of (v := .ref D) rfl]
  first
    | exact wpAny_pure (wpAny_pure q)
    | exact wpAny_pure q
    | exact wpAny_pure (wpAny_bind (wpAny_pure (wpAny_pure q)))
theorem err_found (C : L2.ExcC K D) (o : Obj) : findObj K D (some o) "__class__" = some (.bind (.builtin "getset_descriptor.__get__") (.builtin "object.__class__")) :=
  findObj_data (by obtain ⟨cd, hc, _⟩ := any_some C.hd; rw [hc]; rfl) C.ha C.hn C.ht
theorem err_kit (C : L2.ExcC K D) {o : Obj} : KitX K (.ref x) (.ref D) (fun h => InstAt h x ox D (some o)) where
  ty := fun _ _ _ I => I.type
  it := fun _ _ X _ => by
    have hd := C.hd
    obtain ⟨cd, hc, _⟩ := any_some hd
    unfold clsIn at hc
    split at hc
    · next c' d' cd' sl' ho =>
      intro A' Q' E' s' k q
      unfold isType loadHead
      exact wpAny_bind (wpAny_loadPart (k _ _ (X _ _ ho)) (wpAny_pure q))
    · cases hc
  ne := fun h tp dd its n sl X ht => by
    cases hq : (Value.ref D == Value.ref tp) with
    | false => rfl
    | true =>
      have e : D = tp := Value.ref.inj (beq_iff_eq.mp hq)
      obtain ⟨cd, hc, _⟩ := any_some C.hd
      unfold clsIn at hc
      split at hc
      · next c' d' cd' sl' ho =>
        rw [e] at ho
        have z := (X _ _ ho).symm.trans ht
        cases z
      · cases hc
  ca := fun X I k => err_class C (err_found C o) X I k
end
section
open PySem PySem.Spec PyProof.Rows L2
/-- isinstance(e, c), e the error that the suite holds, of the class at D, with its dict at d -/
def rIsD (K : PySem.W.Frag) (D a d : Addr) : List V → Hp → VK → Prop := fun xs H Q => ∃ (c : V) (cv : Value) (b : Bool) (fs : List (Str × V)), xs = [.ref a, c] ∧ (∀ u, RelV c u → u = cv) ∧ PySem.W.kitOne K (.ref D) cv = some b ∧ H d = some (.xd fs) ∧ Q (.bl b) H
/-- .. of whatever class and dict the suite was given: told only where they are these -/
def rIsAny (K : PySem.W.Frag) (D a : Addr) (cls : Value) (d : Option Addr) : List V → Hp → VK → Prop := fun xs H Q => cls = .ref D ∧ ∃ dd, d = some dd ∧ rIsD K D a dd xs H Q
theorem call_isD {X : Cx} {a D : Addr} {oe : Obj} {cls : Value} {d : Option Addr} {pn : List (Addr × Obj)} (C : ExcC X.K D) (hz : Zc cls d oe) (hf : ∃ vs, oe.data = .fields vs) : CallR (X.suite a ((a, oe) :: pn)) (.builtin "isinstance") (rIsAny X.K D a cls d) := by
  intro pins s σ H xs us Q I r h
  obtain ⟨ec, dd, ed, c, cv, b, fs, rfl, hcv, e, hd, q⟩ := h
  subst ec ed
  obtain ⟨u1, u2, rfl, r1, r2⟩ := vals2 r
  cases r1
  obtain rfl := hcv _ r2
  obtain ⟨ha, _⟩ := I.pin (a, oe) (List.mem_append_left _ List.mem_cons_self)
  obtain ⟨vs, hv⟩ := hf
  obtain ⟨mA, ⟨o, es, ep, ho, _⟩, _⟩ := (show ObjOk X.prog X.w H s.heap dd (.xd fs) from I.hok dd _ hd)
  have J : PySem.W.InstAt s.heap a oe D (some o) := by
    refine ⟨ha, hz.1, ?_, ?_⟩
    · unfold PySem.W.notCls
      rw [hv]
    · rw [hz.2]
      exact ho
  exact PySem.W.kia_one (err_kit C) I.kIn J e (fun z => nomatch z) fun tk => ⟨.bl b, H, I.tok tk, rfl, q⟩

/-! ### Base.__init__(self, ..), Base an own class that has none of its own -/
variable {X : Cx} {B : Addr} {mc : Value} {b : Str} {e : Expr} {es : List Expr} {ta : TA} {p1 p2 pos : Pos}
theorem pe_beinit {pl : Sem Bool} (hg : Gl X b) (hm : X.mg b = some (.ref B)) (rd : ClX.CRead X.K B mc) (vV : PySem.W.findCls X.K (.ref B) mc "__init__" = some (.val (.builtin "ValueError.__init__"))) (ha : PA X (e :: es) ta)
    (hdb : (b == ("__debug__" : Str)) = false := by decide)
    (hc : eval (.Call (.Attribute (.Name b p1) "__init__" p2) (e :: es) [] pos) X.env = (do
      let ov ← eval (.Name b p1) X.env
      standAt p2.atName
      let (f, first) ← holding [ov] (getMethod ov "__init__" pl)
      callWith pos f first (backTo pos (starEach (e :: es) X.env)) (backToKw pos (keywordEach [] X.env))) := by rfl)
    (he : starEach (e :: es) X.env = (false, eval e X.env) :: starEach es X.env := by rfl) (hpl : (backTo pos (starEach es X.env)).any (·.1) = false := by rfl) :
    PE X (.Call (.Attribute (.Name b p1) "__init__" p2) (e :: es) [] pos) (tVeI X.K ta) := by
  constructor
  intro pins s σ H Q I h
  refine PySem.W.methodCall_KW (ld_glob I hg hm (PySem.W.method_cls I.kIn rd.ga (PySem.W.cls_value I.kIn rd.rd vV rfl ?_)) hdb) hc
  refine PyProof.Rows.callWith_method1 (thn (ha.run pos pins _ σ H _ (I.tok _) h) fun us s1 hh => ?_) he hpl
  obtain ⟨vs, H1, I1, r1, a, C, ws, ev, hl, T, ea, q⟩ := hh
  subst ev
  cases r1 with
  | cons rx rw' =>
    cases rx
    refine oinit_ok T I1 ea ?_ fun s' J => ⟨.non, H1, J, rfl, q⟩
    rw [← Paired.length rw']
    exact Nat.le_trans hl (by decide)
end

/-! ### the class BadText: its field at -/
section
open PySem PySem.Spec PyProof.Rows L2
structure BadC (K : PySem.W.Frag) (C : Addr) : Prop where
  o : OexC K C
  noAt : PySem.W.findIn K (.ref C) "at" = some none
  e : ExcC K C
  te : PySem.W.exmOne K (.ref C) (.ref C) = some true
theorem BadC.x {K : PySem.W.Frag} {C : Addr} (B : BadC K C) : XfC K C := ⟨B.e.hg, B.e.hk, B.e.hs, B.e.hd⟩
def spBad (K : PySem.W.Frag) : Sp := fun vs H Q _ => ∃ (a C : Addr) (i : Int), vs = [.ref a, .int i] ∧ BadC K C ∧ i.natAbs < 2 ^ 200 ∧ H a = some (exo a C none) ∧
  ∀ dx, H dx = none → dx ≠ a → Q .non (upd (upd H dx (exd dx [("at", .int i)])) a (exo a C (some dx)))
structure BadD (P : Program) (w : World) (K : PySem.W.Frag) (mg : Str → Option Value) (base : Heap) (k : Nat) (C : Addr) : Prop where
  c : BadC K C
  m : mg "BadText" = some (.ref C)
  ex : ∃ (fI : Addr) (fd : FuncData) (ps : List Str), PySem.W.findIn K (.ref C) "__init__" = some (some (.ref fI)) ∧ PySem.W.typeIn K (.ref fI) = some (.type "function") ∧ FnOk P w K mg base CX0 k fI fd ps (spBad K) ∧ Binds K fd ps []
theorem passF {X : Cx} : Passes CX0 X (fun _ _ _ => False) := fun _ _ _ _ _ _ _ h => h.elim
theorem pmk_bad {X : Cx} {C : Addr} {k j : Nat} {e : Expr} {es : List Expr} {ta : TA} {p pos : Pos} (B : BadD X.prog X.w X.K X.mg X.base k C) (hr : Room j X.A) (hk : k + 1 ≤ j) (hg : Gl X "BadText") (ha : PA X (e :: es) ta)
    (he : starEach (e :: es) X.env = (false, eval e X.env) :: starEach es X.env := by rfl) (hpl : (backTo pos (starEach es X.env)).any (·.1) = false := by rfl) :
    PMk X (.Call (.Name "BadText" p) (e :: es) [] pos) (tMkO C (spBad X.K) [] ta) := by
  obtain ⟨fI, fd, ps, iC, tI, F1, b⟩ := B.ex
  exact pmk_oex B.c.o iC tI F1 (hr.mono hk) b .nil passF hg B.m ha (by decide) he hpl
/-- what BadText(i) leaves -/
theorem bad_made {K : PySem.W.Frag} {H1 : Hp} {C : Addr} {i : Int} {Q : XK} (B : BadC K C) (hi : i.natAbs < 2 ^ 200) (q : ∀ d H', Same H1 H' → H1 d = none → H' d = some (.xd [("at", .int i)]) → Q (.ref C) (some d) H') :
    [V.int i].length ≤ 1000 ∧ ∀ a, H1 a = none → spBad K (.ref a :: ([V.int i] ++ [])) (upd H1 a (exo a C none))
      (fun v H2 => v = .non ∧ ∃ (d : Addr) (fs : List (Str × V)), H2 a = some (exo a C (some d)) ∧ H2 d = some (exd d fs) ∧ H1 d = none ∧ Q (.ref C) (some d) (upd (del H2 a) d (.xd fs))) (fun _ _ _ => False) := by
  refine ⟨(show 1 ≤ 1000 by decide), fun a na => ⟨a, C, i, rfl, B, hi, upd_same, fun dx nd hne => ⟨rfl, dx, [("at", .int i)], upd_same, ?_, ?_, ?_⟩⟩⟩
  · rw [upd_ne hne, upd_same]
  · rw [upd_ne hne] at nd
    exact nd
  · rw [upd_ne hne] at nd
    refine q dx _ (fun b o h => ?_) nd upd_same
    have h1 : b ≠ dx := ne_of_none h nd
    have h2 : b ≠ a := ne_of_none h na
    rw [upd_ne h1, del_ne h2, upd_ne h2, upd_ne h1, upd_ne h2]
    exact h
/-- a def that may raise, called in a try -/
theorem pe_dS {X : Cx} {CX : CXT} {x : Str} {p pos : Pos} {e : Expr} {es : List Expr} {t : TA} {sp : Sp} {k j : Nat} {E : L2.St → XK} (c : Dn X.prog X.w X.K X.mg X.base CX k x sp) (hr : Room j X.A) (hk : k ≤ j) (hg : Gl X x) (hx : ∀ σ, PassesAt CX X σ (E σ)) (ha : PA X (e :: es) t)
    (hdb : (x == ("__debug__" : Str)) = false := by decide) (he : starEach (e :: es) X.env = (false, eval e X.env) :: starEach es X.env := by rfl) (hpl : (backTo pos (starEach es X.env)).any (·.1) = false := by rfl) :
    PE X (.Call (.Name x p) (e :: es) [] pos) (tCallS sp E t) := by
  obtain ⟨f, fd, ps, F, hm, kp, b⟩ := c.ex
  exact pe_callS F (hr.mono hk) hg hm kp b hx ha hdb he hpl
end
end BB

set_option maxHeartbeats 4000000
/-! Txu: reading a fraction in two ways. -/
namespace BB
open PySem PySem.Builtin PySem.Builtin.Str PySem.StrLaws SX TL NumText

/-- what the shape of a text says of parseR -/
theorem parse_shape (l : List Nat) : ∃ (t s b : List Nat), Txt.partition (S l) (S [47]) = (S t, S s, S b) ∧ (∀ c ∈ t, c ∈ l) ∧ (∀ c ∈ b, c ∈ l) ∧ t.length ≤ l.length ∧ b.length ≤ l.length ∧ (s = [] ∨ s = [47]) ∧
    (digN (noMinus t) = none → parseR l = none) ∧
    (∀ n, digN (noMinus t) = some n → s = [] → parseR l = found l (Rat.divInt (signed (minus t) n) ((1 : Nat) : Int))) ∧
    (∀ n, digN (noMinus t) = some n → s = [47] → digN b = none → parseR l = none) ∧
    (∀ n q, digN (noMinus t) = some n → s = [47] → digN b = some q → parseR l = if q = 0 then none else found l (Rat.divInt (signed (minus t) n) (q : Int))) := by
  rcases par1 47 l [] with ⟨h1, hp⟩ | ⟨a, b, e, h1, hp⟩
  · refine ⟨l, [], [], partition_S1 h1, (fun c hc => hc), (fun c hc => by cases hc), Nat.le_refl _, Nat.zero_le _, .inl rfl, ?_, ?_, ?_, ?_⟩
    · intro hd; unfold parseR; rw [hp]; simp only; rw [hd]
    · intro n hd _; unfold parseR; rw [hp]; simp only; rw [hd]; rfl
    · intro n hd hs; cases hs
    · intro n q hd hs; cases hs
  · rw [List.nil_append] at hp
    subst e
    refine ⟨a, [47], b, partition_S2 h1, (fun c hc => by simp [hc]), (fun c hc => by simp [hc]), by simp, by simp; omega, .inr rfl, ?_, ?_, ?_, ?_⟩
    · intro hd; unfold parseR; rw [hp]; simp only; rw [hd]
    · intro n hd hs; cases hs
    · intro n hd _ hb; unfold parseR; rw [hp]; simp only; rw [hd, hb]
    · intro n q hd _ hb; unfold parseR; rw [hp]; simp only; rw [hd, hb]
theorem digN_none_cases {l : List Nat} (h : digN l = none) : 60 < l.length ∨ l.length = 0 ∨ digs l = false := by
  unfold digN at h
  by_cases c : l.length ≤ 60 ∧ 0 < l.length ∧ digs l = true
  · rw [if_pos c] at h; cases h
  · by_cases c1 : l.length ≤ 60
    · by_cases c2 : 0 < l.length
      · right; right
        cases hd : digs l with
        | true => exact absurd ⟨c1, c2, hd⟩ c
        | false => rfl
      · right; left; omega
    · left; omega

/-- a text's number, -1 where it is none -/
def canonL (l : List Nat) : Bool := decide (1 ≤ l.length) && decide (l.length ≤ 60) && !(decide (1 < l.length) && (l.head? == some 48)) && digs l
def numR (l : List Nat) : Int := if canonL l = true then (digitsVal l : Nat) else -1
theorem canonL_num {n : Nat} (h : n < 10 ^ 60) : canonL (numL n) = true := by
  unfold canonL
  have h1 := len_num.mpr h
  have h2 : 1 ≤ (numL n).length := List.length_pos_iff.mpr (numL_ne n)
  rw [decide_eq_true h1, decide_eq_true h2, digs_iff.mpr (numL_digits n)]
  rcases numL_lead (n := n) with h3 | h3
  · rw [h3]; rfl
  · rw [beq_eq_false_iff_ne.mpr h3, Bool.and_false]; rfl
theorem numR_num {n : Nat} (h : n < 10 ^ 60) : numR (numL n) = n := by
  unfold numR
  rw [if_pos (canonL_num h), numL_val]
theorem numR_of {l : List Nat} (h : 0 ≤ numR l) : ∃ n : Nat, numR l = n ∧ l = numL n ∧ n < 10 ^ 60 := by
  unfold numR at h ⊢
  by_cases c : canonL l = true
  · rw [if_pos c]
    unfold canonL at c
    simp only [Bool.and_eq_true, decide_eq_true_eq, Bool.not_eq_true', Bool.and_eq_false_iff, decide_eq_false_iff_not] at c
    obtain ⟨⟨⟨c1, c2⟩, c3⟩, c4⟩ := c
    have hd := digs_iff.mp c4
    have e : numL (digitsVal l) = l := canon_num hd (List.length_pos_iff.mp c1) (by
      rcases c3 with c3 | c3
      · left; omega
      · right; exact beq_eq_false_iff_ne.mp c3)
    refine ⟨digitsVal l, rfl, e.symm, ?_⟩
    rw [← len_num, e]
    exact c2
  · rw [if_neg c] at h
    omega
/-- the law's own reading -/
def readP (neg : Bool) : List (List Nat) → Option Rat
  | [a] => if numR a < 0 ∨ (numR a = 0 ∧ neg = true) then none else some (Rat.divInt (signed neg (numR a).toNat) 1)
  | [a, b] => if numR a < 0 ∨ (numR a = 0 ∧ neg = true) then none else if numR b < 2 ∨ Nat.gcd (numR a).natAbs (numR b).natAbs ≠ 1 then none else some (Rat.divInt (signed neg (numR a).toNat) (numR b))
  | _ => none
theorem readP1 (neg : Bool) (a : List Nat) : readP neg [a] = if numR a < 0 ∨ (numR a = 0 ∧ neg = true) then none else some (Rat.divInt (signed neg (numR a).toNat) 1) := rfl
theorem readP2 (neg : Bool) (a b : List Nat) : readP neg [a, b] = if numR a < 0 ∨ (numR a = 0 ∧ neg = true) then none else if numR b < 2 ∨ Nat.gcd (numR a).natAbs (numR b).natAbs ≠ 1 then none else some (Rat.divInt (signed neg (numR a).toNat) (numR b)) := rfl
def readR (l : List Nat) : Option Rat := readP (minus l) (spl [47] 0 [] (noMinus l))
theorem mk_num {p : Int} {q : Nat} (hq : q ≠ 0) (hg : Nat.gcd p.natAbs q = 1) : (Rat.divInt p (q : Int)).num = p ∧ (Rat.divInt p (q : Int)).den = q := by
  have e : Rat.divInt p (q : Int) = ⟨p, q, hq, hg⟩ := by rw [Rat.mk_eq_divInt]
  rw [e]
  exact ⟨rfl, rfl⟩
theorem join_minus {l : List Nat} : l = if minus l then 45 :: noMinus l else noMinus l := by
  unfold noMinus
  cases h : minus l with
  | false => rfl
  | true =>
    cases l with
    | nil => cases h
    | cons c r =>
      have : c = 45 := Option.some.inj (beq_iff_eq.mp h)
      rw [this]
      rfl
theorem signed_intL {b : Bool} {n : Nat} (h : ¬ (n = 0 ∧ b = true)) : intL (signed b n) = if b then 45 :: numL n else numL n := by
  unfold signed intL
  cases b with
  | false =>
    show (if ((n : Nat) : Int) < 0 then _ else _) = _
    rw [if_neg (by omega)]
    rfl
  | true =>
    have hn : n ≠ 0 := fun z => h ⟨z, rfl⟩
    show (if -((n : Nat) : Int) < 0 then _ else _) = _
    rw [if_pos (by omega)]
    show 45 :: numL (-((n : Nat) : Int)).natAbs = 45 :: numL n
    rw [Int.natAbs_neg, Int.natAbs_natCast]
theorem signed_na {b : Bool} {n : Nat} : (signed b n).natAbs = n := signed_abs b n
theorem spl_cases (s : Nat) (l : List Nat) : (s ∉ l ∧ spl [s] 0 [] l = [l]) ∨ ∃ a b, l = a ++ s :: b ∧ s ∉ a ∧ spl [s] 0 [] l = a :: spl [s] 0 [] b := by
  rcases par1 s l [] with ⟨h, _⟩ | ⟨a, b, e, h, _⟩
  · exact .inl ⟨h, spl_last1 (S := []) h⟩
  · refine .inr ⟨a, b, e, h, ?_⟩
    rw [e]
    exact spl_part1 (S := []) h
theorem spl_ne (s : Nat) (l : List Nat) : spl [s] 0 [] l ≠ [] := by
  rcases spl_cases s l with ⟨_, h⟩ | ⟨a, b, _, _, h⟩ <;> rw [h] <;> simp
theorem read_eq (l : List Nat) : readR l = parseR l := by
  refine Option.ext fun r => ?_
  constructor
  · intro h
    unfold readR at h
    rcases spl_cases 47 (noMinus l) with ⟨h1, e1⟩ | ⟨a, b, eb, h1, e1⟩
    · rw [e1] at h
      rw [readP1] at h
      by_cases c : numR (noMinus l) < 0 ∨ (numR (noMinus l) = 0 ∧ minus l = true)
      · rw [if_pos c] at h; cases h
      · rw [if_neg c] at h
        obtain ⟨n, en, el, hn⟩ := numR_of (l := noMinus l) (by omega)
        rw [en] at h c
        have er := Option.some.inj h
        rw [Int.toNat_natCast] at er
        obtain ⟨k1, k2⟩ := mk_num (p := signed (minus l) n) (q := 1) (by decide) (Nat.gcd_one_right _)
        have k1' : r.num = signed (minus l) n := by rw [← er]; exact k1
        have k2' : r.den = 1 := by rw [← er]; exact k2
        have ef : fmtL r = l := by
          unfold fmtL
          rw [if_pos k2', k1', signed_intL (by intro z; exact c (.inr ⟨by omega, z.2⟩)), ← el, ← join_minus]
        rw [← ef]
        exact parse_fmt (by rw [k1', signed_na]; exact hn) (by rw [k2']; decide)
    · rcases spl_cases 47 b with ⟨h2, e2⟩ | ⟨a2, b2, _, _, e2⟩
      · rw [e1, e2] at h
        rw [readP2] at h
        by_cases c : numR a < 0 ∨ (numR a = 0 ∧ minus l = true)
        · rw [if_pos c] at h; cases h
        · rw [if_neg c] at h
          by_cases c2 : numR b < 2 ∨ Nat.gcd (numR a).natAbs (numR b).natAbs ≠ 1
          · rw [if_pos c2] at h; cases h
          · rw [if_neg c2] at h
            obtain ⟨n, en, el, hn⟩ := numR_of (l := a) (by omega)
            obtain ⟨q, eq, elq, hq⟩ := numR_of (l := b) (by omega)
            rw [en, eq] at c2 h
            rw [en] at c
            have er := Option.some.inj h
            rw [Int.toNat_natCast] at er
            have hg : Nat.gcd (signed (minus l) n).natAbs q = 1 := by
              rw [signed_na]
              rw [Int.natAbs_natCast, Int.natAbs_natCast] at c2
              by_cases z : Nat.gcd n q = 1
              · exact z
              · exact absurd (.inr z) c2
            obtain ⟨k1, k2⟩ := mk_num (p := signed (minus l) n) (q := q) (by omega) hg
            rw [er] at k1 k2
            have ef : fmtL r = l := by
              unfold fmtL
              rw [if_neg (by rw [k2]; omega), k1, k2, signed_intL (by intro z; exact c (.inr ⟨by omega, z.2⟩))]
              have ej := join_minus (l := l)
              rw [eb, el, elq] at ej
              refine Eq.trans ?_ ej.symm
              cases minus l <;> rfl
            rw [← ef]
            exact parse_fmt (by rw [k1, signed_na]; exact hn) (by rw [k2]; exact hq)
      · rw [e1, e2] at h
        cases hs : spl [47] 0 [] b2 with
        | nil => exact absurd hs (spl_ne 47 b2)
        | cons x y =>
          rw [hs] at h
          cases h
  · intro h
    obtain ⟨t, s, b, n, q, _, _, _, _, _, hn, hq, q0, er, ef⟩ := parse_cases h
    have nlt := digN_lt hn
    have qlt : q < 10 ^ 60 := by
      rcases hq with ⟨_, e⟩ | ⟨_, e⟩
      · rw [e]; decide
      · exact digN_lt e
    have hle := divInt_le (p := signed (minus t) n) (q := (q : Int)) (by omega)
    rw [← er, signed_na, Int.natAbs_natCast] at hle
    have k1 : r.num.natAbs < 10 ^ 60 := Nat.lt_of_le_of_lt hle.1 nlt
    have k2 : r.den < 10 ^ 60 := Nat.lt_of_le_of_lt hle.2 qlt
    have fin : ∀ rest : List Nat, 47 ∉ numL r.num.natAbs := fun _ => numL_free (.inl (by decide))
    obtain ⟨i1, i2⟩ := int_split r.num
    have hneg : ∀ rest : List Nat, minus (intL r.num ++ rest) = minus (intL r.num) ∧ noMinus (intL r.num ++ rest) = numL r.num.natAbs ++ rest := by
      intro rest
      have hne : intL r.num ≠ [] := by
        unfold intL
        split
        · simp
        · exact numL_ne _
      cases e : intL r.num with
      | nil => exact absurd e hne
      | cons c r' =>
        have hm : minus (c :: r' ++ rest) = minus (c :: r') := rfl
        refine ⟨hm, ?_⟩
        rw [← i1, e]
        unfold noMinus
        rw [hm]
        cases minus (c :: r') <;> rfl
    have hz : ¬ ((r.num.natAbs : Int) < 0 ∨ ((r.num.natAbs : Int) = 0 ∧ minus (intL r.num) = true)) := by
      rintro (z | ⟨z, z2⟩)
      · omega
      · have : r.num = 0 := by omega
        rw [this] at z2
        exact absurd z2 (by decide)
    rw [← ef]
    unfold readR fmtL
    by_cases hd : r.den = 1
    · rw [if_pos hd, i1, spl_last1 (S := []) (fin []), List.nil_append]
      rw [readP1]
      rw [numR_num k1, if_neg hz, Int.toNat_natCast, i2]
      have := div_self r
      rw [hd] at this
      exact congrArg some this
    · obtain ⟨m1, m2⟩ := hneg (47 :: numL r.den)
      rw [if_neg hd, m1, m2, show spl [47] 0 [] (numL r.num.natAbs ++ 47 :: numL r.den) = ([] ++ numL r.num.natAbs) :: spl [47] 0 [] (numL r.den) from spl_part1 (S := []) (fin []), spl_last1 (S := []) (numL_free (.inl (by decide))), List.nil_append, List.nil_append]
      rw [readP2]
      have d0 := r.den_nz
      rw [numR_num k1, numR_num k2, if_neg hz, if_neg (by
        rintro (z | z)
        · omega
        · rw [Int.natAbs_natCast, Int.natAbs_natCast] at z
          exact z r.reduced), Int.toNat_natCast, i2]
      exact congrArg some (div_self r)

theorem split_S (l : List Nat) : Txt.split (S l) (S [47]) = (spl [47] 0 [] l).map S := by
  refine map_tl_inj ?_
  rw [split_spl (S l) (S [47]) (by simp) (kind_ok (by decide +kernel)), List.map_map]
  exact (List.map_id _).symm
/-- an ascii text of at most n signs -/
def isT (n : Nat) (l : List Nat) : Prop := (∀ c ∈ l, c < 128) ∧ l.length ≤ n
theorem isT.mono {n m : Nat} {l : List Nat} (h : isT n l) (k : n ≤ m) : isT m l := ⟨h.1, Nat.le_trans h.2 k⟩
theorem isT.app {n m : Nat} {l k : List Nat} (h : isT n l) (h2 : isT m k) : isT (n + m) (l ++ k) := by
  refine ⟨fun c hc => ?_, by rw [List.length_append]; have := h.2; have := h2.2; omega⟩
  rcases List.mem_append.mp hc with hc | hc
  · exact h.1 c hc
  · exact h2.1 c hc
theorem isT.take {n : Nat} {l : List Nat} (h : isT n l) (k : Nat) : isT n (l.take k) := ⟨fun c hc => h.1 c (List.mem_of_mem_take hc), Nat.le_trans (by rw [List.length_take]; omega) h.2⟩
theorem isT.drop {n : Nat} {l : List Nat} (h : isT n l) (k : Nat) : isT n (l.drop k) := ⟨fun c hc => h.1 c (List.mem_of_mem_drop hc), Nat.le_trans (by rw [List.length_drop]; omega) h.2⟩
theorem isT.one {c : Nat} (h : c < 128) : isT 1 [c] := ⟨fun d hd => by rw [List.mem_singleton.mp hd]; exact h, Nat.le_refl _⟩
theorem isT.nil : isT 0 [] := ⟨(fun d hd => by cases hd), Nat.le_refl _⟩
theorem isT.int {i : Int} (h : i.natAbs < 2 ^ 210) : isT 65 (intL i) := ⟨fun c hc => intL_ascii hc, len_intL h⟩
theorem isT.num {n : Nat} (h : n < 2 ^ 210) : isT 64 (numL n) := ⟨fun c hc => numL_ascii hc, numL_len (by decide) (Nat.lt_trans h (by decide))⟩
theorem isT.line {n : Nat} {l : List Nat} (h : isT n l) (k : n ≤ 1000) : (S l).length ≤ sizeLine := sz_line (by rw [S_len]; exact Nat.le_trans h.2 k)
theorem isT.two {n m : Nat} {l k : List Nat} (h : isT n l) (h2 : isT m k) (e : n + m ≤ 1000) : (S l).length + (S k).length ≤ sizeLine := sz_line (by rw [S_len, S_len]; have := h.2; have := h2.2; omega)
theorem minus_slice (l : List Nat) : (Txt.slice (S l) none (some 1) = S [45]) ↔ minus l = true := by
  rw [slice_to (by decide)]
  constructor
  · intro h
    have h2 : l.take 1 = [45] := S_inj h
    cases l with
    | nil => cases h2
    | cons c r =>
      have : c = 45 := List.head_eq_of_cons_eq h2
      rw [this]
      rfl
  · intro h
    cases l with
    | nil => cases h
    | cons c r =>
      have : c = 45 := Option.some.inj (beq_iff_eq.mp h)
      rw [this]
      rfl
theorem minus_rest {l : List Nat} (h : minus l = true) : Txt.slice (S l) (some 1) none = S (noMinus l) := by
  rw [slice_from (by decide)]
  unfold noMinus
  rw [if_pos h]
  congr 1
  exact List.drop_one
theorem digit_mem (c : Nat) : c ∈ (Str.ofString "0123456789").cps.toList ↔ 48 ≤ c ∧ c ≤ 57 := by
  rw [show (Str.ofString "0123456789").cps.toList = [48, 49, 50, 51, 52, 53, 54, 55, 56, 57] by decide]
  simp only [List.mem_cons, List.not_mem_nil, or_false]
  omega
theorem numR_not {l : List Nat} (h : canonL l = false) : numR l = -1 := by
  unfold numR
  rw [h]
  rfl
theorem at_sign {T : Str} {m : Nat} (h : ((List.range m).all fun k => match L2.atI T.cps.toList (k : Int) with | some c => decide (c < 128) | none => false) = true) {i : Int} (h0 : 0 ≤ i) (h1 : i < m) : ∃ c, L2.atI T.cps.toList i = some c ∧ c < 128 := by
  obtain ⟨k, rfl⟩ := Int.eq_ofNat_of_zero_le h0
  have z := List.all_eq_true.mp h k (List.mem_range.mpr (by omega))
  cases e : L2.atI T.cps.toList (k : Int) with
  | none => rw [e] at z; cases z
  | some c => rw [e] at z; exact ⟨c, rfl, of_decide_eq_true z⟩
end BB

/-! own short words of tactics -/
local macro_rules | `(tactic| walk_at "sq") => `(tactic| first
  | assumption
  | (refine sqt_upd (by assumption) ?_; walk_at "sq")
  | (refine sql_upd (by assumption) ?_; walk_at "sq")
  | (refine IsF.new (by assumption) ?_; walk_at "sq")
  | (refine sqt_same (by assumption) ?_; walk_at "sq")
  | (refine Same.seq (by assumption) ?_; walk_at "sq")
  | (refine IsF.same (by assumption) ?_; walk_at "sq"))
local macro_rules | `(tactic| walk_at "go") => `(tactic| repeat (first
  | refine ⟨_, rfl, ?_⟩
  | refine ⟨_, _, rfl, rfl, ?_⟩
  | refine .inl ⟨_, rfl, ?_⟩))

namespace BB
open PySem PySem.Spec PyProof.Rows L2
def topS (i : Nat) : Stmt := PySem.Challenge.pw_buybook_k05_texts_that_are_no_fraction.main.body.getD i (.Pass ⟨0, 0, 0, 0⟩)
abbrev s__law_char : Stmt := topS 18
abbrev N__law_char : List Str := ["number", "chars"]
theorem sc__law_char : FnScope N__law_char ["number"] (defScope s__law_char) := ⟨rfl, rfl, rfl, by decide +kernel, rfl, by decide +kernel, by decide +kernel⟩
abbrev s__law_loose : Stmt := topS 21
abbrev N__law_loose : List Str := ["row", "text", "k", "at"]
theorem sc__law_loose : FnScope N__law_loose ["row"] (defScope s__law_loose) := ⟨rfl, rfl, rfl, by decide +kernel, rfl, by decide +kernel, by decide +kernel⟩
abbrev s__law_gcd : Stmt := topS 16
abbrev N__law_gcd : List Str := ["a", "b", "k"]
theorem sc__law_gcd : FnScope N__law_gcd ["a", "b"] (defScope s__law_gcd) := ⟨rfl, rfl, rfl, by decide +kernel, rfl, by decide +kernel, by decide +kernel⟩
abbrev s__law_lowest : Stmt := topS 17
abbrev N__law_lowest : List Str := ["p", "q", "common"]
theorem sc__law_lowest : FnScope N__law_lowest ["p", "q"] (defScope s__law_lowest) := ⟨rfl, rfl, rfl, by decide +kernel, rfl, by decide +kernel, by decide +kernel⟩
abbrev s__law_spoilt : Stmt := topS 22
abbrev N__law_spoilt : List Str := ["row", "given", "text", "at"]
theorem sc__law_spoilt : FnScope N__law_spoilt ["row"] (defScope s__law_spoilt) := ⟨rfl, rfl, rfl, by decide +kernel, rfl, by decide +kernel, by decide +kernel⟩
abbrev s__law_long : Stmt := topS 15
abbrev N__law_long : List Str := ["row", "start", "many", "number", "k"]
theorem sc__law_long : FnScope N__law_long ["row", "start", "many"] (defScope s__law_long) := ⟨rfl, rfl, rfl, by decide +kernel, rfl, by decide +kernel, by decide +kernel⟩
abbrev s__law_text : Stmt := topS 23
abbrev N__law_text : List Str := ["row", "times", "top", "bottom"]
theorem sc__law_text : FnScope N__law_text ["row"] (defScope s__law_text) := ⟨rfl, rfl, rfl, by decide +kernel, rfl, by decide +kernel, by decide +kernel⟩
abbrev s__law_number : Stmt := topS 19
abbrev N__law_number : List Str := ["text", "char"]
theorem sc__law_number : FnScope N__law_number ["text"] (defScope s__law_number) := ⟨rfl, rfl, rfl, by decide +kernel, rfl, by decide +kernel, by decide +kernel⟩
abbrev s__law_read : Stmt := topS 20
abbrev N__law_read : List Str := ["text", "sign", "body", "parts", "p", "q"]
theorem sc__law_read : FnScope N__law_read ["text"] (defScope s__law_read) := ⟨rfl, rfl, rfl, by decide +kernel, rfl, by decide +kernel, by decide +kernel⟩
abbrev s__law_row : Stmt := topS 14
abbrev N__law_row : List Str := ["script", "place", "many", "cell", "rest", "row", "k", "mixed"]
theorem sc__law_row : FnScope N__law_row ["script", "place", "many"] (defScope s__law_row) := ⟨rfl, rfl, rfl, by decide +kernel, rfl, by decide +kernel, by decide +kernel⟩
abbrev s_BadText_init : Stmt := inClass (topS 3) 0
abbrev N_BadText_init : List Str := ["self", "at"]
theorem sc_BadText_init : FnScope N_BadText_init ["self", "at"] (defScope s_BadText_init) := ⟨rfl, rfl, rfl, by decide +kernel, rfl, by decide +kernel, by decide +kernel⟩
abbrev s__parse_digits : Stmt := topS 11
abbrev N__parse_digits : List Str := ["word"]
theorem sc__parse_digits : FnScope N__parse_digits ["word"] (defScope s__parse_digits) := ⟨rfl, rfl, rfl, by decide +kernel, rfl, by decide +kernel, by decide +kernel⟩
abbrev s_ratio : Stmt := topS 8
abbrev N_ratio : List Str := ["p", "q", "common"]
theorem sc_ratio : FnScope N_ratio ["p", "q"] (defScope s_ratio) := ⟨rfl, rfl, rfl, by decide +kernel, rfl, by decide +kernel, by decide +kernel⟩
abbrev s_format_ratio : Stmt := topS 9
abbrev N_format_ratio : List Str := ["a", "p", "q"]
theorem sc_format_ratio : FnScope N_format_ratio ["a"] (defScope s_format_ratio) := ⟨rfl, rfl, rfl, by decide +kernel, rfl, by decide +kernel, by decide +kernel⟩
abbrev s_parse_ratio : Stmt := topS 10
abbrev N_parse_ratio : List Str := ["text", "top", "slash", "bottom", "p", "q", "found"]
theorem sc_parse_ratio : FnScope N_parse_ratio ["text"] (defScope s_parse_ratio) := ⟨rfl, rfl, rfl, by decide +kernel, rfl, by decide +kernel, by decide +kernel⟩
abbrev s__law_told : Stmt := topS 24
abbrev N__law_told : List Str := ["text", "e"]
theorem sc__law_told : FnScope N__law_told ["text"] (defScope s__law_told) := ⟨rfl, rfl, rfl, by decide +kernel, rfl, by decide +kernel, by decide +kernel⟩
abbrev s__law_is_integer : Stmt := topS 13
abbrev N__law_is_integer : List Str := ["x"]
theorem sc__law_is_integer : FnScope N__law_is_integer ["x"] (defScope s__law_is_integer) := ⟨rfl, rfl, rfl, by decide +kernel, rfl, by decide +kernel, by decide +kernel⟩
abbrev s_law : Stmt := topS 25
abbrev N_law : List Str := ["script", "text", "due", "k", "fine", "actual"]
theorem sc_law : FnScope N_law ["script"] (defScope s_law) := ⟨rfl, rfl, rfl, by decide +kernel, rfl, by decide +kernel, by decide +kernel⟩
section
variable {P : Program} {w : World} {K : PySem.W.Frag} {mg : Str → Option Value} {base : Heap}
def sp__law_char (K : PySem.W.Frag) : Sp := fun vs H Q _ => ∃ i : Int, vs = [.int i] ∧ ∀ c, c < 128 → Q (.str (SX.S [c])) H
def rT (n : Nat) (H : Hp) (Q : VK) : Prop := ∀ l H', Same H H' → isT n l → Q (.str (SX.S l)) H'
def sp__law_loose (K : PySem.W.Frag) : Sp := fun vs H Q _ => ∃ (a : Addr) (row : List Int), vs = [.ref a] ∧ SqL K H a (row.map V.int) ∧ isRow row 44 ∧ rT 20 H Q
def sp__law_gcd (K : PySem.W.Frag) : Sp := fun vs H Q _ => ∃ a b : Int, vs = [.int a, .int b] ∧ 0 ≤ a ∧ 0 ≤ b ∧ b.natAbs < 2 ^ 9000 ∧ Q (.int ((Nat.gcd a.natAbs b.natAbs : Nat) : Int)) H
def sp__law_lowest (K : PySem.W.Frag) : Sp := fun vs H Q _ => ∃ (p q : Int), vs = [.int p, .int q] ∧ 0 < q ∧ q.natAbs < 2 ^ 9000 ∧ rF K H (Rat.divInt p q) Q
def sp__law_spoilt (K : PySem.W.Frag) : Sp := fun vs H Q _ => ∃ (a : Addr) (row : List Int), vs = [.ref a] ∧ SqL K H a (row.map V.int) ∧ isRow row 44 ∧ rT 300 H Q
def sp__law_long (K : PySem.W.Frag) : Sp := fun vs H Q _ => ∃ (a : Addr) (row : List Int) (st m : Int) (n b : Nat), vs = [.ref a, .int st, .int m] ∧ SqL K H a (row.map V.int) ∧ isRow row n ∧ 0 ≤ st ∧ 0 ≤ m ∧ m ≤ b ∧ st + m ≤ n ∧ n ≤ 1000 ∧
  ∀ x : Int, 0 ≤ x → x.natAbs < 2 ^ (10 * b) → x.natAbs < 1000 ^ b → Q (.int x) H
def sp__law_text (K : PySem.W.Frag) : Sp := fun vs H Q _ => ∃ (a : Addr) (row : List Int), vs = [.ref a] ∧ SqL K H a (row.map V.int) ∧ isRow row 44 ∧ rT 900 H Q
def sp__law_number (K : PySem.W.Frag) : Sp := fun vs H Q _ => ∃ l : List Nat, vs = [.str (SX.S l)] ∧ isT 1000 l ∧ Q (.int (numR l)) H
def sp__law_read (K : PySem.W.Frag) : Sp := fun vs H Q _ => ∃ l : List Nat, vs = [.str (SX.S l)] ∧ isT 900 l ∧ (∀ r, readR l = some r → rF K H r Q) ∧ (readR l = none → ∀ H', Same H H' → Q .non H')
def sp__law_row (K : PySem.W.Frag) : Sp := fun vs H Q _ => ∃ (a : Addr) (ns : List Int) (pl m : Nat), vs = [.ref a, .int (pl : Int), .int (m : Int)] ∧ SqL K H a (ns.map V.int) ∧ m ≤ 1000 ∧
  ∀ H' p row, Same H H' → H p = none → isRow row m → H' p = some (.lst (row.map V.int)) → Q (.ref p) H'
abbrev sp_BadText_init (K : PySem.W.Frag) : Sp := spBad K
def badE (H : Hp) (C : Addr) (E : XK) : Prop := ∀ d H', Same H H' → H d = none → H' d = some (.xd [("at", .int 0)]) → E (.ref C) (some d) H'
def sp__parse_digits (K : PySem.W.Frag) (C : Addr) : Sp := fun vs H Q E => ∃ (l : List Nat), vs = [.str (SX.S l)] ∧ (∀ c ∈ l, c < 128) ∧ l.length ≤ 1000 ∧ (∀ n, digN l = some n → Q (.int (n : Int)) H) ∧ (digN l = none → badE H C E)
def sp_ratio (K : PySem.W.Frag) : Sp := fun vs H Q _ => ∃ p q : Int, vs = [.int p, .int q] ∧ q ≠ 0 ∧ q.natAbs < 2 ^ 9000 ∧ rF K H (Rat.divInt p q) Q
def sp_format_ratio (K : PySem.W.Frag) : Sp := fun vs H Q _ => ∃ (a : Addr) (r : Rat), vs = [.ref a] ∧ IsF K H a r ∧ Sz 210 r ∧ Q (.str (SX.S (fmtL r))) H
def sp_parse_ratio (K : PySem.W.Frag) (C : Addr) : Sp := fun vs H Q E => ∃ (l : List Nat), vs = [.str (SX.S l)] ∧ (∀ c ∈ l, c < 128) ∧ l.length ≤ 1000 ∧ (∀ r, parseR l = some r → rF K H r Q) ∧ (parseR l = none → badE H C E)
theorem badE.same {H H1 : Hp} {C : Addr} {E : XK} (s : Same H H1) (h : badE H C E) : badE H1 C E := fun d H' s2 nd e => h d H' (s.trans s2) (s.free nd) e
def sp__law_told (K : PySem.W.Frag) : Sp := fun vs H Q _ => ∃ (l : List Nat), vs = [.str (SX.S l)] ∧ isT 900 l ∧ (∀ r, parseR l = some r → ∀ a b H', Same H H' → H a = none → H b = none → IsF K H' b r → SqT K H' a [.bl true, .ref b] → Q (.ref a) H') ∧ (parseR l = none → ∀ a H', Same H H' → H a = none → SqT K H' a [.bl false, .int 0] → Q (.ref a) H')
def sp__law_is_integer (K : PySem.W.Frag) : Sp := fun vs H Q _ => ∃ i : Int, vs = [.int i] ∧ Q (.bl true) H
def sp_law (K : PySem.W.Frag) : Sp := fun vs H Q _ => ∃ (a : Addr) (ns : List Int), vs = [.ref a] ∧ SqL K H a (ns.map V.int) ∧ ns.length ≤ 63 ∧ ∀ H', Q (.bl true) H'
theorem ok__law_char {f : Addr} {fd : FuncData} (F : Fun K "_law_char" "_law_char" s__law_char f fd) (m_int : mg "int" = none) : FnOk P w K mg base CX0 1 f fd ["number"] (sp__law_char K) := by
  refine F.ok sc__law_char (fun vs H Q E h => ?_) (fun cdv A outer s H vs Q E hr h => ?_)
  · obtain ⟨i, rfl, _⟩ := h
    rfl
  · refine ⟨_, (pss_cons (ps_set (i := 1) sc__law_char.nd rfl (Or.inl rfl) pe_str)
      (pss_cons (ps_set (i := 1) sc__law_char.nd rfl (Or.inl rfl) (pe_op op_add_str (pv 1) pe_str))
      (pss_one (ps_ret (pe_ix ix_str (pv 1) (pe_op op_mod (pe_callTy call_int1 (by rfl) m_int (by decide +kernel) (pa_cons (pv 0) pa_nil)) pe_int) (fun _ _ => rfl)))))), ?_⟩
    obtain ⟨i, rfl, Z⟩ := h
    refine ⟨_, rfl, _, _, rfl, rfl, by decide +kernel, _, rfl, _, rfl, .inl ⟨_, rfl, _, _, rfl, rfl, by show (0 : Int) < 94; decide, ?_⟩⟩
    obtain ⟨c, hc, hc2⟩ := at_sign (T := Str.ofString " !\"#$&'()*+,-./0123456789:;<=>?@ABCDEFGHIJKLMNOPQRSTUVWXYZ[\\]^_`" ++ Str.ofString "abcdefghijklmnopqrstuvwxyz{|}~") (m := 94) (by decide +kernel) (i := i % 94) (by omega) (by omega)
    exact ⟨_, _, c, rfl, rfl, by decide +kernel, hc, Z c hc2⟩
theorem ok__law_loose {f : Addr} {fd : FuncData} (F : Fun K "_law_loose" "_law_loose" s__law_loose f fd) (D__law_char : Dn P w K mg base CX0 1 "_law_char" (sp__law_char K)) (m_range : mg "range" = none) (m_int : mg "int" = none) (m_len : mg "len" = none) : FnOk P w K mg base CX0 2 f fd ["row"] (sp__law_loose K) := by
  refine F.ok sc__law_loose (fun vs H Q E h => ?_) (fun cdv A outer s H vs Q E hr h => ?_)
  · obtain ⟨a, row, rfl, _⟩ := h
    rfl
  · refine ⟨_, (pss_cons (ps_set (i := 1) sc__law_loose.nd rfl (Or.inl rfl) pe_str)
      (pss_cons (ps_for PassesOwn.never rfl (pi_range1 rfl m_range (pa_cons (pe_op op_mod (pe_callTy call_int1 (by rfl) m_int (by decide +kernel) (pa_cons (pe_ix ix_list (pv 0) pe_int (fun _ _ => rfl)) pa_nil)) pe_int) pa_nil)) (pg_name (i := 2) sc__law_loose.nd rfl (Or.inl rfl))
      (pss_one (ps_set (i := 1) sc__law_loose.nd rfl (Or.inl rfl) (pe_op op_add_str (pv 1) (pe_ix ix_str pe_str (pe_op op_mod (pe_callTy call_int1 (by rfl) m_int (by decide +kernel) (pa_cons (pe_ix ix_list (pv 0) (pe_op op_add pe_int (pv 2)) (fun _ _ => rfl)) pa_nil)) pe_int) (fun _ _ => rfl))))))
      (C8.pss_cut (ps_if (pt_cmpR op_eq (pe_op op_mod (pe_callTy call_int1 (by rfl) m_int (by decide +kernel) (pa_cons (pe_ix ix_list (pv 0) pe_int (fun _ _ => rfl)) pa_nil)) pe_int) pe_int (nomark _))
      (pss_cons (ps_set (i := 3) sc__law_loose.nd rfl (Or.inl rfl) (pe_op op_mod (pe_callTy call_int1 (by rfl) m_int (by decide +kernel) (pa_cons (pe_ix ix_list (pv 0) pe_int (fun _ _ => rfl)) pa_nil)) (pe_op op_add (pe_callB call_len_str (by rfl) m_len (by decide +kernel) (pa_cons (pv 1) pa_nil)) pe_int)))
      (pss_one (ps_set (i := 1) sc__law_loose.nd rfl (Or.inl rfl) (pe_op op_add_str (pe_op op_add_str (pe_slice C8.sl_txt (pv 1) po_none (po_some (pv 3))) (pe_d D__law_char hr (by decide) (by rfl) pass0 (pa_cons (pe_ix ix_list (pv 0) pe_int (fun _ _ => rfl)) pa_nil))) (pe_slice C8.sl_txt (pv 1) (po_some (pv 3)) po_none)))))
      pss_nil)
      (pss_one (ps_ret (pv 1)))))), ?_⟩
    obtain ⟨a, row, rfl, hR, hr, Z⟩ := h
    obtain ⟨v1, a1, b1, c1⟩ := hr.at 1 (by decide)
    obtain ⟨v2, a2, b2, c2⟩ := hr.at 2 (by decide)
    obtain ⟨v3, a3, b3, c3⟩ := hr.at 3 (by decide)
    obtain ⟨v12, a12, b12, c12⟩ := hr.at 12 (by decide)
    refine ⟨_, rfl, _, _, _, _, rfl, rfl, hR, a1, .inl ⟨_, rfl, _, _, rfl, rfl, by show (0 : Int) < 9; decide, _, rfl, by omega, by omega, ?_⟩⟩
    refine for_range (lo := 0) (n := (v1 % 9).toNat) (fun i σ H1 => H1 = H ∧ ∃ (l : List Nat) (y z : Option V), σ = [some (.ref a), some (.str (SX.S l)), y, z] ∧ (∀ c ∈ l, c < 128) ∧ l.length = i) ⟨rfl, [], _, _, rfl, (fun c hc => by cases hc), rfl⟩ ?_ ?_
    · rintro i σ H1 hi ⟨rfl, l, y, z, rfl, hl, hi2⟩
      obtain ⟨v, av, bv, cv⟩ := hr.at (4 + (0 + i)) (by omega)
      obtain ⟨c, hc, hc2⟩ := at_sign (T := Str.ofString "0123456789//-+ .") (m := 16) (by decide +kernel) (i := v % 16) (by omega) (by omega)
      have tl : isT 10 l := ⟨hl, by omega⟩
      refine ⟨_, rfl, _, rfl, _, rfl, _, _, rfl, rfl, _, _, _, _, rfl, rfl, hR, av, .inl ⟨_, rfl, _, _, rfl, rfl, by show (0 : Int) < 16; decide, _, _, c, rfl, rfl, by decide +kernel, hc, _, _, rfl, rfl, ?_, ?_⟩⟩
      · exact tl.two (.one hc2) (by decide)
      · exact ⟨rfl, l ++ [c], _, _, congrArg (fun x => [some (V.ref a), some (V.str x), some (V.int (0 + (i : Int))), z]) (SX.S_cat l [c]), (tl.app (.one hc2)).1, by rw [List.length_append, hi2]; rfl⟩
    rintro σ H1 ⟨rfl, l, y, z, rfl, hl, hi2⟩
    have tl : isT 8 l := ⟨hl, by omega⟩
    refine ⟨fun σ H2 => H2 = H1 ∧ ∃ (l : List Nat) (y z : Option V), σ = [some (.ref a), some (.str (SX.S l)), y, z] ∧ isT 20 l, ?_, ?_⟩
    · refine ⟨_, rfl, _, _, _, _, rfl, rfl, hR, a2, .inl ⟨_, rfl, _, _, rfl, rfl, by show (0 : Int) < 2; decide, rfl, _, rfl, ite2 (fun e => ?_) (fun e => ?_)⟩⟩
      · refine ⟨_, rfl, _, _, _, _, rfl, rfl, hR, a3, .inl ⟨_, rfl, _, rfl, _, rfl, tl.line (by decide), _, _, rfl, rfl, _, _, rfl, rfl, by show (0 : Int) < ((SX.S l).length : Int) + 1; omega, ?_⟩⟩
        have hat : 0 ≤ v3 % (((SX.S l).length : Int) + 1) := Int.emod_nonneg _ (by omega)
        have q1 := SX.slice_to (a := l) hat
        have q2 := SX.slice_from (a := l) hat
        refine ⟨_, rfl, _, rfl, _, rfl, _, rfl, tl.line (by decide), _, rfl, _, _, _, _, rfl, rfl, hR, a12, _, rfl, fun c hc => ?_⟩
        rw [q1]
        have t1 := tl.take (v3 % (((SX.S l).length : Int) + 1)).toNat
        have t2 := tl.drop (v3 % (((SX.S l).length : Int) + 1)).toNat
        have t12 := t1.app (.one hc)
        refine ⟨_, _, rfl, rfl, t1.two (.one hc) (by decide), _, rfl, _, rfl, _, rfl, _, rfl, tl.line (by decide), ?_⟩
        rw [q2, SX.S_cat]
        refine ⟨_, _, rfl, rfl, t12.two t2 (by decide), rfl, _, _, _, congrArg (fun x => [some (V.ref a), some (V.str x), y, some (V.int (v3 % (((SX.S l).length : Int) + 1)))]) (SX.S_cat _ _), (t12.app t2).mono (by decide)⟩
      · exact ⟨rfl, l, _, _, rfl, tl.mono (by decide)⟩
    rintro σ H2 ⟨rfl, l, y, z, rfl, hl⟩
    exact ⟨_, rfl, Z l _ (Same.refl _) hl⟩
theorem ok__law_gcd {f : Addr} {fd : FuncData} (F : Fun K "_law_gcd" "_law_gcd" s__law_gcd f fd) (m_range : mg "range" = none) (m_int : mg "int" = none) : FnOk P w K mg base CX0 1 f fd ["a", "b"] (sp__law_gcd K) := by
  refine F.ok sc__law_gcd (fun vs H Q E h => ?_) (fun cdv A outer s H vs Q E hr h => ?_)
  · obtain ⟨a, b, rfl, _⟩ := h
    rfl
  · refine ⟨_, (pss_cons (ps_for PassesOwn.never rfl (pi_range1 rfl m_range (pa_cons (pe_op op_add (pe_op op_mulG pe_int (pe_bits (pv 1))) pe_int) pa_nil)) (pg_name (i := 2) sc__law_gcd.nd rfl (Or.inl rfl))
      (pss_cons (ps_if (pt_cmpR op_eq (pv 1) pe_int (nomark _))
      (pss_one (ps_ret (pv 0)))
      pss_nil)
      (pss_one (ps_par (i := 0) (j := 1) rfl sc__law_gcd.nd rfl rfl (by decide) rfl rfl (pa_cons (pv 1) (pa_cons (pe_op op_mod (pe_callTy call_int1 (by rfl) m_int (by decide +kernel) (pa_cons (pv 0) pa_nil)) (pv 1)) pa_nil)) (by rfl)))))
      (pss_one (ps_ret (pv 0)))), ?_⟩
    obtain ⟨a, b, rfl, ha, hb, hs, Z⟩ := h
    obtain ⟨a, rfl⟩ := Int.eq_ofNat_of_zero_le ha
    obtain ⟨b, rfl⟩ := Int.eq_ofNat_of_zero_le hb
    rw [Int.natAbs_natCast] at hs
    rw [Int.natAbs_natCast, Int.natAbs_natCast] at Z
    obtain ⟨L, hL, hbits⟩ : ∃ L : Nat, L ≤ 9001 ∧ Builtin.Int.intBits (b : Int) = L := ⟨_, bits_le hs, rfl⟩
    refine ⟨_, rfl, _, rfl, _, _, rfl, rfl, mulG_l (by decide), _, _, rfl, rfl, ?_⟩
    rw [hbits]
    refine ⟨_, rfl, by omega, by omega, ?_⟩
    refine for_range (lo := 0) (n := 2 * L + 2) (fun i σ H1 => H1 = H ∧ ∃ (a' b' : Nat) (y : Option V), σ = [some (.int (a' : Int)), some (.int (b' : Int)), y] ∧ Euc L (Nat.gcd a b) i a' b') ⟨rfl, a, b, _, rfl, euc_start (bits_lt hbits)⟩ ?_ ?_
    · rintro i σ H1 hi ⟨rfl, a', b', y, rfl, he⟩
      refine ⟨_, rfl, rfl, _, rfl, ite2 (fun e => ?_) (fun e => ?_)⟩
      · have e' : (b' : Int) = 0 := V.int.inj (of_decide_eq_true e)
        have e2 : b' = 0 := by omega
        subst e2
        refine ⟨_, rfl, ?_⟩
        rw [euc_zero he]
        exact Z
      · have e' : b' ≠ 0 := fun z => e (decide_eq_true (by rw [z]; rfl))
        refine ⟨_, rfl, _, rfl, .inl ⟨_, rfl, _, rfl, _, _, rfl, rfl, by show (0 : Int) < b'; omega, _, _, rfl, ?_⟩⟩
        exact ⟨rfl, b', a' % b', _, rfl, euc_step he e'⟩
    · rintro σ H1 ⟨rfl, a', b', y, rfl, he⟩
      refine ⟨_, rfl, ?_⟩
      rw [euc_end he]
      exact Z
theorem ok__law_lowest {f : Addr} {fd : FuncData} (F : Fun K "_law_lowest" "_law_lowest" s__law_lowest f fd) (D__law_gcd : Dn P w K mg base CX0 1 "_law_gcd" (sp__law_gcd K)) (m_abs : mg "abs" = none) : FnOk P w K mg base CX0 2 f fd ["p", "q"] (sp__law_lowest K) := by
  refine F.ok sc__law_lowest (fun vs H Q E h => ?_) (fun cdv A outer s H vs Q E hr h => ?_)
  · obtain ⟨p, q, rfl, _⟩ := h
    rfl
  · refine ⟨_, (pss_cons (ps_set (i := 2) sc__law_lowest.nd rfl (Or.inl rfl) (pe_d D__law_gcd hr (by decide) (by rfl) pass0 (pa_cons (pe_callB call_abs (by rfl) m_abs (by decide +kernel) (pa_cons (pv 0) pa_nil)) (pa_cons (pv 1) pa_nil))))
      (pss_one (ps_ret (pe_tup (pa_cons (pe_op op_fdivG (pv 0) (pv 2)) (pa_cons (pe_op op_fdivG (pv 1) (pv 2)) pa_nil)))))), ?_⟩
    obtain ⟨p, q, rfl, hq, hs, Z⟩ := h
    have c := ratio_common (p := p) (Int.ne_of_gt hq)
    have e1 := ratio_num (p := p) (Int.ne_of_gt hq)
    have e2 := ratio_den (p := p) (Int.ne_of_gt hq)
    rw [if_neg (show ¬ q < 0 by omega)] at c e1 e2
    refine ⟨_, rfl, _, rfl, _, rfl, _, _, rfl, abs_nn p, by omega, hs, ?_⟩
    rw [abs_na p]
    refine ⟨_, rfl, _, rfl, _, _, rfl, rfl, ⟨c.1, Nat.lt_of_le_of_lt c.2 hs⟩, _, rfl, _, rfl, _, _, rfl, rfl, ⟨c.1, Nat.lt_of_le_of_lt c.2 hs⟩, by show 2 ≤ sizeLine; decide, fun a ha => ?_⟩
    refine Z _ a (same_upd ha) ha (SqT.of ?_)
    rw [upd_same, ← e1, ← e2]
theorem ok__law_spoilt {f : Addr} {fd : FuncData} (F : Fun K "_law_spoilt" "_law_spoilt" s__law_spoilt f fd) (D__law_lowest : Dn P w K mg base CX0 2 "_law_lowest" (sp__law_lowest K)) (D__law_char : Dn P w K mg base CX0 1 "_law_char" (sp__law_char K)) (m_str : mg "str" = none) (m_max : mg "max" = none) (m_int : mg "int" = none) (m_len : mg "len" = none) : FnOk P w K mg base CX0 3 f fd ["row"] (sp__law_spoilt K) := by
  refine F.ok sc__law_spoilt (fun vs H Q E h => ?_) (fun cdv A outer s H vs Q E hr h => ?_)
  · obtain ⟨a, row, rfl, _⟩ := h
    rfl
  · refine ⟨_, (pss_cons (ps_set (i := 1) sc__law_spoilt.nd rfl (Or.inl rfl) (pe_d D__law_lowest hr (by decide) (by rfl) pass0 (pa_cons (pe_ix ix_list (pv 0) pe_int (fun _ _ => rfl)) (pa_cons (pe_callB (call_max2 rfl) (by rfl) m_max (by decide +kernel) (pa_cons pe_int (pa_cons (pe_ix ix_list (pv 0) pe_int (fun _ _ => rfl)) pa_nil))) pa_nil))))
      (pss_cons (ps_set (i := 2) sc__law_spoilt.nd rfl (Or.inl rfl) (pe_callTy call_str_int (by rfl) m_str (by decide +kernel) (pa_cons (pe_ix ix_tup (pv 1) pe_int (fun _ _ => rfl)) pa_nil)))
      (C8.pss_cut (ps_if (pt_cmpR op_ne (pe_ix ix_tup (pv 1) pe_int (fun _ _ => rfl)) pe_int (nomark _))
      (pss_one (ps_set (i := 2) sc__law_spoilt.nd rfl (Or.inl rfl) (pe_op op_add_str (pe_op op_add_str (pv 2) pe_str) (pe_callTy call_str_int (by rfl) m_str (by decide +kernel) (pa_cons (pe_ix ix_tup (pv 1) pe_int (fun _ _ => rfl)) pa_nil)))))
      pss_nil)
      (C8.pss_cut (ps_if (pt_cmpR op_eq (pe_op op_mod (pe_callTy call_int1 (by rfl) m_int (by decide +kernel) (pa_cons (pe_ix ix_list (pv 0) pe_int (fun _ _ => rfl)) pa_nil)) pe_int) pe_int (nomark _))
      (pss_one (ps_set (i := 2) sc__law_spoilt.nd rfl (Or.inl rfl) (pe_op op_add_str pe_str (pv 2))))
      pss_nil)
      (pss_cons (ps_set (i := 3) sc__law_spoilt.nd rfl (Or.inl rfl) (pe_op op_mod (pe_callTy call_int1 (by rfl) m_int (by decide +kernel) (pa_cons (pe_ix ix_list (pv 0) pe_int (fun _ _ => rfl)) pa_nil)) (pe_callB call_len_str (by rfl) m_len (by decide +kernel) (pa_cons (pv 2) pa_nil))))
      (C8.pss_cut (ps_if (pt_cmpR op_eq (pe_op op_mod (pe_callTy call_int1 (by rfl) m_int (by decide +kernel) (pa_cons (pe_ix ix_list (pv 0) pe_int (fun _ _ => rfl)) pa_nil)) pe_int) pe_int (nomark _))
      (pss_one (ps_ret (pe_op op_add_str (pe_slice C8.sl_txt (pv 2) po_none (po_some (pv 3))) (pe_slice C8.sl_txt (pv 2) (po_some (pe_op op_add (pv 3) pe_int)) po_none))))
      pss_nil)
      (C8.pss_cut (ps_if (pt_cmpR op_eq (pe_op op_mod (pe_callTy call_int1 (by rfl) m_int (by decide +kernel) (pa_cons (pe_ix ix_list (pv 0) pe_int (fun _ _ => rfl)) pa_nil)) pe_int) pe_int (nomark _))
      (pss_one (ps_ret (pe_op op_add_str (pe_op op_add_str (pe_slice C8.sl_txt (pv 2) po_none (po_some (pv 3))) (pe_ix ix_str (pv 2) (pv 3) (fun _ _ => rfl))) (pe_slice C8.sl_txt (pv 2) (po_some (pv 3)) po_none))))
      pss_nil)
      (C8.pss_cut (ps_if (pt_cmpR op_eq (pe_op op_mod (pe_callTy call_int1 (by rfl) m_int (by decide +kernel) (pa_cons (pe_ix ix_list (pv 0) pe_int (fun _ _ => rfl)) pa_nil)) pe_int) pe_int (nomark _))
      (pss_one (ps_ret (pe_op op_add_str (pe_op op_add_str (pe_slice C8.sl_txt (pv 2) po_none (po_some (pv 3))) (pe_d D__law_char hr (by decide) (by rfl) pass0 (pa_cons (pe_ix ix_list (pv 0) pe_int (fun _ _ => rfl)) pa_nil))) (pe_slice C8.sl_txt (pv 2) (po_some (pe_op op_add (pv 3) pe_int)) po_none))))
      pss_nil)
      (pss_one (ps_ret (pv 2))))))))))), ?_⟩
    obtain ⟨a, row, rfl, hR, hr, Z⟩ := h
    obtain ⟨v1, a1, b1, c1⟩ := hr.at 1 (by decide)
    obtain ⟨v2, a2, b2, c2⟩ := hr.at 2 (by decide)
    obtain ⟨v3, a3, b3, c3⟩ := hr.at 3 (by decide)
    obtain ⟨v4, a4, b4, c4⟩ := hr.at 4 (by decide)
    obtain ⟨v5, a5, b5, c5⟩ := hr.at 5 (by decide)
    obtain ⟨v6, a6, b6, c6⟩ := hr.at 6 (by decide)
    have hq : 0 < (if v2 > 1 then v2 else 1) ∧ (if v2 > 1 then v2 else 1).natAbs < 2 ^ 10 := by split <;> omega
    refine ⟨_, rfl, _, _, _, _, rfl, rfl, hR, a1, _, rfl, _, _, _, _, rfl, rfl, hR, a2, _, _, rfl, _, _, rfl, hq.1, Nat.lt_of_lt_of_le hq.2 (Nat.pow_le_pow_right (by decide) (by decide)), fun H2 g s2 _ hg => ?_⟩
    have zr0 : Sz 10 (Rat.divInt v1 (if v2 > 1 then v2 else 1)) := divInt_sz (Int.ne_of_gt hq.1) (by omega) hq.2
    generalize Rat.divInt v1 (if v2 > 1 then v2 else 1) = r at hg zr0
    have zr : Sz 210 r := zr0.mono (by decide)
    have l1 : r.num.natAbs.log2 < 1920 := Nat.lt_trans (PySem.Flt.log2_lt_of (by decide) zr.1) (by decide)
    have l2 : ((r.den : Nat) : Int).natAbs.log2 < 1920 := Nat.lt_trans (PySem.Flt.log2_lt_of (by decide) zr.den) (by decide)
    have t1 : isT 65 (intL r.num) := .int zr.1
    have t2 : isT 64 (TL.numL r.den) := .num zr.2
    have e1 := strI_S r.num
    have e2 := SX.num_S r.den
    have hR2 := s2.seq hR
    refine ⟨_, rfl, _, _, _, _, rfl, rfl, hg, rfl, _, rfl, l1, ?_⟩
    rw [show (toString r.num : Str) = SX.S (intL r.num) from e1]
    refine ⟨fun σ H3 => H3 = H2 ∧ ∃ l, σ = [some (.ref a), some (.ref g), some (.str (SX.S l)), none] ∧ isT 130 l ∧ l ≠ [], ?_, ?_⟩
    · refine ⟨_, rfl, _, _, _, _, rfl, rfl, hg, rfl, rfl, _, rfl, ite2 (fun e => ?_) (fun e => ?_)⟩
      · refine ⟨_, rfl, _, _, rfl, rfl, t1.two (m := 1) (.one (c := 47) (by decide)) (by decide), _, rfl, _, _, _, _, rfl, rfl, hg, rfl, _, rfl, l2, ?_⟩
        rw [show (toString ((r.den : Nat) : Int) : Str) = SX.S (TL.numL r.den) from e2]
        have e3 : SX.S (intL r.num) ++ Str.ofString "/" = SX.S (intL r.num ++ [47]) := SX.S_cat _ [47]
        rw [e3]
        have t3 := t1.app (.one (c := 47) (by decide))
        refine ⟨_, _, rfl, rfl, t3.two t2 (by decide), rfl, _, congrArg (fun x => [some (V.ref a), some (V.ref g), some (V.str x), none]) (SX.S_cat _ _), (t3.app t2).mono (by decide), by simp⟩
      · refine ⟨rfl, _, rfl, t1.mono (by decide), ?_⟩
        unfold intL
        split
        · simp
        · exact TL.numL_ne _
    rintro σ H3 ⟨rfl, l, rfl, tl, hne⟩
    refine ⟨fun σ H4 => H4 = H3 ∧ ∃ l, σ = [some (.ref a), some (.ref g), some (.str (SX.S l)), none] ∧ isT 131 l ∧ l ≠ [], ?_, ?_⟩
    · refine ⟨_, rfl, _, _, _, _, rfl, rfl, hR2, a3, .inl ⟨_, rfl, _, _, rfl, rfl, by show (0 : Int) < 2; decide, rfl, _, rfl, ite2 (fun e => ?_) (fun e => ?_)⟩⟩
      · have e3 : Str.ofString "-" ++ SX.S l = SX.S ([45] ++ l) := SX.S_cat [45] l
        refine ⟨_, rfl, _, _, rfl, rfl, (isT.one (c := 45) (by decide)).two tl (by decide), rfl, _, congrArg (fun x => [some (V.ref a), some (V.ref g), some (V.str x), none]) e3, ((isT.one (by decide)).app tl).mono (by decide), by simp⟩
      · exact ⟨rfl, l, rfl, tl.mono (by decide), hne⟩
    rintro σ H4 ⟨rfl, l, rfl, tl, hne⟩
    have hz : (SX.S l).length ≤ sizeLine := tl.line (by decide)
    have hlp : (0 : Int) < ((SX.S l).length : Int) := by
      rw [SX.S_len]
      have := List.length_pos_iff.mpr hne
      omega
    refine ⟨_, rfl, _, _, _, _, rfl, rfl, hR2, a4, .inl ⟨_, rfl, _, rfl, _, rfl, hz, _, _, rfl, rfl, hlp, ?_⟩⟩
    have hat : 0 ≤ v4 % ((SX.S l).length : Int) := Int.emod_nonneg _ (by omega)
    have hat2 : v4 % ((SX.S l).length : Int) < ((SX.S l).length : Int) := Int.emod_lt_of_pos _ hlp
    obtain ⟨k, ek⟩ := Int.eq_ofNat_of_zero_le hat
    rw [SX.S_len] at hat2
    have hk : k < l.length := by
      rw [SX.S_len] at ek
      omega
    have q1 := SX.slice_to (a := l) hat
    have q2 := SX.slice_from (a := l) hat
    have q3 := SX.slice_from (a := l) (i := v4 % ((SX.S l).length : Int) + 1) (by omega)
    rw [ek] at q1 q2 q3
    rw [show (fun i j : Int => V.int (i % j)) v4 ((SX.S l).length : Int) = V.int (k : Int) from congrArg V.int ek]
    have tt := tl.take k
    have td := tl.drop k
    have td1 := tl.drop (k + 1)
    have Z1 : ∀ l, isT 300 l → ∀ (H' : Hp), H' = H4 → Q (.str (SX.S l)) H' := fun l hl H' e => by
      subst e
      exact Z l _ s2 hl
    refine ⟨fun σ H5 => H5 = H4 ∧ σ = [some (.ref a), some (.ref g), some (.str (SX.S l)), some (.int (k : Int))], ?_, ?_⟩
    · refine ⟨_, rfl, _, _, _, _, rfl, rfl, hR2, a5, .inl ⟨_, rfl, _, _, rfl, rfl, by show (0 : Int) < 4; decide, rfl, _, rfl, ite2 (fun e => ?_) (fun e => ?_)⟩⟩
      · refine ⟨_, rfl, _, rfl, _, rfl, _, rfl, tl.line (by decide), _, rfl, _, rfl, _, _, rfl, rfl, ?_⟩
        rw [q1]
        refine ⟨_, rfl, _, rfl, tl.line (by decide), ?_⟩
        rw [q3]
        exact ⟨_, _, rfl, rfl, tt.two td1 (by decide), by rw [SX.S_cat]; exact Z1 _ ((tt.app td1).mono (by decide)) _ rfl⟩
      · exact ⟨rfl, rfl⟩
    rintro σ H5 ⟨rfl, rfl⟩
    refine ⟨fun σ H6 => H6 = H5 ∧ σ = [some (.ref a), some (.ref g), some (.str (SX.S l)), some (.int (k : Int))], ?_, ?_⟩
    · refine ⟨_, rfl, _, _, _, _, rfl, rfl, hR2, a5, .inl ⟨_, rfl, _, _, rfl, rfl, by show (0 : Int) < 4; decide, rfl, _, rfl, ite2 (fun e => ?_) (fun e => ?_)⟩⟩
      · refine ⟨_, rfl, _, rfl, _, rfl, _, rfl, tl.line (by decide), ?_⟩
        rw [q1]
        obtain ⟨c, hc⟩ : ∃ c, l[k]? = some c := ⟨l[k], List.getElem?_eq_getElem hk⟩
        have hca : c < 128 := tl.1 c (List.mem_of_getElem? hc)
        have hat3 : atI (SX.S l).cps.toList ((k : Nat) : Int) = some c := atI_nat hc
        refine ⟨_, rfl, _, rfl, _, _, c, rfl, rfl, hz, hat3, ?_⟩
        have t1 := tt.app (.one hca)
        refine ⟨_, _, rfl, rfl, tt.two (.one hca) (by decide), _, rfl, _, rfl, _, rfl, _, rfl, tl.line (by decide), ?_⟩
        rw [q2, show (SX.S (l.take (k : Int).toNat) ++ (⟨#[c]⟩ : Str)) = SX.S (l.take k ++ [c]) from SX.S_cat _ [c]]
        exact ⟨_, _, rfl, rfl, t1.two td (by decide), by rw [SX.S_cat]; exact Z1 _ ((t1.app td).mono (by decide)) _ rfl⟩
      · exact ⟨rfl, rfl⟩
    rintro σ H6 ⟨rfl, rfl⟩
    refine ⟨fun σ H7 => H7 = H6 ∧ σ = [some (.ref a), some (.ref g), some (.str (SX.S l)), some (.int (k : Int))], ?_, ?_⟩
    · refine ⟨_, rfl, _, _, _, _, rfl, rfl, hR2, a5, .inl ⟨_, rfl, _, _, rfl, rfl, by show (0 : Int) < 4; decide, rfl, _, rfl, ite2 (fun e => ?_) (fun e => ?_)⟩⟩
      · refine ⟨_, rfl, _, rfl, _, rfl, _, rfl, tl.line (by decide), ?_⟩
        rw [q1]
        refine ⟨_, rfl, _, _, _, _, rfl, rfl, hR2, a6, _, rfl, fun c hc => ?_⟩
        have t1 := tt.app (.one hc)
        refine ⟨_, _, rfl, rfl, tt.two (.one hc) (by decide), _, rfl, _, rfl, _, _, rfl, rfl, _, rfl, _, rfl, tl.line (by decide), ?_⟩
        rw [q3, SX.S_cat]
        exact ⟨_, _, rfl, rfl, t1.two td1 (by decide), by rw [SX.S_cat]; exact Z1 _ ((t1.app td1).mono (by decide)) _ rfl⟩
      · exact ⟨rfl, rfl⟩
    rintro σ H7 ⟨rfl, rfl⟩
    exact ⟨_, rfl, Z1 l (tl.mono (by decide)) _ rfl⟩
theorem ok__law_long {f : Addr} {fd : FuncData} (F : Fun K "_law_long" "_law_long" s__law_long f fd) (m_range : mg "range" = none) : FnOk P w K mg base CX0 1 f fd ["row", "start", "many"] (sp__law_long K) := by
  refine F.ok sc__law_long (fun vs H Q E h => ?_) (fun cdv A outer s H vs Q E hr h => ?_)
  · obtain ⟨a, row, st, m, n, b, rfl, _⟩ := h
    rfl
  · refine ⟨_, (pss_cons (ps_set (i := 3) sc__law_long.nd rfl (Or.inl rfl) pe_int)
      (pss_cons (ps_for PassesOwn.never rfl (pi_range1 rfl m_range (pa_cons (pv 2) pa_nil)) (pg_name (i := 4) sc__law_long.nd rfl (Or.inl rfl))
      (pss_one (ps_set (i := 3) sc__law_long.nd rfl (Or.inl rfl) (pe_op op_add (pe_op op_mulG (pv 3) pe_int) (pe_ix ix_list (pv 0) (pe_op op_add (pv 1) (pv 4)) (fun _ _ => rfl))))))
      (pss_one (ps_ret (pv 3))))), ?_⟩
    obtain ⟨a, row, st, m, n, b, rfl, hS, hrow, h0, h1, hb, hst, hn, Z⟩ := h
    obtain ⟨st, rfl⟩ := Int.eq_ofNat_of_zero_le h0
    obtain ⟨m, rfl⟩ := Int.eq_ofNat_of_zero_le h1
    refine ⟨_, rfl, _, rfl, by omega, by omega, ?_⟩
    refine for_range (lo := 0) (n := m) (fun i σ H2 => H2 = H ∧ ∃ (x : Int) (y : Option V), σ = [some (.ref a), some (.int (st : Int)), some (.int (m : Int)), some (.int x), y] ∧ 0 ≤ x ∧ x.natAbs < 1000 ^ i) ⟨rfl, 0, _, rfl, by decide, by decide⟩ ?_ ?_
    · rintro i σ H2 hi ⟨rfl, x, y, rfl, h0, h1⟩
      obtain ⟨v, hv, v0, v1⟩ := hrow.at (st + i) (by omega)
      have hv' : atI (row.map V.int) ((st : Int) + (0 + (i : Int))) = some (.int v) := by
        rw [← hv]; congr 1; omega
      refine ⟨_, rfl, _, _, rfl, rfl, mulG_b (b := 10) (Nat.lt_of_lt_of_le h1 (pow1000 i)) (by decide) (by omega), _, rfl, _, rfl, _, rfl, _, _, rfl, rfl, _, _, _, _, rfl, rfl, hS, hv', _, _, rfl, rfl, rfl, _, _, rfl, by omega, ?_⟩
      rw [Nat.pow_succ]
      omega
    · rintro σ H2 ⟨rfl, x, y, rfl, h0, h1⟩
      exact ⟨_, rfl, Z x h0 (Nat.lt_of_lt_of_le h1 (Nat.le_trans (pow1000 m) (Nat.pow_le_pow_right (by decide) (by omega)))) (Nat.lt_of_lt_of_le h1 (Nat.pow_le_pow_right (by decide) (by omega)))⟩
theorem ok__law_text {f : Addr} {fd : FuncData} (F : Fun K "_law_text" "_law_text" s__law_text f fd) (D__law_loose : Dn P w K mg base CX0 2 "_law_loose" (sp__law_loose K)) (D__law_spoilt : Dn P w K mg base CX0 3 "_law_spoilt" (sp__law_spoilt K)) (D__law_long : Dn P w K mg base CX0 1 "_law_long" (sp__law_long K)) (m_str : mg "str" = none) (m_int : mg "int" = none) : FnOk P w K mg base CX0 4 f fd ["row"] (sp__law_text K) := by
  refine F.ok sc__law_text (fun vs H Q E h => ?_) (fun cdv A outer s H vs Q E hr h => ?_)
  · obtain ⟨a, row, rfl, _⟩ := h
    rfl
  · refine ⟨_, (C8.pss_cut (ps_if (pt_cmpR op_eq (pe_op op_mod (pe_callTy call_int1 (by rfl) m_int (by decide +kernel) (pa_cons (pe_ix ix_list (pv 0) pe_int (fun _ _ => rfl)) pa_nil)) pe_int) pe_int (nomark _))
      (pss_one (ps_ret (pe_d D__law_loose hr (by decide) (by rfl) pass0 (pa_cons (pv 0) pa_nil))))
      pss_nil)
      (C8.pss_cut (ps_if (pt_cmpR op_eq (pe_op op_mod (pe_callTy call_int1 (by rfl) m_int (by decide +kernel) (pa_cons (pe_ix ix_list (pv 0) pe_int (fun _ _ => rfl)) pa_nil)) pe_int) pe_int (nomark _))
      (pss_one (ps_ret (pe_d D__law_spoilt hr (by decide) (by rfl) pass0 (pa_cons (pv 0) pa_nil))))
      pss_nil)
      (C8.pss_cut (ps_if (pt_cmpR op_eq (pe_op op_mod (pe_callTy call_int1 (by rfl) m_int (by decide +kernel) (pa_cons (pe_ix ix_list (pv 0) pe_int (fun _ _ => rfl)) pa_nil)) pe_int) pe_int (nomark _))
      (pss_cons (ps_set (i := 1) sc__law_text.nd rfl (Or.inl rfl) (pe_op op_add pe_int (pe_op op_mod (pe_callTy call_int1 (by rfl) m_int (by decide +kernel) (pa_cons (pe_ix ix_list (pv 0) pe_int (fun _ _ => rfl)) pa_nil)) pe_int)))
      (pss_one (ps_ret (pe_op op_add_str (pe_op op_add_str (pe_callTy call_str_int (by rfl) m_str (by decide +kernel) (pa_cons (pe_op op_mulG (pe_op op_sub (pe_ix ix_list (pv 0) pe_int (fun _ _ => rfl)) pe_int) (pv 1)) pa_nil)) pe_str) (pe_callTy call_str_int (by rfl) m_str (by decide +kernel) (pa_cons (pe_op op_mulG (pe_ix ix_list (pv 0) pe_int (fun _ _ => rfl)) (pv 1)) pa_nil))))))
      pss_nil)
      (pss_cons (ps_set (i := 2) sc__law_text.nd rfl (Or.inl rfl) (pe_callTy call_str_int (by rfl) m_str (by decide +kernel) (pa_cons (pe_op op_add (pe_op op_mulG (pe_op op_pow pe_int pe_int) (pe_op op_add pe_int (pe_op op_mod (pe_callTy call_int1 (by rfl) m_int (by decide +kernel) (pa_cons (pe_ix ix_list (pv 0) pe_int (fun _ _ => rfl)) pa_nil)) pe_int))) (pe_d D__law_long hr (by decide) (by rfl) pass0 (pa_cons (pv 0) (pa_cons pe_int (pa_cons pe_int pa_nil))))) pa_nil)))
      (pss_cons (ps_set (i := 3) sc__law_text.nd rfl (Or.inl rfl) (pe_callTy call_str_int (by rfl) m_str (by decide +kernel) (pa_cons (pe_op op_add (pe_op op_mulG (pe_op op_pow pe_int pe_int) (pe_op op_add pe_int (pe_op op_mod (pe_callTy call_int1 (by rfl) m_int (by decide +kernel) (pa_cons (pe_ix ix_list (pv 0) pe_int (fun _ _ => rfl)) pa_nil)) pe_int))) (pe_d D__law_long hr (by decide) (by rfl) pass0 (pa_cons (pv 0) (pa_cons pe_int (pa_cons pe_int pa_nil))))) pa_nil)))
      (pss_cons (ps_set (i := 2) sc__law_text.nd rfl (Or.inl rfl) (pe_op op_add_str (pv 2) (pe_slice C8.sl_txt pe_str po_none (po_some (pe_op op_mod (pe_callTy call_int1 (by rfl) m_int (by decide +kernel) (pa_cons (pe_ix ix_list (pv 0) pe_int (fun _ _ => rfl)) pa_nil)) pe_int)))))
      (pss_one (ps_ret (pe_op op_add_str (pe_op op_add_str (pe_op op_add_str (pv 2) pe_str) (pv 3)) (pe_slice C8.sl_txt pe_str po_none (po_some (pe_op op_mod (pe_callTy call_int1 (by rfl) m_int (by decide +kernel) (pa_cons (pe_op op_fdiv (pe_ix ix_list (pv 0) pe_int (fun _ _ => rfl)) pe_int) pa_nil)) pe_int)))))))))))), ?_⟩
    obtain ⟨a, row, rfl, hR, hr, Z⟩ := h
    obtain ⟨v0, a0, b0, c0⟩ := hr.at 0 (by decide)
    obtain ⟨v1, a1, b1, c1⟩ := hr.at 1 (by decide)
    obtain ⟨v2, a2, b2, c2⟩ := hr.at 2 (by decide)
    obtain ⟨v3, a3, b3, c3⟩ := hr.at 3 (by decide)
    refine ⟨fun σ H1 => H1 = H ∧ σ = [some (.ref a), none, none, none], ?_, ?_⟩
    · refine ⟨_, rfl, _, _, _, _, rfl, rfl, hR, a0, .inl ⟨_, rfl, _, _, rfl, rfl, by show (0 : Int) < 4; decide, rfl, _, rfl, ite2 (fun e => ?_) (fun e => ⟨rfl, rfl⟩)⟩⟩
      exact ⟨_, rfl, a, row, rfl, hR, hr, fun l H' s2 hl => Z l H' s2 (hl.mono (by decide))⟩
    rintro σ H1 ⟨rfl, rfl⟩
    refine ⟨fun σ H2 => H2 = H1 ∧ σ = [some (.ref a), none, none, none], ?_, ?_⟩
    · refine ⟨_, rfl, _, _, _, _, rfl, rfl, hR, a0, .inl ⟨_, rfl, _, _, rfl, rfl, by show (0 : Int) < 4; decide, rfl, _, rfl, ite2 (fun e => ?_) (fun e => ⟨rfl, rfl⟩)⟩⟩
      exact ⟨_, rfl, a, row, rfl, hR, hr, fun l H' s2 hl => Z l H' s2 (hl.mono (by decide))⟩
    rintro σ H2 ⟨rfl, rfl⟩
    refine ⟨fun σ H3 => H3 = H2 ∧ σ = [some (.ref a), none, none, none], ?_, ?_⟩
    · refine ⟨_, rfl, _, _, _, _, rfl, rfl, hR, a0, .inl ⟨_, rfl, _, _, rfl, rfl, by show (0 : Int) < 4; decide, rfl, _, rfl, ite2 (fun e => ?_) (fun e => ⟨rfl, rfl⟩)⟩⟩
      refine ⟨_, rfl, _, _, _, _, rfl, rfl, hR, a3, .inl ⟨_, rfl, _, _, rfl, rfl, by show (0 : Int) < 5; decide, _, _, rfl, rfl, ?_⟩⟩
      have t5 : (1 + v3 % 5).natAbs < 2 ^ 10 := by omega
      have mb : ∀ x y : Int, x.natAbs < 2 ^ 10 → y.natAbs < 2 ^ 10 → (x * y).natAbs < 2 ^ 210 := fun x y hx hy => by
        rw [Int.natAbs_mul]
        exact Nat.lt_of_lt_of_le (Nat.mul_lt_mul'' hx hy) (by decide)
      have m1 := mb (v1 - 300) (1 + v3 % 5) (by omega) t5
      have m2 := mb v2 (1 + v3 % 5) (by omega) t5
      have l1 := Nat.lt_trans (PySem.Flt.log2_lt_of (by decide) m1) (show 210 < 1920 by decide)
      have l2 := Nat.lt_trans (PySem.Flt.log2_lt_of (by decide) m2) (show 210 < 1920 by decide)
      have t1 : isT 65 (intL ((v1 - 300) * (1 + v3 % 5))) := .int m1
      have t2 : isT 65 (intL (v2 * (1 + v3 % 5))) := .int m2
      refine ⟨_, rfl, _, _, _, _, rfl, rfl, hR, a1, _, _, rfl, rfl, _, rfl, _, _, rfl, rfl, mulG_l (show (v1 - 300).natAbs < 2 ^ 60 by omega), _, rfl, l1, ?_⟩
      rw [show Str.ofString (toString ((v1 - 300) * (1 + v3 % 5))) = SX.S (intL ((v1 - 300) * (1 + v3 % 5))) from strI_S _]
      have t3 := t1.app (.one (c := 47) (by decide))
      have e3 : SX.S (intL ((v1 - 300) * (1 + v3 % 5))) ++ Str.ofString "/" = SX.S (intL ((v1 - 300) * (1 + v3 % 5)) ++ [47]) := SX.S_cat _ [47]
      refine ⟨_, _, rfl, rfl, t1.two (m := 1) (.one (c := 47) (by decide)) (by decide), _, rfl, _, _, _, _, rfl, rfl, hR, a2, _, rfl, _, _, rfl, rfl, mulG_l (show v2.natAbs < 2 ^ 60 by omega), _, rfl, l2, ?_⟩
      rw [e3, show Str.ofString (toString (v2 * (1 + v3 % 5))) = SX.S (intL (v2 * (1 + v3 % 5))) from strI_S _]
      refine ⟨_, _, rfl, rfl, t3.two t2 (by decide), ?_⟩
      rw [SX.S_cat]
      exact Z _ _ (Same.refl _) ((t3.app t2).mono (by decide))
    rintro σ H3 ⟨rfl, rfl⟩
    have big : ∀ v x : Int, 0 ≤ x → x.natAbs < 1000 ^ 19 → (10 ^ (58 : Int).toNat * (1 + v % 9) + x).natAbs < 2 ^ 210 := fun v x h0 h => by
      have h58 : (10 : Int) ^ (58 : Int).toNat = 10000000000000000000000000000000000000000000000000000000000 := by decide +kernel
      have h57 : (1000 : Nat) ^ 19 = 1000000000000000000000000000000000000000000000000000000000 := by decide +kernel
      have h210 : (2 : Nat) ^ 210 = 1645504557321206042154969182557350504982735865633579863348609024 := by decide +kernel
      rw [h58, h210]
      rw [h57] at h
      omega
    have sl : ∀ (l : List Nat) (T : Str), T = SX.S l → (∀ c ∈ l, c < 128) → l.length = 3 → ∀ i : Int, 0 ≤ i → ∃ k, Txt.slice T none (some i) = SX.S k ∧ isT 3 k := fun l T e hl hn i hi => ⟨l.take i.toNat, by rw [e]; exact SX.slice_to hi, isT.take ⟨hl, by omega⟩ _⟩
    obtain ⟨k1, s1, tk1⟩ := sl [48, 48, 48] (Str.ofString "000") rfl (by decide) rfl (v3 % 4) (Int.emod_nonneg _ (by decide))
    obtain ⟨k2, s2, tk2⟩ := sl [49, 49, 55] (Str.ofString "117") rfl (by decide) rfl (v3 / 4 % 4) (Int.emod_nonneg _ (by decide))
    have p58 : ∀ v : Int, CMulG ((10 : Int) ^ (58 : Int).toNat) (1 + v % 9) := fun v => mulG_r (by omega)
    refine ⟨_, _, rfl, rfl, ⟨by decide, by decide, by decide⟩, _, rfl, _, _, _, _, rfl, rfl, hR, a1, .inl ⟨_, rfl, _, _, rfl, rfl, by show (0 : Int) < 9; decide, _, _, rfl, rfl, _, _, rfl, rfl, p58 v1, _, rfl, a, row, 4, 19, 44, 19, rfl, hR, hr, by decide, by decide, by decide, by decide, by decide, fun x x0 _ x2 => ?_⟩⟩
    have mx := big v1 x x0 x2
    have lx := Nat.lt_trans (PySem.Flt.log2_lt_of (by decide) mx) (show 210 < 1920 by decide)
    have tx : isT 65 (intL (10 ^ (58 : Int).toNat * (1 + v1 % 9) + x)) := .int mx
    refine ⟨_, _, rfl, rfl, _, rfl, lx, ?_⟩
    rw [show Str.ofString (toString (10 ^ (58 : Int).toNat * (1 + v1 % 9) + x)) = SX.S (intL (10 ^ (58 : Int).toNat * (1 + v1 % 9) + x)) from strI_S _]
    generalize intL (10 ^ (58 : Int).toNat * (1 + v1 % 9) + x) = tp at tx
    refine ⟨_, _, rfl, rfl, ⟨by decide, by decide, by decide⟩, _, rfl, _, _, _, _, rfl, rfl, hR, a2, .inl ⟨_, rfl, _, _, rfl, rfl, by show (0 : Int) < 9; decide, _, _, rfl, rfl, _, _, rfl, rfl, p58 v2, _, rfl, a, row, 23, 19, 44, 19, rfl, hR, hr, by decide, by decide, by decide, by decide, by decide, fun y y0 _ y2 => ?_⟩⟩
    have my := big v2 y y0 y2
    have ly := Nat.lt_trans (PySem.Flt.log2_lt_of (by decide) my) (show 210 < 1920 by decide)
    have ty : isT 65 (intL (10 ^ (58 : Int).toNat * (1 + v2 % 9) + y)) := .int my
    refine ⟨_, _, rfl, rfl, _, rfl, ly, ?_⟩
    rw [show Str.ofString (toString (10 ^ (58 : Int).toNat * (1 + v2 % 9) + y)) = SX.S (intL (10 ^ (58 : Int).toNat * (1 + v2 % 9) + y)) from strI_S _]
    generalize intL (10 ^ (58 : Int).toNat * (1 + v2 % 9) + y) = bt at ty
    refine ⟨_, rfl, _, rfl, _, _, _, _, rfl, rfl, hR, a3, .inl ⟨_, rfl, _, _, rfl, rfl, by show (0 : Int) < 4; decide, ?_⟩⟩
    refine ⟨_, rfl, _, rfl, (show (3 : Nat) ≤ sizeLine by decide), ?_⟩
    rw [s1]
    refine ⟨_, _, rfl, rfl, tx.two tk1 (by decide), ?_⟩
    rw [SX.S_cat]
    have t1 := tx.app tk1
    generalize tp ++ k1 = tp2 at t1
    have e3 : SX.S tp2 ++ Str.ofString "/" = SX.S (tp2 ++ [47]) := SX.S_cat _ [47]
    have t2 := t1.app (.one (c := 47) (by decide))
    have t3 := t2.app ty
    have t4 := t3.app tk2
    refine ⟨_, rfl, _, _, rfl, rfl, t1.two (m := 1) (.one (c := 47) (by decide)) (by decide), _, rfl, ?_⟩
    rw [e3]
    refine ⟨_, _, rfl, rfl, t2.two ty (by decide), ?_⟩
    rw [SX.S_cat]
    refine ⟨_, rfl, _, _, _, _, rfl, rfl, hR, a3, _, _, rfl, rfl, ⟨by decide, by decide⟩, .inl ⟨_, rfl, _, _, rfl, rfl, by show (0 : Int) < 4; decide, ?_⟩⟩
    refine ⟨_, rfl, _, rfl, (show (3 : Nat) ≤ sizeLine by decide), ?_⟩
    rw [s2]
    refine ⟨_, _, rfl, rfl, t3.two tk2 (by decide), ?_⟩
    rw [SX.S_cat]
    exact Z _ _ (Same.refl _) (t4.mono (by decide))
theorem ok__law_number {f : Addr} {fd : FuncData} (F : Fun K "_law_number" "_law_number" s__law_number f fd) (m_int : mg "int" = none) (m_len : mg "len" = none) : FnOk P w K mg base CX0 1 f fd ["text"] (sp__law_number K) := by
  refine F.ok sc__law_number (fun vs H Q E h => ?_) (fun cdv A outer s H vs Q E hr h => ?_)
  · obtain ⟨l, rfl, _⟩ := h
    rfl
  · refine ⟨_, (pss_cons (ps_if (PW.pt (pw_or (pt_not (pt_chain op_le op_le pe_int (pe_callB call_len_str (by rfl) m_len (by decide +kernel) (pa_cons (pv 0) pa_nil)) pe_int)) (pw_or1 (PW.pt (pw_and (pt_cmpR op_gt (pe_callB call_len_str (by rfl) m_len (by decide +kernel) (pa_cons (pv 0) pa_nil)) pe_int (nomark _)) (pw_and1 (pt_cmpR op_eq (pe_ix ix_str (pv 0) pe_int (fun _ _ => rfl)) pe_str (nomark _))))))))
      (pss_one (ps_ret (pe_un un_neg pe_int)))
      pss_nil)
      (pss_cons (ps_for PassesOwn.never rfl (pi_str (pv 0)) (pg_name (i := 1) sc__law_number.nd rfl (Or.inl rfl))
      (pss_one (ps_if (pt_cmpR op_notIn_sign (pv 1) pe_str (by rfl))
      (pss_one (ps_ret (pe_un un_neg pe_int)))
      pss_nil)))
      (pss_one (ps_ret (pe_callTy call_int_str (by rfl) m_int (by decide +kernel) (pa_cons (pv 0) pa_nil)))))), ?_⟩
    obtain ⟨l, rfl, hl, Z⟩ := h
    have hL := SX.S_len l
    have hz : (SX.S l).length ≤ sizeLine := hl.line (by decide)
    have no : canonL l = false → Q (.int (-1)) H := fun h => by rw [← numR_not h]; exact Z
    have go : canonL l = true ∨ (1 ≤ l.length ∧ l.length ≤ 60 ∧ ¬ (1 < l.length ∧ l.head? = some 48) ∧ digs l = false) → ∀ σ0 : L2.St, σ0 = [some (.str (SX.S l)), none] →
        tSeq (tFor (iStr (tVar 0)) (gName 1) (tIfS (tTest (tOp (fun x y H Q => ∃ (c : Nat) (z : Str), x = .str ⟨#[c]⟩ ∧ y = .str z ∧ Q (.bl (!decide (c ∈ z.cps.toList))) H) (tVar 1) (tC (.str (Str.ofString "0123456789"))))) (tRet (tUn (rU fun i => .int (-i)) (tC (.int 1)))) tNext))
          (tRet (tCB (fun xs H Q => ∃ a n, xs = [.str a] ∧ PySem.intText? a = some n ∧ a.length ≤ 640 ∧ Q (.int n) H) (tCons (tVar 0) tNil))) { nx := fun _ H' => Q .non H', rt := Q } σ0 H := by
      rintro hc σ0 rfl
      refine ⟨_, rfl, _, rfl, ?_⟩
      refine for_sgn (x := SX.S l) (fun i σ H1 => H1 = H ∧ (∃ y, σ = [some (.str (SX.S l)), y]) ∧ ∀ j c, j < i → l[j]? = some c → 48 ≤ c ∧ c ≤ 57) ⟨rfl, ⟨_, rfl⟩, fun j c hj => absurd hj (by omega)⟩ ?_ ?_
      · rintro i c σ H1 hi ⟨rfl, ⟨y, rfl⟩, hd⟩
        have hi' : l[i]? = some c := by
          rw [← hi]
          show l[i]? = l.toArray[i]?
          simp
        refine ⟨_, rfl, c, _, rfl, rfl, _, rfl, ite2 (fun e => ?_) (fun e => ?_)⟩
        · refine ⟨_, rfl, no ?_⟩
          have nc : ¬ (48 ≤ c ∧ c ≤ 57) := fun z => by
            rw [decide_eq_true ((digit_mem c).mpr z)] at e
            cases e
          cases hk : canonL l with
          | false => rfl
          | true =>
            unfold canonL at hk
            have h4 := (Bool.and_eq_true_iff.mp hk).2
            exact absurd (digs_iff.mp h4 c (List.mem_of_getElem? hi')) nc
        · have yc : 48 ≤ c ∧ c ≤ 57 := by
            by_cases z : c ∈ (Str.ofString "0123456789").cps.toList
            · exact (digit_mem c).mp z
            · refine absurd ?_ e
              rw [decide_eq_false z]
              rfl
          refine ⟨rfl, ⟨_, rfl⟩, fun j d hj hjd => ?_⟩
          rcases Nat.lt_or_ge j i with hlt | hge
          · exact hd j d hlt hjd
          · have : j = i := by omega
            subst this
            rw [hi'] at hjd
            rw [← Option.some.inj hjd]
            exact yc
      · rintro σ H1 ⟨rfl, ⟨y, rfl⟩, hd⟩
        have hall : digs l = true := digs_iff.mpr fun c hc => by
          obtain ⟨j, hj, e⟩ := List.getElem_of_mem hc
          refine hd j c ?_ (by rw [List.getElem?_eq_getElem hj, e])
          show j < l.toArray.size
          simpa using hj
        rcases hc with hc | ⟨_, _, _, hc⟩
        · have hk := hc
          unfold canonL at hk
          simp only [Bool.and_eq_true, decide_eq_true_eq] at hk
          refine ⟨_, rfl, _, _, rfl, SX.int_S hall (List.length_pos_iff.mp hk.1.1.1) (by omega), by rw [hL]; omega, ?_⟩
          unfold numR at Z
          rw [if_pos hc] at Z
          exact Z
        · rw [hall] at hc
          cases hc
    have bad1 : ¬ 1 ≤ l.length → canonL l = false := fun z => by
      unfold canonL
      rw [decide_eq_false z]
      rfl
    have bad2 : ¬ l.length ≤ 60 → canonL l = false := fun z => by
      unfold canonL
      rw [decide_eq_false z, Bool.and_false]
      rfl
    have bad3 : 1 < l.length → l.head? = some 48 → canonL l = false := fun z z2 => by
      unfold canonL
      rw [decide_eq_true z, z2, show (some 48 == some (48 : Nat)) = true from rfl]
      simp
    have good : 1 ≤ l.length → l.length ≤ 60 → ¬ (1 < l.length ∧ l.head? = some 48) → canonL l = true ∨ (1 ≤ l.length ∧ l.length ≤ 60 ∧ ¬ (1 < l.length ∧ l.head? = some 48) ∧ digs l = false) := fun z1 z2 z3 => by
      cases hd : digs l with
      | false => exact .inr ⟨z1, z2, z3, rfl⟩
      | true =>
        left
        unfold canonL
        rw [decide_eq_true z1, decide_eq_true z2, hd, Bool.and_true, Bool.and_true, Bool.true_and, Bool.not_eq_true', Bool.and_eq_false_iff]
        by_cases z : 1 < l.length
        · exact .inr (beq_eq_false_iff_ne.mpr fun y => z3 ⟨z, y⟩)
        · exact .inl (decide_eq_false z)
    refine ⟨_, rfl, _, rfl, hz, _, _, rfl, rfl, _, rfl, ite2 (fun e1 => ?_) (fun e1 => ?_)⟩
    · have h1 : 1 ≤ l.length := by
        have := of_decide_eq_true e1
        rw [hL] at this
        omega
      refine ⟨_, _, rfl, rfl, _, rfl, ite2 (fun e2 => ?_) (fun e2 => ?_)⟩
      · refine ⟨_, rfl, no (bad2 fun z => ?_)⟩
        rw [decide_eq_true (by rw [hL]; omega)] at e2
        cases e2
      · have h2 : l.length ≤ 60 := by
          by_cases z : l.length ≤ 60
          · exact z
          · refine absurd ?_ e2
            rw [decide_eq_false (by rw [hL]; omega)]
            rfl
        refine ⟨_, rfl, _, rfl, hz, _, _, rfl, rfl, _, rfl, ite2 (fun e3 => ?_) (fun e3 => ?_)⟩
        · have h3 : 1 < l.length := by
            have := of_decide_eq_true e3
            rw [hL] at this
            omega
          obtain ⟨c, hc⟩ : ∃ c, l.head? = some c := by
            cases l with
            | nil => exact absurd h3 (by decide)
            | cons c r => exact ⟨c, rfl⟩
          have hat : atI (SX.S l).cps.toList ((0 : Nat) : Int) = some c := atI_nat (by rw [← List.head?_eq_getElem?]; exact hc)
          refine ⟨_, rfl, _, _, c, rfl, rfl, hz, hat, rfl, _, rfl, ite2 (fun e4 => ?_) (fun e4 => ?_)⟩
          · refine ⟨_, rfl, no (bad3 h3 ?_)⟩
            have : (⟨#[c]⟩ : Str) = Str.ofString "0" := V.str.inj (of_decide_eq_true e4)
            have h5 : SX.S [c] = SX.S [48] := this
            rw [hc, List.head_eq_of_cons_eq (SX.S_inj h5)]
          · refine go (good h1 h2 fun z => e4 (decide_eq_true ?_)) _ rfl
            have := Option.some.inj (hc.symm.trans z.2)
            rw [this]
            rfl
        · exact go (good h1 h2 fun z => e3 (decide_eq_true (by rw [hL]; omega))) _ rfl
    · refine ⟨false, rfl, ?_⟩
      refine ⟨_, rfl, no (bad1 fun z => e1 (decide_eq_true (by rw [hL]; omega)))⟩
theorem ok__law_read {f : Addr} {fd : FuncData} (F : Fun K "_law_read" "_law_read" s__law_read f fd) (D__law_number : Dn P w K mg base CX0 1 "_law_number" (sp__law_number K)) (D__law_gcd : Dn P w K mg base CX0 1 "_law_gcd" (sp__law_gcd K)) (m_len : mg "len" = none) : FnOk P w K mg base CX0 2 f fd ["text"] (sp__law_read K) := by
  refine F.ok sc__law_read (fun vs H Q E h => ?_) (fun cdv A outer s H vs Q E hr h => ?_)
  · obtain ⟨l, rfl, _⟩ := h
    rfl
  · refine ⟨_, (pss_cons (ps_set (i := 1) sc__law_read.nd rfl (Or.inl rfl) pe_int)
      (pss_cons (ps_set (i := 2) sc__law_read.nd rfl (Or.inl rfl) (pv 0))
      (C8.pss_cut (ps_if (pt_cmpR op_eq (pe_slice C8.sl_txt (pv 0) po_none (po_some pe_int)) pe_str (nomark _))
      (pss_cons (ps_set (i := 1) sc__law_read.nd rfl (Or.inl rfl) (pe_un un_neg pe_int))
      (pss_one (ps_set (i := 2) sc__law_read.nd rfl (Or.inl rfl) (pe_slice C8.sl_txt (pv 0) (po_some pe_int) po_none))))
      pss_nil)
      (pss_cons (ps_set (i := 3) sc__law_read.nd rfl (Or.inl rfl) (pe_split (pv 2) pe_str))
      (C8.pss_cut (ps_if (pt_cmpR op_gt (pe_callB call_len_seq (by rfl) m_len (by decide +kernel) (pa_cons (pv 3) pa_nil)) pe_int (nomark _))
      (pss_one (ps_ret pe_non))
      pss_nil)
      (pss_cons (ps_set (i := 4) sc__law_read.nd rfl (Or.inl rfl) (pe_d D__law_number hr (by decide) (by rfl) pass0 (pa_cons (pe_ix ix_list (pv 3) pe_int (fun _ _ => rfl)) pa_nil)))
      (C8.pss_cut (ps_if (PW.pt (pw_or (pt_cmpR op_lt (pv 4) pe_int (nomark _)) (pw_or1 (PW.pt (pw_and (pt_cmpR op_eq (pv 4) pe_int (nomark _)) (pw_and1 (pt_cmpR op_lt (pv 1) pe_int (nomark _))))))))
      (pss_one (ps_ret pe_non))
      pss_nil)
      (C8.pss_cut (ps_if (pt_cmpR op_eq (pe_callB call_len_seq (by rfl) m_len (by decide +kernel) (pa_cons (pv 3) pa_nil)) pe_int (nomark _))
      (pss_one (ps_ret (pe_tup (pa_cons (pe_op op_mulG (pv 1) (pv 4)) (pa_cons pe_int pa_nil)))))
      pss_nil)
      (pss_cons (ps_set (i := 5) sc__law_read.nd rfl (Or.inl rfl) (pe_d D__law_number hr (by decide) (by rfl) pass0 (pa_cons (pe_ix ix_list (pv 3) pe_int (fun _ _ => rfl)) pa_nil)))
      (C8.pss_cut (ps_if (PW.pt (pw_or (pt_cmpR op_lt (pv 5) pe_int (nomark _)) (pw_or1 (pt_cmpR op_ne (pe_d D__law_gcd hr (by decide) (by rfl) pass0 (pa_cons (pv 4) (pa_cons (pv 5) pa_nil))) pe_int (nomark _)))))
      (pss_one (ps_ret pe_non))
      pss_nil)
      (pss_one (ps_ret (pe_tup (pa_cons (pe_op op_mulG (pv 1) (pv 4)) (pa_cons (pv 5) pa_nil))))))))))))))), ?_⟩
    obtain ⟨l, rfl, hl, Z, N⟩ := h
    have hz : (SX.S l).length ≤ sizeLine := hl.line (by decide)
    have hb : isT 900 (noMinus l) := by
      unfold noMinus
      split
      · rw [← List.drop_one]
        exact hl.drop 1
      · exact hl
    refine ⟨_, rfl, ?_⟩
    refine ⟨fun σ H1 => H1 = H ∧ σ = [some (.str (SX.S l)), some (.int (if minus l then -1 else 1)), some (.str (SX.S (noMinus l))), none, none, none], ?_, ?_⟩
    · refine ⟨_, rfl, _, rfl, _, rfl, hz, rfl, _, rfl, ite2 (fun e => ?_) (fun e => ?_)⟩
      · have e' : minus l = true := (minus_slice l).mp (V.str.inj (of_decide_eq_true e))
        refine ⟨_, rfl, _, rfl, _, rfl, _, rfl, hz, rfl, ?_⟩
        rw [e', ← minus_rest e']
        rfl
      · have e' : minus l = false := by
          cases h : minus l with
          | true => exact absurd (decide_eq_true (congrArg V.str ((minus_slice l).mpr h))) e
          | false => rfl
        refine ⟨rfl, ?_⟩
        unfold noMinus
        rw [e']
        rfl
    rintro σ H1 ⟨rfl, rfl⟩
    refine ⟨_, rfl, ⟨_, rfl⟩, _, _, rfl, rfl, rfl, ?_, fun p np => ?_⟩
    · rw [SX.S_len]
      have := hb.2
      exact sz_line (by omega)
    have s1 : Same H1 (upd H1 p (.lst ((Txt.split (SX.S (noMinus l)) (Str.ofString "/")).map V.str))) := same_upd np
    have eP : SqL K (upd H1 p (.lst ((Txt.split (SX.S (noMinus l)) (Str.ofString "/")).map V.str))) p (((TL.spl [47] 0 [] (noMinus l)).map SX.S).map V.str) := by
      rw [← split_S]
      exact SqL.of (upd_same (o := .lst ((Txt.split (SX.S (noMinus l)) (Str.ofString "/")).map V.str)))
    have hlen : ((((TL.spl [47] 0 [] (noMinus l)).map SX.S).map V.str).length : Int) = ((TL.spl [47] 0 [] (noMinus l)).length : Int) := by rw [List.length_map, List.length_map]
    generalize hH2 : upd H1 p (.lst ((Txt.split (SX.S (noMinus l)) (Str.ofString "/")).map V.str)) = H2 at s1 eP ⊢
    obtain ⟨sg, esg, hsg⟩ : ∃ sg : Int, sg = (if minus l then -1 else 1) ∧ sg.natAbs < 2 ^ 60 := ⟨_, rfl, by split <;> decide⟩
    rw [← esg]
    obtain ⟨ps, eps⟩ : ∃ ps, ps = TL.spl [47] 0 [] (noMinus l) := ⟨_, rfl⟩
    rw [← eps] at eP hlen
    refine ⟨fun σ H3 => H3 = H2 ∧ σ = [some (.str (SX.S l)), some (.int sg), some (.str (SX.S (noMinus l))), some (.ref p), none, none] ∧ ps.length ≤ 2, ?_, ?_⟩
    · refine ⟨_, rfl, _, _, rfl, .inl eP, _, _, rfl, rfl, _, rfl, ite2 (fun e => ?_) (fun e => ?_)⟩
      · have e' := of_decide_eq_true e
        rw [hlen] at e'
        refine N ?_ _ s1
        unfold readR
        rw [← eps]
        match ps, e' with
        | [], e' => rfl
        | [_], e' => exact absurd e' (by simp)
        | [_, _], e' => exact absurd e' (by simp)
        | _ :: _ :: _ :: _, _ => rfl
      · refine ⟨rfl, rfl, ?_⟩
        by_cases z : ps.length ≤ 2
        · exact z
        · exact absurd (decide_eq_true (by rw [hlen]; omega)) e
    rintro σ H3 ⟨rfl, rfl, h2⟩
    have hpa : ∃ a rest, ps = a :: rest ∧ isT 900 a ∧ (rest = [] ∨ ∃ b, rest = [b] ∧ isT 900 b) := by
      rcases spl_cases 47 (noMinus l) with ⟨h47, hs⟩ | ⟨a, b, eb, h47, hs⟩
      · exact ⟨noMinus l, [], by rw [eps, hs], hb, .inl rfl⟩
      · rcases spl_cases 47 b with ⟨h2', hs2⟩ | ⟨a2, b2, _, _, hs2⟩
        · refine ⟨a, [b], by rw [eps, hs, hs2], ?_, .inr ⟨b, rfl, ?_⟩⟩
          · refine ⟨fun c hc => hb.1 c (by rw [eb]; simp [hc]), ?_⟩
            have := hb.2
            rw [eb, List.length_append] at this
            omega
          · refine ⟨fun c hc => hb.1 c (by rw [eb]; simp [hc]), ?_⟩
            have := hb.2
            rw [eb, List.length_append, List.length_cons] at this
            omega
        · have h3 : 3 ≤ ps.length := by
            rw [eps, hs, hs2]
            have := List.length_pos_iff.mpr (spl_ne 47 b2)
            simp only [List.length_cons]
            omega
          omega
    obtain ⟨a, rest, ea, ta, hrest⟩ := hpa
    subst ea
    have rest2 : rest = [] ∨ ∃ b, rest = [b] ∧ isT 900 b := hrest
    have hA : atI (((a :: rest).map SX.S).map V.str) ((0 : Nat) : Int) = some (.str (SX.S a)) := atI_nat rfl
    refine ⟨_, rfl, _, _, _, _, rfl, rfl, eP, hA, a, rfl, ta.mono (by decide), ?_⟩
    have bad : (numR a < 0 ∨ (numR a = 0 ∧ minus l = true)) → readR l = none := fun hc => by
      unfold readR
      rw [← eps]
      rcases rest2 with rfl | ⟨b, rfl, _⟩
      · rw [readP1, if_pos hc]
      · rw [readP2, if_pos hc]
    refine ⟨fun σ H4 => H4 = H3 ∧ σ = [some (.str (SX.S l)), some (.int sg), some (.str (SX.S (noMinus l))), some (.ref p), some (.int (numR a)), none] ∧ ¬ (numR a < 0 ∨ (numR a = 0 ∧ minus l = true)), ?_, ?_⟩
    · refine ⟨_, rfl, _, _, rfl, rfl, _, rfl, ite2 (fun e => ?_) (fun e => ?_)⟩
      · exact N (bad (.inl (of_decide_eq_true e))) _ s1
      · have c1 : ¬ numR a < 0 := fun z => e (decide_eq_true z)
        refine ⟨_, rfl, rfl, _, rfl, ite2 (fun e1 => ?_) (fun e1 => ?_)⟩
        · have p0 : numR a = 0 := V.int.inj (of_decide_eq_true e1)
          refine ⟨_, rfl, _, _, rfl, rfl, _, rfl, ite2 (fun e2 => ?_) (fun e2 => ?_)⟩
          · have : sg < 0 := of_decide_eq_true e2
            refine N (bad (.inr ⟨p0, ?_⟩)) _ s1
            cases hm : minus l with
            | true => rfl
            | false => rw [esg, hm] at this; exact absurd this (by decide)
          · refine ⟨rfl, rfl, ?_⟩
            rintro (z | ⟨_, z⟩)
            · exact c1 z
            · exact e2 (decide_eq_true (by rw [esg, z]; decide))
        · refine ⟨rfl, rfl, ?_⟩
          rintro (z | ⟨z, _⟩)
          · exact c1 z
          · exact e1 (decide_eq_true (by rw [z]))
    rintro σ H4 ⟨rfl, rfl, hc⟩
    obtain ⟨n, en, el, hn⟩ := numR_of (l := a) (by omega)
    have hsn : sg * numR a = signed (minus l) n := by
      rw [en, esg]
      unfold signed
      cases minus l
      · exact Int.one_mul _
      · rw [if_pos rfl, if_pos rfl]; omega
    refine ⟨fun σ H5 => H5 = H4 ∧ σ = [some (.str (SX.S l)), some (.int sg), some (.str (SX.S (noMinus l))), some (.ref p), some (.int (numR a)), none] ∧ ∃ b, rest = [b] ∧ isT 900 b, ?_, ?_⟩
    · refine ⟨_, rfl, _, _, rfl, .inl eP, rfl, _, rfl, ite2 (fun e => ?_) (fun e => ?_)⟩
      · have hr : rest = [] := by
          rcases rest2 with hr | ⟨b, rfl, _⟩
          · exact hr
          · exact absurd (V.int.inj (of_decide_eq_true e)) (by simp)
        subst hr
        refine ⟨_, rfl, _, rfl, _, _, rfl, rfl, mulG_l hsg, by show 2 ≤ sizeLine; decide, fun t nt => ?_⟩
        obtain ⟨k1, k2⟩ := mk_num (p := signed (minus l) n) (q := 1) (by decide) (Nat.gcd_one_right _)
        refine Z (Rat.divInt (signed (minus l) n) ((1 : Nat) : Int)) ?_ _ t (s1.trans (same_upd nt)) (s1.free nt) (SqT.of ?_)
        · unfold readR
          rw [← eps, readP1, if_neg hc, en]
          rfl
        · rw [upd_same, k1, k2, ← hsn]
          rfl
      · rcases rest2 with rfl | ⟨b, rfl, tb⟩
        · exact absurd (decide_eq_true rfl) e
        · exact ⟨rfl, rfl, b, rfl, tb⟩
    rintro σ H5 ⟨rfl, rfl, b, rfl, tb⟩
    have hB : atI ((([a, b]).map SX.S).map V.str) ((1 : Nat) : Int) = some (.str (SX.S b)) := atI_nat rfl
    refine ⟨_, rfl, _, _, _, _, rfl, rfl, eP, hB, b, rfl, tb.mono (by decide), ?_⟩
    have hR : readR l = if numR b < 2 ∨ Nat.gcd (numR a).natAbs (numR b).natAbs ≠ 1 then none else some (Rat.divInt (signed (minus l) n) (numR b)) := by
      unfold readR
      rw [← eps, readP2, if_neg hc, en]
      rfl
    refine ⟨fun σ H6 => H6 = H5 ∧ σ = [some (.str (SX.S l)), some (.int sg), some (.str (SX.S (noMinus l))), some (.ref p), some (.int (numR a)), some (.int (numR b))] ∧ ¬ (numR b < 2 ∨ Nat.gcd (numR a).natAbs (numR b).natAbs ≠ 1), ?_, ?_⟩
    · refine ⟨_, rfl, _, _, rfl, rfl, _, rfl, ite2 (fun e => ?_) (fun e => ?_)⟩
      · exact N (by rw [hR, if_pos (.inl (of_decide_eq_true e))]) _ s1
      · have c2 : ¬ numR b < 2 := fun z => e (decide_eq_true z)
        obtain ⟨q, eq, _, hq⟩ := numR_of (l := b) (by omega)
        refine ⟨_, rfl, _, rfl, _, _, rfl, by omega, by omega, ?_, rfl, _, rfl, ite2 (fun e1 => ?_) (fun e1 => ?_)⟩
        · rw [eq, Int.natAbs_natCast]
          exact Nat.lt_of_lt_of_le hq (Nat.le_trans (show 10 ^ 60 ≤ 2 ^ 210 by decide) (Nat.pow_le_pow_right (by decide) (by decide)))
        · refine N ?_ _ s1
          have hne : Nat.gcd (numR a).natAbs (numR b).natAbs ≠ 1 := fun z => by
            refine absurd e1 ?_
            rw [z]
            decide
          rw [hR, if_pos (.inr hne)]
        · refine ⟨rfl, rfl, ?_⟩
          rintro (z | z)
          · exact c2 z
          · refine e1 ?_
            rw [decide_eq_false (fun y => z (by have := V.int.inj y; omega))]
            rfl
    rintro σ H6 ⟨rfl, rfl, hc2⟩
    rw [if_neg hc2] at hR
    obtain ⟨q, eq, _, hq⟩ := numR_of (l := b) (by omega)
    refine ⟨_, rfl, _, rfl, _, _, rfl, rfl, mulG_l hsg, _, rfl, by show 2 ≤ sizeLine; decide, fun t nt => ?_⟩
    have hg : Nat.gcd (signed (minus l) n).natAbs q = 1 := by
      rw [signed_na]
      rw [en, eq, Int.natAbs_natCast, Int.natAbs_natCast] at hc2
      by_cases z : Nat.gcd n q = 1
      · exact z
      · exact absurd (.inr z) hc2
    rw [eq] at hR hc2
    obtain ⟨k1, k2⟩ := mk_num (p := signed (minus l) n) (q := q) (by omega) hg
    refine Z _ hR _ t (s1.trans (same_upd nt)) (s1.free nt) (SqT.of ?_)
    rw [upd_same, k1, k2, ← hsn, eq]
theorem ok__law_row {f : Addr} {fd : FuncData} (F : Fun K "_law_row" "_law_row" s__law_row f fd) (m_range : mg "range" = none) (m_len : mg "len" = none) (m_int : mg "int" = none) : FnOk P w K mg base CX0 1 f fd ["script", "place", "many"] (sp__law_row K) := by
  refine F.ok sc__law_row (fun vs H Q E h => ?_) (fun cdv A outer s H vs Q E hr h => ?_)
  · obtain ⟨a, ns, pl, m, rfl, _⟩ := h
    rfl
  · refine ⟨_, (pss_cons (ps_set (i := 3) sc__law_row.nd rfl (Or.inl rfl) (pe_op op_add (pe_op op_mulG pe_int (pv 1)) pe_int))
      (C8.pss_cut (ps_if (pt_cmpR op_lt (pv 1) (pe_callB call_len_seq (by rfl) m_len (by decide +kernel) (pa_cons (pv 0) pa_nil)) (nomark _))
      (pss_one (ps_set (i := 3) sc__law_row.nd rfl (Or.inl rfl) (pe_ix ix_list (pv 0) (pv 1) (fun _ _ => rfl))))
      pss_nil)
      (pss_cons (ps_set (i := 4) sc__law_row.nd rfl (Or.inl rfl) (pe_op op_sub (pv 3) (pe_op op_pow pe_int pe_int)))
      (pss_cons (ps_set (i := 5) sc__law_row.nd rfl (Or.inl rfl) (pe_lst pa_nil))
      (pss_cons (ps_for PassesOwn.never rfl (pi_range1 rfl m_range (pa_cons (pv 2) pa_nil)) (pg_name (i := 6) sc__law_row.nd rfl (Or.inl rfl))
      (pss_one (ps_if (pt_cmpR op_gt (pv 4) pe_int (nomark _))
      (pss_cons (ps_expr (pe_bm PySem.F.plainAttrs_list PySem.F.slot_list_append PySem.F.type_list_append mt_append (pv 5) (pa_cons (pe_op op_mod (pe_callTy call_int1 (by rfl) m_int (by decide +kernel) (pa_cons (pv 4) pa_nil)) pe_int) pa_nil)))
      (pss_one (ps_set (i := 4) sc__law_row.nd rfl (Or.inl rfl) (pe_op op_fdiv (pv 4) pe_int))))
      (pss_cons (ps_set (i := 7) sc__law_row.nd rfl (Or.inl rfl) (pe_op op_mod (pe_callTy call_int1 (by rfl) m_int (by decide +kernel) (pa_cons (pe_op op_add (pe_op op_add (pe_op op_mulG (pv 3) pe_int) (pe_op op_mulG (pv 6) pe_int)) pe_int) pa_nil)) pe_int))
      (pss_cons (ps_set (i := 7) sc__law_row.nd rfl (Or.inl rfl) (pe_op op_mod (pe_callTy call_int1 (by rfl) m_int (by decide +kernel) (pa_cons (pe_op op_add (pe_op op_add (pe_op op_mulG (pv 7) (pv 7)) (pe_op op_mulG (pv 7) pe_int)) (pe_op op_mulG (pv 6) pe_int)) pa_nil)) pe_int))
      (pss_one (ps_expr (pe_bm PySem.F.plainAttrs_list PySem.F.slot_list_append PySem.F.type_list_append mt_append (pv 5) (pa_cons (pe_op op_mod (pe_op op_fdiv (pv 7) pe_int) pe_int) pa_nil)))))))))
      (pss_one (ps_ret (pv 5)))))))), ?_⟩
    obtain ⟨a, ns, pl, m, rfl, hS, hm, Z⟩ := h
    refine ⟨_, rfl, _, _, rfl, rfl, mulG_l (by decide), _, _, rfl, rfl, ?_⟩
    refine ⟨fun σ H1 => H1 = H ∧ ∃ c : Int, σ = [some (.ref a), some (.int (pl : Int)), some (.int (m : Int)), some (.int c), none, none, none, none], ?_, ?_⟩
    · refine ⟨_, rfl, _, rfl, a, _, rfl, .inl hS, _, _, rfl, rfl, _, rfl, ite2 (fun e => ?_) (fun e => ⟨rfl, _, rfl⟩)⟩
      have e' : (pl : Int) < (ns.map V.int).length := of_decide_eq_true e
      rw [List.length_map] at e'
      have g : (ns.map V.int)[pl]? = some (.int (ns[pl]'(by omega))) := by
        rw [List.getElem?_map, List.getElem?_eq_getElem (by omega)]
        rfl
      exact ⟨_, rfl, _, rfl, _, _, _, _, rfl, rfl, hS, atI_nat g, rfl, _, rfl⟩
    · rintro σ H1 ⟨rfl, c, rfl⟩
      refine ⟨_, rfl, _, _, rfl, rfl, ⟨by decide, by decide, by decide⟩, _, _, rfl, rfl, Nat.zero_le _, fun o no => ?_⟩
      refine ⟨_, rfl, _, rfl, by omega, by omega, ?_⟩
      refine for_range (lo := 0) (n := m) (fun i σ H2 => ∃ (r : Int) (y6 y7 : Option V), σ = [some (.ref a), some (.int (pl : Int)), some (.int (m : Int)), some (.int c), some (.int r), some (.ref o), y6, y7] ∧ RowAt H1 H2 o i)
        ⟨_, _, _, rfl, RowAt.start no⟩ ?_ ?_
      · rintro i σ H2 hi ⟨r, y6, y7, rfl, ra⟩
        obtain ⟨_, sm, rw, hrw, eo⟩ := id ra
        have hsz : (rw.map V.int).length < sizeLine := by
          rw [List.length_map, hrw.1]; exact small1000 (by omega)
        refine ⟨_, rfl, _, _, rfl, rfl, _, rfl, ite2 (fun e => ?_) (fun e => ?_)⟩
        · refine ⟨_, rfl, .inl ⟨rfl, _, .inl (.inl eo)⟩, _, rfl, .inl ⟨_, rfl, _, _, rfl, rfl, by show (0 : Int) < 1000; decide, _, _, _, rfl, rfl, eo, hsz, ?_⟩⟩
          refine ⟨_, rfl, _, _, rfl, rfl, ⟨by decide, by decide⟩, ?_⟩
          exact ⟨_, _, _, rfl, ra.push eo (by omega) (by omega)⟩
        · refine ⟨_, rfl, _, _, rfl, rfl, mulG_r (by decide), _, rfl, _, _, rfl, rfl, mulG_r (by decide), _, _, rfl, rfl, _, _, rfl, rfl, .inl ⟨_, rfl, _, _, rfl, rfl, by show (0 : Int) < 2147483647; decide, ?_⟩⟩
          refine ⟨_, rfl, _, rfl, _, _, rfl, rfl, mulG_l (by omega), _, rfl, _, _, rfl, rfl, mulG_r (by decide), _, _, rfl, rfl, _, rfl, _, _, rfl, rfl, mulG_r (by decide), _, _, rfl, rfl, .inl ⟨_, rfl, _, _, rfl, rfl, by show (0 : Int) < 2147483399; decide, ?_⟩⟩
          refine ⟨_, rfl, .inl ⟨rfl, _, .inl (.inl eo)⟩, _, rfl, _, _, rfl, rfl, ⟨by decide, by decide⟩, _, _, rfl, rfl, by show (0 : Int) < 1000; decide, _, _, _, rfl, rfl, eo, hsz, ?_⟩
          exact ⟨_, _, _, rfl, ra.push eo (by omega) (by omega)⟩
      · rintro σ H2 ⟨r, y6, y7, rfl, _, sm, rw, hrw, eo⟩
        exact ⟨_, rfl, Z _ _ _ sm no hrw eo⟩
theorem ok_BadText_init {f : Addr} {fd : FuncData} {C_BookError : Addr} {mc_BookError : Value} (F : Fun K "__init__" "BadText.__init__" s_BadText_init f fd) (c_BookError : mg "BookError" = some (.ref C_BookError)) (cr_BookError : ClX.CRead K C_BookError mc_BookError) (cv_BookError : PySem.W.findCls K (.ref C_BookError) mc_BookError "__init__" = some (.val (.builtin "ValueError.__init__"))) : FnOk P w K mg base CX0 1 f fd ["self", "at"] (sp_BadText_init K) := by
  refine F.ok sc_BadText_init (fun vs H Q E h => ?_) (fun cdv A outer s H vs Q E hr h => ?_)
  · obtain ⟨a, C, i, rfl, _⟩ := h
    rfl
  · refine ⟨_, (pss_cons (ps_expr (pe_beinit (by rfl) c_BookError cr_BookError cv_BookError (pa_cons (pv 0) (pa_cons (pe_joined (.cons pe_str (.cons (pe_fmt (pv 1)) .nil))) pa_nil))))
      (pss_one (ps_ost (pv 0) (pv 1)))), ?_⟩
    obtain ⟨a, C, i, rfl, B, hi, ha, Z⟩ := h
    have l1 : i.natAbs.log2 < 200 := PySem.Flt.log2_lt_of (by decide) hi
    have n1 := len_intL (Nat.lt_trans hi (by decide))
    refine ⟨_, rfl, _, rfl, by decide +kernel, _, rfl, .inr ⟨_, rfl, Nat.lt_trans l1 (by decide), _, rfl, ?_, a, C, _, rfl, (show 1 ≤ 1000 by decide), B.o, ha, _, rfl, _, rfl, a, C, rfl, B.o, B.noAt, .inl ⟨ha, fun dx nd hne => Z dx nd hne⟩⟩⟩
    show (Str.empty ++ Str.ofString "the text is wrong at " ++ Str.ofString (toString i)).length ≤ sizeLine
    rw [strI_S, TL.len_tl, TL.tl_append, List.length_append]
    have h2 : (TL.tl (Str.empty ++ Str.ofString "the text is wrong at ")).length = 21 := by decide +kernel
    have h3 : (TL.tl (SX.S (intL i))).length = (intL i).length := rfl
    rw [h2, h3]
    exact sz_line (by omega)
theorem ok__parse_digits {f : Addr} {fd : FuncData} {C_BadText : Addr} (F : Fun K "_parse_digits" "_parse_digits" s__parse_digits f fd) (m_int : mg "int" = none) (m_len : mg "len" = none) (m_MOST_DIGITS : ∃ u, mg "MOST_DIGITS" = some u ∧ RelV (.int 60) u) (B_BadText : BadD P w K mg base 1 C_BadText) (c_BadText : mg "BadText" = some (.ref C_BadText)) : FnOk P w K mg base (L2.CX P w) 3 f fd ["word"] (sp__parse_digits K C_BadText) := by
  refine F.okX sc__parse_digits (fun vs H Q E h => ?_) (fun cdv A outer s H vs Q E hr h => ?_)
  · obtain ⟨l, rfl, _⟩ := h
    rfl
  · refine ⟨_, (pss_cons (ps_if (pt_cmpR op_gt (pe_callB call_len_str (by rfl) m_len (by decide +kernel) (pa_cons (pv 0) pa_nil)) (C8.pe_gc rfl m_MOST_DIGITS) (nomark _))
      (pss_one (ps_raise rfl (takes_of rfl rfl rfl rfl) (pmk_bad B_BadText hr (by decide) (by rfl) (pa_cons pe_int pa_nil))))
      pss_nil)
      (pss_cons (ps_if (pt_not (PW.pt (pw_and (pt_val (pe_m0 PySem.F.slot_str_isascii PySem.F.type_str_isascii mt_isascii (pv 0))) (pw_and1 (pt_val (pe_m0 PySem.F.slot_str_isdigit PySem.F.type_str_isdigit mt_isdigit (pv 0)))))))
      (pss_one (ps_raise rfl (takes_of rfl rfl rfl rfl) (pmk_bad B_BadText hr (by decide) (by rfl) (pa_cons pe_int pa_nil))))
      pss_nil)
      (pss_one (ps_ret (pe_callTy call_int_str (by rfl) m_int (by decide +kernel) (pa_cons (pv 0) pa_nil)))))), ?_⟩
    obtain ⟨l, rfl, ha, hl, Z, hE⟩ := h
    have hL := SX.S_len l
    refine ⟨_, rfl, _, rfl, sz_line (by rw [hL]; omega), _, _, rfl, rfl, _, rfl, ite2 (fun e => ?_) (fun e => ?_)⟩
    · have e' : (60 : Int) < ((SX.S l).length : Int) := of_decide_eq_true e
      rw [hL] at e'
      have hn : digN l = none := by
        unfold digN
        rw [if_neg (by omega)]
      exact bad_made B_BadText.c (by decide) (hE hn)
    · have e' : ¬ (60 : Int) < ((SX.S l).length : Int) := fun z => e (decide_eq_true z)
      rw [hL] at e'
      cases hd : (decide (0 < l.length) && digs l) with
      | false =>
        have hn : digN l = none := by
          unfold digN
          rw [if_neg (fun z => ?_)]
          rw [decide_eq_true z.2.1, z.2.2] at hd
          cases hd
        refine ⟨_, rfl, ⟨_, rfl⟩, _, rfl, rfl, trivial, true, congrArg V.bl (ascii_S ha), iteT ⟨_, rfl, ⟨_, rfl⟩, _, rfl, rfl, trivial, false, congrArg V.bl (by rw [isdigit_S ha]; exact hd), iteT ?_⟩⟩
        exact bad_made B_BadText.c (by decide) (hE hn)
      | true =>
        obtain ⟨h2, h3⟩ := Bool.and_eq_true_iff.mp hd
        have h2' := of_decide_eq_true h2
        refine ⟨_, rfl, ⟨_, rfl⟩, _, rfl, rfl, trivial, true, congrArg V.bl (ascii_S ha), iteT ⟨_, rfl, ⟨_, rfl⟩, _, rfl, rfl, trivial, true, congrArg V.bl (by rw [isdigit_S ha]; exact hd), iteF ?_⟩⟩
        refine ⟨_, rfl, _, _, rfl, SX.int_S h3 (List.length_pos_iff.mp h2') (by omega), by rw [hL]; omega, ?_⟩
        refine Z _ ?_
        unfold digN
        rw [if_pos ⟨by omega, h2', h3⟩]
theorem ok_ratio {f : Addr} {fd : FuncData} (F : Fun K "ratio" "ratio" s_ratio f fd) (m_gcd : mg "gcd" = some (.builtin "math.gcd")) : FnOk P w K mg base CX0 1 f fd ["p", "q"] (sp_ratio K) := by
  refine F.ok sc_ratio (fun vs H Q E h => ?_) (fun cdv A outer s H vs Q E hr h => ?_)
  · obtain ⟨p, q, rfl, _⟩ := h
    rfl
  · refine ⟨_, (pss_cons (ps_set (i := 2) sc_ratio.nd rfl (Or.inl rfl) (pe_callBfun cr_gcd (by rfl) m_gcd (pa_cons (pv 0) (pa_cons (pv 1) pa_nil))))
      (C8.pss_cut (ps_if (pt_cmpR op_lt (pv 1) pe_int (nomark _))
      (pss_one (ps_set (i := 2) sc_ratio.nd rfl (Or.inl rfl) (pe_un un_neg (pv 2))))
      pss_nil)
      (pss_one (ps_ret (pe_tup (pa_cons (pe_op op_fdivG (pv 0) (pv 2)) (pa_cons (pe_op op_fdivG (pv 1) (pv 2)) pa_nil))))))), ?_⟩
    obtain ⟨p, q, rfl, hq, hs, Z⟩ := h
    refine ⟨_, rfl, _, rfl, p, q, rfl, ?_⟩
    refine ⟨fun σ H1 => H1 = H ∧ σ = [some (.int p), some (.int q), some (.int (if q < 0 then -((Nat.gcd p.natAbs q.natAbs : Nat) : Int) else ((Nat.gcd p.natAbs q.natAbs : Nat) : Int)))], ?_, fun σ' H' M => ?_⟩
    · refine ⟨_, rfl, _, _, rfl, rfl, _, rfl, ite2 (fun e => ?_) (fun e => ?_)⟩
      · have e' : q < 0 := of_decide_eq_true e
        refine ⟨_, rfl, _, rfl, ?_⟩
        rw [if_pos e']
        exact ⟨rfl, rfl⟩
      · have e' : ¬ q < 0 := fun z => e (decide_eq_true z)
        rw [if_neg e']
        exact ⟨rfl, rfl⟩
    · obtain ⟨rfl, rfl⟩ := M
      have c := ratio_common (p := p) hq
      refine ⟨_, rfl, _, rfl, _, _, rfl, rfl, ⟨c.1, Nat.lt_of_le_of_lt c.2 hs⟩, _, rfl, _, rfl, _, _, rfl, rfl, ⟨c.1, Nat.lt_of_le_of_lt c.2 hs⟩, by show 2 ≤ sizeLine; decide, fun a ha => ?_⟩
      refine Z _ a (same_upd ha) ha (SqT.of ?_)
      rw [upd_same, ← ratio_num hq, ← ratio_den hq]
theorem ok_format_ratio {f : Addr} {fd : FuncData} (F : Fun K "format_ratio" "format_ratio" s_format_ratio f fd) (m_str : mg "str" = none) : FnOk P w K mg base CX0 1 f fd ["a"] (sp_format_ratio K) := by
  refine F.ok sc_format_ratio (fun vs H Q E h => ?_) (fun cdv A outer s H vs Q E hr h => ?_)
  · obtain ⟨a, r, rfl, _⟩ := h
    rfl
  · refine ⟨_, (pss_cons (ps_asg (pv 0) (pg_tup rfl (pgs_cons (pg_name (i := 1) sc_format_ratio.nd rfl (Or.inl rfl)) (pgs_cons (pg_name (i := 2) sc_format_ratio.nd rfl (Or.inl rfl)) pgs_nil))))
      (pss_cons (ps_if (pt_cmpR op_eq (pv 2) pe_int (nomark _))
      (pss_one (ps_ret (pe_callTy call_str_int (by rfl) m_str (by decide +kernel) (pa_cons (pv 1) pa_nil))))
      pss_nil)
      (pss_one (ps_ret (pe_joined (.cons (pe_fmt (pv 1)) (.cons pe_str (.cons (pe_fmt (pv 2)) .nil)))))))), ?_⟩
    obtain ⟨a, r, rfl, ha, zr, Z⟩ := h
    have l1 : r.num.natAbs.log2 < 1920 := Nat.lt_trans (PySem.Flt.log2_lt_of (by decide) zr.1) (by decide)
    have l2 : ((r.den : Nat) : Int).natAbs.log2 < 1920 := Nat.lt_trans (PySem.Flt.log2_lt_of (by decide) zr.den) (by decide)
    have n1 := len_intL zr.1
    have n2 := TL.numL_len (n := r.den) (k := 64) (by decide) (Nat.lt_trans zr.2 (by decide))
    refine ⟨_, rfl, _, _, rfl, ha, rfl, _, _, rfl, _, _, rfl, rfl, _, rfl, rfl, _, rfl, ite2 (fun e => ?_) (fun e => ?_)⟩
    · have hd : r.den = 1 := by
        have := V.int.inj (of_decide_eq_true e)
        omega
      refine ⟨_, rfl, _, rfl, l1, ?_⟩
      have e2 : SX.S (fmtL r) = Str.ofString (toString r.num) := by
        rw [strI_S]
        unfold fmtL
        rw [if_pos hd]
      rw [e2] at Z
      exact Z
    · have hd : r.den ≠ 1 := fun z => e (decide_eq_true (by rw [z]; rfl))
      have e1 := strI_S r.num
      have e2 := SX.num_S r.den
      refine ⟨_, rfl, .inr ⟨_, rfl, l1, _, rfl, ?_, _, rfl, ?_, _, rfl, .inr ⟨_, rfl, l2, _, rfl, ?_, ?_⟩⟩⟩
      · show (SX.S [] ++ Str.ofString (toString r.num)).length ≤ sizeLine
        rw [e1, SX.S_cat, SX.S_len]
        exact sz_line (by rw [List.nil_append]; omega)
      · show (SX.S [] ++ Str.ofString (toString r.num) ++ SX.S [47]).length ≤ sizeLine
        rw [e1, SX.S_cat, SX.S_cat, SX.S_len]
        exact sz_line (by simp only [List.length_append, List.length_nil, List.length_singleton]; omega)
      · show (SX.S [] ++ Str.ofString (toString r.num) ++ SX.S [47] ++ Str.ofString (toString ((r.den : Nat) : Int))).length ≤ sizeLine
        rw [e1, e2, SX.S_cat, SX.S_cat, SX.S_cat, SX.S_len]
        exact sz_line (by simp only [List.length_append, List.length_nil, List.length_singleton]; omega)
      · have e3 : SX.S (fmtL r) = SX.S [] ++ Str.ofString (toString r.num) ++ SX.S [47] ++ Str.ofString (toString ((r.den : Nat) : Int)) := by
          rw [e1, e2, SX.S_cat, SX.S_cat, SX.S_cat]
          unfold fmtL
          rw [if_neg hd, List.nil_append, List.append_assoc]
          rfl
        rw [e3] at Z
        exact Z
theorem ok_parse_ratio {f : Addr} {fd : FuncData} {C_BadText : Addr} (F : Fun K "parse_ratio" "parse_ratio" s_parse_ratio f fd) (D__parse_digits : Dn P w K mg base (L2.CX P w) 3 "_parse_digits" (sp__parse_digits K C_BadText)) (D_ratio : Dn P w K mg base CX0 1 "ratio" (sp_ratio K)) (D_format_ratio : Dn P w K mg base CX0 1 "format_ratio" (sp_format_ratio K)) (B_BadText : BadD P w K mg base 1 C_BadText) (c_BadText : mg "BadText" = some (.ref C_BadText)) : FnOk P w K mg base (L2.CX P w) 4 f fd ["text"] (sp_parse_ratio K C_BadText) := by
  refine F.okX sc_parse_ratio (fun vs H Q E h => ?_) (fun cdv A outer s H vs Q E hr h => ?_)
  · obtain ⟨l, rfl, _⟩ := h
    rfl
  · refine ⟨_, (pss_cons (ps_asg (pe_partition (pv 0) pe_str) (pg_tup rfl (pgs_cons (pg_name (i := 1) sc_parse_ratio.nd rfl (Or.inl rfl)) (pgs_cons (pg_name (i := 2) sc_parse_ratio.nd rfl (Or.inl rfl)) (pgs_cons (pg_name (i := 3) sc_parse_ratio.nd rfl (Or.inl rfl)) pgs_nil)))))
      (pss_cons (ps_set (i := 4) sc_parse_ratio.nd rfl (Or.inl rfl) (pe_d D__parse_digits hr (by decide) (by rfl) (passes_call (takes_of rfl rfl rfl rfl) (fun _ _ _ _ h => h)) (pa_cons (pe_m1 PySem.F.slot_str_removeprefix PySem.F.type_str_removeprefix mt_removeprefix (pv 1) pe_str) pa_nil)))
      (C8.pss_cut (ps_if (pt_val (pe_m1 PySem.F.slot_str_startswith PySem.F.type_str_startswith mt_startswith (pv 1) pe_str))
      (pss_one (ps_set (i := 4) sc_parse_ratio.nd rfl (Or.inl rfl) (pe_un un_neg (pv 4))))
      pss_nil)
      (pss_cons (ps_set (i := 5) sc_parse_ratio.nd rfl (Or.inl rfl) (pe_ifExp (pt_truth (pv 2) (by intro _; rfl)) (pe_d D__parse_digits hr (by decide) (by rfl) (passes_call (takes_of rfl rfl rfl rfl) (fun _ _ _ _ h => h)) (pa_cons (pv 3) pa_nil)) pe_int))
      (pss_cons (ps_if (pt_cmpR op_eq (pv 5) pe_int (nomark _))
      (pss_one (ps_raise rfl (takes_of rfl rfl rfl rfl) (pmk_bad B_BadText hr (by decide) (by rfl) (pa_cons pe_int pa_nil))))
      pss_nil)
      (pss_cons (ps_set (i := 6) sc_parse_ratio.nd rfl (Or.inl rfl) (pe_d D_ratio hr (by decide) (by rfl) pass0 (pa_cons (pv 4) (pa_cons (pv 5) pa_nil))))
      (pss_cons (ps_if (pt_cmpR op_ne (pe_d D_format_ratio hr (by decide) (by rfl) pass0 (pa_cons (pv 6) pa_nil)) (pv 0) (nomark _))
      (pss_one (ps_raise rfl (takes_of rfl rfl rfl rfl) (pmk_bad B_BadText hr (by decide) (by rfl) (pa_cons pe_int pa_nil))))
      pss_nil)
      (pss_one (ps_ret (pv 6)))))))))), ?_⟩
    obtain ⟨l, rfl, ha, hl, Z, hE⟩ := h
    obtain ⟨t, s, b, hpart, ht, hb, lt, lb, hs, p1, p2, p3, p4⟩ := parse_shape l
    refine ⟨_, rfl, ⟨_, rfl⟩, _, _, rfl, rfl, rfl, sz_line (by rw [SX.S_len]; exact hl), fun p np => ?_⟩
    have hT : SqT K (upd H p (.tup [.str (Txt.partition (SX.S l) (SX.S [47])).1, .str (Txt.partition (SX.S l) (SX.S [47])).2.1, .str (Txt.partition (SX.S l) (SX.S [47])).2.2])) p [.str (SX.S t), .str (SX.S s), .str (SX.S b)] := by
      rw [hpart]
      exact SqT.of upd_same
    have s1 : Same H (upd H p (.tup [.str (Txt.partition (SX.S l) (SX.S [47])).1, .str (Txt.partition (SX.S l) (SX.S [47])).2.1, .str (Txt.partition (SX.S l) (SX.S [47])).2.2])) := same_upd np
    refine ⟨_, _, rfl, hT, rfl, _, _, rfl, _, _, rfl, _, _, rfl, rfl, ?_⟩
    refine ⟨_, rfl, ⟨_, rfl⟩, _, _, rfl, rfl, sz_line (by rw [SX.S_len]; omega), noMinus t, congrArg (fun x => [V.str x]) (remove_S t), fun c hc => ha c (ht c (noMinus_sub c hc)), ?_, fun n hn => ?_, fun hn => (hE (p1 hn)).same s1⟩
    · unfold noMinus
      split
      · rw [List.length_tail]; omega
      · omega
    refine ⟨fun σ H1 => H1 = upd H p (.tup [.str (Txt.partition (SX.S l) (SX.S [47])).1, .str (Txt.partition (SX.S l) (SX.S [47])).2.1, .str (Txt.partition (SX.S l) (SX.S [47])).2.2]) ∧ σ = [some (.str (SX.S l)), some (.str (SX.S t)), some (.str (SX.S s)), some (.str (SX.S b)), some (.int (signed (minus t) n)), none, none], ?_, ?_⟩
    · refine ⟨_, rfl, ⟨_, rfl⟩, _, _, rfl, rfl, minus t, congrArg V.bl (starts_S t), ite2 (fun e => ?_) (fun e => ?_)⟩
      · refine ⟨_, rfl, _, rfl, rfl, ?_⟩
        rw [e]
        rfl
      · have e' : minus t = false := by cases h : minus t with
          | true => exact absurd h e
          | false => rfl
        rw [e']
        exact ⟨rfl, rfl⟩
    rintro σ H1 ⟨e1, rfl⟩
    rw [← e1] at s1
    have nlt := digN_lt hn
    rcases hs with es | es
    · subst es
      refine ⟨_, rfl, false, ⟨Nat.zero_le _, rfl⟩, ?_⟩
      have hp := p2 n hn rfl
      have hz : Sz 210 (Rat.divInt (signed (minus t) n) ((1 : Nat) : Int)) := divInt_sz (by decide) (by rw [signed_abs]; exact Nat.lt_of_lt_of_le nlt (by decide)) (by decide)
      refine ⟨_, rfl, rfl, _, rfl, ite2 (fun e => absurd (V.int.inj (of_decide_eq_true e)) (by decide)) (fun e => ?_)⟩
      refine ⟨_, rfl, _, rfl, _, ((1 : Nat) : Int), rfl, by decide, Nat.lt_of_lt_of_le (show _ < 10 ^ 60 by decide) (Nat.le_trans (show 10 ^ 60 ≤ 2 ^ 210 by decide) (Nat.pow_le_pow_right (by decide) (by decide))), fun H' a s2 na hF => ?_⟩
      refine ⟨_, rfl, _, _, rfl, hF, hz, _, rfl, rfl, _, rfl, ?_⟩
      by_cases ef : fmtL (Rat.divInt (signed (minus t) n) ((1 : Nat) : Int)) = l
      · refine iteNS (congrArg V.str (congrArg SX.S ef)) ?_
        refine ⟨_, rfl, Z _ ?_ _ _ (s1.trans s2) (s1.free na) hF⟩
        rw [hp]
        unfold found
        rw [if_pos ef]
      · refine ite2 (fun e => ?_) (fun e => absurd ?_ e)
        · refine bad_made B_BadText.c (by decide) ((hE ?_).same (s1.trans s2))
          rw [hp]
          unfold found
          rw [if_neg ef]
        · rw [decide_eq_false (fun z => ef (SX.S_inj (V.str.inj z)))]
          rfl
    · subst es
      refine ⟨_, rfl, true, ⟨sz_line (by rw [SX.S_len]; decide), rfl⟩, _, rfl, b, rfl, fun c hc => ha c (hb c hc), by omega, fun q hq => ?_, fun hq => (hE (p3 n hn rfl hq)).same s1⟩
      have hp := p4 n q hn rfl hq
      have qlt := digN_lt hq
      refine ⟨_, rfl, rfl, _, rfl, ite2 (fun e => ?_) (fun e => ?_)⟩
      · refine bad_made B_BadText.c (by decide) ((hE ?_).same s1)
        rw [hp, if_pos (by have := V.int.inj (of_decide_eq_true e); omega)]
      · have q0 : q ≠ 0 := fun z => e (decide_eq_true (by rw [z]; rfl))
        rw [if_neg q0] at hp
        have hz : Sz 210 (Rat.divInt (signed (minus t) n) (q : Int)) := divInt_sz (by omega) (by rw [signed_abs]; exact Nat.lt_of_lt_of_le nlt (by decide)) (by rw [Int.natAbs_natCast]; exact Nat.lt_of_lt_of_le qlt (by decide))
        refine ⟨_, rfl, _, rfl, _, (q : Int), rfl, by omega, Nat.lt_of_lt_of_le (show _ < 10 ^ 60 by omega) (Nat.le_trans (show 10 ^ 60 ≤ 2 ^ 210 by decide) (Nat.pow_le_pow_right (by decide) (by decide))), fun H' a s2 na hF => ?_⟩
        refine ⟨_, rfl, _, _, rfl, hF, hz, _, rfl, rfl, _, rfl, ?_⟩
        by_cases ef : fmtL (Rat.divInt (signed (minus t) n) (q : Int)) = l
        · refine iteNS (congrArg V.str (congrArg SX.S ef)) ?_
          refine ⟨_, rfl, Z _ ?_ _ _ (s1.trans s2) (s1.free na) hF⟩
          rw [hp]
          unfold found
          rw [if_pos ef]
        · refine ite2 (fun e => ?_) (fun e => absurd ?_ e)
          · refine bad_made B_BadText.c (by decide) ((hE ?_).same (s1.trans s2))
            rw [hp]
            unfold found
            rw [if_neg ef]
          · rw [decide_eq_false (fun z => ef (SX.S_inj (V.str.inj z)))]
            rfl
theorem ok__law_told {f : Addr} {fd : FuncData} {C_BadText C_BookError C_NotAllowed C_UnknownName : Addr} (F : Fun K "_law_told" "_law_told" s__law_told f fd) (D_parse_ratio : Dn P w K mg base (L2.CX P w) 4 "parse_ratio" (sp_parse_ratio K C_BadText)) (m_isinstance : mg "isinstance" = none) (m_ValueError : mg "ValueError" = none) (B_BadText : BadD P w K mg base 1 C_BadText) (c_BadText : mg "BadText" = some (.ref C_BadText)) (c_UnknownName : mg "UnknownName" = some (.ref C_UnknownName)) (c_NotAllowed : mg "NotAllowed" = some (.ref C_NotAllowed)) (c_BookError : mg "BookError" = some (.ref C_BookError)) (k_U : PySem.W.kitOne K (.ref C_BadText) (.ref C_UnknownName) = some false) (k_N : PySem.W.kitOne K (.ref C_BadText) (.ref C_NotAllowed) = some false) (k_B : PySem.W.kitOne K (.ref C_BadText) (.ref C_BookError) = some true) (k_V : PySem.W.kitOne K (.ref C_BadText) (.type "ValueError") = some true) : FnOk P w K mg base CX0 5 f fd ["text"] (sp__law_told K) := by
  refine F.ok sc__law_told (fun vs H Q E h => ?_) (fun cdv A outer s H vs Q E hr h => ?_)
  · obtain ⟨l, rfl, _⟩ := h
    rfl
  · refine ⟨_, (pss_one (ps_try_as (i := 1) rfl rfl sc__law_told.nd rfl rfl ⟨rfl, by decide, .inl c_BadText⟩ takes0 (fun W pn xe tk _ => (pss_one (ps_ret (pe_tup (pa_cons pe_bl (pa_cons (pe_dS D_parse_ratio hr (by decide) (by rfl) (fun σ => passAt tk σ) (pa_cons (pv 0) pa_nil)) pa_nil)))))) (fun a oe cls d pn hz hf => (C8.pss_cut (ps_if (PW.pt (pw_or (pt_val (pe_callB (call_isD B_BadText.c.e hz hf) (by rfl) m_isinstance (by decide +kernel) (pa_cons (pv 1) (pa_cons (pe_glob (v := .ref C_UnknownName) rfl c_UnknownName rfl) pa_nil)))) (pw_or1 (pt_val (pe_callB (call_isD B_BadText.c.e hz hf) (by rfl) m_isinstance (by decide +kernel) (pa_cons (pv 1) (pa_cons (pe_glob (v := .ref C_NotAllowed) rfl c_NotAllowed rfl) pa_nil)))))))
      (pss_one (ps_ret (pe_tup (pa_cons pe_bl (pa_cons pe_non pa_nil)))))
      pss_nil)
      (C8.pss_cut (ps_if (PW.pt (pw_or (pt_not (pt_val (pe_callB (call_isD B_BadText.c.e hz hf) (by rfl) m_isinstance (by decide +kernel) (pa_cons (pv 1) (pa_cons (pe_glob (v := .ref C_BookError) rfl c_BookError rfl) pa_nil))))) (pw_or1 (pt_not (pt_val (pe_callB (call_isD B_BadText.c.e hz hf) (by rfl) m_isinstance (by decide +kernel) (pa_cons (pv 1) (pa_cons (pe_bltn (v := .ty "ValueError") (by rfl) m_ValueError (by decide +kernel) rfl) pa_nil))))))))
      (pss_one (ps_ret (pe_tup (pa_cons pe_bl (pa_cons pe_non pa_nil)))))
      pss_nil)
      (pss_one (ps_ret (pe_tup (pa_cons pe_bl (pa_cons (pe_xf B_BadText.c.x B_BadText.c.noAt hz hf (pv 1)) pa_nil)))))))))), ?_⟩
    obtain ⟨l, rfl, hl, Z, N⟩ := h
    refine ⟨_, rfl, l, rfl, hl.1, Nat.le_trans hl.2 (by decide), fun r hr2 H' b s2 nb hF => ?_, fun hn d H' s2 nd hd => ?_⟩
    · refine ⟨(show 2 ≤ sizeLine by decide), fun p np => Z r hr2 p b _ (s2.trans (same_upd np)) (s2.free np) nb (IsF.new np hF) (SqT.of upd_same)⟩
    · refine ⟨true, B_BadText.c.te, fun _ a na => ?_, fun q => Bool.noConfusion q⟩
      refine ⟨fun σ H3 => H3 = H' ∧ σ = [some (.str (SX.S l)), some (.ref a)], ?_, ?_⟩
      · refine ⟨_, rfl, rfl, d, rfl, _, _, _, _, rfl, (fun u r => r), k_U, hd, _, rfl, ?_⟩
        exact ⟨_, rfl, rfl, d, rfl, _, _, _, _, rfl, (fun u r => r), k_N, hd, _, rfl, rfl, rfl⟩
      rintro σ H3 ⟨rfl, rfl⟩
      refine ⟨fun σ H4 => H4 = H3 ∧ σ = [some (.str (SX.S l)), some (.ref a)], ?_, ?_⟩
      · refine ⟨_, rfl, rfl, d, rfl, _, _, _, _, rfl, (fun u r => r), k_B, hd, _, rfl, ?_⟩
        exact ⟨_, rfl, rfl, d, rfl, _, _, _, _, rfl, (fun u r => r), k_V, hd, _, rfl, rfl, rfl⟩
      rintro σ H4 ⟨rfl, rfl⟩
      refine ⟨_, rfl, rfl, rfl, d, _, _, rfl, hd, rfl, (show 2 ≤ sizeLine by decide), fun p np => ?_⟩
      exact N hn p _ (s2.trans (same_upd np)) (s2.free np) (SqT.of upd_same)
theorem ok__law_is_integer {f : Addr} {fd : FuncData} (F : Fun K "_law_is_integer" "_law_is_integer" s__law_is_integer f fd) (m_isinstance : mg "isinstance" = none) (m_int : mg "int" = none) (m_bool : mg "bool" = none) : FnOk P w K mg base CX0 1 f fd ["x"] (sp__law_is_integer K) := by
  refine F.ok sc__law_is_integer (fun vs H Q E h => ?_) (fun cdv A outer s H vs Q E hr h => ?_)
  · obtain ⟨i, rfl, _⟩ := h
    rfl
  · refine ⟨_, (pss_one (ps_ret (pe_and (pe_callB call_isi (by rfl) m_isinstance (by decide +kernel) (pa_cons (pv 0) (pa_cons (pe_bltn (v := .ty "int") (by rfl) m_int (by decide +kernel) rfl) pa_nil))) (pe_one (pe_not (pe_callB call_isi (by rfl) m_isinstance (by decide +kernel) (pa_cons (pv 0) (pa_cons (pe_bltn (v := .ty "bool") (by rfl) m_bool (by decide +kernel) rfl) pa_nil)))))))), ?_⟩
    obtain ⟨i, rfl, Z⟩ := h
    refine ⟨_, rfl, _, _, _, _, true, rfl, .ty _, .base (.int i), kit_ty (by decide +kernel), true, rfl, iteT ?_⟩
    refine ⟨_, rfl, _, _, _, _, false, rfl, .ty _, .base (.int i), kit_ty (by decide +kernel), false, rfl, ?_⟩
    exact Z
theorem ok_law {f : Addr} {fd : FuncData} (F : Fun K "law" "law" s_law f fd) (D__law_text : Dn P w K mg base CX0 4 "_law_text" (sp__law_text K)) (D__law_read : Dn P w K mg base CX0 2 "_law_read" (sp__law_read K)) (D__law_row : Dn P w K mg base CX0 1 "_law_row" (sp__law_row K)) (D__law_told : Dn P w K mg base CX0 5 "_law_told" (sp__law_told K)) (D__law_is_integer : Dn P w K mg base CX0 1 "_law_is_integer" (sp__law_is_integer K)) (m_range : mg "range" = none) (m_isinstance : mg "isinstance" = none) (m_tuple : mg "tuple" = none) (m_len : mg "len" = none) : FnOk P w K mg base CX0 6 f fd ["script"] (sp_law K) := by
  refine F.ok sc_law (fun vs H Q E h => ?_) (fun cdv A outer s H vs Q E hr h => ?_)
  · obtain ⟨a, ns, rfl, _⟩ := h
    rfl
  · refine ⟨_, (pss_cons (ps_set (i := 1) sc_law.nd rfl (Or.inl rfl) (pe_d D__law_text hr (by decide) (by rfl) pass0 (pa_cons (pe_d D__law_row hr (by decide) (by rfl) pass0 (pa_cons (pv 0) (pa_cons pe_int (pa_cons pe_int pa_nil)))) pa_nil)))
      (pss_cons (ps_set (i := 2) sc_law.nd rfl (Or.inl rfl) (pe_d D__law_read hr (by decide) (by rfl) pass0 (pa_cons (pv 1) pa_nil)))
      (pss_cons (ps_for PassesOwn.never rfl (pi_range1 rfl m_range (pa_cons pe_int pa_nil)) (pg_name (i := 3) sc_law.nd rfl (Or.inl rfl))
      (pss_cons (ps_asg (pe_d D__law_told hr (by decide) (by rfl) pass0 (pa_cons (pv 1) pa_nil)) (pg_tup rfl (pgs_cons (pg_name (i := 4) sc_law.nd rfl (Or.inl rfl)) (pgs_cons (pg_name (i := 5) sc_law.nd rfl (Or.inl rfl)) pgs_nil))))
      (pss_cons (ps_if (pt_cmpR op_ne (pv 4) (pe_cmpR op_notN (pv 2) pe_non (nomark _)) (nomark _))
      (pss_one (ps_ret pe_bl))
      pss_nil)
      (pss_cons (ps_if (PW.pt (pw_and (pt_cmpR op_isN (pv 2) pe_non (nomark _)) (pw_and1 (PW.pt (pw_or (pt_not (pt_val (pe_d D__law_is_integer hr (by decide) (by rfl) pass0 (pa_cons (pv 5) pa_nil)))) (pw_or1 (pt_cmpR op_ne (pv 5) pe_int (nomark _))))))))
      (pss_one (ps_ret pe_bl))
      pss_nil)
      (pss_one (ps_if (pt_cmpR op_notN (pv 2) pe_non (nomark _))
      (pss_cons (ps_if (PW.pt (pw_or (pt_not (pt_val (pe_callB call_isi (by rfl) m_isinstance (by decide +kernel) (pa_cons (pv 5) (pa_cons (pe_bltn (v := .ty "tuple") (by rfl) m_tuple (by decide +kernel) rfl) pa_nil))))) (pw_or1 (pt_cmpR op_ne (pe_callB call_len_seq (by rfl) m_len (by decide +kernel) (pa_cons (pv 5) pa_nil)) pe_int (nomark _)))))
      (pss_one (ps_ret pe_bl))
      pss_nil)
      (pss_one (ps_if (PW.pt (pw_or (pt_not (pt_val (pe_d D__law_is_integer hr (by decide) (by rfl) pass0 (pa_cons (pe_ix ix_tup (pv 5) pe_int (fun _ _ => rfl)) pa_nil)))) (pw_or (pt_not (pt_val (pe_d D__law_is_integer hr (by decide) (by rfl) pass0 (pa_cons (pe_ix ix_tup (pv 5) pe_int (fun _ _ => rfl)) pa_nil)))) (pw_or1 (pt_cmpR (op_neD hr.units) (pv 5) (pv 2) (nomark _))))))
      (pss_one (ps_ret pe_bl))
      pss_nil)))
      pss_nil))))))
      (pss_one (ps_ret pe_bl))))), ?_⟩
    obtain ⟨a, ns, rfl, hS, _, Z⟩ := h
    refine ⟨_, rfl, _, _, 0, 44, rfl, hS, by decide, fun H1 o1 row1 s1 _ hr e1 => ?_⟩
    have hR : SqL K H1 o1 (row1.map V.int) := SqL.of e1
    refine ⟨_, _, rfl, hR, hr, fun l H2 s2 hl => ?_⟩
    refine ⟨_, rfl, l, rfl, hl, fun r hr H3 b s3 nb hF => ?_, fun hn H3 s3 => ?_⟩
    · rw [read_eq] at hr
      refine ⟨_, rfl, by decide, by decide, ?_⟩
      refine for_range (lo := 0) (n := 2) (fun i σ H4 => Same H3 H4 ∧ ∃ y3 y4 y5, σ = [some (.ref a), some (.str (SX.S l)), some (.ref b), y3, y4, y5]) ⟨Same.refl _, _, _, _, rfl⟩ ?_ ?_
      · rintro i σ H4 hi ⟨s4, y3, y4, y5, rfl⟩
        refine ⟨_, rfl, l, rfl, hl, fun r' hr' a2 b2 H5 s5 na nb2 hF2 hT => ?_, fun hn => absurd (hr.symm.trans hn) (fun z => nomatch z)⟩
        obtain rfl : r = r' := Option.some.inj (hr.symm.trans hr')
        refine ⟨_, _, rfl, hT, rfl, _, _, rfl, _, _, rfl, rfl, ?_⟩
        refine ⟨_, rfl, _, rfl, rfl, rfl, _, rfl, iteNS (congrArg V.bl (by rw [decide_eq_false (fun z => nomatch z)]; rfl)) ?_⟩
        refine ⟨_, rfl, rfl, _, rfl, iteF ?_⟩
        refine ⟨_, rfl, rfl, _, rfl, iteT ?_⟩
        refine ⟨_, rfl, _, _, _, _, true, rfl, .ty _, tyT hF2, kit_ty (by decide +kernel), true, rfl, iteF ?_⟩
        refine ⟨_, rfl, _, _, rfl, .inr hF2, rfl, _, rfl, iteNS rfl ?_⟩
        refine ⟨_, rfl, _, _, _, _, rfl, rfl, hF2, rfl, _, rfl, true, rfl, iteF ?_⟩
        refine ⟨_, rfl, _, _, _, _, rfl, rfl, hF2, rfl, _, rfl, true, rfl, iteF ?_⟩
        have h5 := (hF.same s4).same s5
        refine ⟨_, rfl, _, rfl, _, _, dp_f hF2, dp_f h5, rfl, rfl, ?_⟩
        rw [SeqAt.eqv_refl _ rfl]
        exact ⟨_, rfl, s4.trans s5, _, _, _, rfl⟩
      · rintro σ H4 ⟨s4, y3, y4, y5, rfl⟩
        exact Z _
    · rw [read_eq] at hn
      refine ⟨_, rfl, by decide, by decide, ?_⟩
      refine for_range (lo := 0) (n := 2) (fun i σ H4 => Same H3 H4 ∧ ∃ y3 y4 y5, σ = [some (.ref a), some (.str (SX.S l)), some .non, y3, y4, y5]) ⟨Same.refl _, _, _, _, rfl⟩ ?_ ?_
      · rintro i σ H4 hi ⟨s4, y3, y4, y5, rfl⟩
        refine ⟨_, rfl, l, rfl, hl, fun r' hr' => absurd (hn.symm.trans hr') (fun z => nomatch z), fun hn a2 H5 s5 na hT => ?_⟩
        refine ⟨_, _, rfl, hT, rfl, _, _, rfl, _, _, rfl, rfl, ?_⟩
        refine ⟨_, rfl, _, rfl, rfl, rfl, _, rfl, iteNS rfl ?_⟩
        refine ⟨_, rfl, rfl, _, rfl, iteT ?_⟩
        refine ⟨_, rfl, _, rfl, true, rfl, iteF ?_⟩
        refine ⟨_, rfl, rfl, _, rfl, iteNS rfl ?_⟩
        refine ⟨_, rfl, rfl, _, rfl, iteF ?_⟩
        exact ⟨s4.trans s5, _, _, _, rfl⟩
      · rintro σ H4 ⟨s4, y3, y4, y5, rfl⟩
        exact Z _
end
theorem all_mk {l : PySem.W.OpenLaw} {w : World} {K : PySem.W.Frag} {h : Heap} {mg : Str → Option Value} {fa f1 f2 f3 f4 f5 f6 f7 f8 f9 f10 f11 f12 f13 f14 f15 f16 f17 f18 C_BookError C_BadText C_UnknownName C_NotAllowed : Addr} (X : K.In h) (G : h.Ns mainGlobals mg) (hfa : mg "law" = some (.ref fa))
    {od1 an1 od2 an2 od3 an3 od4 an4 od5 an5 od6 an6 od7 an7 od8 an8 od9 an9 od10 an10 od11 an11 od12 an12 od13 an13 od14 an14 od15 an15 od16 an16 od17 an17 od18 an18 : Option Addr} {sl1 sl2 sl3 sl4 sl5 sl6 sl7 sl8 sl9 sl10 sl11 sl12 sl13 sl14 sl15 sl16 sl17 sl18 : Array (Option Value)} {oc1 kV1 dc1 pm1 ct1 cd1 oc2 kV2 dc2 pm2 ct2 cd2 oc3 kV3 dc3 pm3 ct3 cd3 oc4 kV4 dc4 pm4 ct4 cd4 oc5 kV5 dc5 pm5 ct5 cd5 oc6 kV6 dc6 pm6 ct6 cd6 oc7 kV7 dc7 pm7 ct7 cd7 oc8 kV8 dc8 pm8 ct8 cd8 oc9 kV9 dc9 pm9 ct9 cd9 oc10 kV10 dc10 pm10 ct10 cd10 oc11 kV11 dc11 pm11 ct11 cd11 oc12 kV12 dc12 pm12 ct12 cd12 oc13 kV13 dc13 pm13 ct13 cd13 oc14 kV14 dc14 pm14 ct14 cd14 oc15 kV15 dc15 pm15 ct15 cd15 oc16 kV16 dc16 pm16 ct16 cd16 oc17 kV17 dc17 pm17 ct17 cd17 oc18 kV18 dc18 pm18 ct18 cd18 : Value}
    {tk_MOST_DIGITS : Tok}
    (aC_BookError : PySem.W.nsIn K mainGlobals "BookError" = some (some (.ref C_BookError)))
    (aC_BadText : PySem.W.nsIn K mainGlobals "BadText" = some (some (.ref C_BadText)))
    (aC_UnknownName : PySem.W.nsIn K mainGlobals "UnknownName" = some (some (.ref C_UnknownName)))
    (aC_NotAllowed : PySem.W.nsIn K mainGlobals "NotAllowed" = some (some (.ref C_NotAllowed)))
    {nmT qT : Str} {NT : Addr} {bsT : List Value} {snT : List Str} {subT : List Value} {abT : Bool} {colT : Option Bool} {ddT : Option Addr} {m0T m1T m2T m3T m5T : Option Value}
    (xL : K.lookup C_BadText = some (excClassObj nmT qT C_BadText NT bsT [.ref C_BookError, .type "ValueError", .type "Exception", .type "BaseException", .type "object"] true snT subT abT colT ddT m0T m1T m2T m3T m5T "ValueError.__new__"))
    (sa : PySem.W.findIn K (.ref C_BadText) "__setattr__" = some (some (.builtin "object.__setattr__")))
    (ga : PySem.W.findIn K (.ref C_BadText) "__getattribute__" = some (some (.builtin "BaseException.__getattribute__")))
    (gg : PySem.W.findIn K (.ref C_BadText) "__getattr__" = some none)
    (nb : PySem.W.findIn K (.ref C_BadText) "at" = some none)
    (iI : PySem.W.findIn K (.ref C_BadText) "__init__" = some (some (.ref f11)))
    (kC : PySem.W.keepIn K (.ref C_BadText) = true)
    (eC : PySem.W.subIn K (.ref C_BadText) (.type "BaseException") = some true)
    (tC : PySem.W.typeIn K (.ref C_BadText) = some (.type "type"))
    (hC : PySem.W.hasDictIn K C_BadText = true)
    (sC : PySem.W.subIn K (.ref C_BadText) (.ref C_BadText) = some true)
    (haC : PySem.W.findIn K (.ref C_BadText) "__class__" = some (some (.builtin "object.__class__")))
    (hmC : PySem.W.mroIn K C_BadText (.type "object") = some true)
    (tI : PySem.W.typeIn K (.ref f11) = some (.type "function"))
    (hnC : PySem.W.specialIn K (.builtin "object.__class__") "__get__" = some (some (.builtin "getset_descriptor.__get__")))
    (htC : PySem.W.takesIn K (.builtin "object.__class__") = some true)
    (rdB : PySem.W.readsIn K C_BookError (.type "type") = true)
    (gaB : PySem.W.specialIn K (.ref C_BookError) "__getattribute__" = some (some (.builtin "type.__getattribute__")))
    (cvB : PySem.W.findCls K (.ref C_BookError) (.type "type") "__init__" = some (.val (.builtin "ValueError.__init__")))
    (k_U : PySem.W.kitOne K (.ref C_BadText) (.ref C_UnknownName) = some false)
    (k_N : PySem.W.kitOne K (.ref C_BadText) (.ref C_NotAllowed) = some false)
    (k_B : PySem.W.kitOne K (.ref C_BadText) (.ref C_BookError) = some true)
    (k_V : PySem.W.kitOne K (.ref C_BadText) (.type "ValueError") = some true)
    (a1 : PySem.W.nsIn K mainGlobals "_law_char" = some (some (.ref f1)))
    (l1 : K.lookup f1 = some ⟨oc1, od1, .func (PySem.W.fnOf "_law_char" "_law_char" (defArgs s__law_char) (defBody s__law_char) (defScope s__law_char) .none kV1 dc1 pm1 an1 cd1 ct1), sl1⟩)
    (c1 : PySem.W.codeIn K cd1 "_law_char" = true)
    (k1 : PySem.W.keepIn K (.ref f1) = true)
    (a2 : PySem.W.nsIn K mainGlobals "_law_loose" = some (some (.ref f2)))
    (l2 : K.lookup f2 = some ⟨oc2, od2, .func (PySem.W.fnOf "_law_loose" "_law_loose" (defArgs s__law_loose) (defBody s__law_loose) (defScope s__law_loose) .none kV2 dc2 pm2 an2 cd2 ct2), sl2⟩)
    (c2 : PySem.W.codeIn K cd2 "_law_loose" = true)
    (k2 : PySem.W.keepIn K (.ref f2) = true)
    (a3 : PySem.W.nsIn K mainGlobals "_law_gcd" = some (some (.ref f3)))
    (l3 : K.lookup f3 = some ⟨oc3, od3, .func (PySem.W.fnOf "_law_gcd" "_law_gcd" (defArgs s__law_gcd) (defBody s__law_gcd) (defScope s__law_gcd) .none kV3 dc3 pm3 an3 cd3 ct3), sl3⟩)
    (c3 : PySem.W.codeIn K cd3 "_law_gcd" = true)
    (k3 : PySem.W.keepIn K (.ref f3) = true)
    (a4 : PySem.W.nsIn K mainGlobals "_law_lowest" = some (some (.ref f4)))
    (l4 : K.lookup f4 = some ⟨oc4, od4, .func (PySem.W.fnOf "_law_lowest" "_law_lowest" (defArgs s__law_lowest) (defBody s__law_lowest) (defScope s__law_lowest) .none kV4 dc4 pm4 an4 cd4 ct4), sl4⟩)
    (c4 : PySem.W.codeIn K cd4 "_law_lowest" = true)
    (k4 : PySem.W.keepIn K (.ref f4) = true)
    (a5 : PySem.W.nsIn K mainGlobals "_law_spoilt" = some (some (.ref f5)))
    (l5 : K.lookup f5 = some ⟨oc5, od5, .func (PySem.W.fnOf "_law_spoilt" "_law_spoilt" (defArgs s__law_spoilt) (defBody s__law_spoilt) (defScope s__law_spoilt) .none kV5 dc5 pm5 an5 cd5 ct5), sl5⟩)
    (c5 : PySem.W.codeIn K cd5 "_law_spoilt" = true)
    (k5 : PySem.W.keepIn K (.ref f5) = true)
    (a6 : PySem.W.nsIn K mainGlobals "_law_long" = some (some (.ref f6)))
    (l6 : K.lookup f6 = some ⟨oc6, od6, .func (PySem.W.fnOf "_law_long" "_law_long" (defArgs s__law_long) (defBody s__law_long) (defScope s__law_long) .none kV6 dc6 pm6 an6 cd6 ct6), sl6⟩)
    (c6 : PySem.W.codeIn K cd6 "_law_long" = true)
    (k6 : PySem.W.keepIn K (.ref f6) = true)
    (a7 : PySem.W.nsIn K mainGlobals "_law_text" = some (some (.ref f7)))
    (l7 : K.lookup f7 = some ⟨oc7, od7, .func (PySem.W.fnOf "_law_text" "_law_text" (defArgs s__law_text) (defBody s__law_text) (defScope s__law_text) .none kV7 dc7 pm7 an7 cd7 ct7), sl7⟩)
    (c7 : PySem.W.codeIn K cd7 "_law_text" = true)
    (k7 : PySem.W.keepIn K (.ref f7) = true)
    (a8 : PySem.W.nsIn K mainGlobals "_law_number" = some (some (.ref f8)))
    (l8 : K.lookup f8 = some ⟨oc8, od8, .func (PySem.W.fnOf "_law_number" "_law_number" (defArgs s__law_number) (defBody s__law_number) (defScope s__law_number) .none kV8 dc8 pm8 an8 cd8 ct8), sl8⟩)
    (c8 : PySem.W.codeIn K cd8 "_law_number" = true)
    (k8 : PySem.W.keepIn K (.ref f8) = true)
    (a9 : PySem.W.nsIn K mainGlobals "_law_read" = some (some (.ref f9)))
    (l9 : K.lookup f9 = some ⟨oc9, od9, .func (PySem.W.fnOf "_law_read" "_law_read" (defArgs s__law_read) (defBody s__law_read) (defScope s__law_read) .none kV9 dc9 pm9 an9 cd9 ct9), sl9⟩)
    (c9 : PySem.W.codeIn K cd9 "_law_read" = true)
    (k9 : PySem.W.keepIn K (.ref f9) = true)
    (a10 : PySem.W.nsIn K mainGlobals "_law_row" = some (some (.ref f10)))
    (l10 : K.lookup f10 = some ⟨oc10, od10, .func (PySem.W.fnOf "_law_row" "_law_row" (defArgs s__law_row) (defBody s__law_row) (defScope s__law_row) .none kV10 dc10 pm10 an10 cd10 ct10), sl10⟩)
    (c10 : PySem.W.codeIn K cd10 "_law_row" = true)
    (k10 : PySem.W.keepIn K (.ref f10) = true)
    (l11 : K.lookup f11 = some ⟨oc11, od11, .func (PySem.W.fnOf "__init__" "BadText.__init__" (defArgs s_BadText_init) (defBody s_BadText_init) (defScope s_BadText_init) .none kV11 dc11 pm11 an11 cd11 ct11), sl11⟩)
    (c11 : PySem.W.codeIn K cd11 "BadText.__init__" = true)
    (k11 : PySem.W.keepIn K (.ref f11) = true)
    (a12 : PySem.W.nsIn K mainGlobals "_parse_digits" = some (some (.ref f12)))
    (l12 : K.lookup f12 = some ⟨oc12, od12, .func (PySem.W.fnOf "_parse_digits" "_parse_digits" (defArgs s__parse_digits) (defBody s__parse_digits) (defScope s__parse_digits) .none kV12 dc12 pm12 an12 cd12 ct12), sl12⟩)
    (c12 : PySem.W.codeIn K cd12 "_parse_digits" = true)
    (k12 : PySem.W.keepIn K (.ref f12) = true)
    (a13 : PySem.W.nsIn K mainGlobals "ratio" = some (some (.ref f13)))
    (l13 : K.lookup f13 = some ⟨oc13, od13, .func (PySem.W.fnOf "ratio" "ratio" (defArgs s_ratio) (defBody s_ratio) (defScope s_ratio) .none kV13 dc13 pm13 an13 cd13 ct13), sl13⟩)
    (c13 : PySem.W.codeIn K cd13 "ratio" = true)
    (k13 : PySem.W.keepIn K (.ref f13) = true)
    (a14 : PySem.W.nsIn K mainGlobals "format_ratio" = some (some (.ref f14)))
    (l14 : K.lookup f14 = some ⟨oc14, od14, .func (PySem.W.fnOf "format_ratio" "format_ratio" (defArgs s_format_ratio) (defBody s_format_ratio) (defScope s_format_ratio) .none kV14 dc14 pm14 an14 cd14 ct14), sl14⟩)
    (c14 : PySem.W.codeIn K cd14 "format_ratio" = true)
    (k14 : PySem.W.keepIn K (.ref f14) = true)
    (a15 : PySem.W.nsIn K mainGlobals "parse_ratio" = some (some (.ref f15)))
    (l15 : K.lookup f15 = some ⟨oc15, od15, .func (PySem.W.fnOf "parse_ratio" "parse_ratio" (defArgs s_parse_ratio) (defBody s_parse_ratio) (defScope s_parse_ratio) .none kV15 dc15 pm15 an15 cd15 ct15), sl15⟩)
    (c15 : PySem.W.codeIn K cd15 "parse_ratio" = true)
    (k15 : PySem.W.keepIn K (.ref f15) = true)
    (a16 : PySem.W.nsIn K mainGlobals "_law_told" = some (some (.ref f16)))
    (l16 : K.lookup f16 = some ⟨oc16, od16, .func (PySem.W.fnOf "_law_told" "_law_told" (defArgs s__law_told) (defBody s__law_told) (defScope s__law_told) .none kV16 dc16 pm16 an16 cd16 ct16), sl16⟩)
    (c16 : PySem.W.codeIn K cd16 "_law_told" = true)
    (k16 : PySem.W.keepIn K (.ref f16) = true)
    (a17 : PySem.W.nsIn K mainGlobals "_law_is_integer" = some (some (.ref f17)))
    (l17 : K.lookup f17 = some ⟨oc17, od17, .func (PySem.W.fnOf "_law_is_integer" "_law_is_integer" (defArgs s__law_is_integer) (defBody s__law_is_integer) (defScope s__law_is_integer) .none kV17 dc17 pm17 an17 cd17 ct17), sl17⟩)
    (c17 : PySem.W.codeIn K cd17 "_law_is_integer" = true)
    (k17 : PySem.W.keepIn K (.ref f17) = true)
    (a18 : PySem.W.nsIn K mainGlobals "law" = some (some (.ref f18)))
    (l18 : K.lookup f18 = some ⟨oc18, od18, .func (PySem.W.fnOf "law" "law" (defArgs s_law) (defBody s_law) (defScope s_law) .none kV18 dc18 pm18 an18 cd18 ct18), sl18⟩)
    (c18 : PySem.W.codeIn K cd18 "law" = true)
    (k18 : PySem.W.keepIn K (.ref f18) = true)
    (z_int : PySem.W.nsIn K mainGlobals "int" = some none)
    (z_range : PySem.W.nsIn K mainGlobals "range" = some none)
    (z_len : PySem.W.nsIn K mainGlobals "len" = some none)
    (z_abs : PySem.W.nsIn K mainGlobals "abs" = some none)
    (z_str : PySem.W.nsIn K mainGlobals "str" = some none)
    (z_max : PySem.W.nsIn K mainGlobals "max" = some none)
    (z_isinstance : PySem.W.nsIn K mainGlobals "isinstance" = some none)
    (z_ValueError : PySem.W.nsIn K mainGlobals "ValueError" = some none)
    (z_bool : PySem.W.nsIn K mainGlobals "bool" = some none)
    (z_tuple : PySem.W.nsIn K mainGlobals "tuple" = some none)
    (z_gcd : PySem.W.nsIn K mainGlobals "gcd" = some (some (.builtin "math.gcd")))
    (z_MOST_DIGITS : PySem.W.nsIn K mainGlobals "MOST_DIGITS" = some (some (.int 60 tk_MOST_DIGITS)))
    : ∃ fd : FuncData, (∀ (s : Shared) (v : Value), BindsTo s fd ⟨[v], []⟩ [("script", v)]) ∧ ∀ base : Heap, K.In base → base.Ns mainGlobals mg → FnOk l.prog w K mg base CX0 6 fa fd ["script"] (sp_law K) := by
  have e := hfa.symm.trans (PySem.W.mg_of X G a18)
  cases e
  have m_int : mg "int" = none := PySem.W.mg_none_of X G z_int
  have m_range : mg "range" = none := PySem.W.mg_none_of X G z_range
  have m_len : mg "len" = none := PySem.W.mg_none_of X G z_len
  have m_abs : mg "abs" = none := PySem.W.mg_none_of X G z_abs
  have m_str : mg "str" = none := PySem.W.mg_none_of X G z_str
  have m_max : mg "max" = none := PySem.W.mg_none_of X G z_max
  have m_isinstance : mg "isinstance" = none := PySem.W.mg_none_of X G z_isinstance
  have m_ValueError : mg "ValueError" = none := PySem.W.mg_none_of X G z_ValueError
  have m_bool : mg "bool" = none := PySem.W.mg_none_of X G z_bool
  have m_tuple : mg "tuple" = none := PySem.W.mg_none_of X G z_tuple
  have m_gcd : mg "gcd" = some (.builtin "math.gcd") := PySem.W.mg_of X G z_gcd
  have m_MOST_DIGITS : ∃ u, mg "MOST_DIGITS" = some u ∧ RelV (.int 60) u := ⟨_, PySem.W.mg_of X G z_MOST_DIGITS, ⟨_, rfl⟩⟩
  have c_BookError : mg "BookError" = some (.ref C_BookError) := PySem.W.mg_of X G aC_BookError
  have c_BadText : mg "BadText" = some (.ref C_BadText) := PySem.W.mg_of X G aC_BadText
  have c_UnknownName : mg "UnknownName" = some (.ref C_UnknownName) := PySem.W.mg_of X G aC_UnknownName
  have c_NotAllowed : mg "NotAllowed" = some (.ref C_NotAllowed) := PySem.W.mg_of X G aC_NotAllowed
  have cr_BookError : ClX.CRead K C_BookError (.type "type") := ⟨rdB, gaB⟩
  have cv_BookError := cvB
  have bc : BadC K C_BadText := ⟨⟨⟨_, _, _, _, _, _, _, _, _, _, _, _, _, _, _, xL, rfl⟩, sa, eC, tC, kC⟩, nb, ⟨ga, gg, eC, hC, haC, hnC, htC, hmC⟩, PySem.W.exm_ref eC hC tC sC⟩
  refine ⟨PySem.W.fnOf "law" "law" (defArgs s_law) (defBody s_law) (defScope s_law) .none kV18 dc18 pm18 an18 cd18 ct18, fun s v => .of_eq rfl, fun base _ _ => ?_⟩
  have F1 := fun_mk (st := s__law_char) l1 c1 k1
  have D__law_char : Dn l.prog w K mg base CX0 1 "_law_char" (sp__law_char K) := ⟨_, _, _, ok__law_char F1 m_int, PySem.W.mg_of X G a1, F1.kp, F1.binds (ps := ["number"]) fun _ _ _ _ _ _ us hl => match us, hl with | [_], _ => rfl⟩
  have F2 := fun_mk (st := s__law_loose) l2 c2 k2
  have D__law_loose : Dn l.prog w K mg base CX0 2 "_law_loose" (sp__law_loose K) := ⟨_, _, _, ok__law_loose F2 D__law_char m_range m_int m_len, PySem.W.mg_of X G a2, F2.kp, F2.binds (ps := ["row"]) fun _ _ _ _ _ _ us hl => match us, hl with | [_], _ => rfl⟩
  have F3 := fun_mk (st := s__law_gcd) l3 c3 k3
  have D__law_gcd : Dn l.prog w K mg base CX0 1 "_law_gcd" (sp__law_gcd K) := ⟨_, _, _, ok__law_gcd F3 m_range m_int, PySem.W.mg_of X G a3, F3.kp, F3.binds (ps := ["a", "b"]) fun _ _ _ _ _ _ us hl => match us, hl with | [_, _], _ => rfl⟩
  have F4 := fun_mk (st := s__law_lowest) l4 c4 k4
  have D__law_lowest : Dn l.prog w K mg base CX0 2 "_law_lowest" (sp__law_lowest K) := ⟨_, _, _, ok__law_lowest F4 D__law_gcd m_abs, PySem.W.mg_of X G a4, F4.kp, F4.binds (ps := ["p", "q"]) fun _ _ _ _ _ _ us hl => match us, hl with | [_, _], _ => rfl⟩
  have F5 := fun_mk (st := s__law_spoilt) l5 c5 k5
  have D__law_spoilt : Dn l.prog w K mg base CX0 3 "_law_spoilt" (sp__law_spoilt K) := ⟨_, _, _, ok__law_spoilt F5 D__law_lowest D__law_char m_str m_max m_int m_len, PySem.W.mg_of X G a5, F5.kp, F5.binds (ps := ["row"]) fun _ _ _ _ _ _ us hl => match us, hl with | [_], _ => rfl⟩
  have F6 := fun_mk (st := s__law_long) l6 c6 k6
  have D__law_long : Dn l.prog w K mg base CX0 1 "_law_long" (sp__law_long K) := ⟨_, _, _, ok__law_long F6 m_range, PySem.W.mg_of X G a6, F6.kp, F6.binds (ps := ["row", "start", "many"]) fun _ _ _ _ _ _ us hl => match us, hl with | [_, _, _], _ => rfl⟩
  have F7 := fun_mk (st := s__law_text) l7 c7 k7
  have D__law_text : Dn l.prog w K mg base CX0 4 "_law_text" (sp__law_text K) := ⟨_, _, _, ok__law_text F7 D__law_loose D__law_spoilt D__law_long m_str m_int, PySem.W.mg_of X G a7, F7.kp, F7.binds (ps := ["row"]) fun _ _ _ _ _ _ us hl => match us, hl with | [_], _ => rfl⟩
  have F8 := fun_mk (st := s__law_number) l8 c8 k8
  have D__law_number : Dn l.prog w K mg base CX0 1 "_law_number" (sp__law_number K) := ⟨_, _, _, ok__law_number F8 m_int m_len, PySem.W.mg_of X G a8, F8.kp, F8.binds (ps := ["text"]) fun _ _ _ _ _ _ us hl => match us, hl with | [_], _ => rfl⟩
  have F9 := fun_mk (st := s__law_read) l9 c9 k9
  have D__law_read : Dn l.prog w K mg base CX0 2 "_law_read" (sp__law_read K) := ⟨_, _, _, ok__law_read F9 D__law_number D__law_gcd m_len, PySem.W.mg_of X G a9, F9.kp, F9.binds (ps := ["text"]) fun _ _ _ _ _ _ us hl => match us, hl with | [_], _ => rfl⟩
  have F10 := fun_mk (st := s__law_row) l10 c10 k10
  have D__law_row : Dn l.prog w K mg base CX0 1 "_law_row" (sp__law_row K) := ⟨_, _, _, ok__law_row F10 m_range m_len m_int, PySem.W.mg_of X G a10, F10.kp, F10.binds (ps := ["script", "place", "many"]) fun _ _ _ _ _ _ us hl => match us, hl with | [_, _, _], _ => rfl⟩
  have F11 := fun_mk (st := s_BadText_init) l11 c11 k11
  have B_BadText : BadD l.prog w K mg base 1 C_BadText := ⟨bc, c_BadText, _, _, _, iI, tI, ok_BadText_init F11 c_BookError cr_BookError cv_BookError, F11.binds (ps := ["self", "at"]) fun _ _ _ _ _ _ us hl => match us, hl with | [_, _], _ => rfl⟩
  have F12 := fun_mk (st := s__parse_digits) l12 c12 k12
  have D__parse_digits : Dn l.prog w K mg base (L2.CX l.prog w) 3 "_parse_digits" (sp__parse_digits K C_BadText) := ⟨_, _, _, ok__parse_digits F12 m_int m_len m_MOST_DIGITS B_BadText c_BadText, PySem.W.mg_of X G a12, F12.kp, F12.binds (ps := ["word"]) fun _ _ _ _ _ _ us hl => match us, hl with | [_], _ => rfl⟩
  have F13 := fun_mk (st := s_ratio) l13 c13 k13
  have D_ratio : Dn l.prog w K mg base CX0 1 "ratio" (sp_ratio K) := ⟨_, _, _, ok_ratio F13 m_gcd, PySem.W.mg_of X G a13, F13.kp, F13.binds (ps := ["p", "q"]) fun _ _ _ _ _ _ us hl => match us, hl with | [_, _], _ => rfl⟩
  have F14 := fun_mk (st := s_format_ratio) l14 c14 k14
  have D_format_ratio : Dn l.prog w K mg base CX0 1 "format_ratio" (sp_format_ratio K) := ⟨_, _, _, ok_format_ratio F14 m_str, PySem.W.mg_of X G a14, F14.kp, F14.binds (ps := ["a"]) fun _ _ _ _ _ _ us hl => match us, hl with | [_], _ => rfl⟩
  have F15 := fun_mk (st := s_parse_ratio) l15 c15 k15
  have D_parse_ratio : Dn l.prog w K mg base (L2.CX l.prog w) 4 "parse_ratio" (sp_parse_ratio K C_BadText) := ⟨_, _, _, ok_parse_ratio F15 D__parse_digits D_ratio D_format_ratio B_BadText c_BadText, PySem.W.mg_of X G a15, F15.kp, F15.binds (ps := ["text"]) fun _ _ _ _ _ _ us hl => match us, hl with | [_], _ => rfl⟩
  have F16 := fun_mk (st := s__law_told) l16 c16 k16
  have D__law_told : Dn l.prog w K mg base CX0 5 "_law_told" (sp__law_told K) := ⟨_, _, _, ok__law_told F16 D_parse_ratio m_isinstance m_ValueError B_BadText c_BadText c_UnknownName c_NotAllowed c_BookError k_U k_N k_B k_V, PySem.W.mg_of X G a16, F16.kp, F16.binds (ps := ["text"]) fun _ _ _ _ _ _ us hl => match us, hl with | [_], _ => rfl⟩
  have F17 := fun_mk (st := s__law_is_integer) l17 c17 k17
  have D__law_is_integer : Dn l.prog w K mg base CX0 1 "_law_is_integer" (sp__law_is_integer K) := ⟨_, _, _, ok__law_is_integer F17 m_isinstance m_int m_bool, PySem.W.mg_of X G a17, F17.kp, F17.binds (ps := ["x"]) fun _ _ _ _ _ _ us hl => match us, hl with | [_], _ => rfl⟩
  have F18 := fun_mk (st := s_law) l18 c18 k18
  exact ok_law F18 D__law_text D__law_read D__law_row D__law_told D__law_is_integer m_range m_isinstance m_tuple m_len
end BB
open PySem PySem.W PyProof.Rows
set_option maxHeartbeats 0 in
theorem PySem.Challenge.cw_buybook_k05_texts_that_are_no_fraction_holds : PySem.Challenge.rw_buybook_k05_texts_that_are_no_fraction.Holds := by
  w_on; o_law; k_head; (case hw => w_witness2)
  k_fill
  refine L2.walk_of (l := PySem.Challenge.rw_buybook_k05_texts_that_are_no_fraction) (n := 63) (k := 6) (x := "script") (CX := fun _ => L2.CX0) (sp := fun w => BB.sp_law _) rfl (by decide) rfl ⟨rfl, by decide, by decide⟩ (fun w h Y => PySem.W.kIn_of Y) ?F (fun _ _ a ns hl _ hS => ⟨a, ns, rfl, hS, hl, fun _ => rfl⟩) (fun _ _ _ _ _ h => h)
  case F =>
    intro w mg fa h KX G hmg
    refine' BB.all_mk KX G hmg ?aC_BookError ?aC_BadText ?aC_UnknownName ?aC_NotAllowed ?xL ?sa ?ga ?gg ?nb ?iI ?kC ?eC ?tC ?hC ?sC ?haC ?hmC ?tI ?hnC ?htC ?rdB ?gaB ?cvB ?k_U ?k_N ?k_B ?k_V ?a1 ?l1 ?c1 ?k1 ?a2 ?l2 ?c2 ?k2 ?a3 ?l3 ?c3 ?k3 ?a4 ?l4 ?c4 ?k4 ?a5 ?l5 ?c5 ?k5 ?a6 ?l6 ?c6 ?k6 ?a7 ?l7 ?c7 ?k7 ?a8 ?l8 ?c8 ?k8 ?a9 ?l9 ?c9 ?k9 ?a10 ?l10 ?c10 ?k10 ?l11 ?c11 ?k11 ?a12 ?l12 ?c12 ?k12 ?a13 ?l13 ?c13 ?k13 ?a14 ?l14 ?c14 ?k14 ?a15 ?l15 ?c15 ?k15 ?a16 ?l16 ?c16 ?k16 ?a17 ?l17 ?c17 ?k17 ?a18 ?l18 ?c18 ?k18 ?z_int ?z_range ?z_len ?z_abs ?z_str ?z_max ?z_isinstance ?z_ValueError ?z_bool ?z_tuple ?z_gcd ?z_MOST_DIGITS
    (case aC_BookError => k_is); (case aC_BadText => k_is); (case aC_UnknownName => k_is); (case aC_NotAllowed => k_is); (case xL => k_is); (case sa => k_is); (case ga => k_is); (case gg => k_is); (case nb => k_is); (case iI => k_is); (case kC => k_is); (case eC => k_is); (case tC => k_is); (case hC => k_is); (case sC => k_is); (case haC => k_is); (case hmC => k_is); (case tI => k_is); (case hnC => k_is); (case htC => k_is); (case rdB => k_is); (case gaB => k_is); (case cvB => k_is); (case k_U => kit_is); (case k_N => kit_is); (case k_B => kit_is); (case k_V => kit_is); (case a1 => k_is); (case l1 => k_is); (case c1 => k_is); (case k1 => k_is); (case a2 => k_is); (case l2 => k_is); (case c2 => k_is); (case k2 => k_is); (case a3 => k_is); (case l3 => k_is); (case c3 => k_is); (case k3 => k_is); (case a4 => k_is); (case l4 => k_is); (case c4 => k_is); (case k4 => k_is); (case a5 => k_is); (case l5 => k_is); (case c5 => k_is); (case k5 => k_is); (case a6 => k_is); (case l6 => k_is); (case c6 => k_is); (case k6 => k_is); (case a7 => k_is); (case l7 => k_is); (case c7 => k_is); (case k7 => k_is); (case a8 => k_is); (case l8 => k_is); (case c8 => k_is); (case k8 => k_is); (case a9 => k_is); (case l9 => k_is); (case c9 => k_is); (case k9 => k_is); (case a10 => k_is); (case l10 => k_is); (case c10 => k_is); (case k10 => k_is); (case l11 => k_is); (case c11 => k_is); (case k11 => k_is); (case a12 => k_is); (case l12 => k_is); (case c12 => k_is); (case k12 => k_is); (case a13 => k_is); (case l13 => k_is); (case c13 => k_is); (case k13 => k_is); (case a14 => k_is); (case l14 => k_is); (case c14 => k_is); (case k14 => k_is); (case a15 => k_is); (case l15 => k_is); (case c15 => k_is); (case k15 => k_is); (case a16 => k_is); (case l16 => k_is); (case c16 => k_is); (case k16 => k_is); (case a17 => k_is); (case l17 => k_is); (case c17 => k_is); (case k17 => k_is); (case a18 => k_is); (case l18 => k_is); (case c18 => k_is); (case k18 => k_is); (case z_int => k_is); (case z_range => k_is); (case z_len => k_is); (case z_abs => k_is); (case z_str => k_is); (case z_max => k_is); (case z_isinstance => k_is); (case z_ValueError => k_is); (case z_bool => k_is); (case z_tuple => k_is); (case z_gcd => k_is); (case z_MOST_DIGITS => k_is)
