import PyProof.Rows.All
import Wide.All
import OpenK.AllK
import Wide.FinOn
import PySem.Challenge.RW_buybook_k06_rows
import HandS.ForMost
import HandS.Gcd
import HandS.Wide
import HandS.WideBits
import HandS.IsInst
import HandS.Codes
import HandS.Zip
set_option Elab.async false
set_option linter.all false
set_option maxRecDepth 100000
set_option maxHeartbeats 4000000
set_option exponentiation.threshold 300
/-! Num: fractions as rational numbers; Euclid's turns. -/
namespace BB

theorem num_mul_eq {p q : Int} (hq : q ≠ 0) : (Rat.divInt p q).num * q = p * ((Rat.divInt p q).den : Int) := by
  have h := Rat.num_divInt_den (Rat.divInt p q)
  have hd : ((Rat.divInt p q).den : Int) ≠ 0 := by
    have := (Rat.divInt p q).den_nz
    omega
  exact (Rat.divInt_eq_divInt_iff hd hq).mp h

/-- what ratio reckons -/
theorem ratio_num {p q : Int} (hq : q ≠ 0) : p.fdiv (if q < 0 then -((Nat.gcd p.natAbs q.natAbs : Nat) : Int) else ((Nat.gcd p.natAbs q.natAbs : Nat) : Int)) = (Rat.divInt p q).num := by
  have hg : 0 < Nat.gcd p.natAbs q.natAbs := Nat.gcd_pos_of_pos_right _ (by omega)
  have hdp : ((Nat.gcd p.natAbs q.natAbs : Nat) : Int) ∣ p := Int.ofNat_dvd_left.mpr (Nat.gcd_dvd_left _ _)
  rw [Rat.num_divInt]
  have e : q.gcd p = Nat.gcd p.natAbs q.natAbs := by rw [Int.gcd, Nat.gcd_comm]
  rw [e]
  obtain ⟨k, hk⟩ := hdp
  generalize hG : ((Nat.gcd p.natAbs q.natAbs : Nat) : Int) = G at *
  have hG0 : G ≠ 0 := by omega
  by_cases h : q < 0
  · rw [if_pos h, Int.sign_eq_neg_one_of_neg h, hk]
    rw [show -1 * (G * k) = G * (-k) by rw [Int.mul_neg]; omega, Int.mul_ediv_cancel_left _ hG0]
    rw [show G * k = (-G) * (-k) by rw [Int.neg_mul_neg], Int.mul_fdiv_cancel_left _ (by omega)]
  · rw [if_neg h, Int.sign_eq_one_of_pos (by omega), hk, Int.one_mul, Int.mul_ediv_cancel_left _ hG0, Int.mul_fdiv_cancel_left _ hG0]

theorem ratio_den {p q : Int} (hq : q ≠ 0) : q.fdiv (if q < 0 then -((Nat.gcd p.natAbs q.natAbs : Nat) : Int) else ((Nat.gcd p.natAbs q.natAbs : Nat) : Int)) = ((Rat.divInt p q).den : Int) := by
  have hg : 0 < Nat.gcd p.natAbs q.natAbs := Nat.gcd_pos_of_pos_right _ (by omega)
  have hdq : Nat.gcd p.natAbs q.natAbs ∣ q.natAbs := Nat.gcd_dvd_right _ _
  rw [Rat.den_divInt, if_neg hq]
  have e : q.gcd p = Nat.gcd p.natAbs q.natAbs := by rw [Int.gcd, Nat.gcd_comm]
  rw [e]
  obtain ⟨k, hk⟩ := hdq
  generalize hG : Nat.gcd p.natAbs q.natAbs = G at *
  rw [hk, Nat.mul_div_cancel_left _ hg]
  by_cases h : q < 0
  · rw [if_pos h]
    have : q = (-(G : Int)) * (k : Int) := by
      have h2 : (q.natAbs : Int) = -q := by omega
      rw [hk] at h2
      rw [Int.neg_mul, ← Int.natCast_mul]; omega
    rw [this, Int.mul_fdiv_cancel_left _ (by omega)]
  · rw [if_neg h]
    have : q = (G : Int) * (k : Int) := by
      have h2 : (q.natAbs : Int) = q := by omega
      rw [hk] at h2
      rw [← Int.natCast_mul]; omega
    rw [this, Int.mul_fdiv_cancel_left _ (by omega)]

theorem ratio_common {p q : Int} (hq : q ≠ 0) : (if q < 0 then -((Nat.gcd p.natAbs q.natAbs : Nat) : Int) else ((Nat.gcd p.natAbs q.natAbs : Nat) : Int)) ≠ 0 ∧
    (if q < 0 then -((Nat.gcd p.natAbs q.natAbs : Nat) : Int) else ((Nat.gcd p.natAbs q.natAbs : Nat) : Int)).natAbs ≤ q.natAbs := by
  have hg : 0 < Nat.gcd p.natAbs q.natAbs := Nat.gcd_pos_of_pos_right _ (by omega)
  have hl : Nat.gcd p.natAbs q.natAbs ≤ q.natAbs := Nat.le_of_dvd (by omega) (Nat.gcd_dvd_right _ _)
  split <;> omega

theorem rat_add (a b : Rat) : Rat.divInt (a.num * b.den + b.num * a.den) (a.den * b.den) = a + b := by
  rw [Rat.add_def', ← Int.natCast_mul, Rat.divInt_ofNat]
theorem rat_sub (a b : Rat) : Rat.divInt (a.num * b.den - b.num * a.den) (a.den * b.den) = a - b := by
  rw [Rat.sub_def', ← Int.natCast_mul, Rat.divInt_ofNat]
theorem rat_mul (a b : Rat) : Rat.divInt (a.num * b.num) (a.den * b.den) = a * b := by
  rw [Rat.mul_def', ← Int.natCast_mul, Rat.divInt_ofNat]
theorem rat_div (a b : Rat) : Rat.divInt (a.num * b.den) (a.den * b.num) = a / b := by
  rw [Rat.div_def, Rat.inv_def, ← Rat.divInt_mul_divInt, Rat.num_divInt_den]

/-! ### sizes -/
/-- numerator and denominator below 2 ^ n -/
def Sz (n : Nat) (r : Rat) : Prop := r.num.natAbs < 2 ^ n ∧ r.den < 2 ^ n
theorem Sz.mono {n m : Nat} {r : Rat} (h : Sz n r) (k : n ≤ m) : Sz m r :=
  ⟨Nat.lt_of_lt_of_le h.1 (Nat.pow_le_pow_right (by decide) k), Nat.lt_of_lt_of_le h.2 (Nat.pow_le_pow_right (by decide) k)⟩
theorem divInt_le {p q : Int} (hq : q ≠ 0) : (Rat.divInt p q).num.natAbs ≤ p.natAbs ∧ (Rat.divInt p q).den ≤ q.natAbs := by
  constructor
  · rw [Rat.num_divInt, Int.natAbs_ediv_of_dvd ?_]
    · rw [Int.natAbs_mul]
      have : q.sign.natAbs = 1 := Int.natAbs_sign_of_ne_zero hq
      rw [this, Nat.one_mul]
      exact Nat.div_le_self _ _
    · exact Int.dvd_mul_of_dvd_right (Int.gcd_dvd_right ..)
  · rw [Rat.den_divInt, if_neg hq]
    exact Nat.div_le_self _ _
theorem divInt_sz {p q : Int} {n : Nat} (hq : q ≠ 0) (h1 : p.natAbs < 2 ^ n) (h2 : q.natAbs < 2 ^ n) : Sz n (Rat.divInt p q) :=
  ⟨Nat.lt_of_le_of_lt (divInt_le hq).1 h1, Nat.lt_of_le_of_lt (divInt_le hq).2 h2⟩
theorem mul_lt_pow {x y a b : Nat} (h1 : x < 2 ^ a) (h2 : y < 2 ^ b) : x * y < 2 ^ (a + b) := by
  rw [Nat.pow_add]; exact Nat.mul_lt_mul'' h1 h2
theorem natAbs_mul_lt {x y : Int} {a b : Nat} (h1 : x.natAbs < 2 ^ a) (h2 : y.natAbs < 2 ^ b) : (x * y).natAbs < 2 ^ (a + b) := by
  rw [Int.natAbs_mul]; exact mul_lt_pow h1 h2
theorem natAbs_add_lt {x y : Int} {a : Nat} (h1 : x.natAbs < 2 ^ a) (h2 : y.natAbs < 2 ^ a) : (x + y).natAbs < 2 ^ (a + 1) := by
  rw [Nat.pow_succ]; omega
theorem natAbs_sub_lt {x y : Int} {a : Nat} (h1 : x.natAbs < 2 ^ a) (h2 : y.natAbs < 2 ^ a) : (x - y).natAbs < 2 ^ (a + 1) := by
  rw [Nat.pow_succ]; omega
theorem Sz.den {n : Nat} {r : Rat} (h : Sz n r) : ((r.den : Int)).natAbs < 2 ^ n := by
  have := h.2; omega
theorem den_pos (r : Rat) : (0 : Int) < (r.den : Int) := by have := r.den_nz; omega
theorem den_ne (r : Rat) : (r.den : Int) ≠ 0 := by have := r.den_nz; omega
theorem den_mul_pos (r s : Rat) : (0 : Int) < (r.den : Int) * (s.den : Int) := Int.mul_pos (den_pos r) (den_pos s)
theorem cross_lt {a b : Nat} {r s : Rat} (hr : Sz a r) (hs : Sz b s) : (r.num * (s.den : Int)).natAbs < 2 ^ (a + b) ∧ (s.num * (r.den : Int)).natAbs < 2 ^ (a + b) ∧ ((r.den : Int) * (s.den : Int)).natAbs < 2 ^ (a + b) :=
  ⟨natAbs_mul_lt hr.1 hs.den, by rw [Nat.add_comm]; exact natAbs_mul_lt hs.1 hr.den, natAbs_mul_lt hr.den hs.den⟩
theorem Sz.add {a b : Nat} {r s : Rat} (hr : Sz a r) (hs : Sz b s) : Sz (a + b + 1) (r + s) := by
  obtain ⟨h1, h2, h3⟩ := cross_lt hr hs
  rw [← rat_add]
  exact divInt_sz (Int.ne_of_gt (den_mul_pos r s)) (natAbs_add_lt h1 h2) (Nat.lt_of_lt_of_le h3 (Nat.pow_le_pow_right (by decide) (Nat.le_succ _)))
theorem Sz.sub {a b : Nat} {r s : Rat} (hr : Sz a r) (hs : Sz b s) : Sz (a + b + 1) (r - s) := by
  obtain ⟨h1, h2, h3⟩ := cross_lt hr hs
  rw [← rat_sub]
  exact divInt_sz (Int.ne_of_gt (den_mul_pos r s)) (natAbs_sub_lt h1 h2) (Nat.lt_of_lt_of_le h3 (Nat.pow_le_pow_right (by decide) (Nat.le_succ _)))
theorem Sz.mul {a b : Nat} {r s : Rat} (hr : Sz a r) (hs : Sz b s) : Sz (a + b) (r * s) := by
  rw [← rat_mul]
  exact divInt_sz (Int.ne_of_gt (den_mul_pos r s)) (natAbs_mul_lt hr.1 hs.1) (natAbs_mul_lt hr.den hs.den)
theorem Sz.neg {a : Nat} {r : Rat} (hr : Sz a r) : Sz a (-r) := ⟨by rw [Rat.neg_num, Int.natAbs_neg]; exact hr.1, by rw [Rat.neg_den]; exact hr.2⟩
theorem num_ne {r : Rat} (h : r ≠ 0) : r.num ≠ 0 := fun e => h (Rat.num_eq_zero.mp e)
theorem Sz.div {a b : Nat} {r s : Rat} (hr : Sz a r) (hs : Sz b s) (h0 : s ≠ 0) : Sz (a + b) (r / s) := by
  rw [← rat_div]
  exact divInt_sz (Int.mul_ne_zero (den_ne r) (num_ne h0)) (natAbs_mul_lt hr.1 hs.den) (natAbs_mul_lt hr.den hs.1)

/-! ### Euclid -/
/-- what stands after i turns, from a b below 2 ^ L -/
def Euc (L g i : Nat) (a b : Nat) : Prop := Nat.gcd a b = g ∧ (i % 2 = 0 → b < 2 ^ (L - i / 2)) ∧ (i % 2 = 1 → a < 2 ^ (L - i / 2) ∧ b < a)
theorem euc_start {L a b : Nat} (h : b < 2 ^ L) : Euc L (Nat.gcd a b) 0 a b := ⟨rfl, fun _ => h, fun h => by omega⟩
theorem euc_step {L g i a b : Nat} (h : Euc L g i a b) (hb : b ≠ 0) : Euc L g (i + 1) b (a % b) := by
  obtain ⟨hg, h0, h1⟩ := h
  refine ⟨?_, fun e => ?_, fun e => ?_⟩
  · rw [← hg, Nat.gcd_comm a b, Nat.gcd_rec b a, Nat.gcd_comm]
  · obtain ⟨ha, hba⟩ := h1 (by omega)
    have e1 : (i + 1) / 2 = i / 2 + 1 := by omega
    rw [e1]
    have hlt : a % b < b := Nat.mod_lt _ (by omega)
    have hle : a % b + b ≤ a := by
      have := Nat.div_add_mod a b
      have hd : 1 ≤ a / b := Nat.div_pos (by omega) (by omega)
      have : b * 1 ≤ b * (a / b) := Nat.mul_le_mul_left _ hd
      omega
    by_cases hz : L - i / 2 = 0
    · rw [hz] at ha; omega
    · rw [show L - i / 2 = (L - (i / 2 + 1)) + 1 by omega, Nat.pow_succ] at ha
      omega
  · have e1 : (i + 1) / 2 = i / 2 := by omega
    rw [e1]
    exact ⟨h0 (by omega), Nat.mod_lt _ (by omega)⟩
theorem euc_end {L g a b : Nat} (h : Euc L g (2 * L + 2) a b) : a = g := by
  obtain ⟨hg, h0, _⟩ := h
  have := h0 (by omega)
  rw [show L - (2 * L + 2) / 2 = 0 by omega] at this
  have : b = 0 := by omega
  subst this
  rw [← hg, Nat.gcd_zero_right]
theorem euc_zero {L g i a : Nat} (h : Euc L g i a 0) : a = g := by rw [← h.1, Nat.gcd_zero_right]

/-! ### rows -/
def dotR : List Rat → List Rat → Rat
  | r :: rs, s :: ss => r * s + dotR rs ss
  | _, _ => 0
theorem dotR_nil (ss : List Rat) : dotR [] ss = 0 := by cases ss <;> rfl
theorem dotR_take : ∀ (rs ss : List Rat) (i : Nat) (r s : Rat), rs[i]? = some r → ss[i]? = some s → dotR (rs.take (i + 1)) (ss.take (i + 1)) = dotR (rs.take i) (ss.take i) + r * s
  | [], _, _, _, _, h, _ => by simp at h
  | _ :: _, [], _, _, _, _, h => by simp at h
  | a :: rs, b :: ss, 0, r, s, h, h2 => by
    have e1 : a = r := Option.some.inj h
    have e2 : b = s := Option.some.inj h2
    subst e1 e2
    show a * b + dotR (rs.take 0) (ss.take 0) = dotR [] [] + a * b
    rw [List.take_zero, List.take_zero, dotR_nil]
    exact Rat.add_comm _ _
  | a :: rs, b :: ss, i + 1, r, s, h, h2 => by
    have ih := dotR_take rs ss i r s h h2
    show a * b + dotR (rs.take (i + 1)) (ss.take (i + 1)) = a * b + dotR (rs.take i) (ss.take i) + r * s
    rw [ih, Rat.add_assoc]
theorem sz_zero : Sz 1 (0 : Rat) := ⟨by decide, by decide⟩
theorem sz_one : Sz 1 (1 : Rat) := ⟨by decide, by decide⟩
theorem dotR_sz {B : Nat} : ∀ {rs ss : List Rat}, (∀ r ∈ rs, Sz B r) → (∀ s ∈ ss, Sz B s) → Sz (1 + rs.length * (2 * B + 1)) (dotR rs ss)
  | [], ss, _, _ => by rw [dotR_nil]; exact sz_zero.mono (by omega)
  | _ :: _, [], _, _ => sz_zero.mono (by omega)
  | a :: rs, b :: ss, h1, h2 => by
    have ih := dotR_sz (rs := rs) (ss := ss) (fun r hr => h1 r (List.mem_cons_of_mem _ hr)) (fun s hs => h2 s (List.mem_cons_of_mem _ hs))
    have m := (h1 a List.mem_cons_self).mul (h2 b List.mem_cons_self)
    refine (m.add ih).mono ?_
    have e : (rs.length + 1) * (2 * B + 1) = rs.length * (2 * B + 1) + (2 * B + 1) := Nat.succ_mul _ _
    rw [List.length_cons, e]
    generalize rs.length * (2 * B + 1) = n
    omega
theorem divInt_nonneg {p q : Int} (hp : 0 ≤ p) (hq : 0 < q) : 0 ≤ Rat.divInt p q := (Rat.divInt_nonneg_iff_of_pos_right hq).mpr hp
theorem divInt_pos {p q : Int} (hp : 0 < p) (hq : 0 < q) : 0 < Rat.divInt p q := by
  refine Rat.lt_of_le_of_ne (divInt_nonneg (by omega) hq) fun e => ?_
  have := num_mul_eq (p := p) (q := q) (by omega)
  rw [← e] at this
  have h2 : p = 0 := by simpa using this.symm
  omega
theorem num_pos {r : Rat} (h : 0 < r) : 0 < r.num := by
  have h1 := Rat.num_nonneg.mpr (Rat.le_of_lt h)
  have h2 : r.num ≠ 0 := num_ne fun e => by rw [e] at h; exact absurd h (by decide)
  omega
theorem num_nn {r : Rat} (h : 0 ≤ r) : 0 ≤ r.num := Rat.num_nonneg.mpr h
theorem pos_of {r : Rat} (h0 : 0 ≤ r) (h : r.num ≠ 0) : 0 < r := Rat.lt_of_le_of_ne h0 fun e => h (by rw [← e]; rfl)
theorem pow1000 (i : Nat) : 1000 ^ i ≤ 2 ^ (10 * i) := by
  rw [Nat.pow_mul]
  exact Nat.pow_le_pow_left (by decide) i
end BB

set_option maxHeartbeats 4000000
/-! Lay: short words of my own over the hand layer. -/
namespace BB
open PySem PySem.Spec PyProof.Rows L2

/-- a def of the module, by its name and its promise -/
structure Dn (P : Program) (w : World) (K : PySem.W.Frag) (mg : Str → Option Value) (base : Heap) (CX : CXT) (k : Nat) (x : Str) (sp : Sp) : Prop where
  ex : ∃ (f : Addr) (fd : FuncData) (ps : List Str), FnOk P w K mg base CX k f fd ps sp ∧ mg x = some (.ref f) ∧ PySem.W.keepIn K (.ref f) = true ∧ Binds K fd ps []

section
variable {X : Cx} {CX : CXT} {x : Str} {p pos : Pos} {e : Expr} {es : List Expr} {t : TA} {sp : Sp} {k j : Nat} {E : XK}
theorem pe_d (c : Dn X.prog X.w X.K X.mg X.base CX k x sp) (hr : Room j X.A) (hk : k ≤ j) (hg : Gl X x) (hx : Passes CX X E) (ha : PA X (e :: es) t)
    (hdb : (x == ("__debug__" : Str)) = false := by decide) (he : starEach (e :: es) X.env = (false, eval e X.env) :: starEach es X.env := by rfl) (hpl : (backTo pos (starEach es X.env)).any (·.1) = false := by rfl) :
    PE X (.Call (.Name x p) (e :: es) [] pos) (tCall sp [] E t) := by
  obtain ⟨f, fd, ps, F, hm, kp, b⟩ := c.ex
  exact pe_call F (hr.mono hk) hg hm kp b .nil hx ha hdb he hpl
end

/-! ### numbers -/
def CMulG (i j : Int) : Prop := IntMulOk i j
def CDivG (_ j : Int) : Prop := j ≠ 0 ∧ j.natAbs < 2 ^ 9000
section
variable {X : Cx}
theorem op_mulG : OpR X (binaryOp .Mult) (rI CMulG fun i j => .int (i * j)) := opI fun _ _ _ _ _ _ _ hc q => mul_int q hc
theorem op_fdivG : OpR X (binaryOp .FloorDiv) (rI CDivG fun i j => .int (i.fdiv j)) := opI fun _ j _ _ _ _ _ hc q =>
  floordiv_int hc.1 q (.inl (PyProof.noPylong_of_log2 (PySem.Flt.log2_lt_of (by decide) hc.2)))
end
theorem mulG_l {i j : Int} (h : i.natAbs < 2 ^ 60) : CMulG i j := (show CMul i j from .inl ⟨by omega, by omega⟩).ok
theorem mulG_r {i j : Int} (h : j.natAbs < 2 ^ 60) : CMulG i j := (show CMul i j from .inr ⟨by omega, by omega⟩).ok
theorem mulG_b {i j : Int} {a b : Nat} (ha : i.natAbs < 2 ^ a) (hb : j.natAbs < 2 ^ b) (h : a + b ≤ 134217728) : CMulG i j := (mulx_ok ha hb h).ok

theorem bits_lt {n L : Nat} (h : Builtin.Int.intBits (n : Int) = L) : n < 2 ^ L := by
  unfold Builtin.Int.intBits at h
  split at h
  · rename_i z
    have : n = 0 := by
      have := eq_of_beq z
      omega
    subst this
    exact Nat.pow_pos (by decide)
  · subst h
    rw [Int.natAbs_natCast]
    exact Nat.lt_log2_self
theorem bits_le {n m : Nat} (h : n < 2 ^ m) : Builtin.Int.intBits (n : Int) ≤ m + 1 := by
  unfold Builtin.Int.intBits
  split
  · omega
  · rename_i z
    rw [Int.natAbs_natCast]
    by_cases h0 : n = 0
    · subst h0; simp at z
    · have := (Nat.log2_lt h0).mpr h
      omega

/-! ### sequences, as they stand -/
theorem sqt_upd {K : PySem.W.Frag} {H : Hp} {a p : Addr} {xs : List V} {o : HO} (hp : H p = none) (h : SqT K H a xs) : SqT K (upd H p o) a xs := by
  rcases h with (h | ⟨o', h⟩) | h
  · exact .inl (.inl (by rw [upd_ne (ne_of_none h hp)]; exact h))
  · exact .inl (.inr ⟨o', by rw [upd_ne (ne_of_none h hp)]; exact h⟩)
  · exact .inr h
theorem sql_upd {K : PySem.W.Frag} {H : Hp} {a p : Addr} {xs : List V} {o : HO} (hp : H p = none) (h : SqL K H a xs) : SqL K (upd H p o) a xs := by
  rcases h with (h | ⟨o', h⟩) | h
  · exact .inl (.inl (by rw [upd_ne (ne_of_none h hp)]; exact h))
  · exact .inl (.inr ⟨o', by rw [upd_ne (ne_of_none h hp)]; exact h⟩)
  · exact .inr h
theorem sqt_same {K : PySem.W.Frag} {H H' : Hp} {a : Addr} {xs : List V} (e : Same H H') (h : SqT K H a xs) : SqT K H' a xs := by
  rcases h with (h | ⟨o', h⟩) | h
  · exact .inl (.inl (e _ _ h))
  · exact .inl (.inr ⟨o', e _ _ h⟩)
  · exact .inr h
theorem same_upd {H : Hp} {p : Addr} {o : HO} (h : H p = none) : Same H (upd H p o) := fun b x e => by
  rw [upd_ne (ne_of_none e h)]
  exact e
/-- a thing that H₀ did not know may change -/
theorem same_mut {H₀ H : Hp} {p : Addr} {o : HO} (e : Same H₀ H) (h : H₀ p = none) : Same H₀ (upd H p o) := fun b x z => by
  rw [upd_ne (ne_of_none z h)]
  exact e b x z
theorem none_upd {H : Hp} {p q : Addr} {o : HO} (h : (upd H p o) q = none) : H q = none ∧ q ≠ p := by
  by_cases e : q = p
  · subst e; rw [upd_same] at h; cases h
  · rw [upd_ne e] at h; exact ⟨h, e⟩

/-- a fraction that stands at a -/
def IsF (K : PySem.W.Frag) (H : Hp) (a : Addr) (r : Rat) : Prop := SqT K H a [.int r.num, .int (r.den : Int)]
/-- a new fraction -/
def rF (K : PySem.W.Frag) (H : Hp) (r : Rat) (Q : VK) : Prop := ∀ H' a, Same H H' → H a = none → IsF K H' a r → Q (.ref a) H'
theorem IsF.new {K : PySem.W.Frag} {H : Hp} {a p : Addr} {r : Rat} {o : HO} (hp : H p = none) (h : IsF K H a r) : IsF K (upd H p o) a r := sqt_upd hp h
theorem IsF.same {K : PySem.W.Frag} {H H' : Hp} {a : Addr} {r : Rat} (e : Same H H') (h : IsF K H a r) : IsF K H' a r := sqt_same e h
theorem tyT {K : PySem.W.Frag} {H : Hp} {a : Addr} {xs : List V} (h : SqT K H a xs) : TyX K H (.ref a) (.type "tuple") := by
  rcases h with (h | ⟨o', h⟩) | ⟨o, its, n, h, c, _⟩
  · exact .base (.tup h)
  · exact .fTuple h
  · exact .kTuple h c

theorem abs_nn (x : Int) : (0 : Int) ≤ (if x < 0 then -x else x) := by split <;> omega
theorem abs_na (x : Int) : (if x < 0 then -x else x).natAbs = x.natAbs := by split <;> omega
/-! ### drawn rows -/
def isRow (row : List Int) (m : Nat) : Prop := row.length = m ∧ ∀ v ∈ row, 0 ≤ v ∧ v < 1000
theorem isRow.snoc {row : List Int} {m : Nat} {v : Int} (h : isRow row m) (h0 : 0 ≤ v) (h1 : v < 1000) : isRow (row ++ [v]) (m + 1) := by
  refine ⟨by rw [List.length_append, h.1]; rfl, fun u hu => ?_⟩
  rcases List.mem_append.mp hu with hu | hu
  · exact h.2 u hu
  · rw [List.mem_singleton] at hu; subst hu; exact ⟨h0, h1⟩
theorem isRow.get {row : List Int} {n i : Nat} (h : isRow row n) (hi : i < n) : ∃ v, row[i]? = some v ∧ (row.map V.int)[i]? = some (.int v) ∧ 0 ≤ v ∧ v < 1000 := by
  have hl : i < row.length := by rw [h.1]; exact hi
  obtain ⟨h0, h1⟩ := h.2 _ (List.getElem_mem hl)
  exact ⟨row[i], List.getElem?_eq_getElem hl, by rw [List.getElem?_map, List.getElem?_eq_getElem hl]; rfl, h0, h1⟩
theorem isRow.at {row : List Int} {n : Nat} (h : isRow row n) (i : Nat) (hi : i < n) : ∃ v : Int, atI (row.map V.int) (i : Int) = some (.int v) ∧ 0 ≤ v ∧ v < 1000 := by
  obtain ⟨v, _, h2, h3, h4⟩ := h.get hi
  exact ⟨v, atI_nat h2, h3, h4⟩
/-- a row that grows at o -/
def RowAt (H H' : Hp) (o : Addr) (i : Nat) : Prop := H o = none ∧ Same H H' ∧ ∃ rw, isRow rw i ∧ H' o = some (.lst (rw.map V.int))
theorem RowAt.start {H : Hp} {o : Addr} (no : H o = none) : RowAt H (upd H o (.lst [])) o 0 := ⟨no, same_upd no, [], ⟨rfl, fun v hv => by cases hv⟩, upd_same⟩
theorem RowAt.push {H H' : Hp} {o : Addr} {i : Nat} {xs : List V} {z : Int} (r : RowAt H H' o i) (eo : H' o = some (.lst xs)) (h0 : 0 ≤ z) (h1 : z < 1000) : RowAt H (upd H' o (.lst (xs ++ [.int z]))) o (i + 1) := by
  obtain ⟨no, sm, rw, hr, e⟩ := r
  have e2 : xs = rw.map V.int := by
    rw [eo] at e
    exact HO.lst.inj (Option.some.inj e)
  refine ⟨no, same_mut sm no, rw ++ [z], hr.snoc h0 h1, ?_⟩
  rw [upd_same, e2, List.map_append]
  rfl

/-! ### cuts -/
theorem cut_id {D : Ends} {t u : TS} {σ : L2.St} {H : Hp} (Mid : L2.St → Hp → Prop) (h1 : t { D with nx := Mid } σ H) (h2 : ∀ σ' H', Mid σ' H' → u D σ' H') : C8.tCut t u D σ H := ⟨Mid, h1, h2⟩

/-! ### lists of fractions -/
theorem sqt_mut {K : PySem.W.Frag} {H : Hp} {a D : Addr} {xs zs : List V} {o : HO} (hD : H D = some (.lst zs)) (h : SqT K H a xs) : SqT K (upd H D o) a xs := by
  rcases h with (h | ⟨o', h⟩) | h
  · exact .inl (.inl (by rw [upd_ne (ne_of h hD (fun z => nomatch z))]; exact h))
  · exact .inl (.inr ⟨o', by rw [upd_ne (ne_of h hD (fun z => nomatch z))]; exact h⟩)
  · exact .inr h
theorem IsF.mut {K : PySem.W.Frag} {H : Hp} {a D : Addr} {r : Rat} {zs : List V} {o : HO} (hD : H D = some (.lst zs)) (h : IsF K H a r) : IsF K (upd H D o) a r := sqt_mut hD h
/-- fractions, one by one -/
def Fs (K : PySem.W.Frag) (H : Hp) (as : List Addr) (rs : List Rat) : Prop := as.length = rs.length ∧ ∀ (i : Nat) (a : Addr) (r : Rat), as[i]? = some a → rs[i]? = some r → IsF K H a r
theorem Fs.nil {K : PySem.W.Frag} {H : Hp} : Fs K H [] [] := ⟨rfl, fun i a r h _ => by simp at h⟩
theorem Fs.same {K : PySem.W.Frag} {H H' : Hp} {as : List Addr} {rs : List Rat} (e : Same H H') (h : Fs K H as rs) : Fs K H' as rs := ⟨h.1, fun i a r h1 h2 => (h.2 i a r h1 h2).same e⟩
theorem Fs.mut {K : PySem.W.Frag} {H : Hp} {D : Addr} {zs : List V} {o : HO} {as : List Addr} {rs : List Rat} (hD : H D = some (.lst zs)) (h : Fs K H as rs) : Fs K (upd H D o) as rs := ⟨h.1, fun i a r h1 h2 => (h.2 i a r h1 h2).mut hD⟩
theorem Fs.snoc {K : PySem.W.Frag} {H : Hp} {as : List Addr} {rs : List Rat} {a : Addr} {r : Rat} (h : Fs K H as rs) (x : IsF K H a r) : Fs K H (as ++ [a]) (rs ++ [r]) := by
  refine ⟨by rw [List.length_append, List.length_append, h.1]; rfl, fun i b q h1 h2 => ?_⟩
  have hl := h.1
  rcases Nat.lt_or_ge i as.length with hi | hi
  · rw [List.getElem?_append_left hi] at h1
    rw [List.getElem?_append_left (by omega)] at h2
    exact h.2 i b q h1 h2
  · rw [List.getElem?_append_right hi] at h1
    rw [List.getElem?_append_right (by omega)] at h2
    have hi2 : i - as.length = 0 := by
      have := (List.getElem?_eq_some_iff.mp h1).1
      rw [List.length_singleton] at this
      omega
    rw [hi2] at h1
    rw [show i - rs.length = 0 by omega] at h2
    have e1 : a = b := Option.some.inj h1
    have e2 : r = q := Option.some.inj h2
    rw [← e1, ← e2]
    exact x
/-- a list, at l, of these fractions -/
def FsAt (K : PySem.W.Frag) (H : Hp) (l : Addr) (rs : List Rat) : Prop := ∃ as : List Addr, SqL K H l (as.map V.ref) ∧ Fs K H as rs
theorem FsAt.same {K : PySem.W.Frag} {H H' : Hp} {l : Addr} {rs : List Rat} (e : Same H H') (h : FsAt K H l rs) : FsAt K H' l rs := let ⟨as, h1, h2⟩ := h; ⟨as, e.seq h1, h2.same e⟩
/-- the same, tracked -/
def NewFs (K : PySem.W.Frag) (H : Hp) (l : Addr) (rs : List Rat) : Prop := ∃ as : List Addr, H l = some (.lst (as.map V.ref)) ∧ Fs K H as rs
theorem NewFs.at {K : PySem.W.Frag} {H : Hp} {l : Addr} {rs : List Rat} (h : NewFs K H l rs) : FsAt K H l rs := let ⟨as, h1, h2⟩ := h; ⟨as, SqL.of h1, h2⟩
theorem NewFs.same {K : PySem.W.Frag} {H H' : Hp} {l : Addr} {rs : List Rat} (e : Same H H') (h : NewFs K H l rs) : NewFs K H' l rs := let ⟨as, h1, h2⟩ := h; ⟨as, e _ _ h1, h2.same e⟩
def rFs (K : PySem.W.Frag) (H : Hp) (rs : List Rat) (Q : VK) : Prop := ∀ H' l, Same H H' → H l = none → NewFs K H' l rs → Q (.ref l) H'
/-- its places -/
theorem Fs.get {K : PySem.W.Frag} {H : Hp} {as : List Addr} {rs : List Rat} (h : Fs K H as rs) {i : Nat} (hi : i < rs.length) : ∃ a r, as[i]? = some a ∧ (as.map V.ref)[i]? = some (.ref a) ∧ rs[i]? = some r ∧ IsF K H a r := by
  have hl : i < as.length := by rw [h.1]; exact hi
  exact ⟨as[i], rs[i], List.getElem?_eq_getElem hl, by rw [List.getElem?_map, List.getElem?_eq_getElem hl]; rfl, List.getElem?_eq_getElem hi, h.2 i _ _ (List.getElem?_eq_getElem hl) (List.getElem?_eq_getElem hi)⟩
theorem Fs.of {K : PySem.W.Frag} {H : Hp} {as : List Addr} {rs : List Rat} (h : Fs K H as rs) {i : Nat} {x : V} (hx : (as.map V.ref)[i]? = some x) : ∃ a r, x = .ref a ∧ as[i]? = some a ∧ rs[i]? = some r ∧ IsF K H a r ∧ i < rs.length := by
  have hi : i < as.length := by
    have := (List.getElem?_eq_some_iff.mp hx).1
    rw [List.length_map] at this
    exact this
  have hi2 : i < rs.length := by rw [← h.1]; exact hi
  obtain ⟨a, r, e1, e2, e3, e4⟩ := h.get hi2
  rw [hx] at e2
  exact ⟨a, r, Option.some.inj e2, e1, e3, e4, hi2⟩
/-- a list of fractions that grows at D, over H₀ -/
structure Grow (K : PySem.W.Frag) (H₀ H : Hp) (D : Addr) (rs : List Rat) : Prop where
  new : H₀ D = none
  same : Same H₀ H
  ex : NewFs K H D rs
theorem Grow.start {K : PySem.W.Frag} {H : Hp} {D : Addr} (hD : H D = none) : Grow K H (upd H D (.lst [])) D [] := ⟨hD, same_upd hD, [], upd_same, .nil⟩
theorem Grow.step {K : PySem.W.Frag} {H₀ H H1 : Hp} {D a : Addr} {rs : List Rat} {r : Rat} (g : Grow K H₀ H D rs) (s : Same H H1) (x : IsF K H1 a r) (hl : rs.length ≤ 1000) :
    ∃ acc, H1 D = some (.lst acc) ∧ acc.length < sizeLine ∧ Grow K H₀ (upd H1 D (.lst (acc ++ [.ref a]))) D (rs ++ [r]) := by
  obtain ⟨n, sm, as, e, f⟩ := g
  have e1 := s _ _ e
  refine ⟨as.map V.ref, e1, ?_, n, same_mut (sm.trans s) n, as ++ [a], ?_, ((f.same s).snoc x).mut e1⟩
  · rw [List.length_map, f.1]
    exact small1000 hl
  · rw [upd_same, List.map_append]
    rfl
theorem Grow.fs {K : PySem.W.Frag} {H₀ H : Hp} {D l : Addr} {rs ss : List Rat} (g : Grow K H₀ H D rs) (h : FsAt K H₀ l ss) : FsAt K H l ss := h.same g.same

/-- a comprehension over zip of two lists of one length -/
theorem lc_zipL {K : PySem.W.Frag} {a b : Addr} {xs ys : List V} {g : TG} {tt : TT} {te : TE} {vs : List Nat} {σ : L2.St} {H1 : Hp} {D : Addr} {Qd : Hp → Prop} (hl : xs.length = ys.length) (Pv : Nat → Hp → Prop) (h0 : Pv 0 (upd H1 D (.lst []))) (hq : ∀ i H, Pv i H → SqL K H a xs ∧ SqL K H b ys)
    (hs : ∀ (i : Nat) (x y : V) (T : Addr) (H : Hp), xs[i]? = some x → ys[i]? = some y → Pv i H → H T = none → g (.ref T) (wipe σ vs) (upd H T (.tup [x, y])) fun σ2 H2 => wipe σ2 vs = wipe σ vs ∧ tt σ2 H2 fun b H3 =>
      if b = true then te σ2 H3 fun y H4 => ∃ acc, H4 D = some (.lst acc) ∧ acc.length < sizeLine ∧ Pv (i + 1) (upd H4 D (.lst (acc ++ [y]))) else Pv (i + 1) H3) (hd : ∀ H, Pv xs.length H → Qd H) :
    ∃ W : Nat → Nat → Hp → Prop, (∃ m, W 0 m (upd H1 D (.lst []))) ∧ ∀ i m H, W i m H →
      ((Itz K a b).stop i H ∧ Qd H) ∨ ((Itz K a b).go i H ∧ ∃ Nx : Hp → Prop, (∀ H', Nx H' → ∃ m', m' < m ∧ W (i + 1) m' H') ∧ ∀ x H', (Itz K a b).yld i H x H' → g x (wipe σ vs) H' fun σ2 H2 => wipe σ2 vs = wipe σ vs ∧ tt σ2 H2 fun b H3 =>
        if b = true then te σ2 H3 fun y H4 => ∃ acc, H4 D = some (.lst acc) ∧ acc.length < sizeLine ∧ Nx (upd H4 D (.lst (acc ++ [y]))) else Nx H3) := by
  refine ⟨fun i m H => m = xs.length - i ∧ i ≤ xs.length ∧ Pv i H, ⟨xs.length, rfl, Nat.zero_le _, h0⟩, ?_⟩
  rintro i m H ⟨rfl, hi, p⟩
  obtain ⟨qx, qy⟩ := hq i H p
  by_cases hlt : i < xs.length
  · have hx : xs[i]? = some xs[i] := List.getElem?_eq_getElem hlt
    have hlt2 : i < ys.length := by omega
    have hy : ys[i]? = some ys[i] := List.getElem?_eq_getElem hlt2
    refine .inr ⟨⟨xs, ys, _, _, qx, qy, hx, hy⟩, Pv (i + 1), fun H' p' => ⟨xs.length - (i + 1), by omega, rfl, hlt, p'⟩, fun v H' y => ?_⟩
    obtain ⟨T, x', y', rfl, hT, rfl, f1, f2⟩ := y
    exact hs i x' y' T H (f1 xs qx) (f2 ys qy) p hT
  · have e : i = xs.length := by omega
    subst e
    exact .inl ⟨⟨xs, ys, qx, qy, Or.inl (Nat.le_refl _)⟩, hd H p⟩

/-! ### data, for == -/
def fD (r : Rat) : PyData := .tuple [.int r.num, .int (r.den : Int)]
theorem dp_f {K : PySem.W.Frag} {H : Hp} {a : Addr} {r : Rat} (h : IsF K H a r) : Dp K H (.ref a) (fD r) := .tup h (.cons (.int _) (.cons (.int _) .nil))
theorem dpAll_f {K : PySem.W.Frag} {H : Hp} : ∀ (as : List Addr) (rs : List Rat), Fs K H as rs → DpAll K H (as.map V.ref) (rs.map fD)
  | [], [], _ => .nil
  | [], _ :: _, h => by have := h.1; simp at this
  | _ :: _, [], h => by have := h.1; simp at this
  | a :: as, r :: rs, h => .cons (dp_f (h.2 0 a r rfl rfl)) (dpAll_f as rs ⟨by have := h.1; simp at this; exact this, fun i b q h1 h2 => h.2 (i + 1) b q h1 h2⟩)
theorem dp_fs {K : PySem.W.Frag} {H : Hp} {l : Addr} {rs : List Rat} (h : FsAt K H l rs) : Dp K H (.ref l) (.list (rs.map fD)) := let ⟨_, h1, h2⟩ := h; .lst h1 (dpAll_f _ _ h2)
theorem canLay_f : ∀ rs : List Rat, PyData.canLayAll0 (rs.map fD) = true
  | [] => rfl
  | r :: rs => by
    show (PyData.canLay0 (fD r) && PyData.canLayAll0 (rs.map fD)) = true
    rw [canLay_f rs]
    rfl
theorem depth_f : ∀ rs : List Rat, PyData.depthAll (rs.map fD) ≤ 1
  | [] => Nat.zero_le _
  | r :: rs => by
    show max (PyData.depth (fD r)) (PyData.depthAll (rs.map fD)) ≤ 1
    exact Nat.max_le.mpr ⟨Nat.le_refl 1, depth_f rs⟩
theorem shaped_fs (rs : List Rat) : SeqAt.shaped (.list (rs.map fD)) = true := by
  unfold SeqAt.shaped
  rw [show PyData.canLay0 (.list (rs.map fD)) = PyData.canLayAll0 (rs.map fD) from rfl, canLay_f, Bool.true_and]
  refine decide_eq_true ?_
  show PyData.depthAll (rs.map fD) + 1 ≤ 64
  have := depth_f rs
  omega
theorem eqv_fs (rs : List Rat) : PyData.eqv (.list (rs.map fD)) (.list (rs.map fD)) = true := SeqAt.eqv_refl _ (canLay_f rs)

/-- a text, sign by sign -/
theorem for_sgn {x : Str} {g : TG} {tb : TS} {D : Ends} {σ : L2.St} {H : Hp} (Pv : Nat → L2.St → Hp → Prop) (h0 : Pv 0 σ H)
    (turn : ∀ (i c : Nat) (σ : L2.St) (H : Hp), x.cps[i]? = some c → Pv i σ H → g (.str ⟨#[c]⟩) σ H fun σ2 H2 => tb { D with nx := Pv (i + 1), ct := Pv (i + 1), bk := D.nx } σ2 H2) (fin : ∀ σ H, Pv x.cps.size σ H → D.nx σ H) :
    ∃ W : Nat → Nat → L2.St → Hp → Prop, (∃ m, W 0 m σ H) ∧ ∀ i m σ H, W i m σ H →
      ((Its x).stop i H ∧ D.nx σ H) ∨ ((Its x).go i H ∧ ∃ N : L2.St → Hp → Prop, (∀ σ' H', N σ' H' → ∃ m', m' < m ∧ W (i + 1) m' σ' H') ∧ ∀ v H', (Its x).yld i H v H' → g v σ H' fun σ2 H2 => tb { D with nx := N, ct := N, bk := D.nx } σ2 H2) := by
  refine ⟨fun i m σ H => m + i = x.cps.size ∧ Pv i σ H, ⟨x.cps.size, rfl, h0⟩, ?_⟩
  rintro i m σ H ⟨em, p⟩
  rcases Nat.lt_or_ge i x.cps.size with hlt | hge
  · refine .inr ⟨hlt, Pv (i + 1), fun σ' H' p' => ⟨m - 1, by omega, by omega, p'⟩, ?_⟩
    rintro v H' ⟨rfl, c, hc, rfl⟩
    exact turn i c σ H' hc p
  · have e : i = x.cps.size := by omega
    subst e
    exact .inl ⟨Nat.le_refl _, fin σ H p⟩
end BB

/-! own short words of tactics -/
local macro_rules | `(tactic| walk_at "sq") => `(tactic| first
  | assumption
  | (refine sqt_upd (by assumption) ?_; walk_at "sq")
  | (refine sql_upd (by assumption) ?_; walk_at "sq")
  | (refine IsF.new (by assumption) ?_; walk_at "sq")
  | (refine sqt_same (by assumption) ?_; walk_at "sq")
  | (refine Same.seq (by assumption) ?_; walk_at "sq")
  | (refine IsF.same (by assumption) ?_; walk_at "sq"))
local macro_rules | `(tactic| walk_at "go") => `(tactic| repeat (first
  | refine ⟨_, rfl, ?_⟩
  | refine ⟨_, _, rfl, rfl, ?_⟩
  | refine .inl ⟨_, rfl, ?_⟩))

namespace BB
open PySem PySem.Spec PyProof.Rows L2
def topS (i : Nat) : Stmt := PySem.Challenge.pw_buybook_k06_rows.main.body.getD i (.Pass ⟨0, 0, 0, 0⟩)
abbrev s__law_long : Stmt := topS 12
abbrev N__law_long : List Str := ["row", "start", "many", "number", "k"]
theorem sc__law_long : FnScope N__law_long ["row", "start", "many"] (defScope s__law_long) := ⟨rfl, rfl, rfl, by decide +kernel, rfl, by decide +kernel, by decide +kernel⟩
abbrev s__law_gcd : Stmt := topS 13
abbrev N__law_gcd : List Str := ["a", "b", "k"]
theorem sc__law_gcd : FnScope N__law_gcd ["a", "b"] (defScope s__law_gcd) := ⟨rfl, rfl, rfl, by decide +kernel, rfl, by decide +kernel, by decide +kernel⟩
abbrev s__law_lowest : Stmt := topS 14
abbrev N__law_lowest : List Str := ["p", "q", "common"]
theorem sc__law_lowest : FnScope N__law_lowest ["p", "q"] (defScope s__law_lowest) := ⟨rfl, rfl, rfl, by decide +kernel, rfl, by decide +kernel, by decide +kernel⟩
abbrev s__law_drawn : Stmt := topS 16
abbrev N__law_drawn : List Str := ["row", "p", "q"]
theorem sc__law_drawn : FnScope N__law_drawn ["row"] (defScope s__law_drawn) := ⟨rfl, rfl, rfl, by decide +kernel, rfl, by decide +kernel, by decide +kernel⟩
abbrev s_ratio : Stmt := topS 2
abbrev N_ratio : List Str := ["p", "q", "common"]
theorem sc_ratio : FnScope N_ratio ["p", "q"] (defScope s_ratio) := ⟨rfl, rfl, rfl, by decide +kernel, rfl, by decide +kernel, by decide +kernel⟩
abbrev s_mul : Stmt := topS 4
abbrev N_mul : List Str := ["a", "b"]
theorem sc_mul : FnScope N_mul ["a", "b"] (defScope s_mul) := ⟨rfl, rfl, rfl, by decide +kernel, rfl, by decide +kernel, by decide +kernel⟩
abbrev s_scale : Stmt := topS 7
abbrev N_scale : List Str := ["k", "a", "x"]
theorem sc_scale : FnScope N_scale ["k", "a"] (defScope s_scale) := ⟨rfl, rfl, rfl, by decide +kernel, rfl, by decide +kernel, by decide +kernel⟩
abbrev s_add : Stmt := topS 3
abbrev N_add : List Str := ["a", "b"]
theorem sc_add : FnScope N_add ["a", "b"] (defScope s_add) := ⟨rfl, rfl, rfl, by decide +kernel, rfl, by decide +kernel, by decide +kernel⟩
abbrev s_add_scaled : Stmt := topS 8
abbrev N_add_scaled : List Str := ["a", "k", "b", "x", "y"]
theorem sc_add_scaled : FnScope N_add_scaled ["a", "k", "b"] (defScope s_add_scaled) := ⟨rfl, rfl, rfl, by decide +kernel, rfl, by decide +kernel, by decide +kernel⟩
abbrev s__law_row : Stmt := topS 11
abbrev N__law_row : List Str := ["script", "place", "many", "cell", "rest", "row", "k", "mixed"]
theorem sc__law_row : FnScope N__law_row ["script", "place", "many"] (defScope s__law_row) := ⟨rfl, rfl, rfl, by decide +kernel, rfl, by decide +kernel, by decide +kernel⟩
abbrev s__law_is_integer : Stmt := topS 10
abbrev N__law_is_integer : List Str := ["x"]
theorem sc__law_is_integer : FnScope N__law_is_integer ["x"] (defScope s__law_is_integer) := ⟨rfl, rfl, rfl, by decide +kernel, rfl, by decide +kernel, by decide +kernel⟩
abbrev s__law_is_fraction : Stmt := topS 15
abbrev N__law_is_fraction : List Str := ["x"]
theorem sc__law_is_fraction : FnScope N__law_is_fraction ["x"] (defScope s__law_is_fraction) := ⟨rfl, rfl, rfl, by decide +kernel, rfl, by decide +kernel, by decide +kernel⟩
abbrev s__law_equals : Stmt := topS 17
abbrev N__law_equals : List Str := ["actual", "p", "q"]
theorem sc__law_equals : FnScope N__law_equals ["actual", "p", "q"] (defScope s__law_equals) := ⟨rfl, rfl, rfl, by decide +kernel, rfl, by decide +kernel, by decide +kernel⟩
abbrev s_dot : Stmt := topS 6
abbrev N_dot : List Str := ["a", "b", "total", "x", "y"]
theorem sc_dot : FnScope N_dot ["a", "b"] (defScope s_dot) := ⟨rfl, rfl, rfl, by decide +kernel, rfl, by decide +kernel, by decide +kernel⟩
abbrev s_law : Stmt := topS 18
abbrev N_law : List Str := ["script", "many", "times", "a", "b", "first", "second", "total", "k", "one", "scaled", "mixed", "more"]
theorem sc_law : FnScope N_law ["script"] (defScope s_law) := ⟨rfl, rfl, rfl, by decide +kernel, rfl, by decide +kernel, by decide +kernel⟩
section
variable {P : Program} {w : World} {K : PySem.W.Frag} {mg : Str → Option Value} {base : Heap}
def sp__law_long (K : PySem.W.Frag) : Sp := fun vs H Q _ => ∃ (a : Addr) (row : List Int) (st m : Int) (n b : Nat), vs = [.ref a, .int st, .int m] ∧ SqL K H a (row.map V.int) ∧ isRow row n ∧ 0 ≤ st ∧ 0 ≤ m ∧ m ≤ b ∧ st + m ≤ n ∧ n ≤ 1000 ∧
  ∀ x : Int, 0 ≤ x → x.natAbs < 2 ^ (10 * b) → x.natAbs < 1000 ^ b → Q (.int x) H
def sp__law_gcd (K : PySem.W.Frag) : Sp := fun vs H Q _ => ∃ a b : Int, vs = [.int a, .int b] ∧ 0 ≤ a ∧ 0 ≤ b ∧ b.natAbs < 2 ^ 9000 ∧ Q (.int ((Nat.gcd a.natAbs b.natAbs : Nat) : Int)) H
def sp__law_lowest (K : PySem.W.Frag) : Sp := fun vs H Q _ => ∃ (p q : Int), vs = [.int p, .int q] ∧ 0 < q ∧ q.natAbs < 2 ^ 9000 ∧ rF K H (Rat.divInt p q) Q
def sp__law_drawn (K : PySem.W.Frag) : Sp := fun vs H Q _ => ∃ (a : Addr) (row : List Int), vs = [.ref a] ∧ SqL K H a (row.map V.int) ∧ isRow row 24 ∧ ∀ r, Sz 100 r → rF K H r Q
def sp_ratio (K : PySem.W.Frag) : Sp := fun vs H Q _ => ∃ p q : Int, vs = [.int p, .int q] ∧ q ≠ 0 ∧ q.natAbs < 2 ^ 9000 ∧ rF K H (Rat.divInt p q) Q
def sp_mul (K : PySem.W.Frag) : Sp := fun vs H Q _ => ∃ (a b : Addr) (r s : Rat), vs = [.ref a, .ref b] ∧ IsF K H a r ∧ IsF K H b s ∧ Sz 4000 r ∧ Sz 4000 s ∧ rF K H (r * s) Q
def sp_scale (K : PySem.W.Frag) : Sp := fun vs H Q _ => ∃ (k a : Addr) (t : Rat) (rs : List Rat), vs = [.ref k, .ref a] ∧ IsF K H k t ∧ FsAt K H a rs ∧ Sz 4000 t ∧ (∀ r ∈ rs, Sz 4000 r) ∧ rs.length ≤ 1000 ∧ rFs K H (rs.map fun r => t * r) Q
def sp_add (K : PySem.W.Frag) : Sp := fun vs H Q _ => ∃ (a b : Addr) (r s : Rat), vs = [.ref a, .ref b] ∧ IsF K H a r ∧ IsF K H b s ∧ Sz 4000 r ∧ Sz 4000 s ∧ rF K H (r + s) Q
def addS (rs : List Rat) (t : Rat) (ss : List Rat) : List Rat := List.zipWith (fun r s => r + t * s) rs ss
theorem addS_take {rs ss : List Rat} {t : Rat} {i : Nat} {r s : Rat} (h : rs[i]? = some r) (h2 : ss[i]? = some s) : (addS rs t ss).take (i + 1) = (addS rs t ss).take i ++ [r + t * s] := by
  rw [List.take_add_one]
  congr 1
  unfold addS
  rw [List.getElem?_zipWith, h, h2]
  rfl
def sp_add_scaled (K : PySem.W.Frag) : Sp := fun vs H Q _ => ∃ (a k b : Addr) (rs : List Rat) (t : Rat) (ss : List Rat), vs = [.ref a, .ref k, .ref b] ∧ FsAt K H a rs ∧ IsF K H k t ∧ FsAt K H b ss ∧ rs.length = ss.length ∧ Sz 1000 t ∧ (∀ r ∈ rs, Sz 1000 r) ∧ (∀ r ∈ ss, Sz 1000 r) ∧ rs.length ≤ 1000 ∧ rFs K H (addS rs t ss) Q
def sp__law_row (K : PySem.W.Frag) : Sp := fun vs H Q _ => ∃ (a : Addr) (ns : List Int) (pl m : Nat), vs = [.ref a, .int (pl : Int), .int (m : Int)] ∧ SqL K H a (ns.map V.int) ∧ m ≤ 1000 ∧
  ∀ H' p row, Same H H' → H p = none → isRow row m → H' p = some (.lst (row.map V.int)) → Q (.ref p) H'
def sp__law_is_integer (K : PySem.W.Frag) : Sp := fun vs H Q _ => ∃ i : Int, vs = [.int i] ∧ Q (.bl true) H
def sp__law_is_fraction (K : PySem.W.Frag) : Sp := fun vs H Q _ => ∃ (a : Addr) (r : Rat), vs = [.ref a] ∧ IsF K H a r ∧ r.den < 2 ^ 9000 ∧ Q (.bl true) H
def sp__law_equals (K : PySem.W.Frag) : Sp := fun vs H Q _ => ∃ (a : Addr) (r : Rat) (p q : Int) (n : Nat), vs = [.ref a, .int p, .int q] ∧ IsF K H a r ∧ r.den < 2 ^ 9000 ∧ n ≤ 1000000 ∧ Sz n r ∧ p.natAbs < 2 ^ n ∧ q.natAbs < 2 ^ n ∧ r.num * q = p * (r.den : Int) ∧ Q (.bl true) H
def sp_dot (K : PySem.W.Frag) : Sp := fun vs H Q _ => ∃ (a b : Addr) (rs ss : List Rat) (B : Nat), vs = [.ref a, .ref b] ∧ FsAt K H a rs ∧ FsAt K H b ss ∧ rs.length = ss.length ∧ (∀ r ∈ rs, Sz B r) ∧ (∀ s ∈ ss, Sz B s) ∧ 1 + rs.length * (2 * B + 1) ≤ 4000 ∧ rF K H (dotR rs ss) Q
def sp_law (K : PySem.W.Frag) : Sp := fun vs H Q _ => ∃ (a : Addr) (ns : List Int), vs = [.ref a] ∧ SqL K H a (ns.map V.int) ∧ ns.length ≤ 63 ∧ ∀ H', Q (.bl true) H'
theorem lay_sum {tn td : Int} {r s : Rat} (h : 0 < td) : Rat.divInt (tn * ((r.den : Int) * (s.den : Int)) + (r.num * s.num) * td) (td * ((r.den : Int) * (s.den : Int))) = Rat.divInt tn td + r * s := by
  rw [← rat_mul r s, Rat.divInt_add_divInt _ _ (Int.ne_of_gt h) (Int.ne_of_gt (den_mul_pos r s))]
theorem lay_mix (r t s : Rat) : Rat.divInt (r.num * ((t.den : Int) * (s.den : Int)) + (t.num * s.num) * (r.den : Int)) ((r.den : Int) * ((t.den : Int) * (s.den : Int))) = r + t * s := by
  rw [lay_sum (den_pos r), Rat.num_divInt_den]
theorem ok__law_long {f : Addr} {fd : FuncData} (F : Fun K "_law_long" "_law_long" s__law_long f fd) (m_range : mg "range" = none) : FnOk P w K mg base CX0 1 f fd ["row", "start", "many"] (sp__law_long K) := by
  refine F.ok sc__law_long (fun vs H Q E h => ?_) (fun cdv A outer s H vs Q E hr h => ?_)
  · obtain ⟨a, row, st, m, n, b, rfl, _⟩ := h
    rfl
  · refine ⟨_, (pss_cons (ps_set (i := 3) sc__law_long.nd rfl (Or.inl rfl) pe_int)
      (pss_cons (ps_for PassesOwn.never rfl (pi_range1 rfl m_range (pa_cons (pv 2) pa_nil)) (pg_name (i := 4) sc__law_long.nd rfl (Or.inl rfl))
      (pss_one (ps_set (i := 3) sc__law_long.nd rfl (Or.inl rfl) (pe_op op_add (pe_op op_mulG (pv 3) pe_int) (pe_ix ix_list (pv 0) (pe_op op_add (pv 1) (pv 4)) (fun _ _ => rfl))))))
      (pss_one (ps_ret (pv 3))))), ?_⟩
    obtain ⟨a, row, st, m, n, b, rfl, hS, hrow, h0, h1, hb, hst, hn, Z⟩ := h
    obtain ⟨st, rfl⟩ := Int.eq_ofNat_of_zero_le h0
    obtain ⟨m, rfl⟩ := Int.eq_ofNat_of_zero_le h1
    refine ⟨_, rfl, _, rfl, by omega, by omega, ?_⟩
    refine for_range (lo := 0) (n := m) (fun i σ H2 => H2 = H ∧ ∃ (x : Int) (y : Option V), σ = [some (.ref a), some (.int (st : Int)), some (.int (m : Int)), some (.int x), y] ∧ 0 ≤ x ∧ x.natAbs < 1000 ^ i) ⟨rfl, 0, _, rfl, by decide, by decide⟩ ?_ ?_
    · rintro i σ H2 hi ⟨rfl, x, y, rfl, h0, h1⟩
      obtain ⟨v, hv, v0, v1⟩ := hrow.at (st + i) (by omega)
      have hv' : atI (row.map V.int) ((st : Int) + (0 + (i : Int))) = some (.int v) := by
        rw [← hv]; congr 1; omega
      refine ⟨_, rfl, _, _, rfl, rfl, mulG_b (b := 10) (Nat.lt_of_lt_of_le h1 (pow1000 i)) (by decide) (by omega), _, rfl, _, rfl, _, rfl, _, _, rfl, rfl, _, _, _, _, rfl, rfl, hS, hv', _, _, rfl, rfl, rfl, _, _, rfl, by omega, ?_⟩
      rw [Nat.pow_succ]
      omega
    · rintro σ H2 ⟨rfl, x, y, rfl, h0, h1⟩
      exact ⟨_, rfl, Z x h0 (Nat.lt_of_lt_of_le h1 (Nat.le_trans (pow1000 m) (Nat.pow_le_pow_right (by decide) (by omega)))) (Nat.lt_of_lt_of_le h1 (Nat.pow_le_pow_right (by decide) (by omega)))⟩
theorem ok__law_gcd {f : Addr} {fd : FuncData} (F : Fun K "_law_gcd" "_law_gcd" s__law_gcd f fd) (m_range : mg "range" = none) (m_int : mg "int" = none) : FnOk P w K mg base CX0 1 f fd ["a", "b"] (sp__law_gcd K) := by
  refine F.ok sc__law_gcd (fun vs H Q E h => ?_) (fun cdv A outer s H vs Q E hr h => ?_)
  · obtain ⟨a, b, rfl, _⟩ := h
    rfl
  · refine ⟨_, (pss_cons (ps_for PassesOwn.never rfl (pi_range1 rfl m_range (pa_cons (pe_op op_add (pe_op op_mulG pe_int (pe_bits (pv 1))) pe_int) pa_nil)) (pg_name (i := 2) sc__law_gcd.nd rfl (Or.inl rfl))
      (pss_cons (ps_if (pt_cmpR op_eq (pv 1) pe_int (nomark _))
      (pss_one (ps_ret (pv 0)))
      pss_nil)
      (pss_one (ps_par (i := 0) (j := 1) rfl sc__law_gcd.nd rfl rfl (by decide) rfl rfl (pa_cons (pv 1) (pa_cons (pe_op op_mod (pe_callTy call_int1 (by rfl) m_int (by decide +kernel) (pa_cons (pv 0) pa_nil)) (pv 1)) pa_nil)) (by rfl)))))
      (pss_one (ps_ret (pv 0)))), ?_⟩
    obtain ⟨a, b, rfl, ha, hb, hs, Z⟩ := h
    obtain ⟨a, rfl⟩ := Int.eq_ofNat_of_zero_le ha
    obtain ⟨b, rfl⟩ := Int.eq_ofNat_of_zero_le hb
    rw [Int.natAbs_natCast] at hs
    rw [Int.natAbs_natCast, Int.natAbs_natCast] at Z
    obtain ⟨L, hL, hbits⟩ : ∃ L : Nat, L ≤ 9001 ∧ Builtin.Int.intBits (b : Int) = L := ⟨_, bits_le hs, rfl⟩
    refine ⟨_, rfl, _, rfl, _, _, rfl, rfl, mulG_l (by decide), _, _, rfl, rfl, ?_⟩
    rw [hbits]
    refine ⟨_, rfl, by omega, by omega, ?_⟩
    refine for_range (lo := 0) (n := 2 * L + 2) (fun i σ H1 => H1 = H ∧ ∃ (a' b' : Nat) (y : Option V), σ = [some (.int (a' : Int)), some (.int (b' : Int)), y] ∧ Euc L (Nat.gcd a b) i a' b') ⟨rfl, a, b, _, rfl, euc_start (bits_lt hbits)⟩ ?_ ?_
    · rintro i σ H1 hi ⟨rfl, a', b', y, rfl, he⟩
      refine ⟨_, rfl, rfl, _, rfl, ite2 (fun e => ?_) (fun e => ?_)⟩
      · have e' : (b' : Int) = 0 := V.int.inj (of_decide_eq_true e)
        have e2 : b' = 0 := by omega
        subst e2
        refine ⟨_, rfl, ?_⟩
        rw [euc_zero he]
        exact Z
      · have e' : b' ≠ 0 := fun z => e (decide_eq_true (by rw [z]; rfl))
        refine ⟨_, rfl, _, rfl, .inl ⟨_, rfl, _, rfl, _, _, rfl, rfl, by show (0 : Int) < b'; omega, _, _, rfl, ?_⟩⟩
        exact ⟨rfl, b', a' % b', _, rfl, euc_step he e'⟩
    · rintro σ H1 ⟨rfl, a', b', y, rfl, he⟩
      refine ⟨_, rfl, ?_⟩
      rw [euc_end he]
      exact Z
theorem ok__law_lowest {f : Addr} {fd : FuncData} (F : Fun K "_law_lowest" "_law_lowest" s__law_lowest f fd) (D__law_gcd : Dn P w K mg base CX0 1 "_law_gcd" (sp__law_gcd K)) (m_abs : mg "abs" = none) : FnOk P w K mg base CX0 2 f fd ["p", "q"] (sp__law_lowest K) := by
  refine F.ok sc__law_lowest (fun vs H Q E h => ?_) (fun cdv A outer s H vs Q E hr h => ?_)
  · obtain ⟨p, q, rfl, _⟩ := h
    rfl
  · refine ⟨_, (pss_cons (ps_set (i := 2) sc__law_lowest.nd rfl (Or.inl rfl) (pe_d D__law_gcd hr (by decide) (by rfl) pass0 (pa_cons (pe_callB call_abs (by rfl) m_abs (by decide +kernel) (pa_cons (pv 0) pa_nil)) (pa_cons (pv 1) pa_nil))))
      (pss_one (ps_ret (pe_tup (pa_cons (pe_op op_fdivG (pv 0) (pv 2)) (pa_cons (pe_op op_fdivG (pv 1) (pv 2)) pa_nil)))))), ?_⟩
    obtain ⟨p, q, rfl, hq, hs, Z⟩ := h
    have c := ratio_common (p := p) (Int.ne_of_gt hq)
    have e1 := ratio_num (p := p) (Int.ne_of_gt hq)
    have e2 := ratio_den (p := p) (Int.ne_of_gt hq)
    rw [if_neg (show ¬ q < 0 by omega)] at c e1 e2
    refine ⟨_, rfl, _, rfl, _, rfl, _, _, rfl, abs_nn p, by omega, hs, ?_⟩
    rw [abs_na p]
    refine ⟨_, rfl, _, rfl, _, _, rfl, rfl, ⟨c.1, Nat.lt_of_le_of_lt c.2 hs⟩, _, rfl, _, rfl, _, _, rfl, rfl, ⟨c.1, Nat.lt_of_le_of_lt c.2 hs⟩, by show 2 ≤ sizeLine; decide, fun a ha => ?_⟩
    refine Z _ a (same_upd ha) ha (SqT.of ?_)
    rw [upd_same, ← e1, ← e2]
theorem ok__law_drawn {f : Addr} {fd : FuncData} (F : Fun K "_law_drawn" "_law_drawn" s__law_drawn f fd) (D__law_long : Dn P w K mg base CX0 1 "_law_long" (sp__law_long K)) (D__law_lowest : Dn P w K mg base CX0 2 "_law_lowest" (sp__law_lowest K)) (m_max : mg "max" = none) (m_int : mg "int" = none) : FnOk P w K mg base CX0 3 f fd ["row"] (sp__law_drawn K) := by
  refine F.ok sc__law_drawn (fun vs H Q E h => ?_) (fun cdv A outer s H vs Q E hr h => ?_)
  · obtain ⟨a, row, rfl, _⟩ := h
    rfl
  · refine ⟨_, (pss_cons (ps_set (i := 1) sc__law_drawn.nd rfl (Or.inl rfl) (pe_d D__law_long hr (by decide) (by rfl) pass0 (pa_cons (pv 0) (pa_cons pe_int (pa_cons (pe_op op_add pe_int (pe_op op_mod (pe_callTy call_int1 (by rfl) m_int (by decide +kernel) (pa_cons (pe_ix ix_list (pv 0) pe_int (fun _ _ => rfl)) pa_nil)) pe_int)) pa_nil)))))
      (pss_cons (ps_set (i := 2) sc__law_drawn.nd rfl (Or.inl rfl) (pe_callB (call_max2 rfl) (by rfl) m_max (by decide +kernel) (pa_cons pe_int (pa_cons (pe_d D__law_long hr (by decide) (by rfl) pass0 (pa_cons (pv 0) (pa_cons pe_int (pa_cons (pe_op op_add pe_int (pe_op op_mod (pe_callTy call_int1 (by rfl) m_int (by decide +kernel) (pa_cons (pe_ix ix_list (pv 0) pe_int (fun _ _ => rfl)) pa_nil)) pe_int)) pa_nil)))) pa_nil))))
      (C8.pss_cut (ps_if (pt_cmpR op_lt (pe_op op_mod (pe_callTy call_int1 (by rfl) m_int (by decide +kernel) (pa_cons (pe_op op_fdiv (pe_ix ix_list (pv 0) pe_int (fun _ _ => rfl)) pe_int) pa_nil)) pe_int) pe_int (nomark _))
      (pss_cons (ps_set (i := 1) sc__law_drawn.nd rfl (Or.inl rfl) (pe_op op_mod (pe_callTy call_int1 (by rfl) m_int (by decide +kernel) (pa_cons (pv 1) pa_nil)) pe_int))
      (pss_one (ps_set (i := 2) sc__law_drawn.nd rfl (Or.inl rfl) (pe_op op_add pe_int (pe_op op_mod (pe_callTy call_int1 (by rfl) m_int (by decide +kernel) (pa_cons (pv 2) pa_nil)) pe_int)))))
      pss_nil)
      (C8.pss_cut (ps_if (pt_cmpR op_eq (pe_op op_mod (pe_callTy call_int1 (by rfl) m_int (by decide +kernel) (pa_cons (pe_op op_fdiv (pe_ix ix_list (pv 0) pe_int (fun _ _ => rfl)) pe_int) pa_nil)) pe_int) pe_int (nomark _))
      (pss_one (ps_set (i := 1) sc__law_drawn.nd rfl (Or.inl rfl) (pe_un un_neg (pv 1))))
      pss_nil)
      (pss_one (ps_ret (pe_d D__law_lowest hr (by decide) (by rfl) pass0 (pa_cons (pv 1) (pa_cons (pv 2) pa_nil))))))))), ?_⟩
    obtain ⟨a, row, rfl, hS, hrow, Z⟩ := h
    obtain ⟨v0, a0, b0, c0⟩ := hrow.at 0 (by decide)
    obtain ⟨v1, a1, b1, c1⟩ := hrow.at 1 (by decide)
    refine ⟨_, rfl, _, rfl, _, _, _, _, rfl, rfl, hS, a0, .inl ⟨_, rfl, _, _, rfl, rfl, by show (0 : Int) < 10; decide, _, _, rfl, rfl, ?_⟩⟩
    refine ⟨_, _, _, _, 24, 10, rfl, hS, hrow, by omega, by omega, by omega, by omega, by omega, fun x x0 x1 _ => ?_⟩
    refine ⟨_, rfl, _, rfl, _, _, _, _, rfl, rfl, hS, a1, .inl ⟨_, rfl, _, _, rfl, rfl, by show (0 : Int) < 10; decide, _, _, rfl, rfl, ?_⟩⟩
    refine ⟨_, _, _, _, 24, 10, rfl, hS, hrow, by omega, by omega, by omega, by omega, by omega, fun y y0 y1 _ => ?_⟩
    refine ⟨_, _, rfl, ?_⟩
    obtain ⟨y, hy, rfl⟩ : ∃ y' : Int, (0 < y' ∧ y'.natAbs < 2 ^ 100) ∧ y' = (if y > 1 then y else 1) := ⟨_, by split <;> omega, rfl⟩
    refine ⟨fun σ H1 => H1 = H ∧ ∃ p q : Int, σ = [some (.ref a), some (.int p), some (.int q)] ∧ p.natAbs < 2 ^ 100 ∧ 0 < q ∧ q.natAbs < 2 ^ 100, ?_, ?_⟩
    · refine ⟨_, rfl, _, _, _, _, rfl, rfl, hS, a0, _, _, rfl, rfl, ⟨by decide, by decide⟩, .inl ⟨_, rfl, _, _, rfl, rfl, by show (0 : Int) < 4; decide, _, _, rfl, rfl, _, rfl, ite2 (fun e => ?_) (fun e => ?_)⟩⟩
      · refine ⟨_, rfl, .inl ⟨_, rfl, _, _, rfl, rfl, by show (0 : Int) < 13; decide, ?_⟩⟩
        refine ⟨_, rfl, .inl ⟨_, rfl, _, _, rfl, rfl, by show (0 : Int) < 9; decide, _, _, rfl, rfl, rfl, _, _, rfl, by omega, by omega, by omega⟩⟩
      · exact ⟨rfl, _, _, rfl, x1, hy.1, hy.2⟩
    · rintro σ H1 ⟨rfl, p, q, rfl, hp, hq, hq2⟩
      refine ⟨fun σ H2 => H2 = H1 ∧ ∃ p q : Int, σ = [some (.ref a), some (.int p), some (.int q)] ∧ p.natAbs < 2 ^ 100 ∧ 0 < q ∧ q.natAbs < 2 ^ 100, ?_, ?_⟩
      · refine ⟨_, rfl, _, _, _, _, rfl, rfl, hS, a1, _, _, rfl, rfl, ⟨by decide, by decide⟩, .inl ⟨_, rfl, _, _, rfl, rfl, by show (0 : Int) < 2; decide, rfl, _, rfl, ite2 (fun e => ?_) (fun e => ?_)⟩⟩
        · exact ⟨_, rfl, _, rfl, rfl, _, _, rfl, by omega, hq, hq2⟩
        · exact ⟨rfl, _, _, rfl, hp, hq, hq2⟩
      · rintro σ H2 ⟨rfl, p, q, rfl, hp, hq, hq2⟩
        refine ⟨_, rfl, _, rfl, _, _, rfl, hq, Nat.lt_of_lt_of_le hq2 (Nat.pow_le_pow_right (by decide) (by decide)), ?_⟩
        exact Z _ (divInt_sz (Int.ne_of_gt hq) hp hq2)
theorem ok_ratio {f : Addr} {fd : FuncData} (F : Fun K "ratio" "ratio" s_ratio f fd) (m_gcd : mg "gcd" = some (.builtin "math.gcd")) : FnOk P w K mg base CX0 1 f fd ["p", "q"] (sp_ratio K) := by
  refine F.ok sc_ratio (fun vs H Q E h => ?_) (fun cdv A outer s H vs Q E hr h => ?_)
  · obtain ⟨p, q, rfl, _⟩ := h
    rfl
  · refine ⟨_, (pss_cons (ps_set (i := 2) sc_ratio.nd rfl (Or.inl rfl) (pe_callBfun cr_gcd (by rfl) m_gcd (pa_cons (pv 0) (pa_cons (pv 1) pa_nil))))
      (C8.pss_cut (ps_if (pt_cmpR op_lt (pv 1) pe_int (nomark _))
      (pss_one (ps_set (i := 2) sc_ratio.nd rfl (Or.inl rfl) (pe_un un_neg (pv 2))))
      pss_nil)
      (pss_one (ps_ret (pe_tup (pa_cons (pe_op op_fdivG (pv 0) (pv 2)) (pa_cons (pe_op op_fdivG (pv 1) (pv 2)) pa_nil))))))), ?_⟩
    obtain ⟨p, q, rfl, hq, hs, Z⟩ := h
    refine ⟨_, rfl, _, rfl, p, q, rfl, ?_⟩
    refine ⟨fun σ H1 => H1 = H ∧ σ = [some (.int p), some (.int q), some (.int (if q < 0 then -((Nat.gcd p.natAbs q.natAbs : Nat) : Int) else ((Nat.gcd p.natAbs q.natAbs : Nat) : Int)))], ?_, fun σ' H' M => ?_⟩
    · refine ⟨_, rfl, _, _, rfl, rfl, _, rfl, ite2 (fun e => ?_) (fun e => ?_)⟩
      · have e' : q < 0 := of_decide_eq_true e
        refine ⟨_, rfl, _, rfl, ?_⟩
        rw [if_pos e']
        exact ⟨rfl, rfl⟩
      · have e' : ¬ q < 0 := fun z => e (decide_eq_true z)
        rw [if_neg e']
        exact ⟨rfl, rfl⟩
    · obtain ⟨rfl, rfl⟩ := M
      have c := ratio_common (p := p) hq
      refine ⟨_, rfl, _, rfl, _, _, rfl, rfl, ⟨c.1, Nat.lt_of_le_of_lt c.2 hs⟩, _, rfl, _, rfl, _, _, rfl, rfl, ⟨c.1, Nat.lt_of_le_of_lt c.2 hs⟩, by show 2 ≤ sizeLine; decide, fun a ha => ?_⟩
      refine Z _ a (same_upd ha) ha (SqT.of ?_)
      rw [upd_same, ← ratio_num hq, ← ratio_den hq]
theorem ok_mul {f : Addr} {fd : FuncData} (F : Fun K "mul" "mul" s_mul f fd) (D_ratio : Dn P w K mg base CX0 1 "ratio" (sp_ratio K)) : FnOk P w K mg base CX0 2 f fd ["a", "b"] (sp_mul K) := by
  refine F.ok sc_mul (fun vs H Q E h => ?_) (fun cdv A outer s H vs Q E hr h => ?_)
  · obtain ⟨a, b, r, s, rfl, _⟩ := h
    rfl
  · refine ⟨_, (pss_one (ps_ret (pe_d D_ratio hr (by decide) (by rfl) pass0 (pa_cons (pe_op op_mulG (pe_ix ix_tup (pv 0) pe_int (fun _ _ => rfl)) (pe_ix ix_tup (pv 1) pe_int (fun _ _ => rfl))) (pa_cons (pe_op op_mulG (pe_ix ix_tup (pv 0) pe_int (fun _ _ => rfl)) (pe_ix ix_tup (pv 1) pe_int (fun _ _ => rfl))) pa_nil))))), ?_⟩
    obtain ⟨a, b, r, s, rfl, ha, hb, sr, ss, Z⟩ := h
    obtain ⟨h1, h2, h3⟩ := cross_lt sr ss
    refine ⟨_, rfl, _, _, _, _, rfl, rfl, ha, rfl, _, rfl, _, _, _, _, rfl, rfl, hb, rfl, _, _, rfl, rfl, mulG_b sr.1 ss.1 (by decide), ?_⟩
    refine ⟨_, rfl, _, _, _, _, rfl, rfl, ha, rfl, _, rfl, _, _, _, _, rfl, rfl, hb, rfl, _, _, rfl, rfl, mulG_b sr.den ss.den (by decide), ?_⟩
    refine ⟨_, _, rfl, Int.ne_of_gt (den_mul_pos r s), Nat.lt_of_lt_of_le h3 (Nat.pow_le_pow_right (by decide) (by decide)), ?_⟩
    rw [rat_mul]
    exact Z
theorem ok_scale {f : Addr} {fd : FuncData} (F : Fun K "scale" "scale" s_scale f fd) (D_mul : Dn P w K mg base CX0 2 "mul" (sp_mul K)) : FnOk P w K mg base CX0 3 f fd ["k", "a"] (sp_scale K) := by
  refine F.ok sc_scale (fun vs H Q E h => ?_) (fun cdv A outer s H vs Q E hr h => ?_)
  · obtain ⟨k, a, t, rs, rfl, _⟩ := h
    rfl
  · refine ⟨_, (pss_one (ps_ret (pe_lc (own := [("x", 2)]) (g := gName 2) (tt := tYes) rfl sc_scale.nd (pi_list (pv 1)) (blkOk_by (N := N_scale) (sc := defScope s_scale) (by decide +kernel)) (fun _ _ _ _ _ => (pg_name (i := 2) sc_scale.nd rfl (Or.inl rfl))) (fun _ _ _ _ _ => pts_nil) (fun _ _ _ _ _ => (pe_d D_mul hr (by decide) (by rfl) pass0 (pa_cons (pv 0) (pa_cons (pv 2) pa_nil))))))), ?_⟩
    obtain ⟨k, a, t, rs, rfl, hk, hA, zt, zr, hl, Z⟩ := h
    obtain ⟨as, sA, fA⟩ := hA
    refine ⟨_, rfl, a, rfl, ⟨_, sA⟩, fun D nD => ?_⟩
    refine lc_list (xs := as.map V.ref) (fun i H2 => Grow K H H2 D ((rs.take i).map fun r => t * r)) (Grow.start nD) (fun i H2 _ g => g.same.seq sA) ?_ ?_
    · rintro i x H2 hx g
      obtain ⟨p, r, rfl, _, er, hp, hi⟩ := (fA.same g.same).of hx
      refine ⟨rfl, ?_⟩
      refine ⟨_, rfl, _, rfl, _, _, t, r, rfl, hk.same g.same, hp, zt, zr r (List.mem_of_getElem? er), fun H3 m s3 nm hm => ?_⟩
      obtain ⟨acc, e1, e2, g2⟩ := g.step s3 hm (by rw [List.length_map, List.length_take]; omega)
      refine ⟨acc, e1, e2, ?_⟩
      rw [List.take_add_one, er, List.map_append]
      exact g2
    · rintro H2 g
      rw [List.length_map, fA.1, List.take_of_length_le (Nat.le_refl _)] at g
      exact Z _ _ g.same g.new g.ex
theorem ok_add {f : Addr} {fd : FuncData} (F : Fun K "add" "add" s_add f fd) (D_ratio : Dn P w K mg base CX0 1 "ratio" (sp_ratio K)) : FnOk P w K mg base CX0 2 f fd ["a", "b"] (sp_add K) := by
  refine F.ok sc_add (fun vs H Q E h => ?_) (fun cdv A outer s H vs Q E hr h => ?_)
  · obtain ⟨a, b, r, s, rfl, _⟩ := h
    rfl
  · refine ⟨_, (pss_one (ps_ret (pe_d D_ratio hr (by decide) (by rfl) pass0 (pa_cons (pe_op op_add (pe_op op_mulG (pe_ix ix_tup (pv 0) pe_int (fun _ _ => rfl)) (pe_ix ix_tup (pv 1) pe_int (fun _ _ => rfl))) (pe_op op_mulG (pe_ix ix_tup (pv 1) pe_int (fun _ _ => rfl)) (pe_ix ix_tup (pv 0) pe_int (fun _ _ => rfl)))) (pa_cons (pe_op op_mulG (pe_ix ix_tup (pv 0) pe_int (fun _ _ => rfl)) (pe_ix ix_tup (pv 1) pe_int (fun _ _ => rfl))) pa_nil))))), ?_⟩
    obtain ⟨a, b, r, s, rfl, ha, hb, sr, ss, Z⟩ := h
    obtain ⟨h1, h2, h3⟩ := cross_lt sr ss
    refine ⟨_, rfl, _, _, _, _, rfl, rfl, ha, rfl, _, rfl, _, _, _, _, rfl, rfl, hb, rfl, _, _, rfl, rfl, mulG_b sr.1 ss.den (by decide), ?_⟩
    refine ⟨_, rfl, _, _, _, _, rfl, rfl, hb, rfl, _, rfl, _, _, _, _, rfl, rfl, ha, rfl, _, _, rfl, rfl, mulG_b ss.1 sr.den (by decide), _, _, rfl, rfl, ?_⟩
    refine ⟨_, rfl, _, _, _, _, rfl, rfl, ha, rfl, _, rfl, _, _, _, _, rfl, rfl, hb, rfl, _, _, rfl, rfl, mulG_b sr.den ss.den (by decide), ?_⟩
    refine ⟨_, _, rfl, Int.ne_of_gt (den_mul_pos r s), Nat.lt_of_lt_of_le h3 (Nat.pow_le_pow_right (by decide) (by decide)), ?_⟩
    rw [rat_add]
    exact Z
theorem ok_add_scaled {f : Addr} {fd : FuncData} (F : Fun K "add_scaled" "add_scaled" s_add_scaled f fd) (D_add : Dn P w K mg base CX0 2 "add" (sp_add K)) (D_mul : Dn P w K mg base CX0 2 "mul" (sp_mul K)) (m_zip : mg "zip" = none) : FnOk P w K mg base CX0 3 f fd ["a", "k", "b"] (sp_add_scaled K) := by
  refine F.ok sc_add_scaled (fun vs H Q E h => ?_) (fun cdv A outer s H vs Q E hr h => ?_)
  · obtain ⟨a, k, b, rs, t, ss, rfl, _⟩ := h
    rfl
  · refine ⟨_, (pss_one (ps_ret (pe_lc (own := [("x", 3), ("y", 4)]) (g := gTup K 2 (gCons (gName 3) (gCons (gName 4) gNil))) (tt := tYes) rfl sc_add_scaled.nd (pi_zip (by rfl) m_zip (pa_cons (pv 0) (pa_cons (pv 2) pa_nil))) (blkOk_by (N := N_add_scaled) (sc := defScope s_add_scaled) (by decide +kernel)) (fun _ _ _ _ _ => (pg_tup rfl (pgs_cons (pg_name (i := 3) sc_add_scaled.nd rfl (Or.inl rfl)) (pgs_cons (pg_name (i := 4) sc_add_scaled.nd rfl (Or.inl rfl)) pgs_nil)))) (fun _ _ _ _ _ => pts_nil) (fun _ _ _ _ _ => (pe_d D_add hr (by decide) (by rfl) pass0 (pa_cons (pv 3) (pa_cons (pe_d D_mul hr (by decide) (by rfl) pass0 (pa_cons (pv 1) (pa_cons (pv 4) pa_nil))) pa_nil))))))), ?_⟩
    obtain ⟨a, k, b, rs, t, ss, rfl, hA, hk, hB, hl, zt, zr, zs, hn, Z⟩ := h
    obtain ⟨as, sA, fA⟩ := hA
    obtain ⟨bs, sB, fB⟩ := hB
    have hlen : (addS rs t ss).length = rs.length := by
      unfold addS
      rw [List.length_zipWith]
      omega
    refine ⟨_, rfl, _, rfl, a, b, as.map V.ref, bs.map V.ref, rfl, sA, sB, fun D nD => ?_⟩
    refine lc_zipL (by rw [List.length_map, List.length_map, fA.1, fB.1, hl]) (fun i H2 => Grow K H H2 D ((addS rs t ss).take i)) (Grow.start nD) (fun i H2 g => ⟨g.same.seq sA, g.same.seq sB⟩) ?_ ?_
    · rintro i x y T H2 hx hy g nT
      obtain ⟨p, r, rfl, _, er, hp, hi⟩ := (fA.same g.same).of hx
      obtain ⟨q, s, rfl, _, es, hq, hi2⟩ := (fB.same g.same).of hy
      have sr := zr r (List.mem_of_getElem? er)
      have ss' := zs s (List.mem_of_getElem? es)
      have sT : Same H2 (upd H2 T (.tup [.ref p, .ref q])) := same_upd nT
      refine ⟨T, [.ref p, .ref q], rfl, SqT.of upd_same, rfl, .ref p, [.ref q], rfl, .ref q, [], rfl, rfl, rfl, ?_⟩
      refine ⟨_, rfl, _, rfl, _, rfl, _, _, t, s, rfl, (hk.same g.same).same sT, hq.same sT, zt.mono (by decide), ss'.mono (by decide), fun H3 m s3 nm hm => ?_⟩
      refine ⟨_, _, r, _, rfl, (hp.same sT).same s3, hm, sr.mono (by decide), (zt.mul ss').mono (by decide), fun H4 u s4 nu hu => ?_⟩
      obtain ⟨acc, e1, e2, g2⟩ := g.step (sT.trans (s3.trans s4)) hu (by rw [List.length_take]; omega)
      refine ⟨acc, e1, e2, ?_⟩
      rw [addS_take er es]
      exact g2
    · rintro H2 g
      rw [List.length_map, fA.1, List.take_of_length_le (by omega)] at g
      exact Z _ _ g.same g.new g.ex
theorem ok__law_row {f : Addr} {fd : FuncData} (F : Fun K "_law_row" "_law_row" s__law_row f fd) (m_range : mg "range" = none) (m_len : mg "len" = none) (m_int : mg "int" = none) : FnOk P w K mg base CX0 1 f fd ["script", "place", "many"] (sp__law_row K) := by
  refine F.ok sc__law_row (fun vs H Q E h => ?_) (fun cdv A outer s H vs Q E hr h => ?_)
  · obtain ⟨a, ns, pl, m, rfl, _⟩ := h
    rfl
  · refine ⟨_, (pss_cons (ps_set (i := 3) sc__law_row.nd rfl (Or.inl rfl) (pe_op op_add (pe_op op_mulG pe_int (pv 1)) pe_int))
      (C8.pss_cut (ps_if (pt_cmpR op_lt (pv 1) (pe_callB call_len_seq (by rfl) m_len (by decide +kernel) (pa_cons (pv 0) pa_nil)) (nomark _))
      (pss_one (ps_set (i := 3) sc__law_row.nd rfl (Or.inl rfl) (pe_ix ix_list (pv 0) (pv 1) (fun _ _ => rfl))))
      pss_nil)
      (pss_cons (ps_set (i := 4) sc__law_row.nd rfl (Or.inl rfl) (pe_op op_sub (pv 3) (pe_op op_pow pe_int pe_int)))
      (pss_cons (ps_set (i := 5) sc__law_row.nd rfl (Or.inl rfl) (pe_lst pa_nil))
      (pss_cons (ps_for PassesOwn.never rfl (pi_range1 rfl m_range (pa_cons (pv 2) pa_nil)) (pg_name (i := 6) sc__law_row.nd rfl (Or.inl rfl))
      (pss_one (ps_if (pt_cmpR op_gt (pv 4) pe_int (nomark _))
      (pss_cons (ps_expr (pe_bm PySem.F.plainAttrs_list PySem.F.slot_list_append PySem.F.type_list_append mt_append (pv 5) (pa_cons (pe_op op_mod (pe_callTy call_int1 (by rfl) m_int (by decide +kernel) (pa_cons (pv 4) pa_nil)) pe_int) pa_nil)))
      (pss_one (ps_set (i := 4) sc__law_row.nd rfl (Or.inl rfl) (pe_op op_fdiv (pv 4) pe_int))))
      (pss_cons (ps_set (i := 7) sc__law_row.nd rfl (Or.inl rfl) (pe_op op_mod (pe_callTy call_int1 (by rfl) m_int (by decide +kernel) (pa_cons (pe_op op_add (pe_op op_add (pe_op op_mulG (pv 3) pe_int) (pe_op op_mulG (pv 6) pe_int)) pe_int) pa_nil)) pe_int))
      (pss_cons (ps_set (i := 7) sc__law_row.nd rfl (Or.inl rfl) (pe_op op_mod (pe_callTy call_int1 (by rfl) m_int (by decide +kernel) (pa_cons (pe_op op_add (pe_op op_add (pe_op op_mulG (pv 7) (pv 7)) (pe_op op_mulG (pv 7) pe_int)) (pe_op op_mulG (pv 6) pe_int)) pa_nil)) pe_int))
      (pss_one (ps_expr (pe_bm PySem.F.plainAttrs_list PySem.F.slot_list_append PySem.F.type_list_append mt_append (pv 5) (pa_cons (pe_op op_mod (pe_op op_fdiv (pv 7) pe_int) pe_int) pa_nil)))))))))
      (pss_one (ps_ret (pv 5)))))))), ?_⟩
    obtain ⟨a, ns, pl, m, rfl, hS, hm, Z⟩ := h
    refine ⟨_, rfl, _, _, rfl, rfl, mulG_l (by decide), _, _, rfl, rfl, ?_⟩
    refine ⟨fun σ H1 => H1 = H ∧ ∃ c : Int, σ = [some (.ref a), some (.int (pl : Int)), some (.int (m : Int)), some (.int c), none, none, none, none], ?_, ?_⟩
    · refine ⟨_, rfl, _, rfl, a, _, rfl, .inl hS, _, _, rfl, rfl, _, rfl, ite2 (fun e => ?_) (fun e => ⟨rfl, _, rfl⟩)⟩
      have e' : (pl : Int) < (ns.map V.int).length := of_decide_eq_true e
      rw [List.length_map] at e'
      have g : (ns.map V.int)[pl]? = some (.int (ns[pl]'(by omega))) := by
        rw [List.getElem?_map, List.getElem?_eq_getElem (by omega)]
        rfl
      exact ⟨_, rfl, _, rfl, _, _, _, _, rfl, rfl, hS, atI_nat g, rfl, _, rfl⟩
    · rintro σ H1 ⟨rfl, c, rfl⟩
      refine ⟨_, rfl, _, _, rfl, rfl, ⟨by decide, by decide, by decide⟩, _, _, rfl, rfl, Nat.zero_le _, fun o no => ?_⟩
      refine ⟨_, rfl, _, rfl, by omega, by omega, ?_⟩
      refine for_range (lo := 0) (n := m) (fun i σ H2 => ∃ (r : Int) (y6 y7 : Option V), σ = [some (.ref a), some (.int (pl : Int)), some (.int (m : Int)), some (.int c), some (.int r), some (.ref o), y6, y7] ∧ RowAt H1 H2 o i)
        ⟨_, _, _, rfl, RowAt.start no⟩ ?_ ?_
      · rintro i σ H2 hi ⟨r, y6, y7, rfl, ra⟩
        obtain ⟨_, sm, rw, hrw, eo⟩ := id ra
        have hsz : (rw.map V.int).length < sizeLine := by
          rw [List.length_map, hrw.1]; exact small1000 (by omega)
        refine ⟨_, rfl, _, _, rfl, rfl, _, rfl, ite2 (fun e => ?_) (fun e => ?_)⟩
        · refine ⟨_, rfl, .inl ⟨rfl, _, .inl (.inl eo)⟩, _, rfl, .inl ⟨_, rfl, _, _, rfl, rfl, by show (0 : Int) < 1000; decide, _, _, _, rfl, rfl, eo, hsz, ?_⟩⟩
          refine ⟨_, rfl, _, _, rfl, rfl, ⟨by decide, by decide⟩, ?_⟩
          exact ⟨_, _, _, rfl, ra.push eo (by omega) (by omega)⟩
        · refine ⟨_, rfl, _, _, rfl, rfl, mulG_r (by decide), _, rfl, _, _, rfl, rfl, mulG_r (by decide), _, _, rfl, rfl, _, _, rfl, rfl, .inl ⟨_, rfl, _, _, rfl, rfl, by show (0 : Int) < 2147483647; decide, ?_⟩⟩
          refine ⟨_, rfl, _, rfl, _, _, rfl, rfl, mulG_l (by omega), _, rfl, _, _, rfl, rfl, mulG_r (by decide), _, _, rfl, rfl, _, rfl, _, _, rfl, rfl, mulG_r (by decide), _, _, rfl, rfl, .inl ⟨_, rfl, _, _, rfl, rfl, by show (0 : Int) < 2147483399; decide, ?_⟩⟩
          refine ⟨_, rfl, .inl ⟨rfl, _, .inl (.inl eo)⟩, _, rfl, _, _, rfl, rfl, ⟨by decide, by decide⟩, _, _, rfl, rfl, by show (0 : Int) < 1000; decide, _, _, _, rfl, rfl, eo, hsz, ?_⟩
          exact ⟨_, _, _, rfl, ra.push eo (by omega) (by omega)⟩
      · rintro σ H2 ⟨r, y6, y7, rfl, _, sm, rw, hrw, eo⟩
        exact ⟨_, rfl, Z _ _ _ sm no hrw eo⟩
theorem ok__law_is_integer {f : Addr} {fd : FuncData} (F : Fun K "_law_is_integer" "_law_is_integer" s__law_is_integer f fd) (m_isinstance : mg "isinstance" = none) (m_int : mg "int" = none) (m_bool : mg "bool" = none) : FnOk P w K mg base CX0 1 f fd ["x"] (sp__law_is_integer K) := by
  refine F.ok sc__law_is_integer (fun vs H Q E h => ?_) (fun cdv A outer s H vs Q E hr h => ?_)
  · obtain ⟨i, rfl, _⟩ := h
    rfl
  · refine ⟨_, (pss_one (ps_ret (pe_and (pe_callB call_isi (by rfl) m_isinstance (by decide +kernel) (pa_cons (pv 0) (pa_cons (pe_bltn (v := .ty "int") (by rfl) m_int (by decide +kernel) rfl) pa_nil))) (pe_one (pe_not (pe_callB call_isi (by rfl) m_isinstance (by decide +kernel) (pa_cons (pv 0) (pa_cons (pe_bltn (v := .ty "bool") (by rfl) m_bool (by decide +kernel) rfl) pa_nil)))))))), ?_⟩
    obtain ⟨i, rfl, Z⟩ := h
    refine ⟨_, rfl, _, _, _, _, true, rfl, .ty _, .base (.int i), kit_ty (by decide +kernel), true, rfl, iteT ?_⟩
    refine ⟨_, rfl, _, _, _, _, false, rfl, .ty _, .base (.int i), kit_ty (by decide +kernel), false, rfl, ?_⟩
    exact Z
theorem ok__law_is_fraction {f : Addr} {fd : FuncData} (F : Fun K "_law_is_fraction" "_law_is_fraction" s__law_is_fraction f fd) (D__law_gcd : Dn P w K mg base CX0 1 "_law_gcd" (sp__law_gcd K)) (D__law_is_integer : Dn P w K mg base CX0 1 "_law_is_integer" (sp__law_is_integer K)) (m_isinstance : mg "isinstance" = none) (m_tuple : mg "tuple" = none) (m_len : mg "len" = none) (m_abs : mg "abs" = none) : FnOk P w K mg base CX0 2 f fd ["x"] (sp__law_is_fraction K) := by
  refine F.ok sc__law_is_fraction (fun vs H Q E h => ?_) (fun cdv A outer s H vs Q E hr h => ?_)
  · obtain ⟨a, r, rfl, _⟩ := h
    rfl
  · refine ⟨_, (pss_cons (ps_if (PW.pt (pw_or (pt_not (pt_val (pe_callB call_isi (by rfl) m_isinstance (by decide +kernel) (pa_cons (pv 0) (pa_cons (pe_bltn (v := .ty "tuple") (by rfl) m_tuple (by decide +kernel) rfl) pa_nil))))) (pw_or1 (pt_cmpR op_ne (pe_callB call_len_seq (by rfl) m_len (by decide +kernel) (pa_cons (pv 0) pa_nil)) pe_int (nomark _)))))
      (pss_one (ps_ret pe_bl))
      pss_nil)
      (pss_cons (ps_if (PW.pt (pw_or (pt_not (pt_val (pe_d D__law_is_integer hr (by decide) (by rfl) pass0 (pa_cons (pe_ix ix_tup (pv 0) pe_int (fun _ _ => rfl)) pa_nil)))) (pw_or (pt_not (pt_val (pe_d D__law_is_integer hr (by decide) (by rfl) pass0 (pa_cons (pe_ix ix_tup (pv 0) pe_int (fun _ _ => rfl)) pa_nil)))) (pw_or1 (pt_cmpR op_lt (pe_ix ix_tup (pv 0) pe_int (fun _ _ => rfl)) pe_int (nomark _))))))
      (pss_one (ps_ret pe_bl))
      pss_nil)
      (pss_one (ps_ret (pe_cmpR op_eq (pe_d D__law_gcd hr (by decide) (by rfl) pass0 (pa_cons (pe_callB call_abs (by rfl) m_abs (by decide +kernel) (pa_cons (pe_ix ix_tup (pv 0) pe_int (fun _ _ => rfl)) pa_nil)) (pa_cons (pe_ix ix_tup (pv 0) pe_int (fun _ _ => rfl)) pa_nil))) pe_int (nomark _)))))), ?_⟩
    obtain ⟨a, r, rfl, ha, hd, Z⟩ := h
    refine ⟨_, rfl, _, _, _, _, true, rfl, .ty _, tyT ha, kit_ty (by decide +kernel), true, rfl, iteF ?_⟩
    refine ⟨_, rfl, _, _, rfl, .inr ha, rfl, _, rfl, iteNS rfl ?_⟩
    refine ⟨_, rfl, _, _, _, _, rfl, rfl, ha, rfl, _, rfl, true, rfl, iteF ?_⟩
    refine ⟨_, rfl, _, _, _, _, rfl, rfl, ha, rfl, _, rfl, true, rfl, iteF ?_⟩
    refine ⟨_, rfl, _, _, _, _, rfl, rfl, ha, rfl, _, _, rfl, rfl, _, rfl, ite2 (fun e => ?_) (fun e => ?_)⟩
    · have e' : (r.den : Int) < 1 := of_decide_eq_true e
      have := r.den_nz
      omega
    · refine ⟨_, rfl, _, _, _, _, rfl, rfl, ha, rfl, _, rfl, _, rfl, _, _, _, _, rfl, rfl, ha, rfl, _, _, rfl, abs_nn _, by omega, by omega, ?_⟩
      rw [abs_na, Int.natAbs_natCast, show Nat.gcd r.num.natAbs r.den = 1 from r.reduced]
      exact ⟨rfl, Z⟩
theorem ok__law_equals {f : Addr} {fd : FuncData} (F : Fun K "_law_equals" "_law_equals" s__law_equals f fd) (D__law_is_fraction : Dn P w K mg base CX0 2 "_law_is_fraction" (sp__law_is_fraction K)) : FnOk P w K mg base CX0 3 f fd ["actual", "p", "q"] (sp__law_equals K) := by
  refine F.ok sc__law_equals (fun vs H Q E h => ?_) (fun cdv A outer s H vs Q E hr h => ?_)
  · obtain ⟨a, r, p, q, n, rfl, _⟩ := h
    rfl
  · refine ⟨_, (pss_one (ps_ret (pe_and (pe_d D__law_is_fraction hr (by decide) (by rfl) pass0 (pa_cons (pv 0) pa_nil)) (pe_one (pe_cmpR op_eq (pe_op op_mulG (pe_ix ix_tup (pv 0) pe_int (fun _ _ => rfl)) (pv 2)) (pe_op op_mulG (pv 1) (pe_ix ix_tup (pv 0) pe_int (fun _ _ => rfl))) (nomark _)))))), ?_⟩
    obtain ⟨a, r, p, q, n, rfl, ha, hd, hn, sr, hp, hq, e, Z⟩ := h
    refine ⟨_, rfl, _, _, rfl, ha, hd, true, rfl, iteT ?_⟩
    refine ⟨_, rfl, _, _, _, _, rfl, rfl, ha, rfl, _, rfl, _, _, rfl, rfl, mulG_b sr.1 hq (by omega), ?_⟩
    refine ⟨_, rfl, _, rfl, _, _, _, _, rfl, rfl, ha, rfl, _, _, rfl, rfl, mulG_b hp sr.den (by omega), rfl, ?_⟩
    rw [show decide (V.int (r.num * q) = V.int (p * (r.den : Int))) = true from decide_eq_true (by rw [e])]
    exact Z
theorem ok_dot {f : Addr} {fd : FuncData} (F : Fun K "dot" "dot" s_dot f fd) (D_add : Dn P w K mg base CX0 2 "add" (sp_add K)) (D_mul : Dn P w K mg base CX0 2 "mul" (sp_mul K)) (m_zip : mg "zip" = none) : FnOk P w K mg base CX0 3 f fd ["a", "b"] (sp_dot K) := by
  refine F.ok sc_dot (fun vs H Q E h => ?_) (fun cdv A outer s H vs Q E hr h => ?_)
  · obtain ⟨a, b, rs, ss, B, rfl, _⟩ := h
    rfl
  · refine ⟨_, (pss_cons (ps_set (i := 2) sc_dot.nd rfl (Or.inl rfl) (pe_tup (pa_cons pe_int (pa_cons pe_int pa_nil))))
      (pss_cons (ps_for PassesOwn.never rfl (pi_zip (by rfl) m_zip (pa_cons (pv 0) (pa_cons (pv 1) pa_nil))) (pg_tup rfl (pgs_cons (pg_name (i := 3) sc_dot.nd rfl (Or.inl rfl)) (pgs_cons (pg_name (i := 4) sc_dot.nd rfl (Or.inl rfl)) pgs_nil)))
      (pss_one (ps_set (i := 2) sc_dot.nd rfl (Or.inl rfl) (pe_d D_add hr (by decide) (by rfl) pass0 (pa_cons (pv 2) (pa_cons (pe_d D_mul hr (by decide) (by rfl) pass0 (pa_cons (pv 3) (pa_cons (pv 4) pa_nil))) pa_nil))))))
      (pss_one (ps_ret (pv 2))))), ?_⟩
    obtain ⟨a, b, rs, ss, B, rfl, hA, hB, hl, zr, zs, hz, Z⟩ := h
    obtain ⟨as, sA, fA⟩ := hA
    obtain ⟨bs, sB, fB⟩ := hB
    refine ⟨by show 2 ≤ sizeLine; decide, fun t0 n0 => ?_⟩
    have s0 : Same H (upd H t0 (.tup [.int 0, .int 1])) := same_upd n0
    refine ⟨_, rfl, _, rfl, a, b, as.map V.ref, bs.map V.ref, rfl, s0.seq sA, s0.seq sB, ?_⟩
    refine RZ.for_zipL (by rw [List.length_map, List.length_map, fA.1, fB.1, hl]) (fun i σ H2 => Same H H2 ∧ ∃ (t : Addr) (y3 y4 : Option V), H t = none ∧ σ = [some (.ref a), some (.ref b), some (.ref t), y3, y4] ∧ IsF K H2 t (dotR (rs.take i) (ss.take i)) ∧ Sz (1 + i * (2 * B + 1)) (dotR (rs.take i) (ss.take i))) ⟨s0, t0, _, _, n0, rfl, ?_, ?_⟩ (fun i σ H2 hP => ⟨hP.1.seq sA, hP.1.seq sB⟩) ?_ ?_
    · rw [List.take_zero, List.take_zero]
      exact SqT.of upd_same
    · rw [List.take_zero, List.take_zero]
      exact sz_zero.mono (by omega)
    · rintro i x y T σ H2 hx hy ⟨s2, t, y3, y4, nt, rfl, ht, zt⟩ nT
      obtain ⟨p, r, rfl, _, er, hp, hi⟩ := (fA.same s2).of hx
      obtain ⟨q, s, rfl, _, es, hq, hi2⟩ := (fB.same s2).of hy
      have sr := zr r (List.mem_of_getElem? er)
      have ss' := zs s (List.mem_of_getElem? es)
      have hmul : (i + 1) * (2 * B + 1) ≤ rs.length * (2 * B + 1) := Nat.mul_le_mul_right _ hi
      have hi0 : (i + 1) * (2 * B + 1) = i * (2 * B + 1) + (2 * B + 1) := Nat.succ_mul _ _
      have sT : Same H2 (upd H2 T (.tup [.ref p, .ref q])) := same_upd nT
      refine ⟨T, [.ref p, .ref q], rfl, SqT.of upd_same, rfl, .ref p, [.ref q], rfl, .ref q, [], rfl, rfl, ?_⟩
      refine ⟨_, rfl, _, rfl, _, rfl, _, _, r, s, rfl, hp.same sT, hq.same sT, sr.mono (by omega), ss'.mono (by omega), fun H3 m s3 nm hm => ?_⟩
      have szm : Sz (2 * B) (r * s) := (sr.mul ss').mono (by omega)
      refine ⟨_, _, _, _, rfl, (ht.same sT).same s3, hm, zt.mono (by omega), szm.mono (by omega), fun H4 u s4 nu hu => ?_⟩
      have sAll := s2.trans (sT.trans (s3.trans s4))
      refine ⟨sAll, u, _, _, (s2.trans (sT.trans s3)).free nu, rfl, ?_, ?_⟩
      · rw [dotR_take rs ss i r s er es]
        exact hu
      · rw [dotR_take rs ss i r s er es]
        exact (zt.add szm).mono (by omega)
    · rintro σ H2 ⟨s2, t, y3, y4, nt, rfl, ht, zt⟩
      refine ⟨_, rfl, Z _ _ s2 nt ?_⟩
      rw [List.length_map, fA.1] at ht
      rw [List.take_of_length_le (Nat.le_refl _), List.take_of_length_le (by omega)] at ht
      exact ht
theorem ok_law {f : Addr} {fd : FuncData} (F : Fun K "law" "law" s_law f fd) (D__law_drawn : Dn P w K mg base CX0 3 "_law_drawn" (sp__law_drawn K)) (D_scale : Dn P w K mg base CX0 3 "scale" (sp_scale K)) (D_add_scaled : Dn P w K mg base CX0 3 "add_scaled" (sp_add_scaled K)) (D__law_row : Dn P w K mg base CX0 1 "_law_row" (sp__law_row K)) (D__law_equals : Dn P w K mg base CX0 3 "_law_equals" (sp__law_equals K)) (D_dot : Dn P w K mg base CX0 3 "dot" (sp_dot K)) (m_list : mg "list" = none) (m_range : mg "range" = none) (m_int : mg "int" = none) (m_isinstance : mg "isinstance" = none) (m_len : mg "len" = none) : FnOk P w K mg base CX0 4 f fd ["script"] (sp_law K) := by
  refine F.ok sc_law (fun vs H Q E h => ?_) (fun cdv A outer s H vs Q E hr h => ?_)
  · obtain ⟨a, ns, rfl, _⟩ := h
    rfl
  · refine ⟨_, (pss_cons (ps_set (i := 1) sc_law.nd rfl (Or.inl rfl) (pe_op op_mod (pe_callTy call_int1 (by rfl) m_int (by decide +kernel) (pa_cons (pe_ix ix_list (pe_d D__law_row hr (by decide) (by rfl) pass0 (pa_cons (pv 0) (pa_cons pe_int (pa_cons pe_int pa_nil)))) pe_int (fun _ _ => rfl)) pa_nil)) pe_int))
      (pss_cons (ps_set (i := 2) sc_law.nd rfl (Or.inl rfl) (pe_d D__law_drawn hr (by decide) (by rfl) pass0 (pa_cons (pe_d D__law_row hr (by decide) (by rfl) pass0 (pa_cons (pv 0) (pa_cons pe_int (pa_cons pe_int pa_nil)))) pa_nil)))
      (pss_cons (ps_setLc (i := 3) (own := [("k", 8)]) (g := gName 8) (tt := tYes) rfl sc_law.nd rfl rfl (sw_true rfl rfl rfl (by decide +kernel)) (pi_range1 rfl m_range (pa_cons (pv 1) pa_nil)) (blkOk_by (N := N_law) (sc := defScope s_law) (by decide +kernel)) (fun _ _ _ _ _ => (pg_name (i := 8) sc_law.nd rfl (Or.inl rfl))) (fun _ _ _ _ _ => pts_nil) (fun _ _ _ _ _ => (pe_d D__law_drawn hr (by decide) (by rfl) pass0 (pa_cons (pe_d D__law_row hr (by decide) (by rfl) pass0 (pa_cons (pv 0) (pa_cons (pe_op op_add pe_int (pv 8)) (pa_cons pe_int pa_nil)))) pa_nil))))
      (pss_cons (ps_setLc (i := 4) (own := [("k", 8)]) (g := gName 8) (tt := tYes) rfl sc_law.nd rfl rfl (sw_true rfl rfl rfl (by decide +kernel)) (pi_range1 rfl m_range (pa_cons (pv 1) pa_nil)) (blkOk_by (N := N_law) (sc := defScope s_law) (by decide +kernel)) (fun _ _ _ _ _ => (pg_name (i := 8) sc_law.nd rfl (Or.inl rfl))) (fun _ _ _ _ _ => pts_nil) (fun _ _ _ _ _ => (pe_d D__law_drawn hr (by decide) (by rfl) pass0 (pa_cons (pe_d D__law_row hr (by decide) (by rfl) pass0 (pa_cons (pv 0) (pa_cons (pe_op op_add pe_int (pv 8)) (pa_cons pe_int pa_nil)))) pa_nil))))
      (pss_cons (ps_set (i := 5) sc_law.nd rfl (Or.inl rfl) (pe_callTy call_list_of (by rfl) m_list (by decide +kernel) (pa_cons (pv 3) pa_nil)))
      (pss_cons (ps_set (i := 6) sc_law.nd rfl (Or.inl rfl) (pe_callTy call_list_of (by rfl) m_list (by decide +kernel) (pa_cons (pv 4) pa_nil)))
      (pss_cons (ps_set (i := 7) sc_law.nd rfl (Or.inl rfl) (pe_tup (pa_cons pe_int (pa_cons pe_int pa_nil))))
      (pss_cons (ps_for PassesOwn.never rfl (pi_range1 rfl m_range (pa_cons (pv 1) pa_nil)) (pg_name (i := 8) sc_law.nd rfl (Or.inl rfl))
      (pss_cons (ps_set (i := 9) sc_law.nd rfl (Or.inl rfl) (pe_tup (pa_cons (pe_op op_mulG (pe_ix ix_tup (pe_ix ix_list (pv 3) (pv 8) (fun _ _ => rfl)) pe_int (fun _ _ => rfl)) (pe_ix ix_tup (pe_ix ix_list (pv 4) (pv 8) (fun _ _ => rfl)) pe_int (fun _ _ => rfl))) (pa_cons (pe_op op_mulG (pe_ix ix_tup (pe_ix ix_list (pv 3) (pv 8) (fun _ _ => rfl)) pe_int (fun _ _ => rfl)) (pe_ix ix_tup (pe_ix ix_list (pv 4) (pv 8) (fun _ _ => rfl)) pe_int (fun _ _ => rfl))) pa_nil))))
      (pss_one (ps_set (i := 7) sc_law.nd rfl (Or.inl rfl) (pe_tup (pa_cons (pe_op op_add (pe_op op_mulG (pe_ix ix_tup (pv 7) pe_int (fun _ _ => rfl)) (pe_ix ix_tup (pv 9) pe_int (fun _ _ => rfl))) (pe_op op_mulG (pe_ix ix_tup (pv 9) pe_int (fun _ _ => rfl)) (pe_ix ix_tup (pv 7) pe_int (fun _ _ => rfl)))) (pa_cons (pe_op op_mulG (pe_ix ix_tup (pv 7) pe_int (fun _ _ => rfl)) (pe_ix ix_tup (pv 9) pe_int (fun _ _ => rfl))) pa_nil)))))))
      (pss_cons (ps_if (pt_not (pt_val (pe_d D__law_equals hr (by decide) (by rfl) pass0 (pa_cons (pe_d D_dot hr (by decide) (by rfl) pass0 (pa_cons (pv 5) (pa_cons (pv 6) pa_nil))) (pa_cons (pe_ix ix_tup (pv 7) pe_int (fun _ _ => rfl)) (pa_cons (pe_ix ix_tup (pv 7) pe_int (fun _ _ => rfl)) pa_nil))))))
      (pss_one (ps_ret pe_bl))
      pss_nil)
      (pss_cons (ps_set (i := 10) sc_law.nd rfl (Or.inl rfl) (pe_d D_scale hr (by decide) (by rfl) pass0 (pa_cons (pv 2) (pa_cons (pv 5) pa_nil))))
      (pss_cons (ps_set (i := 11) sc_law.nd rfl (Or.inl rfl) (pe_d D_add_scaled hr (by decide) (by rfl) pass0 (pa_cons (pv 5) (pa_cons (pv 2) (pa_cons (pv 6) pa_nil)))))
      (pss_cons (ps_if (PW.pt (pw_or (pt_not (pt_val (pe_callB call_isi (by rfl) m_isinstance (by decide +kernel) (pa_cons (pv 10) (pa_cons (pe_bltn (v := .ty "list") (by rfl) m_list (by decide +kernel) rfl) pa_nil))))) (pw_or (pt_cmpR op_ne (pe_callB call_len_seq (by rfl) m_len (by decide +kernel) (pa_cons (pv 10) pa_nil)) (pv 1) (nomark _)) (pw_or (pt_not (pt_val (pe_callB call_isi (by rfl) m_isinstance (by decide +kernel) (pa_cons (pv 11) (pa_cons (pe_bltn (v := .ty "list") (by rfl) m_list (by decide +kernel) rfl) pa_nil))))) (pw_or1 (pt_cmpR op_ne (pe_callB call_len_seq (by rfl) m_len (by decide +kernel) (pa_cons (pv 11) pa_nil)) (pv 1) (nomark _)))))))
      (pss_one (ps_ret pe_bl))
      pss_nil)
      (pss_cons (ps_for PassesOwn.never rfl (pi_range1 rfl m_range (pa_cons (pv 1) pa_nil)) (pg_name (i := 8) sc_law.nd rfl (Or.inl rfl))
      (pss_cons (ps_if (pt_not (pt_val (pe_d D__law_equals hr (by decide) (by rfl) pass0 (pa_cons (pe_ix ix_list (pv 10) (pv 8) (fun _ _ => rfl)) (pa_cons (pe_op op_mulG (pe_ix ix_tup (pv 2) pe_int (fun _ _ => rfl)) (pe_ix ix_tup (pe_ix ix_list (pv 3) (pv 8) (fun _ _ => rfl)) pe_int (fun _ _ => rfl))) (pa_cons (pe_op op_mulG (pe_ix ix_tup (pv 2) pe_int (fun _ _ => rfl)) (pe_ix ix_tup (pe_ix ix_list (pv 3) (pv 8) (fun _ _ => rfl)) pe_int (fun _ _ => rfl))) pa_nil))))))
      (pss_one (ps_ret pe_bl))
      pss_nil)
      (pss_cons (ps_set (i := 12) sc_law.nd rfl (Or.inl rfl) (pe_tup (pa_cons (pe_op op_mulG (pe_ix ix_tup (pv 2) pe_int (fun _ _ => rfl)) (pe_ix ix_tup (pe_ix ix_list (pv 4) (pv 8) (fun _ _ => rfl)) pe_int (fun _ _ => rfl))) (pa_cons (pe_op op_mulG (pe_ix ix_tup (pv 2) pe_int (fun _ _ => rfl)) (pe_ix ix_tup (pe_ix ix_list (pv 4) (pv 8) (fun _ _ => rfl)) pe_int (fun _ _ => rfl))) pa_nil))))
      (pss_one (ps_if (pt_not (pt_val (pe_d D__law_equals hr (by decide) (by rfl) pass0 (pa_cons (pe_ix ix_list (pv 11) (pv 8) (fun _ _ => rfl)) (pa_cons (pe_op op_add (pe_op op_mulG (pe_ix ix_tup (pe_ix ix_list (pv 3) (pv 8) (fun _ _ => rfl)) pe_int (fun _ _ => rfl)) (pe_ix ix_tup (pv 12) pe_int (fun _ _ => rfl))) (pe_op op_mulG (pe_ix ix_tup (pv 12) pe_int (fun _ _ => rfl)) (pe_ix ix_tup (pe_ix ix_list (pv 3) (pv 8) (fun _ _ => rfl)) pe_int (fun _ _ => rfl)))) (pa_cons (pe_op op_mulG (pe_ix ix_tup (pe_ix ix_list (pv 3) (pv 8) (fun _ _ => rfl)) pe_int (fun _ _ => rfl)) (pe_ix ix_tup (pv 12) pe_int (fun _ _ => rfl))) pa_nil))))))
      (pss_one (ps_ret pe_bl))
      pss_nil)))))
      (pss_one (ps_ret (pe_and (pe_cmpR (op_eqD hr.units) (pv 5) (pv 3) (nomark _)) (pe_one (pe_cmpR (op_eqD hr.units) (pv 6) (pv 4) (nomark _))))))))))))))))))), ?_⟩
    obtain ⟨o, ns, rfl, hS, hlen, Z⟩ := h
    -- many
    refine ⟨_, rfl, _, _, 0, 1, rfl, hS, by decide, fun H1 o1 row1 s1 _ hr1 e1 => ?_⟩
    obtain ⟨v, av, v0, v1⟩ := hr1.at 0 (by decide)
    refine ⟨_, _, _, _, rfl, rfl, SqL.of e1, av, .inl ⟨_, rfl, _, _, rfl, rfl, by show (0 : Int) < 5; decide, ?_⟩⟩
    have hm : 0 ≤ v % 5 ∧ v % 5 < 5 := by omega
    obtain ⟨m, em⟩ : ∃ m : Nat, m = (v % 5).toNat := ⟨_, rfl⟩
    -- times
    refine ⟨_, rfl, _, _, 1, 24, rfl, s1.seq hS, by decide, fun H2 o2 row2 s2 _ hr2 e2 => ?_⟩
    refine ⟨_, _, rfl, SqL.of e2, hr2, fun t zt H3 ta s3 _ ht => ?_⟩
    have hS3 : SqL K H3 o (ns.map V.int) := s3.seq (s2.seq (s1.seq hS))
    -- a
    refine ⟨_, rfl, _, rfl, by omega, by omega, fun A0 nA => ?_⟩
    refine lc_range (lo := 0) (n := (v % 5).toNat) (fun i H4 => ∃ rs, rs.length = i ∧ (∀ r ∈ rs, Sz 100 r) ∧ Grow K H3 H4 A0 rs) ⟨[], rfl, (fun r hr => by cases hr), Grow.start nA⟩ ?_ ?_
    · rintro i H4 hi ⟨rs, el, zr, g⟩
      refine ⟨rfl, _, rfl, _, rfl, _, _, rfl, rfl, _, _, 2 + (0 + i), 24, rfl, g.same.seq hS3, by decide, fun H5 o5 row5 s5 _ hr5 e5 => ?_⟩
      refine ⟨_, _, rfl, SqL.of e5, hr5, fun r sr H6 p s6 _ hp => ?_⟩
      obtain ⟨acc, x1, x2, g2⟩ := g.step (s5.trans s6) hp (by omega)
      refine ⟨acc, x1, x2, rs ++ [r], by rw [List.length_append, el]; rfl, fun q hq => ?_, g2⟩
      rcases List.mem_append.mp hq with hq | hq
      · exact zr q hq
      · rw [List.mem_singleton] at hq; subst hq; exact sr
    rintro H4 ⟨rs, el, zr, gA⟩
    rw [← em] at el
    have ht4 := ht.same gA.same
    have hS4 := gA.same.seq hS3
    have hA4 : NewFs K H4 A0 rs := gA.ex
    -- b
    refine ⟨_, rfl, _, rfl, by omega, by omega, fun B0 nB => ?_⟩
    refine lc_range (lo := 0) (n := (v % 5).toNat) (fun i H5 => ∃ ss, ss.length = i ∧ (∀ r ∈ ss, Sz 100 r) ∧ Grow K H4 H5 B0 ss) ⟨[], rfl, (fun r hr => by cases hr), Grow.start nB⟩ ?_ ?_
    · rintro i H5 hi ⟨ss, el, zr, g⟩
      refine ⟨rfl, _, rfl, _, rfl, _, _, rfl, rfl, _, _, 6 + (0 + i), 24, rfl, g.same.seq hS4, by decide, fun H6 o5 row5 s5 _ hr5 e5 => ?_⟩
      refine ⟨_, _, rfl, SqL.of e5, hr5, fun r sr H7 p s6 _ hp => ?_⟩
      obtain ⟨acc, x1, x2, g2⟩ := g.step (s5.trans s6) hp (by omega)
      refine ⟨acc, x1, x2, ss ++ [r], by rw [List.length_append, el]; rfl, fun q hq => ?_, g2⟩
      rcases List.mem_append.mp hq with hq | hq
      · exact zr q hq
      · rw [List.mem_singleton] at hq; subst hq; exact sr
    rintro H5 ⟨ss, el2, zs, gB⟩
    rw [← em] at el2
    have hl : rs.length = ss.length := by omega
    obtain ⟨as, eA, fA⟩ := hA4.same gB.same
    obtain ⟨bs, eB, fB⟩ := gB.ex
    have ht5 := ht4.same gB.same
    -- first, second
    refine ⟨_, rfl, _, _, rfl, .inl (SqL.of eA), fun f0 nf => ?_⟩
    have s6 : Same H5 (upd H5 f0 (.lst (as.map V.ref))) := same_upd nf
    refine ⟨_, rfl, _, _, rfl, .inl (SqL.of (s6 _ _ eB)), fun g0 ng => ?_⟩
    have s7 := s6.trans (same_upd (o := .lst (bs.map V.ref)) ng)
    obtain ⟨H7, e7⟩ : ∃ H7, H7 = upd (upd H5 f0 (.lst (as.map V.ref))) g0 (.lst (bs.map V.ref)) := ⟨_, rfl⟩
    have eF : H7 f0 = some (.lst (as.map V.ref)) := by
      rw [e7]
      exact same_upd ng _ _ upd_same
    have eG : H7 g0 = some (.lst (bs.map V.ref)) := by
      rw [e7]
      exact upd_same
    rw [← e7] at s7 ⊢
    have eA := s7 _ _ eA
    have eB := s7 _ _ eB
    have fA := fA.same s7
    have fB := fB.same s7
    have ht7 := ht5.same s7
    -- total
    refine ⟨by show 2 ≤ sizeLine; decide, fun t0 nt0 => ?_⟩
    refine ⟨_, rfl, _, rfl, by omega, by omega, ?_⟩
    refine for_range (lo := 0) (n := (v % 5).toNat) (fun i σ H8 => Same H7 H8 ∧ ∃ (tt : Addr) (tn td : Int) (y8 y9 : Option V), σ = [some (.ref o), some (.int (v % 5)), some (.ref ta), some (.ref A0), some (.ref B0), some (.ref f0), some (.ref g0), some (.ref tt), y8, y9, none, none, none] ∧ SqT K H8 tt [.int tn, .int td] ∧ 0 < td ∧ tn.natAbs < 2 ^ (1 + 201 * i) ∧ td.natAbs < 2 ^ (1 + 201 * i) ∧ Rat.divInt tn td = dotR (rs.take i) (ss.take i))
      ⟨same_upd nt0, t0, 0, 1, _, _, rfl, SqT.of upd_same, by decide, by decide, by decide, by rw [List.take_zero, List.take_zero]; rfl⟩ ?_ ?_
    · rintro i σ H8 hi ⟨s8, tt, tn, td, y8, y9, rfl, hT, td0, tn1, td1, eq⟩
      rw [← em] at hi
      obtain ⟨p, r, _, ep, er, _⟩ := fA.get (i := i) (by omega)
      obtain ⟨q, s, _, eq', es, _⟩ := fB.get (i := i) (by omega)
      have hp : IsF K H8 p r := ((fA.same s8).2 i p r (by assumption) er)
      have hq : IsF K H8 q s := ((fB.same s8).2 i q s (by assumption) es)
      have sr := zr r (List.mem_of_getElem? er)
      have ss' := zs s (List.mem_of_getElem? es)
      have sA := SqL.of (K := K) (s8 _ _ eA)
      have sB := SqL.of (K := K) (s8 _ _ eB)
      have aA : atI (as.map V.ref) (0 + (i : Int)) = some (.ref p) := by rw [Int.zero_add]; exact atI_nat ep
      have aB : atI (bs.map V.ref) (0 + (i : Int)) = some (.ref q) := by rw [Int.zero_add]; exact atI_nat eq'
      refine ⟨_, rfl, _, rfl, _, _, _, _, rfl, rfl, sA, aA, _, _, _, _, rfl, rfl, hp, rfl, _, rfl, _, rfl, _, _, _, _, rfl, rfl, sB, aB, _, _, _, _, rfl, rfl, hq, rfl, _, _, rfl, rfl, mulG_b sr.1 ss'.1 (by decide), ?_⟩
      refine ⟨_, rfl, _, rfl, _, _, _, _, rfl, rfl, sA, aA, _, _, _, _, rfl, rfl, hp, rfl, _, rfl, _, rfl, _, _, _, _, rfl, rfl, sB, aB, _, _, _, _, rfl, rfl, hq, rfl, _, _, rfl, rfl, mulG_b sr.den ss'.den (by decide), by show 2 ≤ sizeLine; decide, fun u nu => ?_⟩
      have hU : SqT K (upd H8 u (.tup [.int (r.num * s.num), .int ((r.den : Int) * (s.den : Int))])) u [.int (r.num * s.num), .int ((r.den : Int) * (s.den : Int))] := SqT.of upd_same
      have hT' := sqt_upd (o := .tup [.int (r.num * s.num), .int ((r.den : Int) * (s.den : Int))]) nu hT
      have b1 := natAbs_mul_lt sr.1 ss'.1
      have b2 := natAbs_mul_lt sr.den ss'.den
      refine ⟨_, rfl, _, _, _, _, rfl, rfl, hT', rfl, _, rfl, _, _, _, _, rfl, rfl, hU, rfl, _, _, rfl, rfl, mulG_b tn1 b2 (by omega), ?_⟩
      refine ⟨_, rfl, _, _, _, _, rfl, rfl, hU, rfl, _, rfl, _, _, _, _, rfl, rfl, hT', rfl, _, _, rfl, rfl, mulG_b b1 td1 (by omega), _, _, rfl, rfl, ?_⟩
      refine ⟨_, rfl, _, _, _, _, rfl, rfl, hT', rfl, _, rfl, _, _, _, _, rfl, rfl, hU, rfl, _, _, rfl, rfl, mulG_b td1 b2 (by omega), by show 2 ≤ sizeLine; decide, fun w0 nw => ?_⟩
      refine ⟨s8.trans ((same_upd nu).trans (same_upd nw)), w0, _, _, _, _, rfl, SqT.of upd_same, Int.mul_pos td0 (den_mul_pos r s), ?_, ?_, ?_⟩
      · exact Nat.lt_of_lt_of_le (natAbs_add_lt (a := 201 + 201 * i) (Nat.lt_of_lt_of_le (natAbs_mul_lt tn1 b2) (Nat.pow_le_pow_right (by decide) (by omega))) (Nat.lt_of_lt_of_le (natAbs_mul_lt b1 td1) (Nat.pow_le_pow_right (by decide) (by omega)))) (Nat.pow_le_pow_right (by decide) (by omega))
      · exact Nat.lt_of_lt_of_le (natAbs_mul_lt td1 b2) (Nat.pow_le_pow_right (by decide) (by omega))
      · rw [dotR_take rs ss i r s er es, ← eq]
        exact lay_sum td0
    rintro σ H8 ⟨s8, tt, tn, td, y8, y9, rfl, hT, td0, tn1, td1, eq⟩
    rw [← em, List.take_of_length_le (by omega), List.take_of_length_le (by omega)] at eq
    rw [← em] at tn1 td1
    have tn2 : tn.natAbs < 2 ^ 1000 := Nat.lt_of_lt_of_le tn1 (Nat.pow_le_pow_right (by decide) (by omega))
    have td2 : td.natAbs < 2 ^ 1000 := Nat.lt_of_lt_of_le td1 (Nat.pow_le_pow_right (by decide) (by omega))
    have zd : Sz 1000 (dotR rs ss) := by
      rw [← eq]
      exact divInt_sz (Int.ne_of_gt td0) tn2 td2
    have eF := s8 _ _ eF
    have eG := s8 _ _ eG
    have eA := s8 _ _ eA
    have eB := s8 _ _ eB
    have fA := fA.same s8
    have fB := fB.same s8
    have ht8 := ht7.same s8
    -- dot
    refine ⟨_, rfl, _, rfl, _, _, rs, ss, 100, rfl, ⟨as, SqL.of eF, fA⟩, ⟨bs, SqL.of eG, fB⟩, hl, zr, zs, by omega, fun H9 p s9 _ hp => ?_⟩
    have hT9 := sqt_same s9 hT
    refine ⟨_, rfl, _, _, _, _, rfl, rfl, hT9, rfl, _, rfl, _, _, _, _, rfl, rfl, hT9, rfl, ?_⟩
    refine ⟨_, _, _, _, 1000, rfl, hp, Nat.lt_of_lt_of_le zd.2 (Nat.pow_le_pow_right (by decide) (by decide)), by decide, zd, tn2, td2, ?_, true, rfl, iteF ?_⟩
    · rw [← eq]
      exact num_mul_eq (Int.ne_of_gt td0)
    have eF := s9 _ _ eF
    have eG := s9 _ _ eG
    have eA := s9 _ _ eA
    have eB := s9 _ _ eB
    have fA := fA.same s9
    have fB := fB.same s9
    have ht9 := ht8.same s9
    -- scaled
    refine ⟨_, rfl, _, rfl, _, _, t, rs, rfl, ht9, ⟨as, SqL.of eF, fA⟩, zt.mono (by decide), fun r hr => (zr r hr).mono (by decide), by omega, fun H10 sc s10 _ hsc => ?_⟩
    have eF := s10 _ _ eF
    have eG := s10 _ _ eG
    have eA := s10 _ _ eA
    have eB := s10 _ _ eB
    have fA := fA.same s10
    have fB := fB.same s10
    have ht10 := ht9.same s10
    -- mixed
    refine ⟨_, rfl, _, rfl, _, rfl, _, _, _, rs, t, ss, rfl, ⟨as, SqL.of eF, fA⟩, ht10, ⟨bs, SqL.of eG, fB⟩, hl, zt.mono (by decide), fun r hr => (zr r hr).mono (by decide), fun r hr => (zs r hr).mono (by decide), by omega, fun H11 mx s11 _ hmx => ?_⟩
    have eF := s11 _ _ eF
    have eG := s11 _ _ eG
    have eA := s11 _ _ eA
    have eB := s11 _ _ eB
    have fA := fA.same s11
    have fB := fB.same s11
    have ht11 := ht10.same s11
    obtain ⟨cs, eC, fC⟩ := hsc.same s11
    obtain ⟨ds, eD, fD'⟩ := hmx
    have lC : cs.length = m := by rw [fC.1, List.length_map]; exact el
    have lM : (addS rs t ss).length = m := by
      unfold addS
      rw [List.length_zipWith]
      omega
    have lD : ds.length = m := by rw [fD'.1]; exact lM
    have hmv : (m : Int) = v % 5 := by omega
    -- the kinds and lengths
    refine ⟨_, rfl, _, _, _, _, true, rfl, .ty _, .base (.lst eC), kit_ty (by decide +kernel), true, rfl, ?_⟩
    refine ⟨_, rfl, _, _, rfl, .inl (SqL.of eC), _, rfl, rfl, _, rfl, iteNS (congrArg V.int (by rw [List.length_map, lC, hmv])) ?_⟩
    refine ⟨_, rfl, _, _, _, _, true, rfl, .ty _, .base (.lst eD), kit_ty (by decide +kernel), true, rfl, ?_⟩
    refine ⟨_, rfl, _, _, rfl, .inl (SqL.of eD), _, rfl, rfl, _, rfl, iteNS (congrArg V.int (by rw [List.length_map, lD, hmv])) ?_⟩
    -- each place
    refine ⟨_, rfl, _, rfl, by omega, by omega, ?_⟩
    refine for_range (lo := 0) (n := (v % 5).toNat) (fun i σ H12 => Same H11 H12 ∧ ∃ (y8 y9 y12 : Option V), σ = [some (.ref o), some (.int (v % 5)), some (.ref ta), some (.ref A0), some (.ref B0), some (.ref f0), some (.ref g0), some (.ref tt), y8, y9, some (.ref sc), some (.ref mx), y12]) ⟨Same.refl _, _, _, _, rfl⟩ ?_ ?_
    · rintro i σ H12 hi ⟨s12, y8, y9, y12, rfl⟩
      rw [← em] at hi
      obtain ⟨p, r, ea, ep, er, _⟩ := fA.get (i := i) (by omega)
      obtain ⟨q, s, eb, eq', es, _⟩ := fB.get (i := i) (by omega)
      have ht12 := ht11.same s12
      have hp : IsF K H12 p r := (fA.same s12).2 i p r ea er
      have hq : IsF K H12 q s := (fB.same s12).2 i q s eb es
      have sr := zr r (List.mem_of_getElem? er)
      have ss' := zs s (List.mem_of_getElem? es)
      have sA := SqL.of (K := K) (s12 _ _ eA)
      have sB := SqL.of (K := K) (s12 _ _ eB)
      have aA : atI (as.map V.ref) (0 + (i : Int)) = some (.ref p) := by rw [Int.zero_add]; exact atI_nat ep
      have aB : atI (bs.map V.ref) (0 + (i : Int)) = some (.ref q) := by rw [Int.zero_add]; exact atI_nat eq'
      obtain ⟨c, cr, ec, ec2, ecr, _⟩ := fC.get (i := i) (by rw [List.length_map]; omega)
      obtain ⟨d, dr, ed, ed2, edr, _⟩ := fD'.get (i := i) (by omega)
      have hc : IsF K H12 c cr := (fC.same s12).2 i c cr ec ecr
      have hd : IsF K H12 d dr := (fD'.same s12).2 i d dr ed edr
      have ecr' : cr = t * r := by
        rw [List.getElem?_map, er] at ecr
        exact (Option.some.inj ecr).symm
      have edr' : dr = r + t * s := by
        unfold addS at edr
        rw [List.getElem?_zipWith, er, es] at edr
        exact (Option.some.inj edr).symm
      subst ecr' edr'
      have aC : atI (cs.map V.ref) (0 + (i : Int)) = some (.ref c) := by rw [Int.zero_add]; exact atI_nat ec2
      have aD : atI (ds.map V.ref) (0 + (i : Int)) = some (.ref d) := by rw [Int.zero_add]; exact atI_nat ed2
      have sC := SqL.of (K := K) (s12 _ _ eC)
      have sD := SqL.of (K := K) (s12 _ _ eD)
      have z1 : Sz 200 (t * r) := zt.mul sr
      have z2 : Sz 301 (r + t * s) := sr.add (zt.mul ss')
      refine ⟨_, rfl, _, rfl, _, _, _, _, rfl, rfl, sC, aC, _, rfl, _, _, _, _, rfl, rfl, ht12, rfl, _, rfl, _, rfl, _, _, _, _, rfl, rfl, sA, aA, _, _, _, _, rfl, rfl, hp, rfl, _, _, rfl, rfl, mulG_b zt.1 sr.1 (by decide), _, rfl, _, _, _, _, rfl, rfl, ht12, rfl, _, rfl, _, rfl, _, _, _, _, rfl, rfl, sA, aA, _, _, _, _, rfl, rfl, hp, rfl, _, _, rfl, rfl, mulG_b zt.den sr.den (by decide), ?_⟩
      refine ⟨_, _, _, _, 1000, rfl, hc, Nat.lt_of_lt_of_le z1.2 (Nat.pow_le_pow_right (by decide) (by decide)), by decide, z1.mono (by decide), Nat.lt_of_lt_of_le (natAbs_mul_lt zt.1 sr.1) (Nat.pow_le_pow_right (by decide) (by decide)), Nat.lt_of_lt_of_le (natAbs_mul_lt zt.den sr.den) (Nat.pow_le_pow_right (by decide) (by decide)), ?_, true, rfl, iteF ?_⟩
      · rw [← rat_mul]
        exact num_mul_eq (Int.ne_of_gt (den_mul_pos t r))
      refine ⟨_, rfl, _, _, _, _, rfl, rfl, ht12, rfl, _, rfl, _, rfl, _, _, _, _, rfl, rfl, sB, aB, _, _, _, _, rfl, rfl, hq, rfl, _, _, rfl, rfl, mulG_b zt.1 ss'.1 (by decide), _, rfl, _, _, _, _, rfl, rfl, ht12, rfl, _, rfl, _, rfl, _, _, _, _, rfl, rfl, sB, aB, _, _, _, _, rfl, rfl, hq, rfl, _, _, rfl, rfl, mulG_b zt.den ss'.den (by decide), by show 2 ≤ sizeLine; decide, fun u nu => ?_⟩
      have sU : Same H12 (upd H12 u (.tup [.int (t.num * s.num), .int ((t.den : Int) * (s.den : Int))])) := same_upd nu
      have hU : SqT K (upd H12 u (.tup [.int (t.num * s.num), .int ((t.den : Int) * (s.den : Int))])) u [.int (t.num * s.num), .int ((t.den : Int) * (s.den : Int))] := SqT.of upd_same
      have sA' := sU.seq sA
      have sD' := sU.seq sD
      have hp' := hp.same sU
      have b1 := natAbs_mul_lt zt.1 ss'.1
      have b2 := natAbs_mul_lt zt.den ss'.den
      refine ⟨_, rfl, _, rfl, _, _, _, _, rfl, rfl, sD', aD, _, rfl, _, rfl, _, _, _, _, rfl, rfl, sA', aA, _, _, _, _, rfl, rfl, hp', rfl, _, rfl, _, _, _, _, rfl, rfl, hU, rfl, _, _, rfl, rfl, mulG_b sr.1 b2 (by decide), _, rfl, _, _, _, _, rfl, rfl, hU, rfl, _, rfl, _, rfl, _, _, _, _, rfl, rfl, sA', aA, _, _, _, _, rfl, rfl, hp', rfl, _, _, rfl, rfl, mulG_b b1 sr.den (by decide), _, _, rfl, rfl, ?_⟩
      refine ⟨_, rfl, _, rfl, _, _, _, _, rfl, rfl, sA', aA, _, _, _, _, rfl, rfl, hp', rfl, _, rfl, _, _, _, _, rfl, rfl, hU, rfl, _, _, rfl, rfl, mulG_b sr.den b2 (by decide), ?_⟩
      refine ⟨_, _, _, _, 1000, rfl, hd.same sU, Nat.lt_of_lt_of_le z2.2 (Nat.pow_le_pow_right (by decide) (by decide)), by decide, z2.mono (by decide), Nat.lt_of_lt_of_le (natAbs_add_lt (natAbs_mul_lt sr.1 b2) (Nat.lt_of_lt_of_le (natAbs_mul_lt b1 sr.den) (Nat.pow_le_pow_right (by decide) (by decide)))) (Nat.pow_le_pow_right (by decide) (by decide)), Nat.lt_of_lt_of_le (natAbs_mul_lt sr.den b2) (Nat.pow_le_pow_right (by decide) (by decide)), ?_, true, rfl, iteF ?_⟩
      · rw [← lay_mix]
        exact num_mul_eq (Int.ne_of_gt (Int.mul_pos (den_pos r) (den_mul_pos t s)))
      exact ⟨s12.trans sU, _, _, _, rfl⟩
    rintro σ H12 ⟨s12, y8, y9, y12, rfl⟩
    have eF := s12 _ _ eF
    have eG := s12 _ _ eG
    have eA := s12 _ _ eA
    have eB := s12 _ _ eB
    have fA := fA.same s12
    have fB := fB.same s12
    refine ⟨_, rfl, _, rfl, _, _, dp_fs ⟨as, SqL.of eF, fA⟩, dp_fs ⟨as, SqL.of eA, fA⟩, shaped_fs rs, shaped_fs rs, _, rfl, ?_⟩
    rw [eqv_fs]
    refine iteT ⟨_, rfl, _, rfl, _, _, dp_fs ⟨bs, SqL.of eG, fB⟩, dp_fs ⟨bs, SqL.of eB, fB⟩, shaped_fs ss, shaped_fs ss, ?_⟩
    rw [eqv_fs]
    exact Z _
end
theorem all_mk {l : PySem.W.OpenLaw} {w : World} {K : PySem.W.Frag} {h : Heap} {mg : Str → Option Value} {fa f1 f2 f3 f4 f5 f6 f7 f8 f9 f10 f11 f12 f13 f14 f15 : Addr} (X : K.In h) (G : h.Ns mainGlobals mg) (hfa : mg "law" = some (.ref fa))
    {od1 an1 od2 an2 od3 an3 od4 an4 od5 an5 od6 an6 od7 an7 od8 an8 od9 an9 od10 an10 od11 an11 od12 an12 od13 an13 od14 an14 od15 an15 : Option Addr} {sl1 sl2 sl3 sl4 sl5 sl6 sl7 sl8 sl9 sl10 sl11 sl12 sl13 sl14 sl15 : Array (Option Value)} {oc1 kV1 dc1 pm1 ct1 cd1 oc2 kV2 dc2 pm2 ct2 cd2 oc3 kV3 dc3 pm3 ct3 cd3 oc4 kV4 dc4 pm4 ct4 cd4 oc5 kV5 dc5 pm5 ct5 cd5 oc6 kV6 dc6 pm6 ct6 cd6 oc7 kV7 dc7 pm7 ct7 cd7 oc8 kV8 dc8 pm8 ct8 cd8 oc9 kV9 dc9 pm9 ct9 cd9 oc10 kV10 dc10 pm10 ct10 cd10 oc11 kV11 dc11 pm11 ct11 cd11 oc12 kV12 dc12 pm12 ct12 cd12 oc13 kV13 dc13 pm13 ct13 cd13 oc14 kV14 dc14 pm14 ct14 cd14 oc15 kV15 dc15 pm15 ct15 cd15 : Value}
    (a1 : PySem.W.nsIn K mainGlobals "_law_long" = some (some (.ref f1)))
    (l1 : K.lookup f1 = some ⟨oc1, od1, .func (PySem.W.fnOf "_law_long" "_law_long" (defArgs s__law_long) (defBody s__law_long) (defScope s__law_long) .none kV1 dc1 pm1 an1 cd1 ct1), sl1⟩)
    (c1 : PySem.W.codeIn K cd1 "_law_long" = true)
    (k1 : PySem.W.keepIn K (.ref f1) = true)
    (a2 : PySem.W.nsIn K mainGlobals "_law_gcd" = some (some (.ref f2)))
    (l2 : K.lookup f2 = some ⟨oc2, od2, .func (PySem.W.fnOf "_law_gcd" "_law_gcd" (defArgs s__law_gcd) (defBody s__law_gcd) (defScope s__law_gcd) .none kV2 dc2 pm2 an2 cd2 ct2), sl2⟩)
    (c2 : PySem.W.codeIn K cd2 "_law_gcd" = true)
    (k2 : PySem.W.keepIn K (.ref f2) = true)
    (a3 : PySem.W.nsIn K mainGlobals "_law_lowest" = some (some (.ref f3)))
    (l3 : K.lookup f3 = some ⟨oc3, od3, .func (PySem.W.fnOf "_law_lowest" "_law_lowest" (defArgs s__law_lowest) (defBody s__law_lowest) (defScope s__law_lowest) .none kV3 dc3 pm3 an3 cd3 ct3), sl3⟩)
    (c3 : PySem.W.codeIn K cd3 "_law_lowest" = true)
    (k3 : PySem.W.keepIn K (.ref f3) = true)
    (a4 : PySem.W.nsIn K mainGlobals "_law_drawn" = some (some (.ref f4)))
    (l4 : K.lookup f4 = some ⟨oc4, od4, .func (PySem.W.fnOf "_law_drawn" "_law_drawn" (defArgs s__law_drawn) (defBody s__law_drawn) (defScope s__law_drawn) .none kV4 dc4 pm4 an4 cd4 ct4), sl4⟩)
    (c4 : PySem.W.codeIn K cd4 "_law_drawn" = true)
    (k4 : PySem.W.keepIn K (.ref f4) = true)
    (a5 : PySem.W.nsIn K mainGlobals "ratio" = some (some (.ref f5)))
    (l5 : K.lookup f5 = some ⟨oc5, od5, .func (PySem.W.fnOf "ratio" "ratio" (defArgs s_ratio) (defBody s_ratio) (defScope s_ratio) .none kV5 dc5 pm5 an5 cd5 ct5), sl5⟩)
    (c5 : PySem.W.codeIn K cd5 "ratio" = true)
    (k5 : PySem.W.keepIn K (.ref f5) = true)
    (a6 : PySem.W.nsIn K mainGlobals "mul" = some (some (.ref f6)))
    (l6 : K.lookup f6 = some ⟨oc6, od6, .func (PySem.W.fnOf "mul" "mul" (defArgs s_mul) (defBody s_mul) (defScope s_mul) .none kV6 dc6 pm6 an6 cd6 ct6), sl6⟩)
    (c6 : PySem.W.codeIn K cd6 "mul" = true)
    (k6 : PySem.W.keepIn K (.ref f6) = true)
    (a7 : PySem.W.nsIn K mainGlobals "scale" = some (some (.ref f7)))
    (l7 : K.lookup f7 = some ⟨oc7, od7, .func (PySem.W.fnOf "scale" "scale" (defArgs s_scale) (defBody s_scale) (defScope s_scale) .none kV7 dc7 pm7 an7 cd7 ct7), sl7⟩)
    (c7 : PySem.W.codeIn K cd7 "scale" = true)
    (k7 : PySem.W.keepIn K (.ref f7) = true)
    (a8 : PySem.W.nsIn K mainGlobals "add" = some (some (.ref f8)))
    (l8 : K.lookup f8 = some ⟨oc8, od8, .func (PySem.W.fnOf "add" "add" (defArgs s_add) (defBody s_add) (defScope s_add) .none kV8 dc8 pm8 an8 cd8 ct8), sl8⟩)
    (c8 : PySem.W.codeIn K cd8 "add" = true)
    (k8 : PySem.W.keepIn K (.ref f8) = true)
    (a9 : PySem.W.nsIn K mainGlobals "add_scaled" = some (some (.ref f9)))
    (l9 : K.lookup f9 = some ⟨oc9, od9, .func (PySem.W.fnOf "add_scaled" "add_scaled" (defArgs s_add_scaled) (defBody s_add_scaled) (defScope s_add_scaled) .none kV9 dc9 pm9 an9 cd9 ct9), sl9⟩)
    (c9 : PySem.W.codeIn K cd9 "add_scaled" = true)
    (k9 : PySem.W.keepIn K (.ref f9) = true)
    (a10 : PySem.W.nsIn K mainGlobals "_law_row" = some (some (.ref f10)))
    (l10 : K.lookup f10 = some ⟨oc10, od10, .func (PySem.W.fnOf "_law_row" "_law_row" (defArgs s__law_row) (defBody s__law_row) (defScope s__law_row) .none kV10 dc10 pm10 an10 cd10 ct10), sl10⟩)
    (c10 : PySem.W.codeIn K cd10 "_law_row" = true)
    (k10 : PySem.W.keepIn K (.ref f10) = true)
    (a11 : PySem.W.nsIn K mainGlobals "_law_is_integer" = some (some (.ref f11)))
    (l11 : K.lookup f11 = some ⟨oc11, od11, .func (PySem.W.fnOf "_law_is_integer" "_law_is_integer" (defArgs s__law_is_integer) (defBody s__law_is_integer) (defScope s__law_is_integer) .none kV11 dc11 pm11 an11 cd11 ct11), sl11⟩)
    (c11 : PySem.W.codeIn K cd11 "_law_is_integer" = true)
    (k11 : PySem.W.keepIn K (.ref f11) = true)
    (a12 : PySem.W.nsIn K mainGlobals "_law_is_fraction" = some (some (.ref f12)))
    (l12 : K.lookup f12 = some ⟨oc12, od12, .func (PySem.W.fnOf "_law_is_fraction" "_law_is_fraction" (defArgs s__law_is_fraction) (defBody s__law_is_fraction) (defScope s__law_is_fraction) .none kV12 dc12 pm12 an12 cd12 ct12), sl12⟩)
    (c12 : PySem.W.codeIn K cd12 "_law_is_fraction" = true)
    (k12 : PySem.W.keepIn K (.ref f12) = true)
    (a13 : PySem.W.nsIn K mainGlobals "_law_equals" = some (some (.ref f13)))
    (l13 : K.lookup f13 = some ⟨oc13, od13, .func (PySem.W.fnOf "_law_equals" "_law_equals" (defArgs s__law_equals) (defBody s__law_equals) (defScope s__law_equals) .none kV13 dc13 pm13 an13 cd13 ct13), sl13⟩)
    (c13 : PySem.W.codeIn K cd13 "_law_equals" = true)
    (k13 : PySem.W.keepIn K (.ref f13) = true)
    (a14 : PySem.W.nsIn K mainGlobals "dot" = some (some (.ref f14)))
    (l14 : K.lookup f14 = some ⟨oc14, od14, .func (PySem.W.fnOf "dot" "dot" (defArgs s_dot) (defBody s_dot) (defScope s_dot) .none kV14 dc14 pm14 an14 cd14 ct14), sl14⟩)
    (c14 : PySem.W.codeIn K cd14 "dot" = true)
    (k14 : PySem.W.keepIn K (.ref f14) = true)
    (a15 : PySem.W.nsIn K mainGlobals "law" = some (some (.ref f15)))
    (l15 : K.lookup f15 = some ⟨oc15, od15, .func (PySem.W.fnOf "law" "law" (defArgs s_law) (defBody s_law) (defScope s_law) .none kV15 dc15 pm15 an15 cd15 ct15), sl15⟩)
    (c15 : PySem.W.codeIn K cd15 "law" = true)
    (k15 : PySem.W.keepIn K (.ref f15) = true)
    (z_range : PySem.W.nsIn K mainGlobals "range" = some none)
    (z_int : PySem.W.nsIn K mainGlobals "int" = some none)
    (z_abs : PySem.W.nsIn K mainGlobals "abs" = some none)
    (z_max : PySem.W.nsIn K mainGlobals "max" = some none)
    (z_zip : PySem.W.nsIn K mainGlobals "zip" = some none)
    (z_len : PySem.W.nsIn K mainGlobals "len" = some none)
    (z_isinstance : PySem.W.nsIn K mainGlobals "isinstance" = some none)
    (z_bool : PySem.W.nsIn K mainGlobals "bool" = some none)
    (z_tuple : PySem.W.nsIn K mainGlobals "tuple" = some none)
    (z_list : PySem.W.nsIn K mainGlobals "list" = some none)
    (z_gcd : PySem.W.nsIn K mainGlobals "gcd" = some (some (.builtin "math.gcd")))
    : ∃ fd : FuncData, (∀ (s : Shared) (v : Value), BindsTo s fd ⟨[v], []⟩ [("script", v)]) ∧ ∀ base : Heap, K.In base → base.Ns mainGlobals mg → FnOk l.prog w K mg base CX0 4 fa fd ["script"] (sp_law K) := by
  have e := hfa.symm.trans (PySem.W.mg_of X G a15)
  cases e
  have m_range : mg "range" = none := PySem.W.mg_none_of X G z_range
  have m_int : mg "int" = none := PySem.W.mg_none_of X G z_int
  have m_abs : mg "abs" = none := PySem.W.mg_none_of X G z_abs
  have m_max : mg "max" = none := PySem.W.mg_none_of X G z_max
  have m_zip : mg "zip" = none := PySem.W.mg_none_of X G z_zip
  have m_len : mg "len" = none := PySem.W.mg_none_of X G z_len
  have m_isinstance : mg "isinstance" = none := PySem.W.mg_none_of X G z_isinstance
  have m_bool : mg "bool" = none := PySem.W.mg_none_of X G z_bool
  have m_tuple : mg "tuple" = none := PySem.W.mg_none_of X G z_tuple
  have m_list : mg "list" = none := PySem.W.mg_none_of X G z_list
  have m_gcd : mg "gcd" = some (.builtin "math.gcd") := PySem.W.mg_of X G z_gcd
  refine ⟨PySem.W.fnOf "law" "law" (defArgs s_law) (defBody s_law) (defScope s_law) .none kV15 dc15 pm15 an15 cd15 ct15, fun s v => .of_eq rfl, fun base _ _ => ?_⟩
  have F1 := fun_mk (st := s__law_long) l1 c1 k1
  have D__law_long : Dn l.prog w K mg base CX0 1 "_law_long" (sp__law_long K) := ⟨_, _, _, ok__law_long F1 m_range, PySem.W.mg_of X G a1, F1.kp, F1.binds (ps := ["row", "start", "many"]) fun _ _ _ _ _ _ us hl => match us, hl with | [_, _, _], _ => rfl⟩
  have F2 := fun_mk (st := s__law_gcd) l2 c2 k2
  have D__law_gcd : Dn l.prog w K mg base CX0 1 "_law_gcd" (sp__law_gcd K) := ⟨_, _, _, ok__law_gcd F2 m_range m_int, PySem.W.mg_of X G a2, F2.kp, F2.binds (ps := ["a", "b"]) fun _ _ _ _ _ _ us hl => match us, hl with | [_, _], _ => rfl⟩
  have F3 := fun_mk (st := s__law_lowest) l3 c3 k3
  have D__law_lowest : Dn l.prog w K mg base CX0 2 "_law_lowest" (sp__law_lowest K) := ⟨_, _, _, ok__law_lowest F3 D__law_gcd m_abs, PySem.W.mg_of X G a3, F3.kp, F3.binds (ps := ["p", "q"]) fun _ _ _ _ _ _ us hl => match us, hl with | [_, _], _ => rfl⟩
  have F4 := fun_mk (st := s__law_drawn) l4 c4 k4
  have D__law_drawn : Dn l.prog w K mg base CX0 3 "_law_drawn" (sp__law_drawn K) := ⟨_, _, _, ok__law_drawn F4 D__law_long D__law_lowest m_max m_int, PySem.W.mg_of X G a4, F4.kp, F4.binds (ps := ["row"]) fun _ _ _ _ _ _ us hl => match us, hl with | [_], _ => rfl⟩
  have F5 := fun_mk (st := s_ratio) l5 c5 k5
  have D_ratio : Dn l.prog w K mg base CX0 1 "ratio" (sp_ratio K) := ⟨_, _, _, ok_ratio F5 m_gcd, PySem.W.mg_of X G a5, F5.kp, F5.binds (ps := ["p", "q"]) fun _ _ _ _ _ _ us hl => match us, hl with | [_, _], _ => rfl⟩
  have F6 := fun_mk (st := s_mul) l6 c6 k6
  have D_mul : Dn l.prog w K mg base CX0 2 "mul" (sp_mul K) := ⟨_, _, _, ok_mul F6 D_ratio, PySem.W.mg_of X G a6, F6.kp, F6.binds (ps := ["a", "b"]) fun _ _ _ _ _ _ us hl => match us, hl with | [_, _], _ => rfl⟩
  have F7 := fun_mk (st := s_scale) l7 c7 k7
  have D_scale : Dn l.prog w K mg base CX0 3 "scale" (sp_scale K) := ⟨_, _, _, ok_scale F7 D_mul, PySem.W.mg_of X G a7, F7.kp, F7.binds (ps := ["k", "a"]) fun _ _ _ _ _ _ us hl => match us, hl with | [_, _], _ => rfl⟩
  have F8 := fun_mk (st := s_add) l8 c8 k8
  have D_add : Dn l.prog w K mg base CX0 2 "add" (sp_add K) := ⟨_, _, _, ok_add F8 D_ratio, PySem.W.mg_of X G a8, F8.kp, F8.binds (ps := ["a", "b"]) fun _ _ _ _ _ _ us hl => match us, hl with | [_, _], _ => rfl⟩
  have F9 := fun_mk (st := s_add_scaled) l9 c9 k9
  have D_add_scaled : Dn l.prog w K mg base CX0 3 "add_scaled" (sp_add_scaled K) := ⟨_, _, _, ok_add_scaled F9 D_add D_mul m_zip, PySem.W.mg_of X G a9, F9.kp, F9.binds (ps := ["a", "k", "b"]) fun _ _ _ _ _ _ us hl => match us, hl with | [_, _, _], _ => rfl⟩
  have F10 := fun_mk (st := s__law_row) l10 c10 k10
  have D__law_row : Dn l.prog w K mg base CX0 1 "_law_row" (sp__law_row K) := ⟨_, _, _, ok__law_row F10 m_range m_len m_int, PySem.W.mg_of X G a10, F10.kp, F10.binds (ps := ["script", "place", "many"]) fun _ _ _ _ _ _ us hl => match us, hl with | [_, _, _], _ => rfl⟩
  have F11 := fun_mk (st := s__law_is_integer) l11 c11 k11
  have D__law_is_integer : Dn l.prog w K mg base CX0 1 "_law_is_integer" (sp__law_is_integer K) := ⟨_, _, _, ok__law_is_integer F11 m_isinstance m_int m_bool, PySem.W.mg_of X G a11, F11.kp, F11.binds (ps := ["x"]) fun _ _ _ _ _ _ us hl => match us, hl with | [_], _ => rfl⟩
  have F12 := fun_mk (st := s__law_is_fraction) l12 c12 k12
  have D__law_is_fraction : Dn l.prog w K mg base CX0 2 "_law_is_fraction" (sp__law_is_fraction K) := ⟨_, _, _, ok__law_is_fraction F12 D__law_gcd D__law_is_integer m_isinstance m_tuple m_len m_abs, PySem.W.mg_of X G a12, F12.kp, F12.binds (ps := ["x"]) fun _ _ _ _ _ _ us hl => match us, hl with | [_], _ => rfl⟩
  have F13 := fun_mk (st := s__law_equals) l13 c13 k13
  have D__law_equals : Dn l.prog w K mg base CX0 3 "_law_equals" (sp__law_equals K) := ⟨_, _, _, ok__law_equals F13 D__law_is_fraction, PySem.W.mg_of X G a13, F13.kp, F13.binds (ps := ["actual", "p", "q"]) fun _ _ _ _ _ _ us hl => match us, hl with | [_, _, _], _ => rfl⟩
  have F14 := fun_mk (st := s_dot) l14 c14 k14
  have D_dot : Dn l.prog w K mg base CX0 3 "dot" (sp_dot K) := ⟨_, _, _, ok_dot F14 D_add D_mul m_zip, PySem.W.mg_of X G a14, F14.kp, F14.binds (ps := ["a", "b"]) fun _ _ _ _ _ _ us hl => match us, hl with | [_, _], _ => rfl⟩
  have F15 := fun_mk (st := s_law) l15 c15 k15
  exact ok_law F15 D__law_drawn D_scale D_add_scaled D__law_row D__law_equals D_dot m_list m_range m_int m_isinstance m_len
end BB
open PySem PySem.W PyProof.Rows
set_option maxHeartbeats 0 in
theorem PySem.Challenge.cw_buybook_k06_rows_holds : PySem.Challenge.rw_buybook_k06_rows.Holds := by
  w_on; o_law; k_head; (case hw => w_witness2)
  k_fill
  refine L2.walk_of (l := PySem.Challenge.rw_buybook_k06_rows) (n := 63) (k := 4) (x := "script") (CX := fun _ => L2.CX0) (sp := fun w => BB.sp_law _) rfl (by decide) rfl ⟨rfl, by decide, by decide⟩ (fun w h Y => PySem.W.kIn_of Y) ?F (fun _ _ a ns hl _ hS => ⟨a, ns, rfl, hS, hl, fun _ => rfl⟩) (fun _ _ _ _ _ h => h)
  case F =>
    intro w mg fa h KX G hmg
    refine' BB.all_mk KX G hmg ?a1 ?l1 ?c1 ?k1 ?a2 ?l2 ?c2 ?k2 ?a3 ?l3 ?c3 ?k3 ?a4 ?l4 ?c4 ?k4 ?a5 ?l5 ?c5 ?k5 ?a6 ?l6 ?c6 ?k6 ?a7 ?l7 ?c7 ?k7 ?a8 ?l8 ?c8 ?k8 ?a9 ?l9 ?c9 ?k9 ?a10 ?l10 ?c10 ?k10 ?a11 ?l11 ?c11 ?k11 ?a12 ?l12 ?c12 ?k12 ?a13 ?l13 ?c13 ?k13 ?a14 ?l14 ?c14 ?k14 ?a15 ?l15 ?c15 ?k15 ?z_range ?z_int ?z_abs ?z_max ?z_zip ?z_len ?z_isinstance ?z_bool ?z_tuple ?z_list ?z_gcd
    (case a1 => k_is); (case l1 => k_is); (case c1 => k_is); (case k1 => k_is); (case a2 => k_is); (case l2 => k_is); (case c2 => k_is); (case k2 => k_is); (case a3 => k_is); (case l3 => k_is); (case c3 => k_is); (case k3 => k_is); (case a4 => k_is); (case l4 => k_is); (case c4 => k_is); (case k4 => k_is); (case a5 => k_is); (case l5 => k_is); (case c5 => k_is); (case k5 => k_is); (case a6 => k_is); (case l6 => k_is); (case c6 => k_is); (case k6 => k_is); (case a7 => k_is); (case l7 => k_is); (case c7 => k_is); (case k7 => k_is); (case a8 => k_is); (case l8 => k_is); (case c8 => k_is); (case k8 => k_is); (case a9 => k_is); (case l9 => k_is); (case c9 => k_is); (case k9 => k_is); (case a10 => k_is); (case l10 => k_is); (case c10 => k_is); (case k10 => k_is); (case a11 => k_is); (case l11 => k_is); (case c11 => k_is); (case k11 => k_is); (case a12 => k_is); (case l12 => k_is); (case c12 => k_is); (case k12 => k_is); (case a13 => k_is); (case l13 => k_is); (case c13 => k_is); (case k13 => k_is); (case a14 => k_is); (case l14 => k_is); (case c14 => k_is); (case k14 => k_is); (case a15 => k_is); (case l15 => k_is); (case c15 => k_is); (case k15 => k_is); (case z_range => k_is); (case z_int => k_is); (case z_abs => k_is); (case z_max => k_is); (case z_zip => k_is); (case z_len => k_is); (case z_isinstance => k_is); (case z_bool => k_is); (case z_tuple => k_is); (case z_list => k_is); (case z_gcd => k_is)
