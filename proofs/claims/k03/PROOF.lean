import PyProof.Rows.All
import Wide.All
import OpenK.AllK
import Wide.FinOn
import HandS.ForMost
import HandS.Exc
import HandS.TryOnly
import HandS.ExcOwn
import HandS.WordsExc
import HandS.ExcInit
import HandS.ExcField
import HandS.IsInst
import HandS.Deep
import HandS.Walk
import HandS.Wide
import HandS.Style
import KE.KTupSum
import HandS.TupSets
import KE.KExcSuper
import KE.KSuper
import KE.DataMinMax
import HandS.Gcd
import KE.KExcLine
import PySem.Challenge.RW_heapsdouble_k03_whole_walks_of_two
set_option Elab.async false
set_option linter.all false
set_option maxRecDepth 100000
set_option maxHeartbeats 2000000
/-! Rules of our own: xs[i] read for op=, sum of a tuple, enumerate of a tuple. -/
namespace Hd
open PySem PySem.Spec PyProof.Rows L2

theorem Same.tup {K : PySem.W.Frag} {H H' : Hp} {a : Addr} {xs : List V} (e : Same H H') (h : SqT K H a xs) : SqT K H' a xs := by
  rcases h with (h | ⟨o, h⟩) | h
  · exact .inl (.inl (e _ _ h))
  · exact .inl (.inr ⟨o, e _ _ h⟩)
  · exact .inr h
theorem Same.new {H : Hp} {p : Addr} {o : HO} (h : H p = none) : Same H (upd H p o) := fun a u e => by
  rw [upd_ne (ne_of_none e h)]
  exact e
theorem same_upd {H H' : Hp} {p : Addr} {o : HO} (e : Same H H') (h : H p = none) : Same H (upd H' p o) := fun a u ha => by
  rw [upd_ne (ne_of_none ha h)]
  exact e a u ha

/-- a def of one's own by its name: what a caller needs -/
structure Cal (P : Program) (w : World) (K : PySem.W.Frag) (mg : Str → Option Value) (base : Heap) (CX : CXT) (k : Nat) (x : Str) (ps : List Str) (sp : Sp) : Prop where
  ex : ∃ (f : Addr) (fd : FuncData), mg x = some (.ref f) ∧ PySem.W.keepIn K (.ref f) = true ∧ Binds K fd ps [] ∧ FnOk P w K mg base CX k f fd ps sp
def tCal (sp : Sp) (E : XK) (t : TA) : TE := fun σ H Q => t σ H fun vs H1 => sp vs H1 Q E
section
variable {X : Cx}
theorem pe_cal {CX : CXT} {j k : Nat} {x : Str} {ps : List Str} {sp : Sp} {E : XK} {e : Expr} {es : List Expr} {t : TA} {p pos : Pos} (C : Cal X.prog X.w X.K X.mg X.base CX j x ps sp) (hr : Room k X.A) (hg : Gl X x) (hx : Passes CX X E)
    (ha : PA X (e :: es) t) (hk : j ≤ k := by decide) (hdb : (x == ("__debug__" : Str)) = false := by decide) (he : starEach (e :: es) X.env = (false, eval e X.env) :: starEach es X.env := by rfl) (hpl : (backTo pos (starEach es X.env)).any (·.1) = false := by rfl) :
    PE X (.Call (.Name x p) (e :: es) [] pos) (tCal sp E t) := by
  obtain ⟨f, fd, hm, kp, hb, F⟩ := C.ex
  refine ⟨fun pins s σ H Q I h => (pe_call (dvs := []) F (hr.mono hk) hg hm kp hb .nil hx ha hdb he hpl).run pins s σ H Q I ?_⟩
  have e1 : (tCall sp [] E t) = tCal sp E t := by
    funext σ H Q
    unfold tCall tCal
    congr 1
    funext vs H1
    rw [List.append_nil]
  rw [e1]
  exact h
end

/-- a block cut behind its first statement: R is what every way through it brings -/
def tCutM (t u : TS) : TS := fun D σ H => ∃ R : L2.St → Hp → Prop, t { D with nx := R } σ H ∧ ∀ σ' H', R σ' H' → u D σ' H'
theorem pss_cutM {X : Cx} {st : Stmt} {rest : List Stmt} {t u : TS} (a : PS X st t) (b : PSs X rest u) : PSs X (st :: rest) (tCutM t u) := by
  refine ⟨fun pins s σ H D I hh => ?_⟩
  obtain ⟨R, hR, go⟩ := hh
  refine wpAny_execs_cons (thn (a.run pins s σ H { D with nx := R } I hR) fun f s1 q => ?_)
  cases f with
  | next =>
    obtain ⟨σ1, H1, I1, q1⟩ := q
    exact b.run pins s1 σ1 H1 D I1 (go σ1 H1 q1)
  | ret _ => exact q
  | brk => exact q
  | cont => exact q
section
variable {X : Cx}
/-- xs[k], 0 ≤ k, read for xs[k] op= e -/
def rGetL (K : PySem.W.Frag) : V → V → Hp → VK → Prop := fun o i H Q => ∃ p xs k v, o = .ref p ∧ i = .int k ∧ SqL K H p xs ∧ 0 ≤ k ∧ xs[k.toNat]? = some v ∧ Q v H
theorem pget_list : PGet X (rGetL X.K) := by
  intro pins s σ H o i ov iv Q I ro ri h
  obtain ⟨p, xs, k, v, rfl, rfl, hq, h0, he, q⟩ := h
  cases ro
  obtain ⟨t, rfl⟩ := ri
  obtain ⟨its, r, pl, hz⟩ := I.list hq
  obtain ⟨w, ew, rw'⟩ := r.get he
  have hl := r.length
  have hlt : k.toNat < its.length := (List.getElem?_eq_some_iff.mp ew).1
  have hb : k < 2 ^ 63 := by
    rw [sizeLine_eq] at hz
    omega
  exact wpAny_getItem_list pl.isList h0 hb (by simpa using ew) ⟨v, H, I, rw', q⟩

/-- sum(t) of a tuple of ints -/
def rSumT (K : PySem.W.Frag) : List V → Hp → VK → Prop := fun vs H Q => ∃ (a : Addr) (ns : List Int), vs = [V.ref a] ∧ SqT K H a (ns.map V.int) ∧ Q (.int ns.sum) H
theorem cr_sumT (hc : X.calm = true) : CallR X (.builtin "sum") (rSumT X.K) := by
  intro pins s σ H vs us Q I r h
  obtain ⟨a, ns, rfl, hs, q⟩ := h
  obtain ⟨its, rv, hl, _⟩ := I.tuple hs
  rw [Vals.ref1 r]
  have hi := rv.ints
  obtain ⟨xs, e⟩ := hi.allInts.items
  have hn : numsOf (intItems xs).toList = ns := by rw [← e]; exact hi.numsOf
  rw [nums_intItems] at hn
  rw [e] at hl
  refine PySem.W.ktm_sumG (I.ok.hd hc) hl fun h' tk t' hk => ?_
  rw [PySem.preSum_eq, List.take_of_length_le (by simp), hn]
  exact ⟨.int _, H, I.kept hk, ⟨_, rfl⟩, q⟩
end
end Hd
set_option maxHeartbeats 2000000
/-! The numbers of two heaps. -/
namespace Hd
/-! ### powers of two -/
theorem two_cop {o : Nat} (ho : o % 2 = 1) (k : Nat) : Nat.Coprime o (2 ^ k) := by
  refine Nat.Coprime.pow_right k ?_
  have h1 : Nat.gcd o 2 ∣ 2 := Nat.gcd_dvd_right _ _
  have h2 : Nat.gcd o 2 ∣ o := Nat.gcd_dvd_left _ _
  have h3 : Nat.gcd o 2 ≤ 2 := Nat.le_of_dvd (by decide) h1
  have h4 : Nat.gcd o 2 ≠ 0 := fun z => by
    rw [z] at h1
    have := Nat.eq_zero_of_zero_dvd h1
    omega
  have h5 : Nat.gcd o 2 ≠ 2 := fun z => by
    rw [z] at h2
    have := Nat.mod_eq_zero_of_dvd h2
    omega
  show Nat.gcd o 2 = 1
  omega
theorem odd_pred {d : Nat} (hd : 0 < d) : (2 ^ d - 1) % 2 = 1 := by
  obtain ⟨e, rfl⟩ : ∃ e, d = e + 1 := ⟨d - 1, by omega⟩
  have : 0 < 2 ^ e := Nat.pow_pos (by decide)
  rw [Nat.pow_succ]
  omega
theorem pow_dvd_pow_mul {t i n : Nat} (hn : n % 2 = 1) : 2 ^ t ∣ 2 ^ i * n ↔ t ≤ i := by
  refine ⟨fun h => ?_, fun h => Nat.dvd_trans (Nat.pow_dvd_pow 2 h) (Nat.dvd_mul_right _ _)⟩
  have h2 : 2 ^ t ∣ 2 ^ i := Nat.Coprime.dvd_of_dvd_mul_right (Nat.Coprime.symm (two_cop hn t)) h
  exact (Nat.pow_dvd_pow_iff_le_right (by decide)).mp h2
theorem part_dvd {o t i n : Nat} (ho : o % 2 = 1) (hn : n % 2 = 1) : o * 2 ^ t ∣ 2 ^ i * n ↔ t ≤ i ∧ o ∣ n := by
  constructor
  · intro h
    refine ⟨(pow_dvd_pow_mul hn).mp (Nat.dvd_trans (Nat.dvd_mul_left _ _) h), ?_⟩
    exact Nat.Coprime.dvd_of_dvd_mul_left (two_cop ho i) (Nat.dvd_trans (Nat.dvd_mul_right _ _) h)
  · rintro ⟨h1, h2⟩
    rw [Nat.mul_comm]
    exact Nat.mul_dvd_mul (Nat.pow_dvd_pow 2 h1) h2
theorem part_pow {o t k : Nat} (ho : o % 2 = 1) : o * 2 ^ t ∣ 2 ^ k ↔ o = 1 ∧ t ≤ k := by
  have e := part_dvd (o := o) (t := t) (i := k) (n := 1) ho (by decide)
  rw [Nat.mul_one] at e
  rw [e]
  constructor
  · rintro ⟨h1, h2⟩
    exact ⟨Nat.eq_one_of_dvd_one h2, h1⟩
  · rintro ⟨h1, h2⟩
    exact ⟨h2, by rw [h1]; exact Nat.dvd_refl 1⟩
theorem part_one {o t o' t' : Nat} (ho : o % 2 = 1) (ho' : o' % 2 = 1) (h : o * 2 ^ t = o' * 2 ^ t') : o = o' ∧ t = t' := by
  have a1 : t ≤ t' := by
    have z : 2 ^ t ∣ 2 ^ t' * o' := by
      rw [Nat.mul_comm, ← h]
      exact Nat.dvd_mul_left _ _
    exact (pow_dvd_pow_mul ho').mp z
  have a2 : t' ≤ t := by
    have z : 2 ^ t' ∣ 2 ^ t * o := by
      rw [Nat.mul_comm, h]
      exact Nat.dvd_mul_left _ _
    exact (pow_dvd_pow_mul ho).mp z
  have e : t = t' := by omega
  subst e
  exact ⟨Nat.eq_of_mul_eq_mul_right (Nat.pow_pos (by decide)) h, rfl⟩
/-! ### two heaps -/
theorem both_mod (a b k : Nat) : ((2 ^ k * a) % (a + b) + (2 ^ k * b) % (a + b)) % (a + b) = 0 := by
  rw [← Nat.add_mod, ← Nat.mul_add, Nat.mul_mod_left]
/-- the odd part and the twos of the reduced sum -/
structure Par (a b o t : Nat) : Prop where
  pos : 0 < a + b
  eq : (a + b) / Nat.gcd a b = o * 2 ^ t
  odd : o % 2 = 1
theorem Par.one {a b o t o' t' : Nat} (p : Par a b o t) (q : Par a b o' t') : o = o' ∧ t = t' := part_one p.odd q.odd (p.eq.symm.trans q.eq)
section
variable {a b o t : Nat} (p : Par a b o t)
include p
theorem Par.gpos : 0 < Nat.gcd a b := Nat.gcd_pos_iff.mpr (by have := p.pos; omega)
theorem Par.sum : a + b = Nat.gcd a b * (o * 2 ^ t) := by
  rw [← p.eq]
  exact (Nat.mul_div_cancel' (Nat.dvd_add (Nat.gcd_dvd_left a b) (Nat.gcd_dvd_right a b))).symm
theorem Par.dvd (x : Nat) : a + b ∣ x * a ↔ o * 2 ^ t ∣ x := by
  have g0 := p.gpos
  obtain ⟨a', ha⟩ := Nat.gcd_dvd_left a b
  obtain ⟨b', hb⟩ := Nat.gcd_dvd_right a b
  have hs := p.sum
  have hc : Nat.Coprime a' b' := by
    have e : Nat.gcd a b * Nat.gcd a' b' = Nat.gcd a b * 1 := by
      rw [← Nat.gcd_mul_left, ← ha, ← hb, Nat.mul_one]
    exact Nat.eq_of_mul_eq_mul_left g0 e
  have hr : o * 2 ^ t = a' + b' := by
    have e : Nat.gcd a b * (o * 2 ^ t) = Nat.gcd a b * (a' + b') := by
      rw [← hs, Nat.mul_add, ← ha, ← hb]
    exact Nat.eq_of_mul_eq_mul_left g0 e
  have hc2 : Nat.Coprime (a' + b') a' := by
    show Nat.gcd (a' + b') a' = 1
    rw [Nat.gcd_comm, Nat.gcd_self_add_right]
    exact hc
  constructor
  · intro h
    have h' : Nat.gcd a b * (o * 2 ^ t) ∣ Nat.gcd a b * (x * a') := by
      rw [← hs]
      have e : Nat.gcd a b * (x * a') = x * a := by
        rw [Nat.mul_left_comm, ← ha]
      rw [e]
      exact h
    have h2 := Nat.dvd_of_mul_dvd_mul_left g0 h'
    rw [hr] at h2 ⊢
    exact Nat.Coprime.dvd_of_dvd_mul_right hc2 h2
  · intro h
    rw [hs]
    have e : x * a = Nat.gcd a b * (x * a') := by
      rw [Nat.mul_left_comm, ← ha]
    rw [e]
    exact Nat.mul_dvd_mul_left _ (Nat.dvd_trans h (Nat.dvd_mul_right _ _))
/-- one heap is empty behind k steps -/
theorem Par.zero (k : Nat) : (2 ^ k * a) % (a + b) = 0 ↔ o = 1 ∧ t ≤ k := by
  rw [← part_pow p.odd, ← p.dvd (2 ^ k)]
  exact ⟨Nat.dvd_of_mod_eq_zero, Nat.mod_eq_zero_of_dvd⟩
theorem Par.zero' (k : Nat) : (2 ^ k * b) % (a + b) = 0 ↔ o = 1 ∧ t ≤ k := by
  rw [← p.zero k]
  have s0 := p.pos
  have h := both_mod a b k
  have l1 := Nat.mod_lt (2 ^ k * a) s0
  have l2 := Nat.mod_lt (2 ^ k * b) s0
  constructor
  · intro e
    rw [e, Nat.add_zero, Nat.mod_eq_of_lt l1] at h
    exact h
  · intro e
    rw [e, Nat.zero_add, Nat.mod_eq_of_lt l2] at h
    exact h
end
/-- where the walk is behind k steps -/
def wpos (a b o t k : Nat) : Nat × Nat := if o = 1 ∧ t ≤ k then (if t = 0 then (a, b) else (0, a + b)) else ((2 ^ k * a) % (a + b), (2 ^ k * b) % (a + b))
def nxt (x y : Nat) : Nat × Nat := if y ≤ x then (x - y, 2 * y) else (2 * x, y - x)
section
variable {a b o t : Nat} (p : Par a b o t)
include p
theorem Par.live {k : Nat} (h : ¬ (o = 1 ∧ t ≤ k)) : wpos a b o t k = ((2 ^ k * a) % (a + b), (2 ^ k * b) % (a + b)) ∧ 0 < (2 ^ k * a) % (a + b) ∧ 0 < (2 ^ k * b) % (a + b) ∧ (2 ^ k * a) % (a + b) + (2 ^ k * b) % (a + b) = a + b := by
  have s0 := p.pos
  have z1 : (2 ^ k * a) % (a + b) ≠ 0 := fun z => h ((p.zero k).mp z)
  have z2 : (2 ^ k * b) % (a + b) ≠ 0 := fun z => h ((p.zero' k).mp z)
  have hm := both_mod a b k
  have l1 := Nat.mod_lt (2 ^ k * a) s0
  have l2 := Nat.mod_lt (2 ^ k * b) s0
  refine ⟨if_neg h, by omega, by omega, ?_⟩
  by_cases hlt : (2 ^ k * a) % (a + b) + (2 ^ k * b) % (a + b) < a + b
  · rw [Nat.mod_eq_of_lt hlt] at hm
    omega
  · have e : ((2 ^ k * a) % (a + b) + (2 ^ k * b) % (a + b) - (a + b)) % (a + b) = 0 := by
      rw [Nat.mod_eq_sub_mod (by omega)] at hm
      exact hm
    rw [Nat.mod_eq_of_lt (by omega)] at e
    omega
theorem Par.start : wpos a b o t 0 = (a, b) := by
  unfold wpos
  by_cases h : o = 1 ∧ t ≤ 0
  · rw [if_pos h, if_pos (by omega)]
  · obtain ⟨e, h1, h2, h3⟩ := p.live h
    rw [if_neg h]
    simp only [Nat.pow_zero, Nat.one_mul] at h1 h2 h3 ⊢
    have ha : a ≠ a + b := fun z => by
      rw [← z, Nat.mod_self] at h1
      omega
    have hb : b ≠ a + b := fun z => by
      rw [← z, Nat.mod_self] at h2
      omega
    rw [Nat.mod_eq_of_lt (by omega), Nat.mod_eq_of_lt (by omega)]
theorem Par.ended {k : Nat} (h : o = 1 ∧ t ≤ k) : wpos a b o t k = (if t = 0 then (a, b) else (0, a + b)) ∧ ((wpos a b o t k).1 = 0 ∨ (wpos a b o t k).2 = 0) ∧ (wpos a b o t k).1 + (wpos a b o t k).2 = a + b := by
  have e : wpos a b o t k = (if t = 0 then (a, b) else (0, a + b)) := if_pos h
  refine ⟨e, ?_, ?_⟩
  · rw [e]
    by_cases ht : t = 0
    · rw [if_pos ht]
      have z := (p.zero 0).mpr ⟨h.1, by omega⟩
      rw [Nat.pow_zero, Nat.one_mul] at z
      have s0 := p.pos
      by_cases hb : b = 0
      · exact .inr hb
      · rw [Nat.mod_eq_of_lt (by omega)] at z
        exact .inl z
    · rw [if_neg ht]
      exact .inl rfl
  · rw [e]
    by_cases ht : t = 0
    · rw [if_pos ht]
    · rw [if_neg ht]
      exact Nat.zero_add _
theorem Par.step {k : Nat} (h : ¬ (o = 1 ∧ t ≤ k)) : nxt (wpos a b o t k).1 (wpos a b o t k).2 = wpos a b o t (k + 1) := by
  obtain ⟨e, h1, h2, h3⟩ := p.live h
  have d1 : (2 ^ (k + 1) * a) % (a + b) = (2 * ((2 ^ k * a) % (a + b))) % (a + b) := by
    rw [Nat.pow_succ, Nat.mul_comm (2 ^ k) 2, Nat.mul_assoc, Nat.mul_mod_mod]
  have d2 : (2 ^ (k + 1) * b) % (a + b) = (2 * ((2 ^ k * b) % (a + b))) % (a + b) := by
    rw [Nat.pow_succ, Nat.mul_comm (2 ^ k) 2, Nat.mul_assoc, Nat.mul_mod_mod]
  rw [e]
  have z1 := p.zero (k + 1)
  have e1 : wpos a b o t (k + 1) = if o = 1 ∧ t ≤ k + 1 then (if t = 0 then (a, b) else (0, a + b)) else ((2 ^ (k + 1) * a) % (a + b), (2 ^ (k + 1) * b) % (a + b)) := rfl
  rw [e1, d1, d2]
  rw [d1] at z1
  generalize (2 ^ k * a) % (a + b) = x at *
  generalize (2 ^ k * b) % (a + b) = y at *
  unfold nxt
  show (if y ≤ x then (x - y, 2 * y) else (2 * x, y - x)) = _
  have big : ∀ u v : Nat, 0 < v → v < u → u + v = a + b → (2 * u) % (a + b) = u - v := fun u v g0 g q => by
    rw [Nat.mod_eq_sub_mod (by omega), Nat.mod_eq_of_lt (by omega)]
    omega
  by_cases hxy : x = y
  · have z : (2 * x) % (a + b) = 0 := by
      have : 2 * x = a + b := by omega
      rw [this, Nat.mod_self]
    have en := z1.mp z
    rw [if_pos (by omega), if_pos en, if_neg (by omega)]
    rw [hxy] at h3 ⊢
    congr 1
    · omega
    · omega
  · have nz : (2 * x) % (a + b) ≠ 0 := by
      by_cases g : y < x
      · rw [big x y h2 g h3]
        omega
      · rw [Nat.mod_eq_of_lt (by omega)]
        omega
    rw [if_neg (show ¬ (o = 1 ∧ t ≤ k + 1) from fun q => nz (z1.mpr q))]
    by_cases g : y < x
    · rw [if_pos (by omega), big x y h2 g h3, Nat.mod_eq_of_lt (show 2 * y < a + b by omega)]
    · rw [if_neg (by omega), big y x h1 (by omega) (by omega), Nat.mod_eq_of_lt (show 2 * x < a + b by omega)]
theorem Par.still {k : Nat} (h : o = 1 ∧ t ≤ k) : wpos a b o t (k + 1) = wpos a b o t k := by
  rw [(p.ended h).1, (p.ended ⟨h.1, Nat.le_succ_of_le h.2⟩).1]
theorem Par.at_end {k : Nat} (h : o = 1 ∧ t ≤ k) : wpos a b o t k = wpos a b o t t := by
  rw [(p.ended h).1, (p.ended ⟨h.1, Nat.le_refl t⟩).1]
theorem Par.sum_pos (k : Nat) : (wpos a b o t k).1 + (wpos a b o t k).2 = a + b := by
  by_cases h : o = 1 ∧ t ≤ k
  · exact (p.ended h).2.2
  · obtain ⟨e, h1, h2, h3⟩ := p.live h
    rw [e]
    exact h3
/-- the same heaps again -/
theorem Par.again {x d : Nat} (hd : 0 < d) (i : Nat) (hx : x = (2 ^ i * a) % (a + b)) : (2 ^ (i + d) * a) % (a + b) = x ↔ t ≤ i ∧ o ∣ 2 ^ d - 1 := by
  subst hx
  rw [← part_dvd p.odd (odd_pred hd), ← p.dvd]
  have hp : 0 < 2 ^ d := Nat.pow_pos (by decide)
  have e : 2 ^ (i + d) * a = 2 ^ i * a + 2 ^ i * (2 ^ d - 1) * a := by
    rw [← Nat.add_mul, Nat.pow_add]
    congr 1
    have : 2 ^ d = 1 + (2 ^ d - 1) := by omega
    rw (occs := [1]) [this]
    rw [Nat.mul_add, Nat.mul_one]
  rw [e]
  generalize 2 ^ i * a = u
  generalize 2 ^ i * (2 ^ d - 1) * a = v
  generalize hs : a + b = s
  have s0 : 0 < s := by rw [← hs]; exact p.pos
  constructor
  · intro h
    have := Nat.sub_mod_eq_zero_of_mod_eq h
    rw [Nat.add_sub_cancel_left] at this
    exact Nat.dvd_of_mod_eq_zero this
  · rintro ⟨q, rfl⟩
    exact Nat.add_mul_mod_self_left _ _ _
end
/-- the least number of doublings that comes back -/
structure Ord (o k : Nat) : Prop where
  pos : 0 < k
  yes : o ∣ 2 ^ k - 1
  no : ∀ j, 0 < j → j < k → ¬ o ∣ 2 ^ j - 1
theorem ord_some {o : Nat} (ho : o % 2 = 1) : ∃ k, k ≤ o ∧ Ord o k := by
  have hpos : 0 < o := by omega
  -- pigeons
  have two : ∃ i j, i < j ∧ j ≤ o ∧ 2 ^ i % o = 2 ^ j % o := by
    refine Classical.byContradiction fun hn => ?_
    have inj : ∀ i j, i ≤ o → j ≤ o → 2 ^ i % o = 2 ^ j % o → i = j := fun i j hi hj e => by
      rcases Nat.lt_trichotomy i j with h | h | h
      · exact absurd ⟨i, j, h, hj, e⟩ hn
      · exact h
      · exact absurd ⟨j, i, h, hi, e.symm⟩ hn
    have nd : ((List.range (o + 1)).map fun i => 2 ^ i % o).Nodup := by
      refine List.pairwise_map.mpr (List.Pairwise.imp_of_mem (fun {x y} hx hy hxy e => ?_) (List.nodup_range (n := o + 1)))
      exact hxy (inj x y (by have := List.mem_range.mp hx; omega) (by have := List.mem_range.mp hy; omega) e)
    have le := L2.nat_nodup_len _ (List.range o) nd fun x hx => by
      obtain ⟨i, _, rfl⟩ := List.mem_map.mp hx
      exact List.mem_range.mpr (Nat.mod_lt _ hpos)
    rw [List.length_map, List.length_range, List.length_range] at le
    omega
  obtain ⟨i, j, hij, hj, e⟩ := two
  have hd : o ∣ 2 ^ (j - i) - 1 := by
    have h1 := Nat.sub_mod_eq_zero_of_mod_eq e.symm
    have h2 : 2 ^ j - 2 ^ i = 2 ^ i * (2 ^ (j - i) - 1) := by
      rw [Nat.mul_sub, Nat.mul_one, ← Nat.pow_add, Nat.add_sub_cancel' (Nat.le_of_lt hij)]
    rw [h2] at h1
    exact Nat.Coprime.dvd_of_dvd_mul_left (two_cop ho i) (Nat.dvd_of_mod_eq_zero h1)
  have least : ∀ n, (0 < n ∧ o ∣ 2 ^ n - 1) → ∃ k, k ≤ n ∧ Ord o k := by
    intro n
    induction n using Nat.strongRecOn with
    | _ n ih =>
      rintro ⟨h0, h1⟩
      by_cases hm : ∃ m, m < n ∧ 0 < m ∧ o ∣ 2 ^ m - 1
      · obtain ⟨m, a1, a2, a3⟩ := hm
        obtain ⟨k, b1, b2⟩ := ih m a1 ⟨a2, a3⟩
        exact ⟨k, by omega, b2⟩
      · exact ⟨n, Nat.le_refl _, h0, h1, fun j c1 c2 c3 => hm ⟨j, c2, c1, c3⟩⟩
  obtain ⟨k, h1, h2⟩ := least (j - i) ⟨by omega, hd⟩
  exact ⟨k, by omega, h2⟩
theorem Ord.one {o k k' : Nat} (x : Ord o k) (y : Ord o k') : k = k' := by
  rcases Nat.lt_trichotomy k k' with h | h | h
  · exact absurd x.yes (y.no k x.pos h)
  · exact h
  · exact absurd y.yes (x.no k' y.pos h)
theorem mod_one_dvd {o k : Nat} (ho : 1 < o) : 2 ^ k % o = 1 % o ↔ o ∣ 2 ^ k - 1 := by
  have hp : 0 < 2 ^ k := Nat.pow_pos (by decide)
  constructor
  · intro h
    exact Nat.dvd_of_mod_eq_zero (Nat.sub_mod_eq_zero_of_mod_eq h)
  · rintro ⟨q, hq⟩
    have e : 2 ^ k = 1 + o * q := by omega
    rw [e]
    exact Nat.add_mul_mod_self_left _ _ _
theorem twos_some : ∀ n : Nat, 0 < n → ∃ o t, n = o * 2 ^ t ∧ o % 2 = 1 := by
  intro n
  induction n using Nat.strongRecOn with
  | _ n ih =>
    intro h
    by_cases he : n % 2 = 1
    · exact ⟨n, 0, by simp, he⟩
    · obtain ⟨o, t, e, ho⟩ := ih (n / 2) (by omega) (by omega)
      refine ⟨o, t + 1, ?_, ho⟩
      have : n = n / 2 * 2 := by omega
      rw [this, e, Nat.pow_succ, Nat.mul_assoc]
theorem par_some {a b : Nat} (h : 0 < a + b) : ∃ o t, Par a b o t := by
  have g0 : 0 < Nat.gcd a b := Nat.gcd_pos_iff.mpr (by omega)
  have hd : Nat.gcd a b ∣ a + b := Nat.dvd_add (Nat.gcd_dvd_left a b) (Nat.gcd_dvd_right a b)
  obtain ⟨o, t, e, ho⟩ := twos_some ((a + b) / Nat.gcd a b) (Nat.div_pos (Nat.le_of_dvd h hd) g0)
  exact ⟨o, t, h, e, ho⟩
theorem twos_small {n o t k : Nat} (h : n = o * 2 ^ t) (ho : 0 < o) (hn : n < 2 ^ k) : t < k := by
  refine Nat.lt_of_not_le fun z => ?_
  have h1 : 2 ^ k ≤ 2 ^ t := Nat.pow_le_pow_right (by decide) z
  have h2 : 2 ^ t ≤ o * 2 ^ t := Nat.le_mul_of_pos_left _ ho
  omega
theorem Par.small {a b o t k : Nat} (p : Par a b o t) (h : a + b < 2 ^ k) : t < k ∧ o < 2 ^ k := by
  have ho : 0 < o := by have := p.odd; omega
  have hle : (a + b) / Nat.gcd a b ≤ a + b := Nat.div_le_self _ _
  have e := p.eq
  refine ⟨twos_small e ho (by omega), ?_⟩
  have : o ≤ o * 2 ^ t := Nat.le_mul_of_pos_right _ (Nat.pow_pos (by decide))
  omega
/-- an empty heap: the walk has ended -/
theorem Par.empty {a b o t : Nat} (p : Par a b o t) (h : a = 0 ∨ b = 0) : o = 1 ∧ t = 0 := by
  have e := p.eq
  have s0 := p.pos
  have e1 : (a + b) / Nat.gcd a b = 1 := by
    rcases h with h | h
    · subst h
      rw [Nat.gcd_zero_left, Nat.zero_add]
      exact Nat.div_self (by omega)
    · subst h
      rw [Nat.gcd_zero_right, Nat.add_zero]
      exact Nat.div_self (by omega)
  rw [e1] at e
  have q := part_one (o := 1) (t := 0) (by decide) p.odd (by rw [← e])
  exact ⟨q.1.symm, q.2.symm⟩
theorem Par.full {a b o t : Nat} (p : Par a b o t) (h : a ≠ 0 ∧ b ≠ 0) (ho : o = 1) : t ≠ 0 := fun ht => by
  have z := (p.zero 0).mpr ⟨ho, by omega⟩
  rw [Nat.pow_zero, Nat.one_mul, Nat.mod_eq_of_lt (by omega)] at z
  omega
end Hd
set_option maxHeartbeats 4000000
/-! raise X() of an own class whose base's __init__ says super().__init__(). -/
namespace Hd
open PySem PySem.W PySem.Calls PyProof.Rows
/-- the scope of def __init__(self): super().__init__() -/
def hiScope : Scope := { kind := .function, names := [(PySem.Str.ofString "self", .local), (PySem.Str.ofString "__class__", .free), (PySem.Str.ofString "super", .globalImplicit)], isGenerator := false, isCoroutine := false, more := [] }
/-- the base's __init__ as the top leaves it: a def that closes over its class -/
structure SupDef (prog : Program) (K : Frag) (fI D : Addr) : Prop where
  ex : ∃ (oc : Value) (od an : Option Addr) (params : Arguments) (qual : Str) (dV kV doc pm ct : Value) (cc cda : Addr) (osl : Array (Option Value)) (p0 p1 ap cp ep : Pos) (ar : Arg)
      (ccl cl : Value) (cdd cld : Option Addr) (vs : Array Value) (ccs csl : Array (Option Value)) (file : Str) (tf : Tok) (cdD : ClassData),
    K.lookup fI = some ⟨oc, od, .func (fnX "__init__" qual params [.Expr (.Call (.Attribute (.Call (.Name "super" p0) [] [] p1) "__init__" ap) [] [] cp) ep] hiScope [("__class__", cc)] dV kV doc pm an (.ref cda) ct), osl⟩ ∧
    codeIn K (.ref cda) qual = true ∧ (params.posonlyargs ++ params.args).head? = some ar ∧ ar.arg = "self" ∧
    (∀ v : Value, bindArgs (fnX "__init__" qual params [.Expr (.Call (.Attribute (.Call (.Name "super" p0) [] [] p1) "__init__" ap) [] [] cp) ep] hiScope [("__class__", cc)] dV kV doc pm an (.ref cda) ct) ⟨[v], []⟩ = pure [(("self" : Str), v)]) ∧
    (∀ L : Addr, ∃ pl : Sem Bool, eval (.Call (.Attribute (.Call (.Name "super" p0) [] [] p1) "__init__" ap) [] [] cp) (callEnv (fnX "__init__" qual params [.Expr (.Call (.Attribute (.Call (.Name "super" p0) [] [] p1) "__init__" ap) [] [] cp) ep] hiScope [("__class__", cc)] dV kV doc pm an (.ref cda) ct) L fI) = (do
      let ov ← attributeBase (.Call (.Name "super" p0) [] [] p1) "__init__" (callEnv (fnX "__init__" qual params [.Expr (.Call (.Attribute (.Call (.Name "super" p0) [] [] p1) "__init__" ap) [] [] cp) ep] hiScope [("__class__", cc)] dV kV doc pm an (.ref cda) ct) L fI) (eval (.Call (.Name "super" p0) [] [] p1) (callEnv (fnX "__init__" qual params [.Expr (.Call (.Attribute (.Call (.Name "super" p0) [] [] p1) "__init__" ap) [] [] cp) ep] hiScope [("__class__", cc)] dV kV doc pm an (.ref cda) ct) L fI))
      standAt ap.atName
      let (f, first) ← holding [ov] (getMethod ov "__init__" pl)
      callWith cp f first (backTo cp (starEach [] (callEnv (fnX "__init__" qual params [.Expr (.Call (.Attribute (.Call (.Name "super" p0) [] [] p1) "__init__" ap) [] [] cp) ep] hiScope [("__class__", cc)] dV kV doc pm an (.ref cda) ct) L fI))) [])) ∧
    K.lookup cda = some ⟨ccl, cdd, .fields vs, ccs⟩ ∧ vs[2]? = some (.str file tf) ∧ ((prog.main.file : Str) == file) = true ∧
    K.lookup cc = some ⟨cl, cld, .cell (some (.ref D)), csl⟩ ∧ clsIn K D = some cdD
  tI : typeIn K (.ref fI) = some (.type "function")
  sup : nsIn K mainGlobals "super" = some none
  thr : nsIn K cStatics "thirdparty.any" = some none
  top : (prog.main.scope.names.lookup ("super" : Str)).isSome = false
/-- an own class under it -/
structure NilC (K : Frag) (C D fI : Addr) : Prop where
  cls : ∃ nm q N bs bm sn sub ab col dd k0 k1 k2 k3 k5, K.lookup C = some (excClassObj nm q C N bs bm true sn sub ab col dd k0 k1 k2 k3 k5 "ValueError.__new__") ∧ PySem.HandSPX.refsVE bm = true
  ini : findIn K (.ref C) "__init__" = some (some (.ref fI))
  sup : ks_superIn K C D "__init__" = some (some (.builtin "ValueError.__init__"))
  sub : mroIn K C (.ref D) = some true
  ve : subIn K (.ref C) (.type "ValueError") = some true
  xin : excInitIn K C [.type "ValueError", .type "Exception", .type "BaseException", .type "object"] "ValueError.__new__" = true
theorem boot_super : bootBuiltins "super" = some (.type "super") := by first | boot_by_name | decide +kernel | rfl
section
variable {prog : Program} {w : World} {A : Around} {R : Result → Shared → Prop} {s : Shared} {K : Frag} {mg mb : Str → Option Value} {C D fI : Addr}
/-- the call of the __init__ on an exception at x that is being made -/
theorem nil_init (S : SupDef prog K fI D) (T : NilC K C D fI) {x t0 : Addr} (X : K.In s.heap) (hxK : K.lookup x = none) (G : s.heap.Ns mainGlobals mg) (Bn : s.heap.Ns builtinsNs mb) (hbb : ∀ z : Str, z ≠ "__name__" → mb z = bootBuiltins z)
    (hlim : s.heap.NoLimit) (hx : s.heap.get? x = some (excObj C t0 none .none)) (hroom : A.depth < recursionLimit)
    (hq : ∀ h' tk t1, (∀ b o, b ≠ x → s.heap.get? b = some o → h'.get? b = some o) → h'.get? x = some (excObj C t1 none .none) → R (.ok (.ret .none)) ⟨h', s.gens, s.drawn, tk, s.os⟩) :
    codeAny (model prog w) A (.call (.ref fI) ⟨[.ref x], []⟩) R s := by
  obtain ⟨oc, od, an, params, qual, dV, kV, doc, pm, ct, cc, cda, osl, p0, p1, ap, cp, ep, ar, ccl, cl, cdd, cld, vs, ccs, csl, file, tf, cdD, lf, hcd, hp, har, hb, hev, lc, hvs, hfile, lcell, hD⟩ := S.ex
  obtain ⟨nm, q, N, bs, bm, sn, sub, ab, col, dd, k0', k1, k2, k3, k5, hC, hbm⟩ := T.cls
  have hsu : hiScope.names.lookup ("super" : Str) = some .globalImplicit := by decide +kernel
  have hcl : hiScope.names.lookup ("__class__" : Str) = some .free := by decide +kernel
  have hse : hiScope.names.lookup ("self" : Str) = some .local := by decide +kernel
  have hnc : ∀ y ∈ hiScope.names, y.2 ≠ .cell := by decide +kernel
  have hk : hiScope.kind = .function := rfl
  have hmg : mg "super" = none := mg_none_of X G S.sup
  obtain ⟨hp0, g, d, tk, os⟩ := s
  have k0 : ∀ b o, (hideAll hp0 [x]).get? b = some o → hp0.get? b = some o := fun b o e => of_hideAll _ e
  have hxn : (hideAll hp0 [x]).get? x = none := hideAll_none _ (by simp)
  have hle : (hideAll hp0 [x]).objs.size = hp0.objs.size := hideAll_size _ _
  have X₀ : K.In (hideAll hp0 [x]) := fun b o e => hideAll_get _ (X b o e) (by
    intro z
    have z' : b = x := by simpa using z
    rw [z', hxK] at e
    cases e)
  refine ks_codeAny_call_defAt (fd := fnX "__init__" qual params [.Expr (.Call (.Attribute (.Call (.Name "super" p0) [] [] p1) "__init__" ap) [] [] cp) ep] hiScope [("__class__", cc)] dV kV doc pm an (.ref cda) ct)
    (binds := [("self", .ref x)]) hroom (X _ _ lf) rfl hlim (codeRec_of X hcd) rfl (.of_eq (hb _)) hnc (fun y hy => ?_) (fun h₁ hns kk => ?_) rfl rfl rfl
  · have e : y = (("self" : Str), Value.ref x) := by simpa using hy
    subst e
    exact hse
  have X1 : K.In h₁ := X.keeps kk
  have hx1 : h₁.get? x = some (excObj C t0 none .none) := kk _ _ hx
  have Lne : hp0.objs.size ≠ x := Nat.ne_of_gt (Heap.lt_size hx)
  obtain ⟨pl, he⟩ := hev hp0.objs.size
  refine ks_wpAt_execs_cons (ks_wpAt_Expr_any (ks_wpAt_MethodCall (pl := pl) ?_ he) (by show interactive _ = false; simp [interactive, callEnv, newEnv, hk]))
  refine ks_wpAt_super_base hsu hcl (by decide) rfl (X1 _ _ lf) rfl hp rfl (X1 _ _ lc) rfl hvs hfile S.top ?_
  have X1' := X1
  refine ks_loadName_global hk hsu (loadGlobal_builtin (G.keeps kk) hmg (Bn.keeps kk) ((hbb _ (by decide)).trans boot_super) ⟨rfl, ?_⟩)
  refine wpAny_loadName_free hk hcl rfl ⟨_, X1 _ _ lcell, rfl⟩ ?_
  refine wpAny_loadName_local hk (by rw [har]; exact hse) hns (by rw [har]; rfl) ?_
  obtain ⟨oD, hD1, hD2⟩ : ∃ oD, h₁.get? D = some oD ∧ oD.data = .cls cdD := by
    unfold clsIn at hD
    split at hD
    · rename_i c d cd' sl ho
      cases hD
      exact ⟨_, X1 _ _ ho, rfl⟩
    · cases hD
  refine ks_wpAny_isType_cls hD1 hD2 ⟨rfl, ?_⟩
  refine ks_wpAny_call_super hD1 hD2 hx1 rfl (fun c e => nomatch e) (looks_mroIn X1 T.sub) (fun h2 e2 kk2 => ?_)
  have X2 : K.In h2 := X1.keeps kk2
  have hx2 := kk2 _ _ hx1
  have I2 : InstAt h2 x (excObj C t0 none .none) C none := ⟨hx2, rfl, rfl, trivial⟩
  have hsup := T.sup
  cases hc : clsIn K C with
  | none =>
    unfold ks_superIn at hsup
    rw [hc] at hsup
    cases hsup
  | some cd =>
    unfold ks_superIn at hsup
    rw [hc] at hsup
    refine kxs_getMethod kxs_ValueError e2 (looks_opaque X2 S.thr) (l₀ := cd.mro) (fun A Q E s k q => wpAny_bind ((looks_clsIn X2 hc) A _ E s k (wpAny_pure q))) rfl X2 hsup
      (I2.type.andThen (looks_subIn X2 T.ve)) (ks_ne X2 I2 hc) (by decide) ?_
    have hu : (h2.push (kxs_mw "ValueError.__init__" x)).get? h2.objs.size = some (kxs_mw "ValueError.__init__" x) := Heap.get?_push_at rfl rfl
    have kk3 : ∀ b o, h2.get? b = some o → (h2.push (kxs_mw "ValueError.__init__" x)).get? b = some o := fun b o e => Heap.get?_push_of_some _ e
    have hx3 := kk3 _ _ hx2
    refine kxs_callWith (i := "ValueError.__init__") (x := x) rfl (evalArgs_empty ⟨hu, ?_⟩)
    show wpAny _ _ (call (.ref h2.objs.size) []) _ _ _
    have ns3 := (hns.keeps kk2).keeps kk3
    have lt2 : x < h2.objs.size := Heap.lt_size hx2
    have L1 : hp0.objs.size < h2.objs.size := by
      obtain ⟨oL, _, _, hL, _⟩ := hns
      exact Heap.lt_size (kk2 _ _ hL)
    have none0 : ∀ b, (hideAll hp0 [x]).objs.size ≤ b → (hideAll hp0 [x]).get? b = none := fun b hb => Heap.get?_none_of_le hb
    have FR : Fr (hideAll hp0 [x]) hp0.objs.size (h2.push (kxs_mw "ValueError.__init__" x)) (fun y => [(("self" : Str), Value.ref x)].reverse.lookup y) :=
      ⟨ns3, fun b o e => kk3 _ _ (kk2 _ _ (kk _ _ (k0 b o e))), Nat.le_of_eq hle⟩
    have NW : News (hideAll hp0 [x]) hp0.objs.size (h2.push (kxs_mw "ValueError.__init__" x)) [(h2.objs.size, kxs_mw "ValueError.__init__" x), (x, excObj C t0 none .none)] := fun p hp => by
      rcases List.mem_cons.mp hp with e | hp
      · subst e
        exact ⟨hu, Nat.ne_of_gt L1, none0 _ (by omega)⟩
      · have e : p = (x, excObj C t0 none .none) := by simpa using hp
        subst e
        exact ⟨hx3, Lne.symm, hxn⟩
    refine kxs_call (s := ⟨h2.push (kxs_mw "ValueError.__init__" x), g, d, _, os⟩) FR X₀ NW F.excBase_ValueError T.xin List.mem_cons_self (.tail (Nat.ne_of_gt lt2) (.head fun p hp => (nomatch hp))) (by show 0 ≤ sizeLine; decide) fun t1 h4 F4 N4 l4 => ?_
    refine wpAt_of_wpAny (wpAny_execs_nil ?_)
    refine hq h4 _ t1 (fun b o hb e => F4.keep b o (hideAll_get _ e (by simpa using hb))) (N4 (x, excObj C t1 none .none) (by simp)).1
/-- X() -/
theorem nil_made (S : SupDef prog K fI D) (T : NilC K C D fI) (X : K.In s.heap) (G : s.heap.Ns mainGlobals mg) (Bn : s.heap.Ns builtinsNs mb) (hbb : ∀ z : Str, z ≠ "__name__" → mb z = bootBuiltins z)
    (hlim : s.heap.NoLimit) (hroom : A.depth + 1 < recursionLimit)
    (hq : ∀ h' tk e t1, (∀ b o, s.heap.get? b = some o → h'.get? b = some o) → s.heap.objs.size ≤ e → h'.get? e = some (excObj C t1 none .none) → R (.ok (.ret (.ref e))) ⟨h', s.gens, s.drawn, tk, s.os⟩) :
    codeAny (model prog w) A (.call (.ref C) ⟨[], []⟩) R s := by
  obtain ⟨nm, q, N, bs, bm, sn, sub, ab, col, dd, k0, k1, k2, k3, k5, hC, hbm⟩ := T.cls
  obtain ⟨h0, g, d, tk, os⟩ := s
  have up : ∀ b o, h0.get? b = some o → ((h0.push (kdv_tup [])).push (PySem.HandSPX.excO C h0.objs.size)).get? b = some o := fun b o e => Heap.get?_push_of_some _ (Heap.get?_push_of_some _ e)
  have at1 : ((h0.push (kdv_tup [])).push (PySem.HandSPX.excO C h0.objs.size)).get? (h0.objs.size + 1) = some (PySem.HandSPX.excO C h0.objs.size) := by heap_get
  have new1 : K.lookup (h0.objs.size + 1) = none := by
    cases e : K.lookup (h0.objs.size + 1) with
    | none => rfl
    | some o => exact absurd (Nat.lt_of_succ_lt (Heap.lt_size (show h0.get? (h0.objs.size + 1) = some o from X _ _ e))) (Nat.lt_irrefl _)
  refine PySem.HandSPX.call_own F.excBase_ValueError (fun Y => PySem.HandSPX.refsVE_contains Y bm hbm) (X _ _ hC) (looks_findIn X T.ini) (fun self => bind_fn X self S.tI) (by show 0 ≤ sizeLine; decide) ?_
  refine nil_init (s := ⟨(h0.push (kdv_tup [])).push (PySem.HandSPX.excO C h0.objs.size), g, d, tk, os⟩) (x := h0.objs.size + 1) S T (X.keeps up) new1 (G.keeps up) (Bn.keeps up) hbb (hlim.keeps up) at1 (by show A.depth + 1 < recursionLimit; exact hroom) fun h2 tk2 t1 k2 e2 => ?_
  refine ⟨rfl, hq h2 tk2 (h0.objs.size + 1) t1 (fun b o e => k2 b o (Nat.ne_of_lt (Nat.lt_succ_of_lt (Heap.lt_size e))) (up b o e)) (Nat.le_succ _) e2⟩
end
open L2 in
/-- what the top has of an own error without arguments -/
structure NilX (prog : Program) (K : Frag) (mg : Str → Option Value) (x : Str) (C : Addr) : Prop where
  gC : mg x = some (.ref C)
  kC : keepIn K (.ref C) = true
  exC : subIn K (.ref C) (.type "BaseException") = some true
  tyC : typeIn K (.ref C) = some (.type "type")
  sd : ∃ D fI, SupDef prog K fI D ∧ NilC K C D fI
open L2 in
def tNil0 (C : Addr) : L2.St → Hp → XK → Prop := fun _ H Q => Q (.ref C) none H
open L2 in
theorem pmk_nil {X : Cx} {x : Str} {C : Addr} {k : Nat} {p pos : Pos} (T : NilX X.prog X.K X.mg x C) (hr : Room k X.A) (hg : Gl X x) (hd : (x == ("__debug__" : Str)) = false := by decide) : PMk X (.Call (.Name x p) [] [] pos) (tNil0 C) := by
  obtain ⟨D, fI, S, N⟩ := T.sd
  intro pins s σ H Q I h
  refine wpAny_Call_Name_kw (ld_glob I hg T.gC ?_ hd)
  refine callWith_K0 I.kIn T.kC ?_
  show wpAny _ _ (call (.ref C) []) _ _ _
  obtain ⟨mb, b1, b2⟩ := I.mod.blt
  refine wpAny_call (nil_made S N I.kIn (I.mod.glob.keeps I.bk) (b1.keeps I.bk) b2 I.nolimit (by have := hr.dp; omega) fun h' tk e t1 kk le he => ?_)
  have nw : s.heap.get? e = none := Heap.get?_none_of_le le
  exact ⟨e, _, _, s, H, .ref C, none, rfl, I, kk, nw, he, ⟨rfl, rfl⟩, rfl, rfl, I.hok.fresh le, rfl, I.bare, raises_own T.exC T.tyC, h⟩
end Hd
set_option maxHeartbeats 4000000
/-! min and max of a tuple of ints. -/
namespace Hd
open PySem PySem.Spec PyProof.Rows L2
theorem reads_ints {h : Heap} : ∀ {us : List Value} {ns : List Int}, IntsAre us ns → ReadsAll h us (ns.map PyData.int) []
  | _, _, .nil => .nil
  | _, _, .cons n t r => ReadsAll.cons (as := []) (bs := []) (.int n t) (reads_ints r)
theorem deep_ints : ∀ ns : List Int, PyData.depthAll (ns.map PyData.int) = 0
  | [] => by simp [PyData.depthAll]
  | n :: ns => by
    have := deep_ints ns
    simp only [List.map_cons, PyData.depthAll, PyData.depth]
    omega
theorem alike_ints (ns : List Int) : PySem.W.AlikeAll (ns.map PyData.int) := by
  refine ⟨fun x hx y hy => ?_, fun x hx => ?_⟩
  · obtain ⟨n, _, rfl⟩ := List.mem_map.mp hx
    obtain ⟨m, _, rfl⟩ := List.mem_map.mp hy
    first | rfl | simp [PySem.W.alike]
  · obtain ⟨n, _, rfl⟩ := List.mem_map.mp hx
    intro z
    cases z
section
variable {X : Cx}
def rMinT (K : PySem.W.Frag) : List V → Hp → VK → Prop := fun vs H Q => ∃ (a : Addr) (n : Int) (ns : List Int), vs = [V.ref a] ∧ SqT K H a ((n :: ns).map V.int) ∧ Q (.int (ns.foldl min n)) H
def rMaxT (K : PySem.W.Frag) : List V → Hp → VK → Prop := fun vs H Q => ∃ (a : Addr) (n : Int) (ns : List Int), vs = [V.ref a] ∧ SqT K H a ((n :: ns).map V.int) ∧ Q (.int (ns.foldl max n)) H
theorem cr_minT (hc : X.calm = true) (hu : X.A.units + 64 < cLine) : CallR X (.builtin "min") (rMinT X.K) := by
  intro pins s σ H vs us Q I r h
  obtain ⟨a, n, ns, rfl, hs, q⟩ := h
  obtain ⟨its, rv, hl, _⟩ := I.tuple hs
  rw [Vals.ref1 r]
  refine PySem.W.min_tuple_data (x := .int n) (xs := ns.map PyData.int) (I.ok.hd hc) (show s.heap.IsTuple a its.toArray from hl) (by simpa using reads_ints (h := s.heap) rv.ints) (alike_ints (n :: ns)) ?_ fun i v h' tk bs hv hr hk => ?_
  · have := deep_ints (n :: ns)
    rw [List.map_cons] at this
    omega
  · rw [PySem.W.minD_ints] at hr
    cases hr with
    | int _ t => exact ⟨.int _, H, I.kept hk, ⟨t, rfl⟩, q⟩
theorem cr_maxT (hc : X.calm = true) (hu : X.A.units + 64 < cLine) : CallR X (.builtin "max") (rMaxT X.K) := by
  intro pins s σ H vs us Q I r h
  obtain ⟨a, n, ns, rfl, hs, q⟩ := h
  obtain ⟨its, rv, hl, _⟩ := I.tuple hs
  rw [Vals.ref1 r]
  refine PySem.W.max_tuple_data (x := .int n) (xs := ns.map PyData.int) (I.ok.hd hc) (show s.heap.IsTuple a its.toArray from hl) (by simpa using reads_ints (h := s.heap) rv.ints) (alike_ints (n :: ns)) ?_ fun i v h' tk bs hv hr hk => ?_
  · have := deep_ints (n :: ns)
    rw [List.map_cons] at this
    omega
  · rw [PySem.W.maxD_ints] at hr
    cases hr with
    | int _ t => exact ⟨.int _, H, I.kept hk, ⟨t, rfl⟩, q⟩
end
end Hd
set_option maxHeartbeats 4000000
namespace Hd
open PySem PySem.Spec PyProof.Rows L2
def top (i : Nat) : Stmt := PySem.Challenge.pw_heapsdouble_k03_whole_walks_of_two.main.body.getD i (.Pass ⟨0, 0, 0, 0⟩)
/-! ### the draws -/
structure Tx (K : PySem.W.Frag) (mg : Str → Option Value) : Prop where
  int : mg "int" = none
  list : mg "list" = none
  max : mg "max" = none
  len : mg "len" = none
  tuple : mg "tuple" = none
  range : mg "range" = none
/-- the source of draws at h: [state, cells, index], the cells at c -/
structure DrawAt (H : Hp) (h c : Addr) : Prop where
  ex : ∃ (st ix : Int) (cells : List Int), H h = some (.lst [.int st, .ref c, .int ix]) ∧ H c = some (.lst (cells.map V.int)) ∧ cells.length ≤ 63
  ne : h ≠ c
/-- all but the source stands as it stood -/
def Kept (h c : Addr) (H H' : Hp) : Prop := ∀ a o, H a = some o → a ≠ h → a ≠ c → H' a = some o
theorem Kept.refl {h c : Addr} {H : Hp} : Kept h c H H := fun _ _ e _ _ => e
theorem Kept.of {h c : Addr} {H H' : Hp} (e : Same H H') : Kept h c H H' := fun a o q _ _ => e a o q
theorem Kept.trans {h c : Addr} {H H1 H2 : Hp} (a : Kept h c H H1) (b : Kept h c H1 H2) : Kept h c H H2 := fun x o e n m => b x o (a x o e n m) n m
theorem Kept.new {h c : Addr} {H H1 : Hp} {p : Addr} {o : HO} (a : Kept h c H H1) (hp : H p = none) : Kept h c H (upd H1 p o) := fun x u e n m => by
  rw [upd_ne (ne_of_none e hp)]
  exact a x u e n m
theorem Kept.at_h {h c : Addr} {H H1 : Hp} {o : HO} (a : Kept h c H H1) : Kept h c H (upd H1 h o) := fun x u e n m => by
  rw [upd_ne n]
  exact a x u e n m
theorem Kept.at_c {h c : Addr} {H H1 : Hp} {o : HO} (a : Kept h c H H1) : Kept h c H (upd H1 c o) := fun x u e n m => by
  rw [upd_ne m]
  exact a x u e n m
theorem DrawAt.new {H : Hp} {h c p : Addr} {o : HO} (d : DrawAt H h c) (hp : H p = none) : DrawAt (upd H p o) h c := by
  obtain ⟨⟨st, ix, cells, h1, h2, h3⟩, ne⟩ := d
  exact ⟨⟨st, ix, cells, by rw [upd_ne (ne_of_none h1 hp)]; exact h1, by rw [upd_ne (ne_of_none h2 hp)]; exact h2, h3⟩, ne⟩
theorem DrawAt.upd {H : Hp} {h c p : Addr} {o : HO} (d : DrawAt H h c) (hh : p ≠ h) (hc : p ≠ c) : DrawAt (upd H p o) h c := by
  obtain ⟨⟨st, ix, cells, h1, h2, h3⟩, ne⟩ := d
  exact ⟨⟨st, ix, cells, by rw [upd_ne (Ne.symm hh)]; exact h1, by rw [upd_ne (Ne.symm hc)]; exact h2, h3⟩, ne⟩
theorem DrawAt.same {H H' : Hp} {h c : Addr} (d : DrawAt H h c) (e : Same H H') : DrawAt H' h c := by
  obtain ⟨⟨st, ix, cells, h1, h2, h3⟩, ne⟩ := d
  exact ⟨⟨st, ix, cells, e _ _ h1, e _ _ h2, h3⟩, ne⟩
theorem DrawAt.nots {H : Hp} {h c p : Addr} (d : DrawAt H h c) (hp : H p = none) : p ≠ h ∧ p ≠ c := by
  obtain ⟨⟨st, ix, cells, h1, h2, h3⟩, ne⟩ := d
  exact ⟨(ne_of_none h1 hp).symm, (ne_of_none h2 hp).symm⟩
theorem Kept.free {h c p : Addr} {H H' : Hp} (k : Kept h c H H') (d : DrawAt H' h c) (hp : H' p = none) : H p = none := by
  obtain ⟨n1, n2⟩ := d.nots hp
  cases e : H p with
  | none => rfl
  | some o =>
    rw [k p o e n1 n2] at hp
    cases hp
theorem Kept.tup {K : PySem.W.Frag} {h c a : Addr} {H H' : Hp} {xs : List V} (k : Kept h c H H') (d : DrawAt H h c) (q : SqT K H a xs) : SqT K H' a xs := by
  obtain ⟨⟨st, ix, cells, h1, h2, h3⟩, ne⟩ := d
  rcases q with (q | ⟨o, q⟩) | q
  · exact .inl (.inl (k _ _ q (ne_of q h1 (by intro z; cases z)) (ne_of q h2 (by intro z; cases z))))
  · exact .inl (.inr ⟨o, k _ _ q (ne_of q h1 (by intro z; cases z)) (ne_of q h2 (by intro z; cases z))⟩)
  · exact .inr q
def spMix (K : PySem.W.Frag) : Sp := fun vs H Q _ => ∃ (a : Addr) (ns : List Int) (seed : Int), vs = [.ref a, .int seed] ∧ SqL K H a (ns.map V.int) ∧ ns.length ≤ 63 ∧
  ∀ (h c : Addr) (H' : Hp), H h = none → H c = none → Same H H' → DrawAt H' h c → Q (.ref h) H'
def spNext : Sp := fun vs H Q _ => ∃ (h c : Addr) (b : Int), vs = [.ref h, .int b] ∧ DrawAt H h c ∧ 0 < b ∧ b < 2 ^ 200 ∧
  ∀ (n : Int) (H' : Hp), 0 ≤ n → n < b → DrawAt H' h c → Kept h c H H' → Q (.int n) H'
/-- the place of the drawn cell -/
theorem draw_ix (cells : List Int) (ix : Int) : ∃ (j : Nat) (z : Int), ix % (if (cells.length : Int) > 1 then (cells.length : Int) else 1) = (j : Int) ∧ (cells.map V.int ++ [V.int 0])[j]? = some (.int z) ∧ (cells = [] → z = 0) ∧ (cells ≠ [] → j < cells.length ∧ (if (cells.length : Int) > 1 then (cells.length : Int) else 1) = (cells.length : Int)) := by
  have hm : 0 < (if (cells.length : Int) > 1 then (cells.length : Int) else 1) := by split <;> omega
  have h0 := Int.emod_nonneg ix (Int.ne_of_gt hm)
  have h1 := Int.emod_lt_of_pos ix hm
  obtain ⟨j, hj⟩ := Int.eq_ofNat_of_zero_le h0
  rw [hj] at h1
  cases cells with
  | nil =>
    refine ⟨j, 0, hj, ?_, fun _ => rfl, fun h => absurd rfl h⟩
    simp at h1
    have : j = 0 := by omega
    subst this
    rfl
  | cons x r =>
    have hm2 : (if (((x :: r).length : Nat) : Int) > 1 then (((x :: r).length : Nat) : Int) else 1) = (((x :: r).length : Nat) : Int) := by
      split
      · rfl
      · have : (((x :: r).length : Nat) : Int) ≥ 1 := by rw [List.length_cons]; omega
        omega
    rw [hm2] at h1
    have hlt : j < (x :: r).length := by omega
    refine ⟨j, (x :: r)[j], hj, ?_, fun h => (nomatch h), fun _ => ⟨hlt, hm2⟩⟩
    rw [List.getElem?_append_left (by rw [List.length_map]; exact hlt), List.getElem?_map, List.getElem?_eq_getElem hlt]
    rfl
theorem int_at {ns : List Int} {i : Nat} {y : V} (hi : (ns.map V.int)[i]? = some y) : ∃ z, ns[i]? = some z ∧ y = V.int z := by
  rw [List.getElem?_map] at hi
  cases e : ns[i]? with
  | none =>
    rw [e] at hi
    cases hi
  | some z =>
    rw [e] at hi
    exact ⟨z, rfl, (Option.some.inj hi).symm⟩
section
variable {P : Program} {w : World} {K : PySem.W.Frag} {mg : Str → Option Value} {base : Heap}
abbrev s_l_mix : Stmt := top 25
theorem sc_l_mix : FnScope ["_law_script", "_law_seed", "_law_state", "_law_cell"] ["_law_script", "_law_seed"] (defScope s_l_mix) := ⟨rfl, rfl, rfl, by decide +kernel, rfl, by decide +kernel, by decide +kernel⟩
theorem ok_mix {f : Addr} {fd : FuncData} (F : Fun K "_law_mix" "_law_mix" s_l_mix f fd) (T : Tx K mg) : FnOk P w K mg base CX0 1 f fd ["_law_script", "_law_seed"] (spMix K) := by
  refine F.ok sc_l_mix (fun vs H Q E h => ?_) (fun cdv A outer s H vs Q E hr h => ?_)
  · obtain ⟨a, ns, seed, rfl, _⟩ := h
    rfl
  · obtain ⟨a, ns, seed, rfl, hS, hlen, k⟩ := h
    refine ⟨_, (pss_cons (ps_set (i := 2) sc_l_mix.nd rfl (Or.inl rfl) (pv 1))
      (pss_cons (ps_for PassesOwn.never rfl (pi_list (pv 0)) (pg_name (i := 3) sc_l_mix.nd rfl (Or.inl rfl))
      (pss_one (ps_set (i := 2) sc_l_mix.nd rfl (Or.inl rfl) (pe_op op_mod (pe_callTy call_int1 (by rfl) T.int (by decide +kernel) (pa_cons (pe_op op_add (pe_op op_add (pe_op op_mul (pv 2) pe_int) (pe_op op_mod (pe_callTy call_int1 (by rfl) T.int (by decide +kernel) (pa_cons (pv 3) pa_nil)) pe_int)) pe_int) pa_nil)) pe_int))))
      (pss_one (ps_ret (pe_lst (pa_cons (pv 2) (pa_cons (pe_callTy call_list_of (by rfl) T.list (by decide +kernel) (pa_cons (pv 0) pa_nil)) (pa_cons pe_int pa_nil)))))))), ?_⟩
    refine ⟨_, rfl, _, rfl, a, rfl, ⟨_, hS⟩, for_list (K := K) (a := a) (xs := ns.map V.int) (fun i σ H2 => ∃ (st : Int) (v : Option V), σ = [some (.ref a), some (.int seed), some (.int st), v] ∧ H2 = H)
      ⟨seed, none, rfl, rfl⟩ (fun i σ H2 _ ⟨_, _, _, e⟩ => by rw [e]; exact hS) ?_ ?_⟩
    · rintro i y σ H2 hi ⟨st, v, rfl, rfl⟩
      obtain ⟨z, _, rfl⟩ := int_at hi
      refine ⟨_, rfl, _, _, rfl, rfl, .inr ⟨by decide, by decide⟩, _, rfl, .inl ⟨_, rfl, _, _, rfl, rfl, (by show (0 : Int) < 2147483629; decide), _, _, rfl, rfl, _, _, rfl, rfl, .inl ⟨_, rfl, _, _, rfl, rfl, (by show (0 : Int) < 2147483647; decide), ?_⟩⟩⟩
      exact ⟨_, _, rfl, rfl⟩
    · rintro σ H2 ⟨st, v, rfl, rfl⟩
      refine ⟨_, rfl, _, rfl, a, _, rfl, .inl hS, fun c hc => ⟨by show 3 ≤ sizeLine; decide, fun h hh => ?_⟩⟩
      have hch : h ≠ c := fun e => by
        rw [e, upd_same] at hh
        cases hh
      have hh0 : H2 h = none := by
        rw [upd_ne hch] at hh
        exact hh
      refine k h c _ hh0 hc (same_upd (same_upd (Same.refl _) hc) hh0) ⟨⟨st, 0, ns, upd_same, by rw [upd_ne hch.symm, upd_same], hlen⟩, hch⟩
abbrev s_l_next : Stmt := top 26
theorem sc_l_next : FnScope ["_law_h", "_law_bound", "_law_cell", "_law_cells"] ["_law_h", "_law_bound"] (defScope s_l_next) := ⟨rfl, rfl, rfl, by decide +kernel, rfl, by decide +kernel, by decide +kernel⟩
theorem ok_next {f : Addr} {fd : FuncData} (F : Fun K "_law_next" "_law_next" s_l_next f fd) (T : Tx K mg) : FnOk P w K mg base CX0 1 f fd ["_law_h", "_law_bound"] spNext := by
  refine F.ok sc_l_next (fun vs H Q E h => ?_) (fun cdv A outer s H vs Q E hr h => ?_)
  · obtain ⟨a, c, b, rfl, _⟩ := h
    rfl
  · obtain ⟨h, c, b, rfl, D, hb, hb2, k⟩ := h
    obtain ⟨⟨st, ix, cells, hh, hc, hl⟩, hne0⟩ := id D
    refine ⟨_, (pss_cons (ps_set (i := 2) sc_l_next.nd rfl (Or.inl rfl) (pe_ix ix_list (pe_op op_cat (pe_ix ix_list (pv 0) pe_int (fun _ _ => rfl)) (pe_lst (pa_cons pe_int pa_nil))) (pe_op op_mod (pe_callTy call_int1 (by rfl) T.int (by decide +kernel) (pa_cons (pe_ix ix_list (pv 0) pe_int (fun _ _ => rfl)) pa_nil)) (pe_callB (call_max2 rfl) (by rfl) T.max (by decide +kernel) (pa_cons pe_int (pa_cons (pe_callB call_len_seq (by rfl) T.len PySem.boot_len (pa_cons (pe_ix ix_list (pv 0) pe_int (fun _ _ => rfl)) pa_nil)) pa_nil)))) (fun _ _ => rfl)))
      (pss_cons (ps_if (pt_cmpR op_ge (pv 2) (pe_op op_pow pe_int pe_int) (nomark _)) (pss_cons (ps_set (i := 3) sc_l_next.nd rfl (Or.inl rfl) (pe_ix ix_list (pv 0) pe_int (fun _ _ => rfl)))
      (pss_cons (ps_asg (pe_op op_fdivW (pv 2) (pv 1)) (pg_sub (pv 3) (pe_op op_mod (pe_callTy call_int1 (by rfl) T.int (by decide +kernel) (pa_cons (pe_ix ix_list (pv 0) pe_int (fun _ _ => rfl)) pa_nil)) (pe_callB call_len_seq (by rfl) T.len PySem.boot_len (pa_cons (pv 3) pa_nil))) set_list))
      (pss_one (ps_ret (pe_op op_mod (pe_callTy call_int1 (by rfl) T.int (by decide +kernel) (pa_cons (pv 2) pa_nil)) (pv 1)))))) pss_nil)
      (pss_cons (ps_asg (pe_op op_mod (pe_callTy call_int1 (by rfl) T.int (by decide +kernel) (pa_cons (pe_op op_add (pe_op op_add (pe_op op_mul (pe_ix ix_list (pv 0) pe_int (fun _ _ => rfl)) pe_int) (pe_op op_mul (pv 2) pe_int)) pe_int) pa_nil)) pe_int) (pg_sub (pv 0) pe_int set_list))
      (pss_cons (ps_asg (pe_op op_add (pe_ix ix_list (pv 0) pe_int (fun _ _ => rfl)) pe_int) (pg_sub (pv 0) pe_int set_list))
      (pss_one (ps_ret (pe_op op_mod (pe_callTy call_int1 (by rfl) T.int (by decide +kernel) (pa_cons (pe_op op_fdiv (pe_ix ix_list (pv 0) pe_int (fun _ _ => rfl)) pe_int) pa_nil)) (pv 1)))))))), ?_⟩
    obtain ⟨j, z, ej, ez, e0, e1⟩ := draw_ix cells ix
    -- _law_cell
    refine ⟨_, rfl, h, _, _, _, rfl, rfl, SqL.of hh, rfl, by show 1 ≤ sizeLine; decide, fun p hp => ?_⟩
    have nph : h ≠ p := ne_of_none hh hp
    have npc : c ≠ p := ne_of_none hc hp
    refine ⟨c, p, _, _, rfl, rfl, by rw [upd_ne npc]; exact hc, upd_same, ?_, fun q hq => ?_⟩
    · rw [List.length_map, sizeLine_eq]
      show cells.length + 1 ≤ _
      omega
    have nqp : p ≠ q := ne_of_none upd_same hq
    have hq' : H q = none := by
      rw [upd_ne nqp.symm] at hq
      exact hq
    have nqh : h ≠ q := ne_of_none hh hq'
    have nqc : c ≠ q := ne_of_none hc hq'
    have hh2 : (upd (upd H p (.lst [.int 0])) q (.lst (cells.map V.int ++ [.int 0]))) h = some (.lst [.int st, .ref c, .int ix]) := by rw [upd_ne nqh, upd_ne nph]; exact hh
    have hc2 : (upd (upd H p (.lst [.int 0])) q (.lst (cells.map V.int ++ [.int 0]))) c = some (.lst (cells.map V.int)) := by rw [upd_ne nqc, upd_ne npc]; exact hc
    have hq2 : (upd (upd H p (.lst [.int 0])) q (.lst (cells.map V.int ++ [.int 0]))) q = some (.lst (cells.map V.int ++ [.int 0])) := upd_same
    have kk : Kept h c H (upd (upd H p (.lst [.int 0])) q (.lst (cells.map V.int ++ [.int 0]))) := (Kept.refl.new hp).new hq'
    generalize upd (upd H p (.lst [.int 0])) q (.lst (cells.map V.int ++ [.int 0])) = H2 at hh2 hc2 hq2 kk ⊢
    refine ⟨_, rfl, h, _, _, _, rfl, rfl, SqL.of hh2, rfl, .inl ⟨_, rfl, _, rfl, h, _, _, _, rfl, rfl, SqL.of hh2, rfl, c, _, rfl, .inl (SqL.of hc2), _, _, rfl, ?_⟩⟩
    rw [List.length_map]
    refine ⟨_, _, rfl, rfl, (by split <;> omega), q, _, _, _, rfl, rfl, SqL.of hq2, at_of ej ez, ?_⟩
    -- if _law_cell >= 10 ** 18
    refine ⟨_, rfl, _, _, rfl, rfl, ⟨by decide, by decide, by decide⟩, _, _, rfl, rfl, _, rfl, ?_⟩
    refine ite2 (fun hge => ?_) (fun _ => ?_)
    · have hz : (10 : Int) ^ 18 ≤ z := of_decide_eq_true hge
      have hz0 : z ≠ 0 := by omega
      have hne : cells ≠ [] := fun e => hz0 (e0 e)
      obtain ⟨hj, em⟩ := e1 hne
      rw [em] at ej
      refine ⟨_, rfl, h, _, _, _, rfl, rfl, SqL.of hh2, rfl, _, rfl, _, rfl, _, _, rfl, rfl, wide_div hb (b := 200) ?_ (by decide) (by decide), ?_⟩
      · omega
      refine ⟨_, rfl, _, rfl, h, _, _, _, rfl, rfl, SqL.of hh2, rfl, .inl ⟨_, rfl, _, rfl, c, _, rfl, .inl (SqL.of hc2), _, _, rfl, rfl, ?_, ?_⟩⟩
      · rw [List.length_map]
        omega
      refine ⟨c, _, _, j, rfl, rfl, hc2, ?_, ?_⟩
      · rw [List.length_map, ej]
        unfold ixN
        rw [if_pos (by omega), if_pos (by omega)]
        simp
      refine ⟨_, rfl, .inl ⟨_, rfl, _, rfl, _, _, rfl, rfl, hb, ?_⟩⟩
      refine k _ _ (Int.emod_nonneg _ (by omega)) (Int.emod_lt_of_pos _ hb) ⟨⟨st, ix, cells.set j (z / b), ?_, ?_, by rw [List.length_set]; exact hl⟩, hne0⟩ kk.at_c
      · rw [upd_ne hne0]
        exact hh2
      · rw [upd_same, List.map_set]
    · -- _law_h[0] = ..
      refine ⟨_, rfl, h, _, _, _, rfl, rfl, SqL.of hh2, rfl, _, _, rfl, rfl, .inr ⟨by decide, by decide⟩, _, rfl, _, _, rfl, rfl, .inr ⟨by decide, by decide⟩, _, _, rfl, rfl, _, _, rfl, rfl, .inl ⟨_, rfl, _, _, rfl, rfl, (by show (0 : Int) < 2147483647; decide), ?_⟩⟩
      refine ⟨_, rfl, h, _, _, 0, rfl, rfl, hh2, rfl, ?_⟩
      -- _law_h[2] = _law_h[2] + 1
      refine ⟨_, rfl, h, _, _, _, rfl, rfl, SqL.of upd_same, rfl, _, _, rfl, rfl, _, rfl, h, _, _, 2, rfl, rfl, upd_same, rfl, ?_⟩
      refine ⟨_, rfl, h, _, _, _, rfl, rfl, SqL.of upd_same, rfl, _, _, rfl, rfl, ⟨by decide, by decide⟩, .inl ⟨_, rfl, _, rfl, _, _, rfl, rfl, hb, ?_⟩⟩
      refine k _ _ (Int.emod_nonneg _ (by omega)) (Int.emod_lt_of_pos _ hb) ⟨⟨_, _, cells, upd_same, ?_, hl⟩, hne0⟩ kk.at_h.at_h
      rw [upd_ne hne0.symm, upd_ne hne0.symm]
      exact hc2
/-- heaps are drawn: so many, none below 0, not all empty -/
structure HeapsOk (least most : Nat) (ns : List Int) : Prop where
  lo : least ≤ ns.length
  hi : ns.length ≤ most
  ge : ∀ n ∈ ns, 0 ≤ n
  le : ∀ n ∈ ns, n ≤ 10 ^ 30
  pos : ∃ n ∈ ns, 0 < n
def spHeaps : Sp := fun vs H Q _ => ∃ (h c : Addr) (least most : Nat), vs = [.ref h, .int (least : Int), .int (most : Int)] ∧ DrawAt H h c ∧ 1 ≤ least ∧ least ≤ most ∧ most ≤ 6 ∧
  ∀ (t : Addr) (ns : List Int) (H' : Hp), HeapsOk least most ns → H t = none → H' t = some (.tup (ns.map V.int)) → DrawAt H' h c → Kept h c H H' → Q (.ref t) H'
theorem pick5 {x0 x1 x2 x3 x4 : Int} {n : Int} (h0 : 0 ≤ n) (h5 : n < 5) : ∃ z, atI [V.int x0, V.int x1, V.int x2, V.int x3, V.int x4] n = some (V.int z) ∧ z ∈ [x0, x1, x2, x3, x4] := by
  have : n = 0 ∨ n = 1 ∨ n = 2 ∨ n = 3 ∨ n = 4 := by omega
  rcases this with e | e | e | e | e <;> subst e <;> exact ⟨_, rfl, by simp⟩
abbrev s_l_heaps : Stmt := top 27
theorem sc_l_heaps : FnScope ["_law_h", "_law_least", "_law_most", "_law_size", "_law_far", "_law_part", "_law_found", "_law_k"] ["_law_h", "_law_least", "_law_most"] (defScope s_l_heaps) := ⟨rfl, rfl, rfl, by decide +kernel, rfl, by decide +kernel, by decide +kernel⟩
theorem ok_heaps {f : Addr} {fd : FuncData} (F : Fun K "_law_heaps" "_law_heaps" s_l_heaps f fd) (T : Tx K mg) (C_l_next : Cal P w K mg base CX0 1 "_law_next" ["_law_h", "_law_bound"] spNext) : FnOk P w K mg base CX0 2 f fd ["_law_h", "_law_least", "_law_most"] spHeaps := by
  refine F.ok sc_l_heaps (fun vs H Q E h => ?_) (fun cdv A outer s H vs Q E hr h => ?_)
  · obtain ⟨a, c, l, m, rfl, _⟩ := h
    rfl
  · obtain ⟨h, c, least, most, rfl, D, h1, h2, h3, k⟩ := h
    refine ⟨_, (pss_cons (ps_set (i := 3) sc_l_heaps.nd rfl (Or.inl rfl) (pe_op op_add (pv 1) (pe_cal C_l_next hr rfl pass0 (pa_cons (pv 0) (pa_cons (pe_op op_add (pe_op op_sub (pv 2) (pv 1)) pe_int) pa_nil)))))
      (pss_cons (ps_set (i := 4) sc_l_heaps.nd rfl (Or.inr rfl) (pe_ix ix_list (pe_lst (pa_cons pe_int (pa_cons pe_int (pa_cons pe_int (pa_cons (pe_op op_pow pe_int pe_int) (pa_cons (pe_op op_pow pe_int pe_int) pa_nil)))))) (pe_cal C_l_next hr rfl pass0 (pa_cons (pv 0) (pa_cons pe_int pa_nil))) (fun _ _ => rfl)))
      (pss_cons (ps_set (i := 5) sc_l_heaps.nd rfl (Or.inr rfl) (pe_ix ix_list (pe_lst (pa_cons pe_int (pa_cons pe_int (pa_cons pe_int (pa_cons pe_int (pa_cons pe_int pa_nil)))))) (pe_cal C_l_next hr rfl pass0 (pa_cons (pv 0) (pa_cons pe_int pa_nil))) (fun _ _ => rfl)))
      (pss_cons (ps_setLc (i := 6) (own := [("_law_k", 7)]) (g := gName 7) (by rfl) sc_l_heaps.nd rfl rfl (sw_true rfl rfl rfl (by decide +kernel)) (pi_range1 rfl T.range (pa_cons (pv 3) pa_nil)) (blkOk_by (own := [("_law_k", 7)]) (N := ["_law_h", "_law_least", "_law_most", "_law_size", "_law_far", "_law_part", "_law_found", "_law_k"]) (sc := defScope s_l_heaps) (by decide +kernel)) (fun _ _ _ _ _ => pg_name (i := 7) sc_l_heaps.nd rfl (Or.inl rfl)) (fun _ _ _ _ _ => pts_nil) (fun _ _ _ _ _ => (pe_op op_mul (pv 5) (pe_cal C_l_next hr rfl pass0 (pa_cons (pv 0) (pa_cons (pv 4) pa_nil))))))
      (pss_cons (ps_if (pt_cmpR op_eq (pe_callB (cr_max rfl) (by rfl) T.max (by decide +kernel) (pa_cons (pv 6) pa_nil)) pe_int (nomark _)) (pss_one (ps_asg (pv 5) (pg_sub (pv 6) (pe_cal C_l_next hr rfl pass0 (pa_cons (pv 0) (pa_cons (pv 3) pa_nil))) set_list))) pss_nil)
      (pss_one (ps_ret (pe_callTy call_tuple_of (by rfl) T.tuple (by decide +kernel) (pa_cons (pv 6) pa_nil))))))))), ?_⟩
    -- _law_size
    refine ⟨_, rfl, _, rfl, _, rfl, _, rfl, _, _, rfl, rfl, _, _, rfl, rfl, h, c, _, rfl, D, by omega, by omega, fun n1 H1 l1 u1 D1 k1 => ⟨_, _, rfl, rfl, ?_⟩⟩
    obtain ⟨n1, rfl⟩ := Int.eq_ofNat_of_zero_le l1
    -- _law_far
    refine ⟨_, _, rfl, rfl, ⟨by decide, by decide, by decide⟩, _, _, rfl, rfl, ⟨by decide, by decide, by decide⟩, by show 5 ≤ sizeLine; decide, fun p hp => ?_⟩
    refine ⟨_, rfl, h, c, _, rfl, D1.new hp, by omega, by omega, fun n2 H2 l2 u2 D2 k2 => ?_⟩
    obtain ⟨np1, np2⟩ := D1.nots hp
    obtain ⟨far, e2, far_in⟩ := pick5 (x0 := 4) (x1 := 9) (x2 := 60) (x3 := 10 ^ (15 : Int).toNat) (x4 := 10 ^ (29 : Int).toNat) l2 u2
    refine ⟨p, _, _, _, rfl, rfl, SqL.of (k2 p _ upd_same np1 np2), e2, ?_⟩
    have hfar : 0 < far ∧ far ≤ 10 ^ 29 := by
      simp only [List.mem_cons, List.mem_nil_iff, or_false] at far_in
      rcases far_in with e | e | e | e | e <;> subst e <;> decide
    have k2' : Kept h c H H2 := (k1.new (k1.free D1 hp)).trans k2
    -- _law_part
    refine ⟨by show 5 ≤ sizeLine; decide, fun p3 hp3 => ?_⟩
    refine ⟨_, rfl, h, c, _, rfl, D2.new hp3, by omega, by omega, fun n3 H3 l3 u3 D3 k3 => ?_⟩
    obtain ⟨mp1, mp2⟩ := D2.nots hp3
    obtain ⟨part, e3, part_in⟩ := pick5 (x0 := 1) (x1 := 1) (x2 := 2) (x3 := 3) (x4 := 8) l3 u3
    refine ⟨p3, _, _, _, rfl, rfl, SqL.of (k3 p3 _ upd_same mp1 mp2), e3, ?_⟩
    have hpart : 1 ≤ part ∧ part ≤ 8 := by
      simp only [List.mem_cons, List.mem_nil_iff, or_false] at part_in
      rcases part_in with e | e | e | e | e <;> subst e <;> decide
    have k3' : Kept h c H H3 := (k2'.new (k2'.free D2 hp3)).trans k3
    -- _law_found
    refine ⟨_, rfl, _, rfl, by omega, by omega, ?_⟩
    have esz : ((least : Int) + (n1 : Int)).toNat = least + n1 := by omega
    rw [esz]
    intro DD hDD
    obtain ⟨dd1, dd2⟩ := D3.nots hDD
    refine lc_range (lo := 0) (n := least + n1) (fun i H4 => ∃ ms : List Int, H4 DD = some (.lst (ms.map V.int)) ∧ ms.length = i ∧ (∀ m ∈ ms, 0 ≤ m ∧ m ≤ 8 * 10 ^ 29) ∧ DrawAt H4 h c ∧ Kept h c H H4) ?_ ?_ ?_
    · exact ⟨[], upd_same, rfl, fun m hm => (nomatch hm), D3.new hDD, k3'.new (k3'.free D3 hDD)⟩
    · rintro i H4 hi ⟨ms, hms, hlen, hb, D4, k4⟩
      refine ⟨rfl, _, rfl, _, rfl, _, rfl, h, c, far, rfl, D4, hfar.1, by omega, fun n H5 l5 u5 D5 k5 => ⟨_, _, rfl, rfl, .inl ⟨by omega, by omega⟩, ms.map V.int, k5 DD _ hms dd1 dd2, ?_, ?_⟩⟩
      · rw [List.length_map, sizeLine_eq]
        omega
      refine ⟨ms ++ [part * n], by rw [upd_same, List.map_append]; rfl, by rw [List.length_append, hlen]; rfl, fun m hm => ?_, D5.upd dd1 dd2, (k4.trans k5).new (k3'.free D3 hDD)⟩
      rcases List.mem_append.mp hm with hm | hm
      · exact hb m hm
      · have em : m = part * n := by simpa using hm
        subst em
        refine ⟨Int.mul_nonneg (by omega) l5, ?_⟩
        have q := Int.mul_le_mul (a := part) (b := n) (c := 8) (d := 10 ^ 29) hpart.2 (by omega) l5 (by omega)
        exact q
    · rintro H4 ⟨ms, hms, hlen, hb, D4, k4⟩
      have hlen' : ms.length ≤ most := by omega
      have hpos : 0 < ms.length := by omega
      refine ⟨_, rfl, DD, ms, rfl, SqL.of hms, hpos, fun m hm hle => ⟨rfl, _, rfl, ?_⟩⟩
      refine ite2 (fun hz => ?_) (fun hz => ?_)
      · refine ⟨_, rfl, _, rfl, _, rfl, _, rfl, h, c, _, rfl, D4, by omega, by omega, fun n H5 l5 u5 D5 k5 => ?_⟩
        obtain ⟨n, rfl⟩ := Int.eq_ofNat_of_zero_le l5
        have hn : n < ms.length := by omega
        refine ⟨DD, _, _, n, rfl, rfl, k5 DD _ hms dd1 dd2, ?_, ?_⟩
        · rw [List.length_map]
          unfold ixN
          rw [if_pos (by omega), if_pos (by omega)]
          simp
        refine ⟨_, rfl, DD, _, rfl, .inl ⟨SqL.of upd_same, fun t ht => ?_⟩⟩
        have htD : t ≠ DD := fun e => by
          rw [e, upd_same] at ht
          cases ht
        have D6 := D5.upd (o := .lst ((ms.map V.int).set n (.int part))) dd1 dd2
        have k6 : Kept h c H (upd H5 DD (.lst ((ms.map V.int).set n (.int part)))) := (k4.trans k5).new (k3'.free D3 hDD)
        refine k t (ms.set n part) _ ⟨by rw [List.length_set]; omega, by rw [List.length_set]; omega, fun y hy => ?_, fun y hy => ?_, ⟨part, ?_, by omega⟩⟩ (k6.free D6 ht) (by rw [upd_same, List.map_set]) (D6.new ht) (k6.new (k6.free D6 ht))
        · rcases List.mem_or_eq_of_mem_set hy with hy | hy
          · exact (hb y hy).1
          · omega
        · rcases List.mem_or_eq_of_mem_set hy with hy | hy
          · have := (hb y hy).2
            omega
          · omega
        · exact List.mem_iff_getElem?.mpr ⟨n, by rw [List.getElem?_set_self hn]⟩
      · refine ⟨_, rfl, DD, _, rfl, .inl ⟨SqL.of hms, fun t ht => ?_⟩⟩
        have hm0 : m ≠ 0 := fun e => hz (decide_eq_true (by rw [e]))
        have := (hb m hm).1
        refine k t ms _ ⟨by omega, hlen', fun y hy => (hb y hy).1, fun y hy => ?_, ⟨m, hm, by omega⟩⟩ (k4.free D4 ht) upd_same (D4.new ht) (k4.new (k4.free D4 ht))
        have := (hb y hy).2
        omega
end
end Hd
set_option maxHeartbeats 4000000
namespace Hd
open PySem PySem.Spec PyProof.Rows L2
theorem pe_gint {X : Cx} {x : Str} {v : Int} {pos : Pos} (hg : Gl X x) (hm : ∃ t, X.mg x = some (.int v t)) (hd : (x == ("__debug__" : Str)) = false := by decide) : PE X (.Name x pos) (tC (.int v)) := by
  obtain ⟨t, hm⟩ := hm
  exact pe_glob hg hm ⟨t, rfl⟩ hd
theorem tyx_tup {K : PySem.W.Frag} {H : Hp} {a : Addr} {xs : List V} (h : SqT K H a xs) : TyX K H (.ref a) (.type "tuple") := by
  rcases h with (h | ⟨o, h⟩) | ⟨o, its, n, hk, hc, _⟩
  · exact .base (.tup h)
  · exact .fTuple h
  · exact .kTuple hk hc
/-- what the program's top gives its defs -/
structure Tp (K : PySem.W.Frag) (mg : Str → Option Value) : Prop where
  int : mg "int" = none
  bool : mg "bool" = none
  list : mg "list" = none
  len : mg "len" = none
  tuple : mg "tuple" = none
  isinstance : mg "isinstance" = none
  all : mg "all" = none
  sum : mg "sum" = none
  enumerate : mg "enumerate" = none
  range : mg "range" = none
  c_FEWEST_HEAPS : ∃ t, mg "FEWEST_HEAPS" = some (.int 2 t)
  c_MOST_HEAPS : ∃ t, mg "MOST_HEAPS" = some (.int 6 t)
  c_GREATEST : ∃ t, mg "GREATEST" = some (.int (10 ^ 30) t)
/-! ### the mirror -/
def inR (l g v : Int) : Bool := decide (l ≤ v) && decide (v ≤ g)
def hpsB (ns : List Int) : Bool := (decide (2 ≤ ns.length) && decide (ns.length ≤ 6)) && ((ns.map (inR 0 (10 ^ 30))).all id && decide (0 < ns.sum))
theorem getD_at {ns : List Int} {i : Nat} (h : i < ns.length) : (ns.map V.int)[i]? = some (.int (ns.getD i 0)) := by
  rw [List.getElem?_map, List.getElem?_eq_getElem h]
  show some (V.int ns[i]) = _
  congr 2
  rw [List.getD_eq_getElem?_getD, List.getElem?_eq_getElem h]
  rfl
theorem ixN_nat {n i : Nat} (h : i < n) : ixN n (i : Int) = some i := by
  unfold ixN
  rw [if_pos (by omega), if_pos (by omega)]
  simp
/-! ### the promises -/
def spIsInt : Sp := fun vs H Q _ => ∃ v l g : Int, vs = [.int v, .int l, .int g] ∧ Q (.bl (inR l g v)) H
def spIsHeaps (K : PySem.W.Frag) : Sp := fun vs H Q _ => ∃ (t : Addr) (ns : List Int), vs = [.ref t] ∧ SqT K H t (ns.map V.int) ∧ ns.length ≤ 1000 ∧ ∀ H', Same H H' → Q (.bl (hpsB ns)) H'
def spChkHeaps (K : PySem.W.Frag) : Sp := fun vs H Q _ => ∃ (t : Addr) (ns : List Int), vs = [.ref t] ∧ SqT K H t (ns.map V.int) ∧ hpsB ns = true ∧ ∀ H', Same H H' → Q .non H'
section
variable {P : Program} {w : World} {K : PySem.W.Frag} {mg : Str → Option Value} {base : Heap}
abbrev s_is_integer : Stmt := top 15
theorem sc_is_integer : FnScope ["value", "least", "greatest"] ["value", "least", "greatest"] (defScope s_is_integer) := ⟨rfl, rfl, rfl, by decide +kernel, rfl, by decide +kernel, by decide +kernel⟩
theorem ok_is_integer {f : Addr} {fd : FuncData} (F : Fun K "is_integer" "is_integer" s_is_integer f fd) (T : Tp K mg) : FnOk P w K mg base CX0 1 f fd ["value", "least", "greatest"] spIsInt := by
  refine F.ok sc_is_integer (fun vs H Q E h => ?_) (fun cdv A outer s H vs Q E hr h => ?_)
  · obtain ⟨v, l, g, rfl, _⟩ := h
    rfl
  · obtain ⟨v, l, g, rfl, k⟩ := h
    refine ⟨_, (pss_cons (ps_if (PW.pt (pw_or (pt_val (pe_callB call_isi (by rfl) T.isinstance (by decide +kernel) (pa_cons (pv 0) (pa_cons (pe_bltn (v := .ty "bool") (u := .type "bool") (by rfl) T.bool (by decide +kernel) rfl) pa_nil)))) (pw_or1 (pt_not (pt_val (pe_callB call_isi (by rfl) T.isinstance (by decide +kernel) (pa_cons (pv 0) (pa_cons (pe_bltn (v := .ty "int") (u := .type "int") (by rfl) T.int (by decide +kernel) rfl) pa_nil)))))))) (pss_one (ps_ret pe_bl)) pss_nil)
      (pss_one (ps_ret (pe_chain op_le op_le (pv 1) (pv 0) (pv 2))))), ?_⟩
    refine ⟨_, rfl, _, _, _, _, false, rfl, ClsV.ty _, .base (.int _), kit_ty (by decide +kernel), _, rfl, ?_⟩
    refine iteF ⟨_, rfl, _, _, _, _, true, rfl, ClsV.ty _, .base (.int _), kit_ty (by decide +kernel), _, rfl, ?_⟩
    refine iteF ?_
    refine ⟨_, rfl, _, rfl, _, _, rfl, rfl, _, rfl, ?_⟩
    unfold inR at k
    cases hd : decide (l ≤ v) with
    | false =>
      rw [hd] at k
      exact iteF k
    | true =>
      rw [hd] at k
      exact iteT ⟨_, rfl, _, _, rfl, rfl, k⟩
abbrev s_is_heaps : Stmt := top 16
theorem sc_is_heaps : FnScope ["value", "heap"] ["value"] (defScope s_is_heaps) := ⟨rfl, rfl, rfl, by decide +kernel, rfl, by decide +kernel, by decide +kernel⟩
theorem ok_is_heaps {f : Addr} {fd : FuncData} (F : Fun K "is_heaps" "is_heaps" s_is_heaps f fd) (T : Tp K mg) (C_is_integer : Cal P w K mg base CX0 1 "is_integer" ["value", "least", "greatest"] spIsInt) : FnOk P w K mg base CX0 2 f fd ["value"] (spIsHeaps K) := by
  refine F.ok sc_is_heaps (fun vs H Q E h => ?_) (fun cdv A outer s H vs Q E hr h => ?_)
  · obtain ⟨t, ns, rfl, _⟩ := h
    rfl
  · obtain ⟨t, ns, rfl, hS, hl, k⟩ := h
    refine ⟨_, (pss_cons (ps_if (PW.pt (pw_or (pt_not (pt_val (pe_callB call_isi (by rfl) T.isinstance (by decide +kernel) (pa_cons (pv 0) (pa_cons (pe_bltn (v := .ty "tuple") (u := .type "tuple") (by rfl) T.tuple (by decide +kernel) rfl) pa_nil))))) (pw_or1 (pt_not (pt_chain op_le op_le (pe_gint rfl T.c_FEWEST_HEAPS) (pe_callB call_len_seq (by rfl) T.len PySem.boot_len (pa_cons (pv 0) pa_nil)) (pe_gint rfl T.c_MOST_HEAPS)))))) (pss_one (ps_ret pe_bl)) pss_nil)
      (pss_one (ps_ret (pe_and (pe_callB (cr_all rfl) (by rfl) T.all (by decide +kernel) (pa_cons (pe_lc (own := [("heap", 1)]) (g := gName 1) (by rfl) sc_is_heaps.nd (pi_tup (pv 0)) (blkOk_by (own := [("heap", 1)]) (N := ["value", "heap"]) (sc := defScope s_is_heaps) (by decide +kernel)) (fun _ _ _ _ _ => pg_name (i := 1) sc_is_heaps.nd rfl (Or.inl rfl)) (fun _ _ _ _ _ => pts_nil) (fun _ _ _ _ _ => (pe_cal C_is_integer hr rfl pass0 (pa_cons (pv 1) (pa_cons pe_int (pa_cons (pe_gint rfl T.c_GREATEST) pa_nil)))))) pa_nil)) (pe_one (pe_cmpR op_gt (pe_callB (cr_sumT rfl) (by rfl) T.sum (by decide +kernel) (pa_cons (pv 0) pa_nil)) pe_int (nomark _))))))), ?_⟩
    refine ⟨_, rfl, _, _, _, _, true, rfl, ClsV.ty _, tyx_tup hS, kit_ty (by decide +kernel), _, rfl, ?_⟩
    refine iteF ?_
    refine ⟨_, rfl, t, _, rfl, .inr hS, _, _, rfl, rfl, _, rfl, ?_⟩
    unfold hpsB at k
    rw [List.length_map]
    cases h2 : decide (2 ≤ ns.length) with
    | false =>
      have z : decide ((2 : Int) ≤ (ns.length : Int)) = false := decide_eq_false fun z => (of_decide_eq_false h2) (by omega)
      rw [z]
      refine iteF ⟨_, rfl, iteT ?_⟩
      rw [h2] at k
      exact k H (Same.refl _)
    | true =>
      have z : decide ((2 : Int) ≤ (ns.length : Int)) = true := decide_eq_true (by have := of_decide_eq_true h2; omega)
      rw [z]
      refine iteT ⟨_, _, rfl, rfl, _, rfl, ?_⟩
      cases h6 : decide (ns.length ≤ 6) with
      | false =>
        have z : decide ((ns.length : Int) ≤ 6) = false := decide_eq_false fun z => (of_decide_eq_false h6) (by omega)
        rw [z]
        refine iteT ?_
        rw [h2, h6] at k
        exact k H (Same.refl _)
      | true =>
        have z : decide ((ns.length : Int) ≤ 6) = true := decide_eq_true (by have := of_decide_eq_true h6; omega)
        rw [z]
        refine iteF ?_
        rw [h2, h6] at k
        refine ⟨_, rfl, t, rfl, ⟨_, hS⟩, fun D hD => lc_tup (K := K) (a := t) (xs := ns.map V.int) (fun i H1 => H1 D = some (.lst (((ns.take i).map (inR 0 (10 ^ 30))).map V.bl)) ∧ Same H H1) ⟨upd_same, Same.new hD⟩ (fun i H1 _ q => Same.tup q.2 hS) ?_ ?_⟩
        · rintro i x H1 hi ⟨hL, s1⟩
          obtain ⟨z, hz, rfl⟩ := int_at hi
          refine ⟨rfl, _, rfl, z, 0, 10 ^ 30, rfl, _, hL, ?_, ?_⟩
          · rw [List.length_map, List.length_map, List.length_take, sizeLine_eq]
            omega
          · refine ⟨?_, same_upd s1 hD⟩
            rw [upd_same, List.take_add_one, hz]
            simp
        · rintro H1 ⟨hL, s1⟩
          rw [List.length_map, List.take_length] at hL
          refine ⟨D, _, rfl, SqL.of hL, _, rfl, ?_⟩
          cases ha : (ns.map (inR 0 (10 ^ 30))).all id with
          | false =>
            rw [ha] at k
            exact iteF (k _ s1)
          | true =>
            rw [ha] at k
            exact iteT ⟨_, rfl, t, _, rfl, Same.tup s1 hS, _, _, rfl, rfl, k _ s1⟩
abbrev s_check_heaps : Stmt := top 17
theorem sc_check_heaps : FnScope ["heaps"] ["heaps"] (defScope s_check_heaps) := ⟨rfl, rfl, rfl, by decide +kernel, rfl, by decide +kernel, by decide +kernel⟩
theorem ok_check_heaps {f : Addr} {fd : FuncData} (F : Fun K "check_heaps" "check_heaps" s_check_heaps f fd) (T : Tp K mg) (C_is_heaps : Cal P w K mg base CX0 2 "is_heaps" ["value"] (spIsHeaps K)) : FnOk P w K mg base CX0 3 f fd ["heaps"] (spChkHeaps K) := by
  refine F.ok sc_check_heaps (fun vs H Q E h => ?_) (fun cdv A outer s H vs Q E hr h => ?_)
  · obtain ⟨t, ns, rfl, _⟩ := h
    rfl
  · obtain ⟨t, ns, rfl, hS, hg, k⟩ := h
    refine ⟨_, (pss_one (ps_if (pt_not (pt_val (pe_cal C_is_heaps hr rfl pass0 (pa_cons (pv 0) pa_nil)))) (pss_one ps_never) pss_nil)), ?_⟩
    refine ⟨_, rfl, t, ns, rfl, hS, ?_, fun H1 s1 => ⟨_, rfl, ?_⟩⟩
    · unfold hpsB at hg
      simp only [Bool.and_eq_true, decide_eq_true_eq] at hg
      omega
    rw [hg]
    exact iteF (k _ s1)
end
end Hd
set_option maxHeartbeats 4000000
namespace Hd
open PySem PySem.Spec PyProof.Rows L2
theorem dec_int (a b : Int) : decide (V.int a = V.int b) = decide (a = b) := by
  by_cases z : a = b
  · subst z
    rw [decide_eq_true rfl, decide_eq_true rfl]
  · rw [decide_eq_false z, decide_eq_false fun q => z (V.int.inj q)]
abbrev two (a b : Nat) : List V := [V.int (a : Int), V.int (b : Int)]
def spSplit : Sp := fun vs H Q _ => ∃ n o t : Nat, vs = [.int (n : Int)] ∧ 0 < n ∧ n = o * 2 ^ t ∧ o % 2 = 1 ∧ ∀ (p : Addr) (H' : Hp), Same H H' → H p = none → H' p = some (.tup (two o t)) → Q (.ref p) H'
def spPow : Sp := fun vs H Q _ => ∃ e m : Nat, vs = [.int (e : Int), .int (m : Int)] ∧ 0 < m ∧ m < 2 ^ 200 ∧ Q (.int ((2 ^ e % m : Nat) : Int)) H
def spOrd : Sp := fun vs H Q _ => ∃ o k : Nat, vs = [.int (o : Int)] ∧ 1 < o ∧ Ord o k ∧ Q (.int (k : Int)) H
/-- two heaps are handed in -/
structure TwoOk (K : PySem.W.Frag) (H : Hp) (t : Addr) (a b o tw : Nat) : Prop where
  at_ : SqT K H t (two a b)
  par : Par a b o tw
  ha : a ≤ 10 ^ 30
  hb : b ≤ 10 ^ 30
theorem TwoOk.same {K : PySem.W.Frag} {H H' : Hp} {t : Addr} {a b o tw : Nat} (x : TwoOk K H t a b o tw) (e : Same H H') : TwoOk K H' t a b o tw := ⟨Same.tup e x.at_, x.par, x.ha, x.hb⟩
theorem two_good {a b : Nat} (s0 : 0 < a + b) (ha : a ≤ 10 ^ 30) (hb : b ≤ 10 ^ 30) : hpsB [(a : Int), (b : Int)] = true := by
  unfold hpsB inR
  simp only [Bool.and_eq_true, decide_eq_true_eq, List.all_eq_true, List.mem_map]
  refine ⟨⟨by show 2 ≤ 2; decide, by show 2 ≤ 6; decide⟩, fun x ⟨y, hy, e⟩ => ?_, ?_⟩
  · subst e
    simp only [id, Bool.and_eq_true, decide_eq_true_eq]
    rcases List.mem_cons.mp hy with e | hy
    · subst e
      omega
    · have e : y = (b : Int) := by simpa using hy
      subst e
      omega
  · show 0 < [(a : Int), (b : Int)].sum
    simp only [List.sum_cons, List.sum_nil]
    omega
def spChk2 (K : PySem.W.Frag) : Sp := fun vs H Q _ => ∃ (t : Addr) (a b o tw : Nat), vs = [.ref t] ∧ TwoOk K H t a b o tw ∧ ∀ H', Same H H' → Q .non H'
def spRed (K : PySem.W.Frag) : Sp := fun vs H Q _ => ∃ (t : Addr) (a b o tw : Nat), vs = [.ref t] ∧ TwoOk K H t a b o tw ∧ ∀ (p : Addr) (H' : Hp), Same H H' → H p = none → H' p = some (.tup (two o tw)) → Q (.ref p) H'
/-- behind how many steps the walk ends -/
def endv (o tw : Nat) : V := if o = 1 then .int (tw : Int) else .non
def spEnds (K : PySem.W.Frag) : Sp := fun vs H Q _ => ∃ (t : Addr) (a b o tw : Nat), vs = [.ref t] ∧ TwoOk K H t a b o tw ∧ ∀ v H', Same H H' → v = endv o tw → Q v H'
def spAfter (K : PySem.W.Frag) : Sp := fun vs H Q _ => ∃ (t : Addr) (a b o tw k : Nat), vs = [.ref t, .int (k : Int)] ∧ TwoOk K H t a b o tw ∧ k ≤ 10 ^ 30 ∧ ∀ (p : Addr) (H' : Hp), Same H H' → SqT K H' p (two (wpos a b o tw k).1 (wpos a b o tw k).2) → Q (.ref p) H'
def spTail (K : PySem.W.Frag) (C : Addr) : Sp := fun vs H Q E => ∃ (t : Addr) (a b o tw r : Nat), vs = [.ref t] ∧ TwoOk K H t a b o tw ∧ (o = 1 → r = 0) ∧ (o ≠ 1 → Ord o r) ∧
  (a + b ≤ 10 ^ 6 → ∀ (p : Addr) (H' : Hp), Same H H' → H' p = some (.tup (two tw r)) → Q (.ref p) H') ∧ (10 ^ 6 < a + b → ∀ H', Same H H' → E (.ref C) none H')
section
variable {P : Program} {w : World} {K : PySem.W.Frag} {mg : Str → Option Value} {base : Heap}
abbrev s_split_twos : Stmt := top 2
theorem sc_split_twos : FnScope ["number", "odd", "twos"] ["number"] (defScope s_split_twos) := ⟨rfl, rfl, rfl, by decide +kernel, rfl, by decide +kernel, by decide +kernel⟩
theorem ok_split_twos {f : Addr} {fd : FuncData} (F : Fun K "split_twos" "split_twos" s_split_twos f fd) : FnOk P w K mg base CX0 1 f fd ["number"] spSplit := by
  refine F.ok sc_split_twos (fun vs H Q E h => ?_) (fun cdv A outer s H vs Q E hr h => ?_)
  · obtain ⟨n, o, t, rfl, _⟩ := h
    rfl
  · obtain ⟨n, o, t, rfl, hn, e, ho, k⟩ := h
    refine ⟨_, (pss_cons (ps_set (i := 1) sc_split_twos.nd rfl (Or.inl rfl) (pv 0))
      (pss_cons (ps_set (i := 2) sc_split_twos.nd rfl (Or.inl rfl) pe_int)
      (pss_cons (ps_while PassesOwn.never (pt_cmpR op_eq (pe_op op_mod (pv 1) pe_int) pe_int (nomark _)) (pss_cons (ps_aug (i := 1) sc_split_twos.nd rfl (Or.inl rfl) pe_int iop_fdiv)
      (pss_one (ps_aug (i := 2) sc_split_twos.nd rfl (Or.inl rfl) pe_int ip_add))))
      (pss_one (ps_ret (pe_tup (pa_cons (pv 1) (pa_cons (pv 2) pa_nil)))))))), ?_⟩
    refine ⟨_, rfl, ?_⟩
    refine ⟨fun m σ H1 => ∃ u v : Nat, σ = [some (.int (n : Int)), some (.int (u : Int)), some (.int (v : Int))] ∧ H1 = H ∧ n = u * 2 ^ v ∧ 0 < u ∧ u = m, ⟨n, n, 0, rfl, rfl, by simp, hn, rfl⟩, ?_⟩
    rintro m σ H1 ⟨u, v, rfl, rfl, euv, hu, rfl⟩
    refine ⟨_, rfl, _, _, rfl, rfl, (by show (0 : Int) < 2; decide), rfl, _, rfl, ?_⟩
    rw [dec_int]
    refine ite2 (fun hz => ?_) (fun hz => ?_)
    · have hz' : u % 2 = 0 := by have := of_decide_eq_true hz; omega
      refine ⟨fun σ' H' => ∃ u' v' : Nat, σ' = [some (.int (n : Int)), some (.int (u' : Int)), some (.int (v' : Int))] ∧ H' = H1 ∧ n = u' * 2 ^ v' ∧ 0 < u' ∧ u' < u, fun σ' H' ⟨u', v', e1, e2, e3, e4, e5⟩ => ⟨u', e5, u', v', e1, e2, e3, e4, rfl⟩, ?_⟩
      refine ⟨_, rfl, _, _, rfl, rfl, ⟨by decide, by decide⟩, _, rfl, _, _, rfl, rfl, ?_⟩
      refine ⟨u / 2, v + 1, ?_, rfl, ?_, by omega, by omega⟩
      · show [some (V.int (n : Int)), some (V.int ((u : Int) / 2)), some (V.int ((v : Int) + 1))] = _
        rw [show ((u : Int) / 2) = ((u / 2 : Nat) : Int) by omega, show ((v : Int) + 1) = ((v + 1 : Nat) : Int) by omega]
      · rw [euv, Nat.pow_succ]
        have : u = u / 2 * 2 := by omega
        rw (occs := [1]) [this]
        rw [Nat.mul_assoc, Nat.mul_comm 2]
    · have hz' : u % 2 = 1 := by
        have : ¬ ((u : Int) % 2 = 0) := fun z => hz (decide_eq_true z)
        omega
      obtain ⟨e1, e2⟩ := part_one ho hz' (e.symm.trans euv)
      subst e1 e2
      refine ⟨_, rfl, _, rfl, by show 2 ≤ sizeLine; decide, fun p hp => ?_⟩
      exact k p _ (Same.new hp) hp upd_same
abbrev s_power_of_two : Stmt := top 4
theorem sc_power_of_two : FnScope ["exponent", "modulus", "power", "square", "left"] ["exponent", "modulus"] (defScope s_power_of_two) := ⟨rfl, rfl, rfl, by decide +kernel, rfl, by decide +kernel, by decide +kernel⟩
theorem ok_power_of_two {f : Addr} {fd : FuncData} (F : Fun K "power_of_two" "power_of_two" s_power_of_two f fd) : FnOk P w K mg base CX0 1 f fd ["exponent", "modulus"] spPow := by
  refine F.ok sc_power_of_two (fun vs H Q E h => ?_) (fun cdv A outer s H vs Q E hr h => ?_)
  · obtain ⟨e, m, rfl, _⟩ := h
    rfl
  · obtain ⟨e, m, rfl, hm, hm2, k⟩ := h
    refine ⟨_, (pss_cons (ps_set (i := 2) sc_power_of_two.nd rfl (Or.inl rfl) (pe_op op_mod pe_int (pv 1)))
      (pss_cons (ps_set (i := 3) sc_power_of_two.nd rfl (Or.inl rfl) (pe_op op_mod pe_int (pv 1)))
      (pss_cons (ps_set (i := 4) sc_power_of_two.nd rfl (Or.inl rfl) (pv 0))
      (pss_cons (ps_while PassesOwn.never (pt_cmpR op_gt (pv 4) pe_int (nomark _)) (pss_cons (ps_if (pt_cmpR op_eq (pe_op op_mod (pv 4) pe_int) pe_int (nomark _)) (pss_one (ps_set (i := 2) sc_power_of_two.nd rfl (Or.inl rfl) (pe_op op_mod (pe_op op_mulW (pv 2) (pv 3)) (pv 1)))) pss_nil)
      (pss_cons (ps_set (i := 3) sc_power_of_two.nd rfl (Or.inl rfl) (pe_op op_mod (pe_op op_mulW (pv 3) (pv 3)) (pv 1)))
      (pss_one (ps_aug (i := 4) sc_power_of_two.nd rfl (Or.inl rfl) pe_int iop_fdiv)))))
      (pss_one (ps_ret (pv 2))))))), ?_⟩
    have cst : ∀ c : Nat, ((c : Int) % (m : Int)) = ((c % m : Nat) : Int) := fun c => by omega
    refine ⟨_, rfl, _, _, rfl, rfl, (by show (0 : Int) < (m : Int); omega), _, rfl, _, _, rfl, rfl, (by show (0 : Int) < (m : Int); omega), _, rfl, ?_⟩
    have wd : ∀ x y : Nat, x < m → y < m → CMulW (x : Int) (y : Int) := fun x y hx hy => wide_mul (a := 200) (b := 200) (by omega) (by omega) (by decide) (by decide) (by decide)
    refine ⟨fun mm σ H1 => ∃ p q l : Nat, σ = [some (.int (e : Int)), some (.int (m : Int)), some (.int (p : Int)), some (.int (q : Int)), some (.int (l : Int))] ∧ H1 = H ∧ (p * q ^ l) % m = 2 ^ e % m ∧ p < m ∧ q < m ∧ l = mm,
      ⟨e, 1 % m, 2 % m, e, ?_, rfl, ?_, Nat.mod_lt _ hm, Nat.mod_lt _ hm, rfl⟩, ?_⟩
    · rw [← cst 1, ← cst 2]
      rfl
    · rw [Nat.mul_mod, Nat.mod_mod, ← Nat.mul_mod, Nat.one_mul, ← Nat.pow_mod]
    rintro mm σ H1 ⟨p, q, l, rfl, rfl, hpq, hp, hq, rfl⟩
    refine ⟨_, rfl, _, _, rfl, rfl, _, rfl, ?_⟩
    refine ite2 (fun hz => ?_) (fun hz => ?_)
    · have hz' : 0 < l := by have := of_decide_eq_true hz; omega
      refine ⟨fun σ' H' => ∃ p q l' : Nat, σ' = [some (.int (e : Int)), some (.int (m : Int)), some (.int (p : Int)), some (.int (q : Int)), some (.int (l' : Int))] ∧ H' = H1 ∧ (p * q ^ l') % m = 2 ^ e % m ∧ p < m ∧ q < m ∧ l' < l,
        fun σ' H' ⟨p', q', l', e1, e2, e3, e4, e5, e6⟩ => ⟨l', e6, p', q', l', e1, e2, e3, e4, e5, rfl⟩, ?_⟩
      have back : ∀ (p' : Nat), p' < m → (p' * (q * q) ^ (l / 2)) % m = 2 ^ e % m → ∀ v2 : Int, v2 = (p' : Int) →
          (([some (V.int (e : Int)), some (V.int (m : Int)), some (V.int v2), some (V.int ((q : Int) * (q : Int) % (m : Int))), some (V.int ((l : Int) / 2))] : L2.St) = [some (V.int (e : Int)), some (V.int (m : Int)), some (V.int (p' : Int)), some (V.int ((q * q % m : Nat) : Int)), some (V.int ((l / 2 : Nat) : Int))]) ∧
          (p' * (q * q % m) ^ (l / 2)) % m = 2 ^ e % m := fun p' h1 h2 v2 hv => by
        refine ⟨?_, ?_⟩
        · rw [hv, show ((q : Int) * (q : Int) % (m : Int)) = ((q * q % m : Nat) : Int) by rw [← cst, Int.natCast_mul], show ((l : Int) / 2) = ((l / 2 : Nat) : Int) by omega]
        · rw [Nat.mul_mod, ← Nat.pow_mod, ← Nat.mul_mod]
          exact h2
      have sq : ∀ n : Nat, (q * q) ^ n = q ^ (2 * n) := fun n => by
        rw [Nat.pow_mul, Nat.pow_two]
      refine ⟨_, rfl, _, _, rfl, rfl, (by show (0 : Int) < 2; decide), rfl, _, rfl, ?_⟩
      rw [dec_int]
      refine ite2 (fun ho => ?_) (fun ho => ?_)
      · have ho' : l % 2 = 1 := by have := of_decide_eq_true ho; omega
        refine ⟨_, rfl, _, rfl, _, _, rfl, rfl, wd p q hp hq, _, rfl, _, _, rfl, rfl, (by show (0 : Int) < (m : Int); omega), ?_⟩
        refine ⟨_, rfl, _, rfl, _, _, rfl, rfl, wd q q hq hq, _, rfl, _, _, rfl, rfl, (by show (0 : Int) < (m : Int); omega), ?_⟩
        refine ⟨_, rfl, _, _, rfl, rfl, ⟨by decide, by decide⟩, ?_⟩
        have hv : (p : Int) * (q : Int) % (m : Int) = ((p * q % m : Nat) : Int) := by rw [← cst, Int.natCast_mul]
        obtain ⟨b1, b2⟩ := back (p * q % m) (Nat.mod_lt _ hm) (by
          rw [Nat.mul_mod, Nat.mod_mod, ← Nat.mul_mod, sq, Nat.mul_assoc, Nat.mul_comm q, ← Nat.pow_succ, show (2 * (l / 2)).succ = l by omega]
          exact hpq) _ hv
        exact ⟨_, _, _, b1, rfl, b2, Nat.mod_lt _ hm, Nat.mod_lt _ hm, by omega⟩
      · have ho' : l % 2 = 0 := by
          have : ¬ ((l : Int) % 2 = 1) := fun z => ho (decide_eq_true z)
          omega
        refine ⟨_, rfl, _, rfl, _, _, rfl, rfl, wd q q hq hq, _, rfl, _, _, rfl, rfl, (by show (0 : Int) < (m : Int); omega), ?_⟩
        refine ⟨_, rfl, _, _, rfl, rfl, ⟨by decide, by decide⟩, ?_⟩
        obtain ⟨b1, b2⟩ := back p hp (by rw [sq, show 2 * (l / 2) = l by omega]; exact hpq) _ rfl
        exact ⟨_, _, _, b1, rfl, b2, hp, Nat.mod_lt _ hm, by omega⟩
    · have hz' : l = 0 := by
        have : ¬ ((0 : Int) < (l : Int)) := fun z => hz (decide_eq_true z)
        omega
      subst hz'
      rw [Nat.pow_zero, Nat.mul_one, Nat.mod_eq_of_lt hp] at hpq
      subst hpq
      exact ⟨_, rfl, k⟩
abbrev s_order_of_two : Stmt := top 5
theorem sc_order_of_two : FnScope ["odd", "start", "power", "order"] ["odd"] (defScope s_order_of_two) := ⟨rfl, rfl, rfl, by decide +kernel, rfl, by decide +kernel, by decide +kernel⟩
theorem ok_order_of_two {f : Addr} {fd : FuncData} (F : Fun K "order_of_two" "order_of_two" s_order_of_two f fd) : FnOk P w K mg base CX0 1 f fd ["odd"] spOrd := by
  refine F.ok sc_order_of_two (fun vs H Q E h => ?_) (fun cdv A outer s H vs Q E hr h => ?_)
  · obtain ⟨o, n, rfl, _⟩ := h
    rfl
  · obtain ⟨o, n, rfl, ho, hO, k⟩ := h
    refine ⟨_, (pss_cons (ps_set (i := 1) sc_order_of_two.nd rfl (Or.inl rfl) (pe_op op_mod pe_int (pv 0)))
      (pss_cons (ps_set (i := 2) sc_order_of_two.nd rfl (Or.inl rfl) (pe_op op_mod pe_int (pv 0)))
      (pss_cons (ps_set (i := 3) sc_order_of_two.nd rfl (Or.inl rfl) pe_int)
      (pss_cons (ps_while PassesOwn.never (pt_cmpR op_ne (pv 2) (pv 1) (nomark _)) (pss_cons (ps_set (i := 2) sc_order_of_two.nd rfl (Or.inl rfl) (pe_op op_mod (pe_op op_mul (pv 2) pe_int) (pv 0)))
      (pss_one (ps_aug (i := 3) sc_order_of_two.nd rfl (Or.inl rfl) pe_int ip_add))))
      (pss_one (ps_ret (pv 3))))))), ?_⟩
    have cst : ∀ c : Nat, ((c : Int) % (o : Int)) = ((c % o : Nat) : Int) := fun c => by omega
    refine ⟨_, rfl, _, _, rfl, rfl, (by show (0 : Int) < (o : Int); omega), _, rfl, _, _, rfl, rfl, (by show (0 : Int) < (o : Int); omega), ?_⟩
    refine ⟨fun mm σ H1 => ∃ j : Nat, σ = [some (.int (o : Int)), some (.int ((1 % o : Nat) : Int)), some (.int ((2 ^ j % o : Nat) : Int)), some (.int (j : Int))] ∧ H1 = H ∧ 0 < j ∧ j ≤ n ∧ mm = n - j, ⟨n - 1, 1, ?_, rfl, by decide, hO.pos, rfl⟩, ?_⟩
    · rw [← cst 1, ← cst (2 ^ 1)]
      rfl
    rintro mm σ H1 ⟨j, rfl, rfl, hj, hjn, rfl⟩
    refine ⟨_, rfl, _, rfl, rfl, _, rfl, ?_⟩
    rw [dec_int]
    by_cases hjj : j = n
    · subst hjj
      have e := (mod_one_dvd ho).mpr hO.yes
      rw [e, decide_eq_true rfl]
      exact iteF ⟨_, rfl, k⟩
    · have e : ¬ (((2 ^ j % o : Nat) : Int) = ((1 % o : Nat) : Int)) := fun z => hO.no j hj (by omega) ((mod_one_dvd ho).mp (by omega))
      rw [decide_eq_false e]
      refine iteT ⟨fun σ' H' => ∃ j' : Nat, σ' = [some (.int (o : Int)), some (.int ((1 % o : Nat) : Int)), some (.int ((2 ^ j' % o : Nat) : Int)), some (.int (j' : Int))] ∧ H' = H1 ∧ 0 < j' ∧ j' ≤ n ∧ n - j' < n - j,
        fun σ' H' ⟨j', e1, e2, e3, e4, e5⟩ => ⟨n - j', e5, j', e1, e2, e3, e4, rfl⟩, ?_⟩
      refine ⟨_, rfl, _, _, rfl, rfl, .inr ⟨by decide, by decide⟩, _, rfl, _, _, rfl, rfl, (by show (0 : Int) < (o : Int); omega), _, rfl, _, _, rfl, rfl, ?_⟩
      refine ⟨j + 1, ?_, rfl, by omega, by omega, by omega⟩
      show [some (V.int (o : Int)), some (V.int ((1 % o : Nat) : Int)), some (V.int (((2 ^ j % o : Nat) : Int) * 2 % (o : Int))), some (V.int ((j : Int) + 1))] = _
      rw [show ((2 ^ j % o : Nat) : Int) * 2 % (o : Int) = ((2 ^ (j + 1) % o : Nat) : Int) by
        rw [show ((2 ^ j % o : Nat) : Int) * 2 = ((2 ^ j % o * 2 : Nat) : Int) by omega, cst, Nat.mod_mul_mod, ← Nat.pow_succ], show ((j : Int) + 1) = ((j + 1 : Nat) : Int) by omega]
end
end Hd
set_option maxHeartbeats 4000000
namespace Hd
open PySem PySem.Spec PyProof.Rows L2
theorem in_two {a b : Nat} : inV (.int 0) (two a b) = (decide (a = 0) || decide (b = 0)) := by
  unfold inV two
  simp only [List.any_cons, List.any_nil, Bool.or_false]
  have e : ∀ n : Nat, eqV (.int (n : Int)) (.int 0) = decide (n = 0) := fun n => by
    unfold eqV
    by_cases h : n = 0
    · subst h
      first | rfl | simp
    · have : ¬ ((n : Int) = 0) := by omega
      simp [h, this]
  rw [e, e]
theorem two_map (a b : Nat) : two a b = [(a : Int), (b : Int)].map V.int := rfl
section
variable {P : Program} {w : World} {K : PySem.W.Frag} {mg : Str → Option Value} {base : Heap}
abbrev s_check_two : Stmt := top 20
theorem sc_check_two : FnScope ["heaps"] ["heaps"] (defScope s_check_two) := ⟨rfl, rfl, rfl, by decide +kernel, rfl, by decide +kernel, by decide +kernel⟩
theorem ok_check_two {f : Addr} {fd : FuncData} (F : Fun K "check_two" "check_two" s_check_two f fd) (T : Tp K mg) (C_check_heaps : Cal P w K mg base CX0 3 "check_heaps" ["heaps"] (spChkHeaps K)) : FnOk P w K mg base CX0 4 f fd ["heaps"] (spChk2 K) := by
  refine F.ok sc_check_two (fun vs H Q E h => ?_) (fun cdv A outer s H vs Q E hr h => ?_)
  · obtain ⟨t, a, b, o, tw, rfl, _⟩ := h
    rfl
  · obtain ⟨t, a, b, o, tw, rfl, hT, k⟩ := h
    refine ⟨_, (pss_cons (ps_expr (pe_cal C_check_heaps hr rfl pass0 (pa_cons (pv 0) pa_nil)))
      (pss_one (ps_if (pt_cmpR op_ne (pe_callB call_len_seq (by rfl) T.len PySem.boot_len (pa_cons (pv 0) pa_nil)) pe_int (nomark _)) (pss_one ps_never) pss_nil))), ?_⟩
    refine ⟨_, rfl, t, [(a : Int), (b : Int)], rfl, hT.at_, two_good hT.par.pos hT.ha hT.hb, fun H1 s1 => ?_⟩
    exact ⟨_, rfl, t, _, rfl, .inr (Same.tup s1 hT.at_), rfl, _, rfl, iteNS rfl (k _ s1)⟩
abbrev s_reduced_parts : Stmt := top 3
theorem sc_reduced_parts : FnScope ["numbers", "divisor", "number"] ["numbers"] (defScope s_reduced_parts) := ⟨rfl, rfl, rfl, by decide +kernel, rfl, by decide +kernel, by decide +kernel⟩
theorem ok_reduced_parts {f : Addr} {fd : FuncData} (F : Fun K "reduced_parts" "reduced_parts" s_reduced_parts f fd) (T : Tp K mg) (m_gcd : mg "gcd" = some (.builtin "math.gcd")) (C_split_twos : Cal P w K mg base CX0 1 "split_twos" ["number"] spSplit) : FnOk P w K mg base CX0 2 f fd ["numbers"] (spRed K) := by
  refine F.ok sc_reduced_parts (fun vs H Q E h => ?_) (fun cdv A outer s H vs Q E hr h => ?_)
  · obtain ⟨t, a, b, o, tw, rfl, _⟩ := h
    rfl
  · obtain ⟨t, a, b, o, tw, rfl, hT, k⟩ := h
    have g0 := hT.par.gpos
    have gle : Nat.gcd a b ≤ a + b := Nat.le_of_dvd hT.par.pos (Nat.dvd_add (Nat.gcd_dvd_left a b) (Nat.gcd_dvd_right a b))
    have ha := hT.ha
    have hb := hT.hb
    refine ⟨_, (pss_cons (ps_set (i := 1) sc_reduced_parts.nd rfl (Or.inl rfl) pe_int)
      (pss_cons (ps_for PassesOwn.never rfl (pi_tup (pv 0)) (pg_name (i := 2) sc_reduced_parts.nd rfl (Or.inl rfl))
      (pss_one (ps_set (i := 1) sc_reduced_parts.nd rfl (Or.inl rfl) (pe_callBfun cr_gcd rfl m_gcd (pa_cons (pv 1) (pa_cons (pv 2) pa_nil))))))
      (pss_one (ps_ret (pe_cal C_split_twos hr rfl pass0 (pa_cons (pe_op op_fdivW (pe_callB (cr_sumT rfl) (by rfl) T.sum (by decide +kernel) (pa_cons (pv 0) pa_nil)) (pv 1)) pa_nil)))))), ?_⟩
    refine ⟨_, rfl, t, rfl, ⟨_, hT.at_⟩, for_tup (K := K) (a := t) (xs := two a b) (fun i σ H1 => ∃ v : Option V, σ = [some (.ref t), some (.int ((([a, b].take i).foldl Nat.gcd 0 : Nat) : Int)), v] ∧ H1 = H) ⟨none, rfl, rfl⟩ (fun i σ H1 _ ⟨_, _, e⟩ => by rw [e]; exact hT.at_) ?_ ?_⟩
    · rintro i x σ H1 hi ⟨v, rfl, rfl⟩
      have hc : (i = 0 ∧ x = .int (a : Int)) ∨ (i = 1 ∧ x = .int (b : Int)) := by
        cases i with
        | zero => exact .inl ⟨rfl, (Option.some.inj hi).symm⟩
        | succ i =>
          cases i with
          | zero => exact .inr ⟨rfl, (Option.some.inj hi).symm⟩
          | succ i => cases hi
      rcases hc with ⟨rfl, rfl⟩ | ⟨rfl, rfl⟩
      · exact ⟨_, rfl, _, rfl, _, _, rfl, some (.int (a : Int)), rfl, rfl⟩
      · exact ⟨_, rfl, _, rfl, _, _, rfl, some (.int (b : Int)), rfl, rfl⟩
    · rintro σ H1 ⟨v, rfl, rfl⟩
      have eL : (([a, b].take (two a b).length).foldl Nat.gcd 0) = Nat.gcd a b := by
        show Nat.gcd (Nat.gcd 0 a) b = _
        rw [Nat.gcd_zero_left]
      rw [eL]
      refine ⟨_, rfl, t, [(a : Int), (b : Int)], rfl, hT.at_, _, rfl, _, _, rfl, rfl, ?_, ?_⟩
      · refine wide_div (b := 200) ?_ ?_ (by decide) (by decide)
        · omega
        · omega
      · have e : ([(a : Int), (b : Int)].sum / ((Nat.gcd a b : Nat) : Int)) = (((a + b) / Nat.gcd a b : Nat) : Int) := by
          rw [Int.natCast_ediv]
          congr 1
        have e' := congrArg V.int e
        exact ⟨(a + b) / Nat.gcd a b, o, tw, congrArg (fun z => [z]) e', Nat.div_pos gle g0, hT.par.eq, hT.par.odd, k⟩
abbrev s_ends_after : Stmt := top 22
theorem sc_ends_after : FnScope ["heaps", "odd", "twos"] ["heaps"] (defScope s_ends_after) := ⟨rfl, rfl, rfl, by decide +kernel, rfl, by decide +kernel, by decide +kernel⟩
theorem ok_ends_after {f : Addr} {fd : FuncData} (F : Fun K "ends_after" "ends_after" s_ends_after f fd) (C_check_two : Cal P w K mg base CX0 4 "check_two" ["heaps"] (spChk2 K)) (C_reduced_parts : Cal P w K mg base CX0 2 "reduced_parts" ["numbers"] (spRed K)) : FnOk P w K mg base CX0 5 f fd ["heaps"] (spEnds K) := by
  refine F.ok sc_ends_after (fun vs H Q E h => ?_) (fun cdv A outer s H vs Q E hr h => ?_)
  · obtain ⟨t, a, b, o, tw, rfl, _⟩ := h
    rfl
  · obtain ⟨t, a, b, o, tw, rfl, hT, k⟩ := h
    refine ⟨_, (pss_cons (ps_expr (pe_cal C_check_two hr rfl pass0 (pa_cons (pv 0) pa_nil)))
      (pss_cons (ps_asg (pe_cal C_reduced_parts hr rfl pass0 (pa_cons (pv 0) pa_nil)) (pg_tup rfl (pgs_cons (pg_name (i := 1) sc_ends_after.nd rfl (Or.inl rfl)) (pgs_cons (pg_name (i := 2) sc_ends_after.nd rfl (Or.inl rfl)) pgs_nil))))
      (pss_one (ps_ret (pe_ifExp (pt_cmpR op_eq (pv 1) pe_int (nomark _)) (pv 2) pe_non))))), ?_⟩
    refine ⟨_, rfl, t, a, b, o, tw, rfl, hT, fun H1 s1 => ?_⟩
    refine ⟨_, rfl, t, a, b, o, tw, rfl, hT.same s1, fun p H2 s2 hp hp2 => ?_⟩
    refine ⟨p, _, rfl, SqT.of hp2, rfl, _, _, rfl, _, _, rfl, rfl, ?_⟩
    refine ⟨_, rfl, rfl, _, rfl, ?_⟩
    refine ite2 (fun hc => ?_) (fun hc => ?_)
    · have h : o = 1 := by have := V.int.inj (of_decide_eq_true hc); omega
      exact ⟨_, rfl, k _ H2 (s1.trans s2) (if_pos h).symm⟩
    · have h : o ≠ 1 := fun z => hc (decide_eq_true (by rw [z]; rfl))
      exact k _ H2 (s1.trans s2) (if_neg h).symm
abbrev s_after : Stmt := top 21
theorem sc_after : FnScope ["heaps", "many", "total", "end", "factor", "heap"] ["heaps", "many"] (defScope s_after) := ⟨rfl, rfl, rfl, by decide +kernel, rfl, by decide +kernel, by decide +kernel⟩
theorem ok_after {f : Addr} {fd : FuncData} (F : Fun K "after" "after" s_after f fd) (T : Tp K mg) (C_check_two : Cal P w K mg base CX0 4 "check_two" ["heaps"] (spChk2 K)) (C_is_integer : Cal P w K mg base CX0 1 "is_integer" ["value", "least", "greatest"] spIsInt)
    (C_ends_after : Cal P w K mg base CX0 5 "ends_after" ["heaps"] (spEnds K)) (C_power_of_two : Cal P w K mg base CX0 1 "power_of_two" ["exponent", "modulus"] spPow) : FnOk P w K mg base CX0 6 f fd ["heaps", "many"] (spAfter K) := by
  refine F.ok sc_after (fun vs H Q E h => ?_) (fun cdv A outer s H vs Q E hr h => ?_)
  · obtain ⟨t, a, b, o, tw, n, rfl, _⟩ := h
    rfl
  · obtain ⟨t, a, b, o, tw, n, rfl, hT, hn, k⟩ := h
    have ha := hT.ha
    have hb := hT.hb
    have hpos := hT.par.pos
    refine ⟨_, (pss_cons (ps_expr (pe_cal C_check_two hr rfl pass0 (pa_cons (pv 0) pa_nil)))
      (pss_cons (ps_if (pt_not (pt_val (pe_cal C_is_integer hr rfl pass0 (pa_cons (pv 1) (pa_cons pe_int (pa_cons (pe_gint rfl T.c_GREATEST) pa_nil)))))) (pss_one ps_never) pss_nil)
      (pss_cons (ps_if (pt_cmpR op_in_seq pe_int (pv 0) (by rfl)) (pss_one (ps_ret (pv 0))) pss_nil)
      (pss_cons (ps_set (i := 2) sc_after.nd rfl (Or.inr rfl) (pe_callB (cr_sumT rfl) (by rfl) T.sum (by decide +kernel) (pa_cons (pv 0) pa_nil)))
      (pss_cons (ps_set (i := 3) sc_after.nd rfl (Or.inl rfl) (pe_cal C_ends_after hr rfl pass0 (pa_cons (pv 0) pa_nil)))
      (pss_cutM (ps_if (PW.pt (pw_and (pt_cmpR op_notN (pv 3) pe_non (nomark _)) (pw_and1 (pt_cmpR op_ge (pv 1) (pv 3) (nomark _))))) (pss_one (ps_ret (pe_tup (pa_cons pe_int (pa_cons (pv 2) pa_nil))))) pss_nil)
      (pss_cons (ps_set (i := 4) sc_after.nd rfl (Or.inr rfl) (pe_cal C_power_of_two hr rfl pass0 (pa_cons (pv 1) (pa_cons (pv 2) pa_nil))))
      (pss_one (ps_ret (pe_callTy call_tuple_of (by rfl) T.tuple (by decide +kernel) (pa_cons (pe_lc (own := [("heap", 5)]) (g := gName 5) (by rfl) sc_after.nd (pi_tup (pv 0)) (blkOk_by (own := [("heap", 5)]) (N := ["heaps", "many", "total", "end", "factor", "heap"]) (sc := defScope s_after) (by decide +kernel)) (fun _ _ _ _ _ => pg_name (i := 5) sc_after.nd rfl (Or.inl rfl)) (fun _ _ _ _ _ => pts_nil) (fun _ _ _ _ _ => (pe_op op_mod (pe_op op_mulW (pv 5) (pv 4)) (pv 2)))) pa_nil))))))))))), ?_⟩
    refine ⟨_, rfl, t, a, b, o, tw, rfl, hT, fun H1 s1 => ?_⟩
    have g : inR 0 (10 ^ 30) (n : Int) = true := by
      unfold inR
      simp only [Bool.and_eq_true, decide_eq_true_eq]
      omega
    refine ⟨_, rfl, n, 0, 10 ^ 30, rfl, _, rfl, ?_⟩
    rw [g]
    refine iteF ?_
    have T1 := hT.same s1
    -- if 0 in heaps
    refine ⟨_, rfl, t, _, rfl, .inr T1.at_, rfl, rfl, _, rfl, ?_⟩
    have e0 : (if false = true then !inV (.int 0) (two a b) else inV (.int 0) (two a b)) = (decide (a = 0) || decide (b = 0)) := in_two
    rw [e0]
    by_cases hz : a = 0 ∨ b = 0
    · have ez : (decide (a = 0) || decide (b = 0)) = true := by simpa using hz
      rw [ez]
      obtain ⟨h1, h2⟩ := hT.par.empty hz
      refine iteT ⟨_, rfl, k t H1 s1 ?_⟩
      have ew : wpos a b o tw n = (a, b) := by
        unfold wpos
        rw [if_pos ⟨h1, by omega⟩, if_pos h2]
      rw [ew]
      exact T1.at_
    · have ez : (decide (a = 0) || decide (b = 0)) = false := by
        have h1 : ¬ a = 0 := fun q => hz (.inl q)
        have h2 : ¬ b = 0 := fun q => hz (.inr q)
        simp [h1, h2]
      rw [ez]
      refine iteF ?_
      have hsum : [(a : Int), (b : Int)].sum = ((a + b : Nat) : Int) := by
        simp only [List.sum_cons, List.sum_nil]
        omega
      refine ⟨_, rfl, t, [(a : Int), (b : Int)], rfl, T1.at_, ?_⟩
      rw [hsum]
      have wd : ∀ x : Nat, x ≤ 10 ^ 30 → CMulW (x : Int) ((2 ^ n % (a + b) : Nat) : Int) := fun x hx => by
        have l := Nat.mod_lt (2 ^ n) hpos
        refine wide_mul (a := 200) (b := 200) ?_ ?_ (by decide) (by decide) (by decide)
        · omega
        · omega
      have val : ∀ x : Nat, (x : Int) * ((2 ^ n % (a + b) : Nat) : Int) % ((a + b : Nat) : Int) = ((2 ^ n * x % (a + b) : Nat) : Int) := fun x => by
        rw [← Int.natCast_mul, ← Int.natCast_emod, Nat.mul_mod, Nat.mod_mod, ← Nat.mul_mod, Nat.mul_comm]
      refine ⟨_, rfl, t, a, b, o, tw, rfl, T1, fun ve H2 s2 hve => ?_⟩
      have T2 := T1.same s2
      have s12 := s1.trans s2
      refine ⟨fun σ H' => (∃ v3 v4 v5, σ = [some (.ref t), some (.int (n : Int)), some (.int ((a + b : Nat) : Int)), v3, v4, v5]) ∧ H' = H2 ∧ ¬ (o = 1 ∧ tw ≤ n), ?_, ?_⟩
      · unfold endv at hve
        by_cases ho : o = 1
        · rw [if_pos ho] at hve
          subst hve
          refine ⟨_, rfl, rfl, _, rfl, iteT ⟨_, rfl, _, rfl, _, _, rfl, rfl, _, rfl, ite2 (fun hc => ?_) (fun hc => ?_)⟩⟩
          · have hle : tw ≤ n := by have := of_decide_eq_true hc; omega
            have ht0 := hT.par.full ⟨fun q => hz (.inl q), fun q => hz (.inr q)⟩ ho
            refine ⟨_, rfl, by show 2 ≤ sizeLine; decide, fun p hp => k p _ (s12.trans (Same.new hp)) ?_⟩
            have ew : wpos a b o tw n = (0, a + b) := by
              unfold wpos
              rw [if_pos ⟨ho, hle⟩, if_neg ht0]
            rw [ew]
            exact SqT.of upd_same
          · exact ⟨⟨_, _, _, rfl⟩, rfl, fun q => hc (decide_eq_true (by omega))⟩
        · rw [if_neg ho] at hve
          subst hve
          exact ⟨_, rfl, rfl, _, rfl, iteF ⟨⟨_, _, _, rfl⟩, rfl, fun q => ho q.1⟩⟩
      · rintro σ H' ⟨⟨v3, v4, v5, rfl⟩, rfl, hlv⟩
        have T2 := hT.same s12
        refine ⟨_, rfl, _, rfl, n, a + b, rfl, hpos, (by omega), _, rfl, t, rfl, ⟨_, T2.at_⟩, fun D hD => ?_⟩
        have ew : wpos a b o tw n = ((2 ^ n * a) % (a + b), (2 ^ n * b) % (a + b)) := if_neg hlv
        refine lc_tup (K := K) (a := t) (xs := two a b) (fun i H3 => H3 D = some (.lst ((two ((2 ^ n * a) % (a + b)) ((2 ^ n * b) % (a + b))).take i)) ∧ Same H' H3) ⟨upd_same, Same.new hD⟩ (fun i H3 _ q => Same.tup q.2 T2.at_) ?_ ?_
        · rintro i x H3 hi ⟨hL, s3⟩
          have hx : ∃ y : Nat, x = .int (y : Int) ∧ y ≤ 10 ^ 30 ∧ i < 2 ∧ (two ((2 ^ n * a) % (a + b)) ((2 ^ n * b) % (a + b))).take (i + 1) = (two ((2 ^ n * a) % (a + b)) ((2 ^ n * b) % (a + b))).take i ++ [.int ((2 ^ n * y % (a + b) : Nat) : Int)] := by
            match i, hi with
            | 0, hi => exact ⟨a, (Option.some.inj hi).symm, ha, by decide, rfl⟩
            | 1, hi => exact ⟨b, (Option.some.inj hi).symm, hb, by decide, rfl⟩
            | j + 2, hi => exact nomatch hi
          obtain ⟨y, rfl, hy, hi2, et⟩ := hx
          refine ⟨rfl, _, rfl, _, rfl, _, _, rfl, rfl, wd y hy, _, rfl, _, _, rfl, rfl, (by show (0 : Int) < ((a + b : Nat) : Int); omega), _, hL, ?_, ?_, same_upd s3 hD⟩
          · rw [List.length_take, sizeLine_eq]
            omega
          · rw [upd_same, et, ← val y]
        · rintro H3 ⟨hL, s3⟩
          refine ⟨D, _, rfl, .inl ⟨SqL.of hL, fun p hp => k p _ ((s12.trans s3).trans (Same.new hp)) ?_⟩⟩
          rw [ew]
          exact SqT.of upd_same
abbrev s_tail_and_ring : Stmt := top 23
theorem sc_tail_and_ring : FnScope ["heaps", "odd", "twos"] ["heaps"] (defScope s_tail_and_ring) := ⟨rfl, rfl, rfl, by decide +kernel, rfl, by decide +kernel, by decide +kernel⟩
theorem ok_tail_and_ring {f C : Addr} {fd : FuncData} (F : Fun K "tail_and_ring" "tail_and_ring" s_tail_and_ring f fd) (T : Tp K mg) (B : NilX P K mg "TooGreat" C) (c_GS : ∃ t, mg "GREATEST_SUM" = some (.int (10 ^ 6) t)) (C_check_two : Cal P w K mg base CX0 4 "check_two" ["heaps"] (spChk2 K))
    (C_reduced_parts : Cal P w K mg base CX0 2 "reduced_parts" ["numbers"] (spRed K)) (C_order_of_two : Cal P w K mg base CX0 1 "order_of_two" ["odd"] spOrd) : FnOk P w K mg base (L2.CX P w) 6 f fd ["heaps"] (spTail K C) := by
  refine F.okX sc_tail_and_ring (fun vs H Q E h => ?_) (fun cdv A outer s H vs Q E hr h => ?_)
  · obtain ⟨t, a, b, o, tw, r, rfl, _⟩ := h
    rfl
  · obtain ⟨t, a, b, o, tw, r, rfl, hT, r1, r2, k1, k2⟩ := h
    refine ⟨_, (pss_cons (ps_expr (pe_cal C_check_two hr rfl pass0 (pa_cons (pv 0) pa_nil)))
      (pss_cons (ps_if (pt_cmpR op_gt (pe_callB (cr_sumT rfl) (by rfl) T.sum (by decide +kernel) (pa_cons (pv 0) pa_nil)) (pe_gint rfl c_GS) (nomark _)) (pss_one (ps_raise rfl (takes_of rfl rfl rfl rfl) (pmk_nil B (hr.mono (by decide : 1 ≤ 5)) rfl))) pss_nil)
      (pss_cons (ps_asg (pe_cal C_reduced_parts hr rfl pass0 (pa_cons (pv 0) pa_nil)) (pg_tup rfl (pgs_cons (pg_name (i := 1) sc_tail_and_ring.nd rfl (Or.inl rfl)) (pgs_cons (pg_name (i := 2) sc_tail_and_ring.nd rfl (Or.inl rfl)) pgs_nil))))
      (pss_one (ps_ret (pe_tup (pa_cons (pv 2) (pa_cons (pe_ifExp (pt_cmpR op_eq (pv 1) pe_int (nomark _)) pe_int (pe_cal C_order_of_two hr rfl pass0 (pa_cons (pv 1) pa_nil))) pa_nil)))))))), ?_⟩
    refine ⟨_, rfl, t, a, b, o, tw, rfl, hT, fun H1 s1 => ?_⟩
    have T1 := hT.same s1
    have hsum : [(a : Int), (b : Int)].sum = ((a + b : Nat) : Int) := by
      simp only [List.sum_cons, List.sum_nil]
      omega
    refine ⟨_, rfl, t, [(a : Int), (b : Int)], rfl, T1.at_, _, _, rfl, rfl, _, rfl, ?_⟩
    rw [hsum]
    refine ite2 (fun hc => ?_) (fun hc => ?_)
    · have hc' : 10 ^ 6 < a + b := by have := of_decide_eq_true hc; omega
      exact k2 hc' _ s1
    · have hc' : a + b ≤ 10 ^ 6 := by
        have : ¬ ((10 ^ 6 : Int) < ((a + b : Nat) : Int)) := fun z => hc (decide_eq_true z)
        omega
      refine ⟨_, rfl, t, a, b, o, tw, rfl, T1, fun p H2 s2 hp hp2 => ?_⟩
      refine ⟨p, _, rfl, SqT.of hp2, rfl, _, _, rfl, _, _, rfl, rfl, ?_⟩
      refine ⟨_, rfl, _, rfl, rfl, _, rfl, ?_⟩
      have fin : ∀ pp, H2 pp = none → Q (.ref pp) (upd H2 pp (.tup [.int (tw : Int), .int (r : Int)])) := fun pp hpp => k1 hc' pp _ ((s1.trans s2).trans (Same.new hpp)) upd_same
      refine ite2 (fun hc => ?_) (fun hc => ?_)
      · have h : o = 1 := by have := V.int.inj (of_decide_eq_true hc); omega
        exact ⟨by show 2 ≤ sizeLine; decide, fun pp hpp => by
          have := fin pp hpp
          rw [r1 h] at this
          exact this⟩
      · have h : o ≠ 1 := fun z => hc (decide_eq_true (by rw [z]; rfl))
        have := T1.par.odd
        exact ⟨_, rfl, o, r, rfl, by omega, r2 h, by show 2 ≤ sizeLine; decide, fin⟩
end
end Hd
set_option maxHeartbeats 4000000
namespace Hd
open PySem PySem.Spec PyProof.Rows L2
structure Tw (K : PySem.W.Frag) (mg : Str → Option Value) : Prop where
  tx : Tx K mg
  int : mg "int" = none
  list : mg "list" = none
  len : mg "len" = none
  tuple : mg "tuple" = none
  range : mg "range" = none
  sum : mg "sum" = none
  min : mg "min" = none
  max : mg "max" = none
/-- one heap gives to another -/
def bhv (ns : List Int) (i j : Nat) : List Int := (ns.set i (ns.getD i 0 - ns.getD j 0)).set j (ns.getD j 0 + ns.getD j 0)
def spBehd (K : PySem.W.Frag) : Sp := fun vs H Q _ => ∃ (t u : Addr) (ns : List Int) (i j : Nat), vs = [.ref t, .ref u] ∧ SqT K H t (ns.map V.int) ∧ SqT K H u [.int (i : Int), .int (j : Int)] ∧ i < ns.length ∧ j < ns.length ∧ i ≠ j ∧
  ∀ (p : Addr) (H' : Hp), Same H H' → H p = none → H' p = some (.tup ((bhv ns i j).map V.int)) → Q (.ref p) H'
def spNxp (K : PySem.W.Frag) : Sp := fun vs H Q _ => ∃ (t : Addr) (x y : Nat), vs = [.ref t] ∧ SqT K H t (two x y) ∧ ∀ (p : Addr) (H' : Hp), Same H H' → SqT K H' p (two (nxt x y).1 (nxt x y).2) → Q (.ref p) H'
def spPair (K : PySem.W.Frag) : Sp := fun vs H Q _ => ∃ (h c : Addr), vs = [.ref h] ∧ DrawAt H h c ∧ ∀ (t : Addr) (a b o tw : Nat) (H' : Hp), TwoOk K H' t a b o tw → DrawAt H' h c → Kept h c H H' → Q (.ref t) H'
/-- how many steps are gone when so many are asked -/
def gone (o tw m : Nat) : Nat := if o = 1 ∧ tw ≤ m then tw else m
def spWalk (K : PySem.W.Frag) : Sp := fun vs H Q _ => ∃ (t : Addr) (a b o tw m : Nat), vs = [.ref t, .int (m : Int)] ∧ SqT K H t (two a b) ∧ Par a b o tw ∧ m ≤ 1000 ∧
  ∀ (p q : Addr) (H' : Hp), Same H H' → SqT K H' q (two (wpos a b o tw m).1 (wpos a b o tw m).2) → SqT K H' p [.ref q, .int (gone o tw m : Int)] → Q (.ref p) H'
def spLPow : Sp := fun vs H Q _ => ∃ n s : Nat, vs = [.int (n : Int), .int (s : Int)] ∧ 0 < s ∧ s < 2 ^ 200 ∧ ∀ (r : Nat) (H' : Hp), Same H H' → r ≤ s → r % s = 2 ^ n % s → Q (.int (r : Int)) H'
theorem pick_in {xs : List Int} {n : Int} (h0 : 0 ≤ n) (h5 : n < xs.length) : ∃ z, atI (xs.map V.int) n = some (V.int z) ∧ z ∈ xs := by
  obtain ⟨n, rfl⟩ := Int.eq_ofNat_of_zero_le h0
  have hn : n < xs.length := by omega
  refine ⟨xs[n], at_of rfl ?_, List.getElem_mem hn⟩
  rw [List.getElem?_map, List.getElem?_eq_getElem hn]
  rfl
section
variable {P : Program} {w : World} {K : PySem.W.Frag} {mg : Str → Option Value} {base : Heap}
abbrev s_l_behind : Stmt := top 29
theorem sc_l_behind : FnScope ["_law_heaps_here", "_law_step", "_law_row"] ["_law_heaps_here", "_law_step"] (defScope s_l_behind) := ⟨rfl, rfl, rfl, by decide +kernel, rfl, by decide +kernel, by decide +kernel⟩
theorem ok_l_behind {f : Addr} {fd : FuncData} (F : Fun K "_law_behind" "_law_behind" s_l_behind f fd) (T : Tw K mg) : FnOk P w K mg base CX0 1 f fd ["_law_heaps_here", "_law_step"] (spBehd K) := by
  refine F.ok sc_l_behind (fun vs H Q E h => ?_) (fun cdv A outer s H vs Q E hr h => ?_)
  · obtain ⟨t, u, ns, i, j, rfl, _⟩ := h
    rfl
  · obtain ⟨t, u, ns, i, j, rfl, hS, hU, hi, hj, hij, k⟩ := h
    refine ⟨_, (pss_cons (ps_set (i := 2) sc_l_behind.nd rfl (Or.inl rfl) (pe_callTy call_list_of (by rfl) T.list (by decide +kernel) (pa_cons (pv 0) pa_nil)))
      (pss_cons (ps_asg (pe_op op_sub (pe_ix ix_list (pv 2) (pe_ix ix_tup (pv 1) pe_int (fun _ _ => rfl)) (fun _ _ => rfl)) (pe_ix ix_tup (pv 0) (pe_ix ix_tup (pv 1) pe_int (fun _ _ => rfl)) (fun _ _ => rfl))) (pg_sub (pv 2) (pe_ix ix_tup (pv 1) pe_int (fun _ _ => rfl)) set_list))
      (pss_cons (ps_asg (pe_op op_add (pe_ix ix_list (pv 2) (pe_ix ix_tup (pv 1) pe_int (fun _ _ => rfl)) (fun _ _ => rfl)) (pe_ix ix_tup (pv 0) (pe_ix ix_tup (pv 1) pe_int (fun _ _ => rfl)) (fun _ _ => rfl))) (pg_sub (pv 2) (pe_ix ix_tup (pv 1) pe_int (fun _ _ => rfl)) set_list))
      (pss_one (ps_ret (pe_callTy call_tuple_of (by rfl) T.tuple (by decide +kernel) (pa_cons (pv 2) pa_nil))))))), ?_⟩
    refine ⟨_, rfl, t, _, rfl, .inr hS, fun l hl => ?_⟩
    have s1 : Same H (upd H l (.lst (ns.map V.int))) := Same.new hl
    refine ⟨_, rfl, _, rfl, u, _, _, _, rfl, rfl, Same.tup s1 hU, rfl, l, _, _, _, rfl, rfl, SqL.of upd_same, at_of rfl (getD_at hi), _, rfl, _, rfl, u, _, _, _, rfl, rfl, Same.tup s1 hU, rfl, t, _, _, _, rfl, rfl, Same.tup s1 hS, at_of rfl (getD_at hj), _, _, rfl, rfl, ?_⟩
    refine ⟨_, rfl, _, rfl, u, _, _, _, rfl, rfl, Same.tup s1 hU, rfl, l, _, _, i, rfl, rfl, upd_same, (by rw [List.length_map]; exact ixN_nat hi), ?_⟩
    rw [upd_upd]
    have s2 : Same H (upd H l (.lst ((ns.map V.int).set i (.int (ns.getD i 0 - ns.getD j 0))))) := Same.new hl
    refine ⟨_, rfl, _, rfl, u, _, _, _, rfl, rfl, Same.tup s2 hU, rfl, l, _, _, _, rfl, rfl, SqL.of upd_same, at_of rfl (by rw [List.getElem?_set_ne hij]; exact getD_at hj), _, rfl, _, rfl, u, _, _, _, rfl, rfl, Same.tup s2 hU, rfl, t, _, _, _, rfl, rfl, Same.tup s2 hS, at_of rfl (getD_at hj), _, _, rfl, rfl, ?_⟩
    refine ⟨_, rfl, _, rfl, u, _, _, _, rfl, rfl, Same.tup s2 hU, rfl, l, _, _, j, rfl, rfl, upd_same, (by rw [List.length_set, List.length_map]; exact ixN_nat hj), ?_⟩
    rw [upd_upd]
    refine ⟨_, rfl, l, _, rfl, .inl ⟨SqL.of upd_same, fun p hp => ?_⟩⟩
    have hpl : p ≠ l := fun e => by
      rw [e, upd_same] at hp
      cases hp
    have hp0 : H p = none := by
      rw [upd_ne hpl] at hp
      exact hp
    refine k p _ (same_upd (Same.new hl) hp0) hp0 ?_
    rw [upd_same]
    unfold bhv
    rw [List.map_set, List.map_set]
abbrev s_l_next_pair : Stmt := top 32
theorem sc_l_next_pair : FnScope ["_law_heaps_here"] ["_law_heaps_here"] (defScope s_l_next_pair) := ⟨rfl, rfl, rfl, by decide +kernel, rfl, by decide +kernel, by decide +kernel⟩
theorem ok_l_next_pair {f : Addr} {fd : FuncData} (F : Fun K "_law_next_pair" "_law_next_pair" s_l_next_pair f fd) (C_l_behind : Cal P w K mg base CX0 1 "_law_behind" ["_law_heaps_here", "_law_step"] (spBehd K)) : FnOk P w K mg base CX0 2 f fd ["_law_heaps_here"] (spNxp K) := by
  refine F.ok sc_l_next_pair (fun vs H Q E h => ?_) (fun cdv A outer s H vs Q E hr h => ?_)
  · obtain ⟨t, x, y, rfl, _⟩ := h
    rfl
  · obtain ⟨t, x, y, rfl, hS, k⟩ := h
    refine ⟨_, (pss_one (ps_ret (pe_cal C_l_behind hr rfl pass0 (pa_cons (pv 0) (pa_cons (pe_ifExp (pt_cmpR op_ge (pe_ix ix_tup (pv 0) pe_int (fun _ _ => rfl)) (pe_ix ix_tup (pv 0) pe_int (fun _ _ => rfl)) (nomark _)) (pe_tup (pa_cons pe_int (pa_cons pe_int pa_nil))) (pe_tup (pa_cons pe_int (pa_cons pe_int pa_nil)))) pa_nil))))), ?_⟩
    refine ⟨_, rfl, _, rfl, t, _, _, _, rfl, rfl, hS, rfl, _, rfl, t, _, _, _, rfl, rfl, hS, rfl, _, _, rfl, rfl, _, rfl, ?_⟩
    have fin : ∀ (i j : Nat) (u : Addr), i < 2 → j < 2 → i ≠ j → H u = none → bhv [(x : Int), (y : Int)] i j = [((nxt x y).1 : Int), ((nxt x y).2 : Int)] → spBehd K [.ref t, .ref u] (upd H u (.tup [.int (i : Int), .int (j : Int)])) Q E := fun i j u hi hj hij hu e => by
      have s1 : Same H (upd H u (.tup [.int (i : Int), .int (j : Int)])) := Same.new hu
      refine ⟨t, u, [(x : Int), (y : Int)], i, j, rfl, Same.tup s1 hS, SqT.of upd_same, hi, hj, hij, fun p H' s2 hp hp2 => k p H' (s1.trans s2) ?_⟩
      rw [e] at hp2
      exact SqT.of hp2
    refine ite2 (fun hc => ?_) (fun hc => ?_)
    · have hle : y ≤ x := by have := of_decide_eq_true hc; omega
      refine ⟨by show 2 ≤ sizeLine; decide, fun u hu => ?_⟩
      refine fin 0 1 u (by decide) (by decide) (by decide) hu ?_
      unfold bhv nxt
      rw [if_pos hle]
      show [(x : Int) - (y : Int), (y : Int) + (y : Int)] = [((x - y : Nat) : Int), ((2 * y : Nat) : Int)]
      congr 1
      · omega
      · congr 1
        omega
    · have hle : ¬ y ≤ x := fun z => hc (decide_eq_true (by omega))
      refine ⟨by show 2 ≤ sizeLine; decide, fun u hu => ?_⟩
      refine fin 1 0 u (by decide) (by decide) (by decide) hu ?_
      unfold bhv nxt
      rw [if_neg hle]
      show [(x : Int) + (x : Int), (y : Int) - (x : Int)] = [((2 * x : Nat) : Int), ((y - x : Nat) : Int)]
      congr 1
      · omega
      · congr 1
        omega
abbrev s_l_pair : Stmt := top 31
theorem sc_l_pair : FnScope ["_law_h", "_law_whole", "_law_one", "_law_part"] ["_law_h"] (defScope s_l_pair) := ⟨rfl, rfl, rfl, by decide +kernel, rfl, by decide +kernel, by decide +kernel⟩
theorem ok_l_pair {f : Addr} {fd : FuncData} (F : Fun K "_law_pair" "_law_pair" s_l_pair f fd) (T : Tw K mg) (C_l_next : Cal P w K mg base CX0 1 "_law_next" ["_law_h", "_law_bound"] spNext) (C_l_heaps : Cal P w K mg base CX0 2 "_law_heaps" ["_law_h", "_law_least", "_law_most"] spHeaps) : FnOk P w K mg base CX0 3 f fd ["_law_h"] (spPair K) := by
  refine F.ok sc_l_pair (fun vs H Q E h => ?_) (fun cdv A outer s H vs Q E hr h => ?_)
  · obtain ⟨h, c, rfl, _⟩ := h
    rfl
  · obtain ⟨h, c, rfl, D, k⟩ := h
    refine ⟨_, (pss_cons (ps_if (pt_cmpR op_eq (pe_cal C_l_next hr rfl pass0 (pa_cons (pv 0) (pa_cons pe_int pa_nil))) pe_int (nomark _)) (pss_one (ps_ret (pe_cal C_l_heaps hr rfl pass0 (pa_cons (pv 0) (pa_cons pe_int (pa_cons pe_int pa_nil)))))) pss_nil)
      (pss_cons (ps_set (i := 1) sc_l_pair.nd rfl (Or.inl rfl) (pe_op op_mul pe_int (pe_ix ix_list (pe_lst (pa_cons pe_int (pa_cons pe_int (pa_cons pe_int (pa_cons pe_int (pa_cons pe_int (pa_cons (pe_op op_pow pe_int pe_int) (pa_cons (pe_op op_pow pe_int pe_int) pa_nil)))))))) (pe_cal C_l_next hr rfl pass0 (pa_cons (pv 0) (pa_cons pe_int pa_nil))) (fun _ _ => rfl))))
      (pss_cons (ps_par (i := 2) (j := 3) (by rfl) sc_l_pair.nd rfl rfl (by decide) rfl rfl (pa_cons (pe_cal C_l_next hr rfl pass0 (pa_cons (pv 0) (pa_cons (pe_op op_add (pv 1) pe_int) pa_nil))) (pa_cons (pe_ix ix_list (pe_lst (pa_cons pe_int (pa_cons pe_int (pa_cons pe_int (pa_cons pe_int (pa_cons (pe_op op_mul pe_int (pe_op op_pow pe_int pe_int)) pa_nil)))))) (pe_cal C_l_next hr rfl pass0 (pa_cons (pv 0) (pa_cons pe_int pa_nil))) (fun _ _ => rfl)) pa_nil)) (by rfl))
      (pss_one (ps_ret (pe_tup (pa_cons (pe_op op_mul (pv 2) (pv 3)) (pa_cons (pe_op op_mul (pe_op op_sub (pv 1) (pv 2)) (pv 3)) pa_nil)))))))), ?_⟩
    refine ⟨_, rfl, h, c, 2, rfl, D, by decide, by decide, fun n1 H1 l1 u1 D1 k1 => ⟨rfl, _, rfl, ?_⟩⟩
    refine ite2 (fun _ => ?_) (fun _ => ?_)
    · refine ⟨_, rfl, h, c, 2, 2, rfl, D1, by decide, by decide, by decide, fun t ns H2 O ht ht2 D2 k2 => ?_⟩
      have e2 : ns.length = 2 := by
        have := O.lo
        have := O.hi
        omega
      obtain ⟨x, y, rfl⟩ : ∃ x y, ns = [x, y] := by
        match ns, e2 with
        | [x, y], _ => exact ⟨x, y, rfl⟩
      obtain ⟨x, rfl⟩ := Int.eq_ofNat_of_zero_le (O.ge x (by simp))
      obtain ⟨y, rfl⟩ := Int.eq_ofNat_of_zero_le (O.ge y (by simp))
      have lx := O.le x (by simp)
      have ly := O.le y (by simp)
      have hpos : 0 < x + y := by
        obtain ⟨n, hn, hp⟩ := O.pos
        rcases List.mem_cons.mp hn with e | hn
        · subst e
          omega
        · have e : n = (y : Int) := by simpa using hn
          subst e
          omega
      obtain ⟨o, tw, hp⟩ := par_some hpos
      exact k t x y o tw H2 ⟨SqT.of ht2, hp, by omega, by omega⟩ D2 (k1.trans k2)
    · -- _law_whole
      refine ⟨_, _, rfl, rfl, ⟨by decide, by decide, by decide⟩, _, _, rfl, rfl, ⟨by decide, by decide, by decide⟩, by show 7 ≤ sizeLine; decide, fun p hp => ?_⟩
      refine ⟨_, rfl, h, c, _, rfl, D1.new hp, by omega, by omega, fun n2 H2 l2 u2 D2 k2 => ?_⟩
      obtain ⟨np1, np2⟩ := D1.nots hp
      obtain ⟨wh, e2, wh_in⟩ := pick_in (xs := [1, 2, 4, 16, 1024, 2 ^ (40 : Int).toNat, 2 ^ (60 : Int).toNat]) l2 u2
      refine ⟨p, _, _, _, rfl, rfl, SqL.of (k2 p _ upd_same np1 np2), e2, ?_⟩
      have hwh : 1 ≤ wh ∧ wh ≤ 2 ^ 60 := by
        simp only [List.mem_cons, List.mem_nil_iff, or_false] at wh_in
        rcases wh_in with e | e | e | e | e | e | e <;> subst e <;> decide
      obtain ⟨wh, rfl⟩ := Int.eq_ofNat_of_zero_le (a := wh) (by omega)
      have k2' : Kept h c H H2 := (k1.new (k1.free D1 hp)).trans k2
      refine ⟨_, _, rfl, rfl, .inl ⟨by decide, by decide⟩, ?_⟩
      refine ⟨_, rfl, _, rfl, _, _, rfl, rfl, h, c, _, rfl, D2, by omega, by omega, fun n3 H3 l3 u3 D3 k3 => ?_⟩
      obtain ⟨n3, rfl⟩ := Int.eq_ofNat_of_zero_le l3
      refine ⟨_, _, rfl, rfl, ⟨by decide, by decide, by decide⟩, _, _, rfl, rfl, .inl ⟨by decide, by decide⟩, by show 5 ≤ sizeLine; decide, fun p4 hp4 => ?_⟩
      refine ⟨_, rfl, h, c, _, rfl, D3.new hp4, by omega, by omega, fun n4 H4 l4 u4 D4 k4 => ?_⟩
      obtain ⟨mp1, mp2⟩ := D3.nots hp4
      obtain ⟨part, e4, part_in⟩ := pick_in (xs := [1, 1, 3, 5, 7 * 10 ^ (2 : Int).toNat]) l4 u4
      refine ⟨p4, _, _, _, rfl, rfl, SqL.of (k4 p4 _ upd_same mp1 mp2), e4, ?_⟩
      have hpart : 1 ≤ part ∧ part ≤ 700 := by
        simp only [List.mem_cons, List.mem_nil_iff, or_false] at part_in
        rcases part_in with e | e | e | e | e <;> subst e <;> decide
      obtain ⟨part, rfl⟩ := Int.eq_ofNat_of_zero_le (a := part) (by omega)
      have k4' : Kept h c H H4 := ((k2'.trans k3).new ((k2'.trans k3).free D3 hp4)).trans k4
      refine ⟨_, _, rfl, _, rfl, _, rfl, _, _, rfl, rfl, .inr ⟨by omega, by omega⟩, _, rfl, _, rfl, _, _, rfl, rfl, _, rfl, _, _, rfl, rfl, .inr ⟨by omega, by omega⟩, by show 2 ≤ sizeLine; decide, fun t ht => ?_⟩
      have hle : n3 ≤ 8 * wh := by omega
      have q1 : n3 * part ≤ 8 * 2 ^ 60 * 700 := Nat.mul_le_mul (by omega) (by omega)
      have q2 : (8 * wh - n3) * part ≤ 8 * 2 ^ 60 * 700 := Nat.mul_le_mul (by omega) (by omega)
      have hsum : n3 * part + (8 * wh - n3) * part = 8 * wh * part := by
        rw [← Nat.add_mul]
        congr 1
        omega
      have hpos : 0 < n3 * part + (8 * wh - n3) * part := by
        rw [hsum]
        exact Nat.mul_pos (by omega) (by omega)
      obtain ⟨o, tw, hp⟩ := par_some hpos
      refine k t _ _ o tw _ ⟨?_, hp, by omega, by omega⟩ (D4.new ht) (k4'.new (k4'.free D4 ht))
      have e1 : ((n3 * part : Nat) : Int) = (n3 : Int) * (part : Int) := Int.natCast_mul _ _
      have e2 : (((8 * wh - n3) * part : Nat) : Int) = ((8 : Int) * (wh : Int) - (n3 : Int)) * (part : Int) := by
        rw [Int.natCast_mul, Int.natCast_sub hle, Int.natCast_mul]
        rfl
      unfold two
      rw [e1, e2]
      exact SqT.of upd_same
abbrev s_l_walk : Stmt := top 33
theorem sc_l_walk : FnScope ["_law_heaps_here", "_law_many", "_law_turn"] ["_law_heaps_here", "_law_many"] (defScope s_l_walk) := ⟨rfl, rfl, rfl, by decide +kernel, rfl, by decide +kernel, by decide +kernel⟩
theorem ok_l_walk {f : Addr} {fd : FuncData} (F : Fun K "_law_walk" "_law_walk" s_l_walk f fd) (T : Tw K mg) (C_l_next_pair : Cal P w K mg base CX0 2 "_law_next_pair" ["_law_heaps_here"] (spNxp K)) : FnOk P w K mg base CX0 3 f fd ["_law_heaps_here", "_law_many"] (spWalk K) := by
  refine F.ok sc_l_walk (fun vs H Q E h => ?_) (fun cdv A outer s H vs Q E hr h => ?_)
  · obtain ⟨t, a, b, o, tw, m, rfl, _⟩ := h
    rfl
  · obtain ⟨t, a, b, o, tw, m, rfl, hS, hp, hm, k⟩ := h
    refine ⟨_, (pss_cons (ps_for PassesOwn.never rfl (pi_range1 rfl T.range (pa_cons (pv 1) pa_nil)) (pg_name (i := 2) sc_l_walk.nd rfl (Or.inl rfl))
      (pss_cons (ps_if (pt_cmpR op_eq (pe_callB (cr_minT rfl hr.units) (by rfl) T.min (by decide +kernel) (pa_cons (pv 0) pa_nil)) pe_int (nomark _)) (pss_one (ps_ret (pe_tup (pa_cons (pv 0) (pa_cons (pv 2) pa_nil))))) pss_nil)
      (pss_one (ps_set (i := 0) sc_l_walk.nd rfl (Or.inl rfl) (pe_cal C_l_next_pair hr rfl pass0 (pa_cons (pv 0) pa_nil))))))
      (pss_one (ps_ret (pe_tup (pa_cons (pv 0) (pa_cons (pv 1) pa_nil)))))), ?_⟩
    refine ⟨_, rfl, _, rfl, by omega, by omega, ?_⟩
    rw [Int.toNat_natCast]
    refine for_range (lo := 0) (n := m) (fun i σ H1 => ∃ (q : Addr) (v2 : Option V), σ = [some (.ref q), some (.int (m : Int)), v2] ∧ Same H H1 ∧ SqT K H1 q (two (wpos a b o tw i).1 (wpos a b o tw i).2) ∧ (o = 1 → i ≤ tw)) ⟨t, none, rfl, Same.refl _, by rw [hp.start]; exact hS, fun _ => Nat.zero_le _⟩ ?_ ?_
    · rintro i σ H1 hi ⟨q, v2, rfl, s1, hQ, hle⟩
      rw [Int.zero_add]
      refine ⟨_, rfl, q, _, [((wpos a b o tw i).2 : Int)], rfl, hQ, rfl, _, rfl, ?_⟩
      have em : [((wpos a b o tw i).2 : Int)].foldl min ((wpos a b o tw i).1 : Int) = ((min (wpos a b o tw i).1 (wpos a b o tw i).2 : Nat) : Int) := by
        simp only [List.foldl_cons, List.foldl_nil]
        omega
      rw [em, dec_int]
      refine ite2 (fun hc => ?_) (fun hc => ?_)
      · have hz : (wpos a b o tw i).1 = 0 ∨ (wpos a b o tw i).2 = 0 := by
          have := of_decide_eq_true hc
          omega
        have he : o = 1 ∧ tw ≤ i := Classical.byContradiction fun z => by
          obtain ⟨e, h1, h2, _⟩ := hp.live z
          rw [e] at hz
          dsimp only at hz
          rcases hz with hz | hz
          · rw [hz] at h1
            exact Nat.lt_irrefl _ h1
          · rw [hz] at h2
            exact Nat.lt_irrefl _ h2
        have e2 : i = tw := Nat.le_antisymm (hle he.1) he.2
        refine ⟨_, rfl, _, rfl, by show 2 ≤ sizeLine; decide, fun pp hpp => ?_⟩
        have s2 := Same.new (o := .tup [.ref q, .int (i : Int)]) hpp
        refine k pp q _ (s1.trans s2) ?_ ?_
        · rw [hp.at_end ⟨he.1, show tw ≤ m by omega⟩, ← hp.at_end he]
          exact Same.tup s2 hQ
        · have eg : gone o tw m = i := by
            unfold gone
            rw [if_pos ⟨he.1, by omega⟩, e2]
          rw [eg]
          exact SqT.of upd_same
      · have he : ¬ (o = 1 ∧ tw ≤ i) := fun z => by
          refine hc (decide_eq_true ?_)
          have := (hp.ended z).2.1
          omega
        refine ⟨_, rfl, q, _, _, rfl, hQ, fun q2 H2 s2 hq2 => ?_⟩
        refine ⟨q2, _, rfl, s1.trans s2, ?_, fun ho => ?_⟩
        · rw [← hp.step he]
          exact hq2
        · have : ¬ tw ≤ i := fun z => he ⟨ho, z⟩
          omega
    · rintro σ H1 ⟨q, v2, rfl, s1, hQ, hle⟩
      refine ⟨_, rfl, _, rfl, by show 2 ≤ sizeLine; decide, fun pp hpp => ?_⟩
      have s2 := Same.new (o := .tup [.ref q, .int (m : Int)]) hpp
      refine k pp q _ (s1.trans s2) (Same.tup s2 hQ) ?_
      have eg : gone o tw m = m := by
        unfold gone
        by_cases z : o = 1 ∧ tw ≤ m
        · rw [if_pos z]
          have := hle z.1
          omega
        · rw [if_neg z]
      rw [eg]
      exact SqT.of upd_same
abbrev s_l_power : Stmt := top 34
theorem sc_l_power : FnScope ["_law_many", "_law_whole", "_law_found", "_law_base"] ["_law_many", "_law_whole"] (defScope s_l_power) := ⟨rfl, rfl, rfl, by decide +kernel, rfl, by decide +kernel, by decide +kernel⟩
theorem ok_l_power {f : Addr} {fd : FuncData} (F : Fun K "_law_power" "_law_power" s_l_power f fd) (T : Tw K mg) : FnOk P w K mg base CX0 1 f fd ["_law_many", "_law_whole"] spLPow := by
  refine F.ok sc_l_power (fun vs H Q E h => ?_) (fun cdv A outer s H vs Q E hr h => ?_)
  · obtain ⟨n, m, rfl, _⟩ := h
    rfl
  · obtain ⟨n, m, rfl, hm, hm2, k⟩ := h
    refine ⟨_, (pss_cons (ps_asg (pe_tup (pa_cons pe_int (pa_cons pe_int pa_nil))) (pg_tup rfl (pgs_cons (pg_name (i := 2) sc_l_power.nd rfl (Or.inl rfl)) (pgs_cons (pg_name (i := 3) sc_l_power.nd rfl (Or.inl rfl)) pgs_nil))))
      (pss_cons (ps_while PassesOwn.never (pt_cmpR op_gt (pv 0) pe_int (nomark _)) (pss_cons (ps_if (pt_cmpR op_ne (pe_op op_mul (pe_op op_fdiv (pv 0) pe_int) pe_int) (pv 0) (nomark _)) (pss_one (ps_set (i := 2) sc_l_power.nd rfl (Or.inl rfl) (pe_op op_mod (pe_callTy call_int1 (by rfl) T.int (by decide +kernel) (pa_cons (pe_op op_mulW (pv 2) (pv 3)) pa_nil)) (pv 1)))) pss_nil)
      (pss_one (ps_par (i := 3) (j := 0) (by rfl) sc_l_power.nd rfl rfl (by decide) rfl rfl (pa_cons (pe_op op_mod (pe_callTy call_int1 (by rfl) T.int (by decide +kernel) (pa_cons (pe_op op_mulW (pv 3) (pv 3)) pa_nil)) (pv 1)) (pa_cons (pe_op op_fdiv (pv 0) pe_int) pa_nil)) (by rfl)))))
      (pss_one (ps_ret (pv 2))))), ?_⟩
    have cst : ∀ c : Nat, ((c : Int) % (m : Int)) = ((c % m : Nat) : Int) := fun c => by omega
    refine ⟨by show 2 ≤ sizeLine; decide, fun pp hpp => ⟨pp, _, rfl, SqT.of upd_same, rfl, _, _, rfl, _, _, rfl, rfl, ?_⟩⟩
    have s0 : Same H (upd H pp (.tup [.int 1, .int 2])) := Same.new hpp
    generalize upd H pp (.tup [.int 1, .int 2]) = H0 at s0 ⊢
    have wd : ∀ x y : Nat, x < 2 ^ 200 → y < 2 ^ 200 → CMulW (x : Int) (y : Int) := fun x y hx hy => wide_mul (a := 200) (b := 200) (by omega) (by omega) (by decide) (by decide) (by decide)
    refine ⟨fun mm σ H1 => ∃ p q l : Nat, σ = [some (.int (l : Int)), some (.int (m : Int)), some (.int (p : Int)), some (.int (q : Int))] ∧ H1 = H0 ∧ (p * q ^ l) % m = 2 ^ n % m ∧ p ≤ m ∧ q < 2 ^ 200 ∧ l = mm,
      ⟨n, 1, 2, n, rfl, rfl, by rw [Nat.one_mul], hm, by decide, rfl⟩, ?_⟩
    rintro mm σ H1 ⟨p, q, l, rfl, rfl, hpq, hp, hq, rfl⟩
    refine ⟨_, rfl, _, _, rfl, rfl, _, rfl, ?_⟩
    refine ite2 (fun hz => ?_) (fun hz => ?_)
    · have hz' : 0 < l := by have := of_decide_eq_true hz; omega
      refine ⟨fun σ' H' => ∃ p q l' : Nat, σ' = [some (.int (l' : Int)), some (.int (m : Int)), some (.int (p : Int)), some (.int (q : Int))] ∧ H' = H1 ∧ (p * q ^ l') % m = 2 ^ n % m ∧ p ≤ m ∧ q < 2 ^ 200 ∧ l' < l,
        fun σ' H' ⟨p', q', l', e1, e2, e3, e4, e5, e6⟩ => ⟨l', e6, p', q', l', e1, e2, e3, e4, e5, rfl⟩, ?_⟩
      have sq : ∀ n : Nat, (q * q) ^ n = q ^ (2 * n) := fun n => by
        rw [Nat.pow_mul, Nat.pow_two]
      have back : ∀ (p' : Nat), (p' * (q * q) ^ (l / 2)) % m = 2 ^ n % m → ∀ v2 : Int, v2 = (p' : Int) →
          (([some (V.int ((l : Int) / 2)), some (V.int (m : Int)), some (V.int v2), some (V.int ((q : Int) * (q : Int) % (m : Int)))] : L2.St) = [some (V.int ((l / 2 : Nat) : Int)), some (V.int (m : Int)), some (V.int (p' : Int)), some (V.int ((q * q % m : Nat) : Int))]) ∧
          (p' * (q * q % m) ^ (l / 2)) % m = 2 ^ n % m := fun p' h2 v2 hv => by
        refine ⟨?_, ?_⟩
        · rw [hv, show ((q : Int) * (q : Int) % (m : Int)) = ((q * q % m : Nat) : Int) by rw [← cst, Int.natCast_mul], show ((l : Int) / 2) = ((l / 2 : Nat) : Int) by omega]
        · rw [Nat.mul_mod, ← Nat.pow_mod, ← Nat.mul_mod]
          exact h2
      have hqm : q * q % m < 2 ^ 200 := Nat.lt_trans (Nat.mod_lt _ hm) hm2
      refine ⟨_, rfl, _, _, rfl, rfl, ⟨by decide, by decide⟩, _, _, rfl, rfl, .inr ⟨by decide, by decide⟩, _, rfl, rfl, _, rfl, ?_⟩
      rw [dec_int]
      by_cases ho : l % 2 = 1
      · rw [decide_eq_false (show ¬ (l : Int) / 2 * 2 = (l : Int) by omega)]
        refine iteT ⟨_, rfl, _, rfl, _, _, rfl, rfl, wd p q (by omega) hq, .inl ⟨_, rfl, _, rfl, _, _, rfl, rfl, (by show (0 : Int) < (m : Int); omega), ?_⟩⟩
        refine ⟨_, rfl, _, rfl, _, _, rfl, rfl, wd q q hq hq, .inl ⟨_, rfl, _, rfl, _, _, rfl, rfl, (by show (0 : Int) < (m : Int); omega), _, rfl, _, _, rfl, rfl, ⟨by decide, by decide⟩, _, _, rfl, ?_⟩⟩
        have hv : (p : Int) * (q : Int) % (m : Int) = ((p * q % m : Nat) : Int) := by rw [← cst, Int.natCast_mul]
        obtain ⟨b1, b2⟩ := back (p * q % m) (by
          rw [Nat.mul_mod, Nat.mod_mod, ← Nat.mul_mod, sq, Nat.mul_assoc, Nat.mul_comm q, ← Nat.pow_succ, show (2 * (l / 2)).succ = l by omega]
          exact hpq) _ hv
        exact ⟨_, _, _, b1, rfl, b2, Nat.le_of_lt (Nat.mod_lt _ hm), hqm, by omega⟩
      · rw [decide_eq_true (show (l : Int) / 2 * 2 = (l : Int) by omega)]
        refine iteF ?_
        refine ⟨_, rfl, _, rfl, _, _, rfl, rfl, wd q q hq hq, .inl ⟨_, rfl, _, rfl, _, _, rfl, rfl, (by show (0 : Int) < (m : Int); omega), _, rfl, _, _, rfl, rfl, ⟨by decide, by decide⟩, _, _, rfl, ?_⟩⟩
        obtain ⟨b1, b2⟩ := back p (by rw [sq, show 2 * (l / 2) = l by omega]; exact hpq) _ rfl
        exact ⟨_, _, _, b1, rfl, b2, hp, hqm, by omega⟩
    · have hz' : l = 0 := by
        have : ¬ ((0 : Int) < (l : Int)) := fun z => hz (decide_eq_true z)
        omega
      subst hz'
      rw [Nat.pow_zero, Nat.mul_one] at hpq
      exact ⟨_, rfl, k p _ s0 hp hpq⟩
end
end Hd
set_option maxHeartbeats 4000000
namespace Hd
open PySem PySem.Spec PyProof.Rows L2
theorem Par.zero_end {a b o t i : Nat} (p : Par a b o t) (hz : (wpos a b o t i).1 = 0 ∨ (wpos a b o t i).2 = 0) : o = 1 ∧ t ≤ i := Classical.byContradiction fun z => by
  obtain ⟨e, h1, h2, _⟩ := p.live z
  rw [e] at hz
  dsimp only at hz
  omega
theorem Par.seen {a b o t r i j : Nat} (p : Par a b o t) (r1 : o = 1 → r = 0) (r2 : o ≠ 1 → Ord o r) (hi : i ≤ t + r) (hj : j < i) : wpos a b o t j = wpos a b o t i ↔ o ≠ 1 ∧ i = t + r ∧ j = t := by
  have lj : ¬ (o = 1 ∧ t ≤ j) := fun z => by
    have := r1 z.1
    omega
  obtain ⟨ej, j1, j2, j3⟩ := p.live lj
  by_cases li : o = 1 ∧ t ≤ i
  · constructor
    · intro e
      have z := (p.ended li).2.1
      rw [← e, ej] at z
      dsimp only at z
      omega
    · intro z
      exact absurd li.1 z.1
  · obtain ⟨ei, i1, i2, i3⟩ := p.live li
    have ag := p.again (x := (2 ^ j * a) % (a + b)) (d := i - j) (by omega) j rfl
    rw [show j + (i - j) = i by omega] at ag
    have ee : wpos a b o t j = wpos a b o t i ↔ (2 ^ i * a) % (a + b) = (2 ^ j * a) % (a + b) := by
      rw [ej, ei]
      constructor
      · intro z
        exact (Prod.mk.inj z).1.symm
      · intro z
        rw [z] at i3 ⊢
        congr 1
        omega
    rw [ee, ag]
    constructor
    · rintro ⟨h1, h2⟩
      have ho : o ≠ 1 := fun z => li ⟨z, by omega⟩
      have O := r2 ho
      have h3 : r ≤ i - j := Nat.le_of_not_lt fun z => O.no (i - j) (by omega) z h2
      exact ⟨ho, by omega, by omega⟩
    · rintro ⟨ho, h1, h2⟩
      refine ⟨by omega, ?_⟩
      rw [show i - j = r by omega]
      exact (r2 ho).yes
theorem units65 {k : Nat} {A : Around} (r : Room k A) : A.units + 65 < cLine := by
  have := r.un
  omega
/-- the datum of two heaps -/
def dtwo (p : Nat × Nat) : PyData := .tuple [.int (p.1 : Int), .int (p.2 : Int)]
theorem dtwo_shaped (p : Nat × Nat) : SeqAt.shaped (dtwo p) = true := by
  unfold SeqAt.shaped dtwo
  rw [show (PyData.tuple [.int (p.1 : Int), .int (p.2 : Int)]).canLay0 = true by simp [PyData.canLay0, PyData.canLayAll0], decide_eq_true (show (PyData.tuple [.int (p.1 : Int), .int (p.2 : Int)]).depth ≤ 64 by simp [PyData.depth, PyData.depthAll])]
  rfl
theorem dtwos_shaped (ps : List (Nat × Nat)) : SeqAt.shaped (.list (ps.map dtwo)) = true := by
  have h1 : PyData.canLayAll0 (ps.map dtwo) = true := by
    induction ps with
    | nil => simp [PyData.canLayAll0]
    | cons p ps ih => simp [PyData.canLayAll0, ih, dtwo, PyData.canLay0]
  have h2 : PyData.depthAll (ps.map dtwo) ≤ 1 := by
    clear h1
    induction ps with
    | nil => simp [PyData.depthAll]
    | cons p ps ih =>
      have e : (dtwo p).depth = 1 := by simp [dtwo, PyData.depth, PyData.depthAll]
      simp only [List.map_cons, PyData.depthAll]
      omega
  unfold SeqAt.shaped
  rw [show (PyData.list (ps.map dtwo)).canLay0 = true by simp only [PyData.canLay0]; exact h1, decide_eq_true (show (PyData.list (ps.map dtwo)).depth ≤ 64 by simp only [PyData.depth]; omega)]
  rfl
theorem dtwo_eqv (p q : Nat × Nat) : PyData.eqv (dtwo p) (dtwo q) = decide (p = q) := by
  obtain ⟨a, b⟩ := p
  obtain ⟨c, d⟩ := q
  have e : PyData.eqv (dtwo (a, b)) (dtwo (c, d)) = (decide (a = c) && decide (b = d)) := by
    simp only [dtwo, PyData.eqv, PyData.eqvAll]
    by_cases h1 : a = c <;> by_cases h2 : b = d <;> simp [h1, h2] <;> omega
  rw [e]
  by_cases h1 : a = c <;> by_cases h2 : b = d <;> simp [h1, h2]
theorem dp_two {K : PySem.W.Frag} {H : Hp} {t : Addr} {p : Nat × Nat} (h : SqT K H t (two p.1 p.2)) : Dp K H (.ref t) (dtwo p) := .tup h (.cons (.int _) (.cons (.int _) .nil))
theorem dp_twos {K : PySem.W.Frag} {H : Hp} : ∀ ps : List (Addr × Nat × Nat), (∀ q ∈ ps, SqT K H q.1 (two q.2.1 q.2.2)) → DpAll K H (ps.map fun p => V.ref p.1) ((ps.map (·.2)).map dtwo)
  | [], _ => .nil
  | q :: qs, h => .cons (dp_two (p := q.2) (h q List.mem_cons_self)) (dp_twos qs fun x hx => h x (List.mem_cons_of_mem _ hx))
theorem sqt_upd {K : PySem.W.Frag} {H : Hp} {l t : Addr} {xs ys : List V} {o : HO} (hl : H l = some (.lst xs)) (h : SqT K H t ys) : SqT K (upd H l o) t ys := by
  rcases h with (h | ⟨o', h⟩) | h
  · exact .inl (.inl (by rw [upd_ne (ne_of h hl (by intro z; cases z))]; exact h))
  · exact .inl (.inr ⟨o', by rw [upd_ne (ne_of h hl (by intro z; cases z))]; exact h⟩)
  · exact .inr h
theorem Par.any_seen {a b o t r i : Nat} (p : Par a b o t) (r1 : o = 1 → r = 0) (r2 : o ≠ 1 → Ord o r) (hi : i ≤ t + r) :
    (((List.range i).map (wpos a b o t)).map dtwo).any (fun z => PyData.eqv z (dtwo (wpos a b o t i))) = decide (o ≠ 1 ∧ i = t + r) := by
  rw [Bool.eq_iff_iff, List.any_eq_true, decide_eq_true_iff]
  constructor
  · rintro ⟨z, hz, e⟩
    obtain ⟨y, hy, rfl⟩ := List.mem_map.mp hz
    obtain ⟨j, hj, rfl⟩ := List.mem_map.mp hy
    rw [dtwo_eqv] at e
    obtain ⟨h1, h2, _⟩ := (p.seen r1 r2 hi (List.mem_range.mp hj)).mp (of_decide_eq_true e)
    exact ⟨h1, h2⟩
  · rintro ⟨ho, rfl⟩
    have hr0 := (r2 ho).pos
    refine ⟨dtwo (wpos a b o t t), List.mem_map.mpr ⟨_, List.mem_map.mpr ⟨t, List.mem_range.mpr (by omega), rfl⟩, rfl⟩, ?_⟩
    rw [dtwo_eqv]
    exact decide_eq_true ((p.seen r1 r2 (Nat.le_refl _) (by omega)).mpr ⟨ho, rfl, rfl⟩)
def spRing (K : PySem.W.Frag) : Sp := fun vs H Q _ => ∃ (t : Addr) (a b o tw r : Nat), vs = [.ref t] ∧ SqT K H t (two a b) ∧ Par a b o tw ∧ (o = 1 → r = 0) ∧ (o ≠ 1 → Ord o r) ∧ tw + r ≤ 1000 ∧
  ∀ (p : Addr) (H' : Hp), Same H H' → H' p = some (.tup (two tw r)) → Q (.ref p) H'
section
variable {P : Program} {w : World} {K : PySem.W.Frag} {mg : Str → Option Value} {base : Heap}
abbrev s_l_ring : Stmt := top 35
theorem sc_l_ring : FnScope ["_law_heaps_here", "_law_seen"] ["_law_heaps_here"] (defScope s_l_ring) := ⟨rfl, rfl, rfl, by decide +kernel, rfl, by decide +kernel, by decide +kernel⟩
theorem ok_l_ring {f : Addr} {fd : FuncData} (F : Fun K "_law_ring" "_law_ring" s_l_ring f fd) (T : Tw K mg) (C_l_next_pair : Cal P w K mg base CX0 2 "_law_next_pair" ["_law_heaps_here"] (spNxp K)) : FnOk P w K mg base CX0 3 f fd ["_law_heaps_here"] (spRing K) := by
  refine F.ok sc_l_ring (fun vs H Q E h => ?_) (fun cdv A outer s H vs Q E hr h => ?_)
  · obtain ⟨t, a, b, o, tw, r, rfl, _⟩ := h
    rfl
  · obtain ⟨t, a, b, o, tw, r, rfl, hS, hp, r1, r2, hb, k⟩ := h
    have hu65 := units65 hr
    refine ⟨_, (pss_cons (ps_set (i := 1) sc_l_ring.nd rfl (Or.inl rfl) (pe_lst pa_nil))
      (pss_cons (ps_while PassesOwn.never (pt_cmpR (op_notInD hu65) (pv 0) (pv 1) (by rfl)) (pss_cons (ps_if (pt_cmpR op_eq (pe_callB (cr_minT rfl hr.units) (by rfl) T.min (by decide +kernel) (pa_cons (pv 0) pa_nil)) pe_int (nomark _)) (pss_one (ps_ret (pe_tup (pa_cons (pe_callB call_len_seq (by rfl) T.len PySem.boot_len (pa_cons (pv 1) pa_nil)) (pa_cons pe_int pa_nil))))) pss_nil)
      (pss_cons (ps_expr (pe_bm PySem.F.plainAttrs_list PySem.F.slot_list_append PySem.F.type_list_append mt_append (pv 1) (pa_cons (pv 0) pa_nil)))
      (pss_one (ps_set (i := 0) sc_l_ring.nd rfl (Or.inl rfl) (pe_cal C_l_next_pair hr rfl pass0 (pa_cons (pv 0) pa_nil)))))))
      (pss_one (ps_ret (pe_tup (pa_cons ((pe_bm PySem.F.plainAttrs_list PySem.F.slot_list_index PySem.F.type_list_index (mt_indexD hu65) (pv 1) (pa_cons (pv 0) pa_nil))) (pa_cons (pe_op op_sub (pe_callB call_len_seq (by rfl) T.len PySem.boot_len (pa_cons (pv 1) pa_nil)) ((pe_bm PySem.F.plainAttrs_list PySem.F.slot_list_index PySem.F.type_list_index (mt_indexD hu65) (pv 1) (pa_cons (pv 0) pa_nil)))) pa_nil))))))), ?_⟩
    refine ⟨by show 0 ≤ sizeLine; decide, fun l hl => ?_⟩
    refine ⟨fun mm σ H1 => ∃ (q : Addr) (ps : List (Addr × Nat × Nat)), σ = [some (.ref q), some (.ref l)] ∧ Same H H1 ∧ H1 l = some (.lst (ps.map fun p => V.ref p.1)) ∧ (∀ p ∈ ps, SqT K H1 p.1 (two p.2.1 p.2.2)) ∧
        ps.map (·.2) = (List.range ps.length).map (wpos a b o tw) ∧ SqT K H1 q (two (wpos a b o tw ps.length).1 (wpos a b o tw ps.length).2) ∧ ps.length + mm = tw + r,
      ⟨tw + r, t, [], rfl, Same.new hl, upd_same, fun p hp => (nomatch hp), rfl, ?_, Nat.zero_add _⟩, ?_⟩
    · show SqT K _ t (two (wpos a b o tw 0).1 (wpos a b o tw 0).2)
      rw [hp.start]
      exact Same.tup (Same.new hl) hS
    rintro mm σ H1 ⟨q, ps, rfl, s1, hl1, hps, hw, hq, hm⟩
    have hpl : ps.length ≤ 1000 := by omega
    have hD : Dp K H1 (.ref l) (.list ((ps.map (·.2)).map dtwo)) := .lst (SqL.of hl1) (dp_twos ps hps)
    refine ⟨_, rfl, _, rfl, dtwo (wpos a b o tw ps.length), _, dp_two hq, hD, dtwo_shaped _, dtwos_shaped _, _, rfl, ?_⟩
    have hv := hp.any_seen r1 r2 (show ps.length ≤ tw + r by omega)
    rw [← hw] at hv
    rw [hv]
    by_cases hin : o ≠ 1 ∧ ps.length = tw + r
    · rw [decide_eq_true hin]
      refine iteF ?_
      have hr0 := (r2 hin.1).pos
      have at_ : ∀ m z, ((ps.map (·.2)).map dtwo)[m]? = some z → m < ps.length ∧ z = dtwo (wpos a b o tw m) := fun m z e => by
        rw [hw, List.getElem?_map, List.getElem?_map] at e
        by_cases hm : m < ps.length
        · rw [List.getElem?_range hm] at e
          exact ⟨hm, (Option.some.inj e).symm⟩
        · rw [List.getElem?_eq_none (by rw [List.length_range]; omega)] at e
          cases e
      have i1 : ((ps.map (·.2)).map dtwo)[tw]? = some (dtwo (wpos a b o tw tw)) := by
        rw [hw, List.getElem?_map, List.getElem?_map, List.getElem?_range (by omega)]
        rfl
      have i2 : PyData.eqv (dtwo (wpos a b o tw tw)) (dtwo (wpos a b o tw ps.length)) = true := by
        rw [dtwo_eqv]
        exact decide_eq_true ((hp.seen r1 r2 (by omega) (by omega)).mpr ⟨hin.1, hin.2, rfl⟩)
      have i3 : ∀ m z', m < tw → ((ps.map (·.2)).map dtwo)[m]? = some z' → PyData.eqv z' (dtwo (wpos a b o tw ps.length)) = false := fun m z' hm e => by
        obtain ⟨h1, rfl⟩ := at_ m z' e
        rw [dtwo_eqv]
        refine decide_eq_false fun z => ?_
        have := ((hp.seen r1 r2 (by omega) h1).mp z).2.2
        omega
      refine ⟨_, rfl, .inl ⟨rfl, _, SqL.of hl1⟩, _, rfl, l, .ref q, _, _, tw, _, rfl, rfl, hD, dp_two hq, dtwos_shaped _, dtwo_shaped _, i1, i2, i3, ?_⟩
      refine ⟨_, rfl, l, _, rfl, .inl (SqL.of hl1), _, rfl, .inl ⟨rfl, _, SqL.of hl1⟩, _, rfl, l, .ref q, _, _, tw, _, rfl, rfl, hD, dp_two hq, dtwos_shaped _, dtwo_shaped _, i1, i2, i3, ?_⟩
      refine ⟨_, _, rfl, rfl, by show 2 ≤ sizeLine; decide, fun pp hpp => k pp _ (s1.trans (Same.new hpp)) ?_⟩
      rw [upd_same, List.length_map]
      show some (HO.tup [V.int (tw : Int), V.int ((ps.length : Int) - (tw : Int))]) = _
      rw [show ((ps.length : Int) - (tw : Int)) = (r : Int) by omega]
    · rw [decide_eq_false hin]
      refine iteT ?_
      refine ⟨fun σ' H' => ∃ (q : Addr) (ps' : List (Addr × Nat × Nat)), σ' = [some (.ref q), some (.ref l)] ∧ Same H H' ∧ H' l = some (.lst (ps'.map fun p => V.ref p.1)) ∧ (∀ p ∈ ps', SqT K H' p.1 (two p.2.1 p.2.2)) ∧
          ps'.map (·.2) = (List.range ps'.length).map (wpos a b o tw) ∧ SqT K H' q (two (wpos a b o tw ps'.length).1 (wpos a b o tw ps'.length).2) ∧ ps'.length = ps.length + 1 ∧ 0 < mm,
        fun σ' H' ⟨q, ps', e1, e2, e3, e4, e5, e6, e7, e8⟩ => ⟨mm - 1, by omega, q, ps', e1, e2, e3, e4, e5, e6, by omega⟩, ?_⟩
      refine ⟨_, rfl, q, _, [((wpos a b o tw ps.length).2 : Int)], rfl, hq, rfl, _, rfl, ?_⟩
      have em : [((wpos a b o tw ps.length).2 : Int)].foldl min ((wpos a b o tw ps.length).1 : Int) = ((min (wpos a b o tw ps.length).1 (wpos a b o tw ps.length).2 : Nat) : Int) := by
        simp only [List.foldl_cons, List.foldl_nil]
        omega
      rw [em, dec_int]
      refine ite2 (fun hc => ?_) (fun hc => ?_)
      · have hz : (wpos a b o tw ps.length).1 = 0 ∨ (wpos a b o tw ps.length).2 = 0 := by
          have := of_decide_eq_true hc
          omega
        have he : o = 1 ∧ tw ≤ ps.length := hp.zero_end hz
        have hr0 := r1 he.1
        refine ⟨_, rfl, l, _, rfl, .inl (SqL.of hl1), by show 2 ≤ sizeLine; decide, fun pp hpp => k pp _ (s1.trans (Same.new hpp)) ?_⟩
        rw [upd_same, List.length_map, hr0, show ps.length = tw by omega]
        rfl
      · have he : ¬ (o = 1 ∧ tw ≤ ps.length) := fun z => by
          refine hc (decide_eq_true ?_)
          have := (hp.ended z).2.1
          omega
        refine ⟨_, rfl, .inl ⟨rfl, _, SqL.of hl1⟩, _, rfl, l, _, _, rfl, rfl, hl1, by rw [List.length_map, sizeLine_eq]; omega, ?_⟩
        have s2 : Same H (upd H1 l (.lst (ps.map (fun p => V.ref p.1) ++ [V.ref q]))) := same_upd s1 hl
        refine ⟨_, rfl, q, _, _, rfl, sqt_upd hl1 hq, fun q2 H2 s3 hq2 => ?_⟩
        refine ⟨q2, ps ++ [(q, wpos a b o tw ps.length)], rfl, s2.trans s3, ?_, fun p hp' => ?_, ?_, ?_, by rw [List.length_append]; rfl, ?_⟩
        · rw [List.map_append]
          exact s3 _ _ upd_same
        · rcases List.mem_append.mp hp' with h | h
          · exact Same.tup s3 (sqt_upd hl1 (hps p h))
          · have e : p = (q, wpos a b o tw ps.length) := by simpa using h
            subst e
            exact Same.tup s3 (sqt_upd hl1 hq)
        · rw [List.map_append, hw, List.length_append]
          show _ = List.map (wpos a b o tw) (List.range (ps.length + 1))
          rw [List.range_succ, List.map_append]
          rfl
        · rw [List.length_append]
          show SqT K H2 q2 (two (wpos a b o tw (ps.length + 1)).1 (wpos a b o tw (ps.length + 1)).2)
          rw [← hp.step he]
          exact hq2
        · by_cases ho : o = 1
          · have : ¬ tw ≤ ps.length := fun z => he ⟨ho, z⟩
            omega
          · have : ¬ ps.length = tw + r := fun z => hin ⟨ho, z⟩
            omega
end
end Hd
set_option maxHeartbeats 4000000
namespace Hd
open PySem PySem.Spec PyProof.Rows L2
/-- f(e, ..) in a try's body, f a def that may raise -/
theorem pe_calS {X : Cx} {j k : Nat} {x : Str} {ps : List Str} {sp : Sp} {E : L2.St → XK} {e : Expr} {es : List Expr} {t : TA} {p pos : Pos} {CX : CXT} (C : Cal X.prog X.w X.K X.mg X.base CX j x ps sp) (hr : Room k X.A) (hg : Gl X x)
    (hx : ∀ σ, PassesAt CX X σ (E σ)) (ha : PA X (e :: es) t) (hk : j ≤ k := by decide) (hdb : (x == ("__debug__" : Str)) = false := by decide) (he : starEach (e :: es) X.env = (false, eval e X.env) :: starEach es X.env := by rfl)
    (hpl : (backTo pos (starEach es X.env)).any (·.1) = false := by rfl) : PE X (.Call (.Name x p) (e :: es) [] pos) (tCallS sp E t) := by
  obtain ⟨f, fd, hm, kp, hb, F⟩ := C.ex
  exact pe_callS F (hr.mono hk) hg hm kp hb hx ha hdb he hpl
theorem pow_times {x r s n : Nat} (h : r % s = 2 ^ n % s) : (x * r) % s = (2 ^ n * x) % s := by
  rw [Nat.mul_mod, h, ← Nat.mul_mod, Nat.mul_comm]
theorem pow_more {a r s n m : Nat} (h : r % s = 2 ^ n % s) : ((2 ^ m * a) % s * r) % s = (2 ^ (m + n) * a) % s := by
  rw [pow_times h, Nat.mul_mod, Nat.mod_mod, ← Nat.mul_mod, ← Nat.mul_assoc, ← Nat.pow_add, Nat.add_comm n m]
def spTold3 (K : PySem.W.Frag) : Sp := fun vs H Q _ => ∃ (t : Addr) (a b o tw r : Nat), vs = [.ref t] ∧ TwoOk K H t a b o tw ∧ (o = 1 → r = 0) ∧ (o ≠ 1 → Ord o r) ∧
  (a + b ≤ 10 ^ 6 → ∀ (p : Addr) (H' : Hp), Same H H' → H' p = some (.tup (two tw r)) → Q (.ref p) H') ∧ (10 ^ 6 < a + b → ∀ H', Same H H' → Q .non H')
def t_told3 (K : PySem.W.Frag) (C : Addr) : TS := fun D σ H => tRet (tCallS (spTail K C) (WE (wOnly K (.ref C) (fun _ _ _ => tRet (tC .non)) (fun _ _ _ _ => False) D)) (tCons (tVar 0) tNil)) D σ H
def spLeast (K : PySem.W.Frag) : Sp := fun vs H Q _ => ∃ (t : Addr) (a b o tw r : Nat), vs = [.ref t, .int (tw : Int), .int (r : Int)] ∧ TwoOk K H t a b o tw ∧ o ≠ 1 ∧ Ord o r ∧ ∀ H', Q (.bl true) H'
section
variable {P : Program} {w : World} {K : PySem.W.Frag} {mg : Str → Option Value} {base : Heap}
abbrev s_l_told : Stmt := top 37
theorem sc_l_told : FnScope ["_law_heaps_here"] ["_law_heaps_here"] (defScope s_l_told) := ⟨rfl, rfl, rfl, by decide +kernel, rfl, by decide +kernel, by decide +kernel⟩
theorem ok_l_told {f C : Addr} {fd : FuncData} (F : Fun K "_law_told" "_law_told" s_l_told f fd) (B : NilX P K mg "TooGreat" C) (te : PySem.W.exmOne K (.ref C) (.ref C) = some true) (C_tail_and_ring : Cal P w K mg base (L2.CX P w) 6 "tail_and_ring" ["heaps"] (spTail K C)) :
    FnOk P w K mg base CX0 7 f fd ["_law_heaps_here"] (spTold3 K) := by
  refine F.ok sc_l_told (fun vs H Q E h => ?_) (fun cdv A outer s H vs Q E hr h => ?_)
  · obtain ⟨t, a, b, o, tw, r, rfl, _⟩ := h
    rfl
  · obtain ⟨t, a, b, o, tw, r, rfl, hT, r1, r2, k1, k2⟩ := h
    refine ⟨t_told3 K C, ?_, ?_⟩
    · exact pss_one (ps_try_only (tb := fun W => tRet (tCallS (spTail K C) (WE W) (tCons (tVar 0) tNil))) (ts := fun a cls d => tRet (tC .non)) (Wout := fun _ _ _ _ => False) rfl rfl ⟨rfl, by decide, Or.inl B.gC⟩ takes0
      (fun W pn xe tk _ => pss_one (ps_ret (by exact (pe_calS C_tail_and_ring hr rfl (fun σ => passAt tk σ) (by exact (pa_cons (pv 0) pa_nil))))))
      (fun a oe cls d pn hz hf => pss_one (ps_ret pe_non)))
    refine ⟨_, rfl, t, a, b, o, tw, r, rfl, hT, r1, r2, k1, fun hg H' s1 => ?_⟩
    refine ⟨true, te, fun _ a ha => ?_, fun q => nomatch q⟩
    exact k2 hg H' s1
abbrev s_l_is_least : Stmt := top 36
theorem sc_l_is_least : FnScope ["_law_heaps_here", "_law_tail", "_law_ring_here", "_law_whole", "_law_at", "_law_many", "_law_part", "_law_moved", "_law_k"] ["_law_heaps_here", "_law_tail", "_law_ring_here"] (defScope s_l_is_least) := ⟨rfl, rfl, rfl, by decide +kernel, rfl, by decide +kernel, by decide +kernel⟩
theorem ok_l_is_least {f : Addr} {fd : FuncData} (F : Fun K "_law_is_least" "_law_is_least" s_l_is_least f fd) (T : Tw K mg) (C_l_power : Cal P w K mg base CX0 1 "_law_power" ["_law_many", "_law_whole"] spLPow) : FnOk P w K mg base CX0 2 f fd ["_law_heaps_here", "_law_tail", "_law_ring_here"] (spLeast K) := by
  refine F.ok sc_l_is_least (fun vs H Q E h => ?_) (fun cdv A outer s H vs Q E hr h => ?_)
  · obtain ⟨t, a, b, o, tw, r, rfl, _⟩ := h
    rfl
  · obtain ⟨t, a, b, o, tw, r, rfl, hT, ho, hO, k⟩ := h
    have ha := hT.ha
    have hb := hT.hb
    have hpos := hT.par.pos
    refine ⟨_, (pss_cons (ps_set (i := 3) sc_l_is_least.nd rfl (Or.inl rfl) (pe_callB (cr_sumT rfl) (by rfl) T.sum (by decide +kernel) (pa_cons (pv 0) pa_nil)))
      (pss_cons (ps_set (i := 4) sc_l_is_least.nd rfl (Or.inl rfl) (pe_lst pa_nil))
      (pss_cons (ps_for PassesOwn.never rfl (pi_list (pe_lst (pa_cons (pe_callB (call_max2 rfl) (by rfl) T.max (by decide +kernel) (pa_cons pe_int (pa_cons (pe_op op_sub (pv 1) pe_int) pa_nil))) (pa_cons (pv 1) pa_nil)))) (pg_name (i := 5) sc_l_is_least.nd rfl (Or.inl rfl))
      (pss_one (ps_expr (pe_bm PySem.F.plainAttrs_list PySem.F.slot_list_append PySem.F.type_list_append mt_append (pv 4) (pa_cons (pe_op op_mod (pe_callTy call_int1 (by rfl) T.int (by decide +kernel) (pa_cons (pe_op op_mulW (pe_ix ix_tup (pv 0) pe_int (fun _ _ => rfl)) (pe_cal C_l_power hr rfl pass0 (pa_cons (pv 5) (pa_cons (pv 3) pa_nil)))) pa_nil)) (pv 3)) pa_nil)))))
      (pss_cons (ps_if (pt_cmpR op_ne (pe_op op_mod (pe_callTy call_int1 (by rfl) T.int (by decide +kernel) (pa_cons (pe_op op_mulW (pe_ix ix_list (pv 4) pe_int (fun _ _ => rfl)) (pe_cal C_l_power hr rfl pass0 (pa_cons (pv 2) (pa_cons (pv 3) pa_nil)))) pa_nil)) (pv 3)) (pe_ix ix_list (pv 4) pe_int (fun _ _ => rfl)) (nomark _)) (pss_one (ps_ret pe_bl)) pss_nil)
      (pss_cons (ps_for PassesOwn.never rfl (pi_list (pe_lc (own := [("_law_k", 8)]) (g := gName 8) (by rfl) sc_l_is_least.nd (pi_range2 rfl T.range (pa_cons pe_int (pa_cons pe_int pa_nil))) (blkOk_by (own := [("_law_k", 8)]) (N := ["_law_heaps_here", "_law_tail", "_law_ring_here", "_law_whole", "_law_at", "_law_many", "_law_part", "_law_moved", "_law_k"]) (sc := defScope s_l_is_least) (by decide +kernel)) (fun _ _ _ _ _ => pg_name (i := 8) sc_l_is_least.nd rfl (Or.inl rfl)) (fun _ _ _ _ _ => pts_one (pt_cmpR op_eq (pe_op op_mod (pv 2) (pv 8)) pe_int (nomark _))) (fun _ _ _ _ _ => (pv 8)))) (pg_name (i := 6) sc_l_is_least.nd rfl (Or.inl rfl))
      (pss_one (ps_for PassesOwn.never rfl (pi_list (pe_lst (pa_cons (pv 6) (pa_cons (pe_op op_fdiv (pv 2) (pv 6)) pa_nil)))) (pg_name (i := 5) sc_l_is_least.nd rfl (Or.inl rfl))
      (pss_cons (ps_set (i := 7) sc_l_is_least.nd rfl (Or.inl rfl) (pe_op op_mod (pe_callTy call_int1 (by rfl) T.int (by decide +kernel) (pa_cons (pe_op op_mulW (pe_ix ix_list (pv 4) pe_int (fun _ _ => rfl)) (pe_cal C_l_power hr rfl pass0 (pa_cons (pv 5) (pa_cons (pv 3) pa_nil)))) pa_nil)) (pv 3)))
      (pss_one (ps_if (PW.pt (pw_and (pt_cmpR op_lt (pv 5) (pv 2) (nomark _)) (pw_and1 (pt_cmpR op_eq (pv 7) (pe_ix ix_list (pv 4) pe_int (fun _ _ => rfl)) (nomark _))))) (pss_one (ps_ret pe_bl)) pss_nil))))))
      (pss_one (ps_ret (pe_or (pe_cmpR op_eq (pv 1) pe_int (nomark _)) (pe_one (pe_cmpR op_ne (pe_op op_mod (pe_callTy call_int1 (by rfl) T.int (by decide +kernel) (pa_cons (pe_op op_mulW (pe_ix ix_list (pv 4) pe_int (fun _ _ => rfl)) (pe_cal C_l_power hr rfl pass0 (pa_cons (pv 2) (pa_cons (pv 3) pa_nil)))) pa_nil)) (pv 3)) (pe_ix ix_list (pv 4) pe_int (fun _ _ => rfl)) (nomark _))))))))))), ?_⟩
    have hsum : [(a : Int), (b : Int)].sum = ((a + b : Nat) : Int) := by
      simp only [List.sum_cons, List.sum_nil]
      omega
    refine ⟨_, rfl, t, [(a : Int), (b : Int)], rfl, hT.at_, ?_⟩
    rw [hsum]
    have hp := hT.par
    generalize hs : a + b = s at *
    have wd : ∀ x y : Nat, x ≤ 2 ^ 150 → y ≤ s → CMulW (x : Int) (y : Int) := fun x y hx hy => wide_mul (a := 200) (b := 200) (by omega) (by omega) (by decide) (by decide) (by decide)
    refine ⟨by show 0 ≤ sizeLine; decide, fun L hL => ?_⟩
    have hmax : (if ((tw : Int) - 1) > 0 then ((tw : Int) - 1) else 0) = ((tw - 1 : Nat) : Int) := by split <;> omega
    refine ⟨_, rfl, _, _, rfl, rfl, _, _, rfl, ?_⟩
    rw [hmax]
    refine ⟨_, rfl, by show 2 ≤ sizeLine; decide, fun M hM => ⟨M, rfl, ⟨_, SqL.of upd_same⟩, ?_⟩⟩
    have nLM : L ≠ M := ne_of_none upd_same hM
    have s0 : Same H (upd (upd H L (.lst [])) M (.lst [.int ((tw - 1 : Nat) : Int), .int (tw : Int)])) := (Same.new hL).trans (Same.new hM)
    have m0 : H M = none := by
      rw [upd_ne nLM.symm] at hM
      exact hM
    have x01 : ∃ x0 x1 : Nat, x0 = (2 ^ (tw - 1) * a) % s ∧ x1 = (2 ^ tw * a) % s := ⟨_, _, rfl, rfl⟩
    obtain ⟨x0, x1, hx0, hx1⟩ := x01
    have lx0 : x0 < s := by rw [hx0]; exact Nat.mod_lt _ hpos
    have lx1 : x1 < s := by rw [hx1]; exact Nat.mod_lt _ hpos
    refine for_list (K := K) (a := M) (xs := [.int ((tw - 1 : Nat) : Int), .int (tw : Int)]) (fun i σ H1 => ∃ v5, σ = [some (.ref t), some (.int (tw : Int)), some (.int (r : Int)), some (.int (s : Int)), some (.ref L), v5, none, none, none] ∧ Same H H1 ∧
      H1 L = some (.lst ([V.int (x0 : Int), V.int (x1 : Int)].take i)) ∧ H1 M = some (.lst [.int ((tw - 1 : Nat) : Int), .int (tw : Int)])) ⟨none, rfl, s0, by rw [upd_ne nLM, upd_same]; rfl, upd_same⟩ (fun i σ H1 _ ⟨_, _, _, _, e⟩ => SqL.of e) ?_ ?_
    · rintro i x σ H1 hi ⟨v5, rfl, s1, hL1, hM1⟩
      have hx : ∃ y xx : Nat, x = .int (y : Int) ∧ xx = (2 ^ y * a) % s ∧ i < 2 ∧ [V.int (x0 : Int), V.int (x1 : Int)].take (i + 1) = [V.int (x0 : Int), V.int (x1 : Int)].take i ++ [V.int (xx : Int)] := by
        match i, hi with
        | 0, hi => exact ⟨tw - 1, x0, (Option.some.inj hi).symm, hx0, by decide, rfl⟩
        | 1, hi => exact ⟨tw, x1, (Option.some.inj hi).symm, hx1, by decide, rfl⟩
        | j + 2, hi => exact nomatch hi
      obtain ⟨y, xx, rfl, hxx, hi2, et⟩ := hx
      refine ⟨_, rfl, .inl ⟨rfl, _, SqL.of hL1⟩, _, rfl, t, _, _, _, rfl, rfl, Same.tup s1 hT.at_, rfl, _, rfl, _, rfl, y, s, rfl, hpos, (by omega), fun q H2 s2 hq hq2 => ?_⟩
      refine ⟨_, _, rfl, rfl, wd a q (by omega) hq, .inl ⟨_, rfl, _, rfl, _, _, rfl, rfl, (by show (0 : Int) < (s : Int); omega), ?_⟩⟩
      have hL2 := s2 _ _ hL1
      refine ⟨L, _, _, rfl, rfl, hL2, ?_, _, rfl, same_upd (s1.trans s2) hL, ?_, ?_⟩
      · rw [List.length_take, sizeLine_eq]
        omega
      · have ev : (a : Int) * (q : Int) % (s : Int) = (xx : Int) := by
          rw [← Int.natCast_mul, ← Int.natCast_emod, pow_times hq2, hxx]
        rw [upd_same, et, ← ev]
      · rw [upd_ne nLM.symm]
        exact s2 _ _ hM1
    · rintro σ H1 ⟨v5, rfl, s1, hL1, hM1⟩
      have hL1' : H1 L = some (.lst [V.int (x0 : Int), V.int (x1 : Int)]) := hL1
      -- the ring comes back
      refine ⟨_, rfl, L, _, _, _, rfl, rfl, SqL.of hL1', rfl, _, rfl, _, rfl, r, s, rfl, hpos, (by omega), fun q H2 s2 hq hq2 => ?_⟩
      have hL2 := s2 _ _ hL1'
      refine ⟨_, _, rfl, rfl, wd x1 q (by omega) hq, .inl ⟨_, rfl, _, rfl, _, _, rfl, rfl, (by show (0 : Int) < (s : Int); omega), _, rfl, L, _, _, _, rfl, rfl, SqL.of hL2, rfl, rfl, _, rfl, ?_⟩⟩
      have mo : ∀ n z : Nat, z % s = 2 ^ n % s → (x1 : Int) * (z : Int) % (s : Int) = (((2 ^ (tw + n) * a) % s : Nat) : Int) := fun n z hz => by
        rw [← Int.natCast_mul, ← Int.natCast_emod, hx1, pow_more hz]
      have ba : (2 ^ (tw + r) * a) % s = x1 := by
        have := (hp.again (x := x1) (d := r) hO.pos tw (by rw [hs]; exact hx1)).mpr ⟨Nat.le_refl _, hO.yes⟩
        rw [hs] at this
        exact this
      rw [dec_int]
      rw [decide_eq_true (show (x1 : Int) * (q : Int) % (s : Int) = (x1 : Int) by rw [mo r q hq2, ba])]
      refine iteF ?_
      have no : ∀ y z : Nat, 0 < y → y < r → z % s = 2 ^ y % s → ¬ ((x1 : Int) * (z : Int) % (s : Int) = (x1 : Int)) := fun y z h0 h1 hz e => by
        rw [mo y z hz] at e
        have e' : (2 ^ (tw + y) * a) % s = x1 := by omega
        have := (hp.again (x := x1) (d := y) h0 tw (by rw [hs]; exact hx1)).mp (by rw [hs]; exact e')
        exact hO.no y h0 h1 this.2
      refine ⟨_, _, rfl, ⟨by decide, by decide, by decide, by decide⟩, ?_⟩
      rw [show ((1001 : Int) - 1).toNat = 1000 by decide]
      intro D hD
      refine lc_range (lo := 1) (n := 1000) (fun i H3 => ∃ ks : List Nat, Same H2 H3 ∧ H3 D = some (.lst (ks.map fun k : Nat => V.int (k : Int))) ∧ ks.length ≤ i ∧ ∀ k ∈ ks, 0 < k ∧ k ≤ 1000 ∧ k ∣ r) ⟨[], Same.new hD, upd_same, Nat.le_refl _, fun k hk => nomatch hk⟩ ?_ ?_
      · rintro i H3 hi ⟨ks, s3, hD3, hl3, hk3⟩
        refine ⟨rfl, _, rfl, _, rfl, _, _, rfl, rfl, (by show (0 : Int) < 1 + (i : Int); omega), rfl, _, rfl, ?_⟩
        rw [dec_int]
        refine ite2 (fun hc => ?_) (fun hc => ?_)
        · have hdv : (i + 1) ∣ r := by
            have e := of_decide_eq_true hc
            rw [show (1 + (i : Int)) = ((i + 1 : Nat) : Int) by omega, ← Int.natCast_emod] at e
            exact Nat.dvd_of_mod_eq_zero (by omega)
          refine ⟨_, rfl, _, hD3, ?_, ks ++ [i + 1], same_upd s3 hD, ?_, ?_, fun k hk => ?_⟩
          · rw [List.length_map, sizeLine_eq]
            omega
          · rw [upd_same, List.map_append, show (1 + (i : Int)) = ((i + 1 : Nat) : Int) by omega]
            rfl
          · rw [List.length_append]
            show ks.length + 1 ≤ _
            omega
          · rcases List.mem_append.mp hk with h | h
            · exact hk3 k h
            · have e : k = i + 1 := by simpa using h
              subst e
              exact ⟨by omega, by omega, hdv⟩
        · exact ⟨ks, s3, hD3, by omega, hk3⟩
      · rintro H3 ⟨ks, s3, hD3, hl3, hk3⟩
        have hL3 := s3 _ _ hL2
        refine ⟨D, rfl, ⟨_, SqL.of hD3⟩, ?_⟩
        refine for_list (K := K) (a := D) (xs := ks.map fun k : Nat => V.int (k : Int)) (fun i σ H4 => ∃ v5 v6 v7, σ = [some (.ref t), some (.int (tw : Int)), some (.int (r : Int)), some (.int (s : Int)), some (.ref L), v5, v6, v7, none] ∧ Same H3 H4) ⟨_, none, none, rfl, Same.refl _⟩ (fun i σ H4 _ ⟨_, _, _, _, s4⟩ => SqL.of (s4 _ _ hD3)) ?_ ?_
        · rintro i x σ H4 hx ⟨v5, v6, v7, rfl, s4⟩
          rw [List.getElem?_map] at hx
          obtain ⟨kk, hkk, rfl⟩ := Option.map_eq_some_iff.mp hx
          obtain ⟨g1, g2, g3⟩ := hk3 kk (List.mem_of_getElem? hkk)
          refine ⟨_, rfl, _, rfl, _, rfl, _, _, rfl, rfl, ⟨by omega, by omega⟩, by show 2 ≤ sizeLine; decide, fun M2 hM2 => ⟨M2, rfl, ⟨_, SqL.of upd_same⟩, ?_⟩⟩
          have hrk : 0 < r / kk := Nat.div_pos (Nat.le_of_dvd hO.pos g3) g1
          refine for_list (K := K) (a := M2) (xs := [.int (kk : Int), .int ((r : Int) / (kk : Int))]) (fun j σ H5 => ∃ v5 v7, σ = [some (.ref t), some (.int (tw : Int)), some (.int (r : Int)), some (.int (s : Int)), some (.ref L), v5, some (.int (kk : Int)), v7, none] ∧ Same H4 H5 ∧ H5 M2 = some (.lst [.int (kk : Int), .int ((r : Int) / (kk : Int))])) ⟨_, _, rfl, Same.new hM2, upd_same⟩ (fun j σ H5 _ ⟨_, _, _, _, e⟩ => SqL.of e) ?_ ?_
          · rintro j x σ H5 hj ⟨w5, w7, rfl, s5, hM5⟩
            have hx : ∃ y : Nat, x = .int (y : Int) ∧ 0 < y := by
              match j, hj with
              | 0, hj => exact ⟨kk, (Option.some.inj hj).symm, g1⟩
              | 1, hj => exact ⟨r / kk, (Option.some.inj hj).symm, hrk⟩
              | j + 2, hj => exact nomatch hj
            obtain ⟨y, rfl, hy⟩ := hx
            have hL5 := s5 _ _ (s4 _ _ hL3)
            refine ⟨_, rfl, L, _, _, _, rfl, rfl, SqL.of hL5, rfl, _, rfl, _, rfl, y, s, rfl, hpos, (by omega), fun q H6 s6 hq hq2 => ?_⟩
            have hL6 := s6 _ _ hL5
            refine ⟨_, _, rfl, rfl, wd x1 q (by omega) hq, .inl ⟨_, rfl, _, rfl, _, _, rfl, rfl, (by show (0 : Int) < (s : Int); omega), ?_⟩⟩
            have fin : ∃ w5 w7, ([some (.ref t), some (.int (tw : Int)), some (.int (r : Int)), some (.int (s : Int)), some (.ref L), some (.int (y : Int)), some (.int (kk : Int)), some (.int ((x1 : Int) * (q : Int) % (s : Int))), none] : L2.St) = [some (.ref t), some (.int (tw : Int)), some (.int (r : Int)), some (.int (s : Int)), some (.ref L), w5, some (.int (kk : Int)), w7, none] ∧ Same H4 H6 ∧ H6 M2 = some (.lst [.int (kk : Int), .int ((r : Int) / (kk : Int))]) := ⟨_, _, rfl, s5.trans s6, s6 _ _ hM5⟩
            refine ⟨_, rfl, _, rfl, _, _, rfl, rfl, _, rfl, ?_⟩
            refine ite2 (fun hc => ?_) (fun hc => fin)
            have hyr : y < r := by have := of_decide_eq_true hc; omega
            refine ⟨_, rfl, _, rfl, L, _, _, _, rfl, rfl, SqL.of hL6, rfl, rfl, _, rfl, ?_⟩
            rw [dec_int, decide_eq_false (no y q hy hyr hq2)]
            exact iteF fin
          · rintro σ H5 ⟨w5, w7, rfl, s5, hM5⟩
            exact ⟨_, _, _, rfl, s4.trans s5⟩
        · rintro σ H4 ⟨v5, v6, v7, rfl, s4⟩
          have hL4 := s4 _ _ hL3
          refine ⟨_, rfl, rfl, _, rfl, ?_⟩
          rw [dec_int]
          refine ite2 (fun hc => k _) (fun hc => ?_)
          have htw : 0 < tw := by
            have : ¬ ((tw : Int) = 0) := fun z => hc (decide_eq_true z)
            omega
          refine ⟨_, rfl, L, _, _, _, rfl, rfl, SqL.of hL4, rfl, _, rfl, _, rfl, r, s, rfl, hpos, (by omega), fun q H5 s5 hq hq2 => ?_⟩
          have hL5 := s5 _ _ hL4
          refine ⟨_, _, rfl, rfl, wd x0 q (by omega) hq, .inl ⟨_, rfl, _, rfl, _, _, rfl, rfl, (by show (0 : Int) < (s : Int); omega), _, rfl, L, _, _, _, rfl, rfl, SqL.of hL5, rfl, rfl, ?_⟩⟩
          have ne : ¬ ((x0 : Int) * (q : Int) % (s : Int) = (x0 : Int)) := fun e => by
            rw [← Int.natCast_mul, ← Int.natCast_emod, hx0, pow_more hq2, ← hx0] at e
            have e' : (2 ^ (tw - 1 + r) * a) % s = x0 := by omega
            have := (hp.again (x := x0) (d := r) hO.pos (tw - 1) (by rw [hs]; exact hx0)).mp (by rw [hs]; exact e')
            omega
          rw [dec_int, decide_eq_false ne]
          exact k _
end
end Hd
set_option maxHeartbeats 8000000
namespace Hd
open PySem PySem.Spec PyProof.Rows L2
def spLaw (K : PySem.W.Frag) : Sp := fun vs H Q _ => ∃ (a : Addr) (ns : List Int), vs = [.ref a] ∧ SqL K H a (ns.map V.int) ∧ ns.length ≤ 63 ∧ ∀ H', Q (.bl true) H'
theorem dtwo_ne (p q : Nat × Nat) : PyData.eqv (dtwo p) (dtwo q) = decide (p = q) := dtwo_eqv p q
section
variable {P : Program} {w : World} {K : PySem.W.Frag} {mg : Str → Option Value} {base : Heap}
abbrev s_law : Stmt := top 38
theorem sc_law : FnScope ["_law_script", "_law_h", "_law_heaps_here", "_law_whole", "_law_many", "_law_here", "_law_gone", "_law_end", "_law_told_here", "_law_ring_here"] ["_law_script"] (defScope s_law) := ⟨rfl, rfl, rfl, by decide +kernel, rfl, by decide +kernel, by decide +kernel⟩
theorem ok_law {f : Addr} {fd : FuncData} (F : Fun K "law" "law" s_law f fd) (T : Tw K mg) (C_l_mix : Cal P w K mg base CX0 1 "_law_mix" ["_law_script", "_law_seed"] (spMix K)) (C_l_next : Cal P w K mg base CX0 1 "_law_next" ["_law_h", "_law_bound"] spNext)
    (C_l_pair : Cal P w K mg base CX0 3 "_law_pair" ["_law_h"] (spPair K)) (C_l_walk : Cal P w K mg base CX0 3 "_law_walk" ["_law_heaps_here", "_law_many"] (spWalk K)) (C_l_power : Cal P w K mg base CX0 1 "_law_power" ["_law_many", "_law_whole"] spLPow)
    (C_l_ring : Cal P w K mg base CX0 3 "_law_ring" ["_law_heaps_here"] (spRing K)) (C_l_is_least : Cal P w K mg base CX0 2 "_law_is_least" ["_law_heaps_here", "_law_tail", "_law_ring_here"] (spLeast K)) (C_l_told : Cal P w K mg base CX0 7 "_law_told" ["_law_heaps_here"] (spTold3 K))
    (C_after : Cal P w K mg base CX0 6 "after" ["heaps", "many"] (spAfter K)) (C_ends_after : Cal P w K mg base CX0 5 "ends_after" ["heaps"] (spEnds K)) : FnOk P w K mg base CX0 8 f fd ["_law_script"] (spLaw K) := by
  refine F.ok sc_law (fun vs H Q E h => ?_) (fun cdv A outer s H vs Q E hr h => ?_)
  · obtain ⟨a, ns, rfl, _⟩ := h
    rfl
  · obtain ⟨a0, zs, rfl, hS, hlen, k⟩ := h
    refine ⟨_, (pss_cons (ps_set (i := 1) sc_law.nd rfl (Or.inl rfl) (pe_cal C_l_mix hr rfl pass0 (pa_cons (pv 0) (pa_cons pe_int pa_nil))))
      (pss_cons (ps_set (i := 2) sc_law.nd rfl (Or.inl rfl) (pe_cal C_l_pair hr rfl pass0 (pa_cons (pv 1) pa_nil)))
      (pss_cons (ps_par (i := 3) (j := 4) (by rfl) sc_law.nd rfl rfl (by decide) rfl rfl (pa_cons (pe_callB (cr_sumT rfl) (by rfl) T.sum (by decide +kernel) (pa_cons (pv 2) pa_nil)) (pa_cons (pe_cal C_l_next hr rfl pass0 (pa_cons (pv 1) (pa_cons pe_int pa_nil))) pa_nil)) (by rfl))
      (pss_cons (ps_asg (pe_cal C_l_walk hr rfl pass0 (pa_cons (pv 2) (pa_cons (pv 4) pa_nil))) (pg_tup rfl (pgs_cons (pg_name (i := 5) sc_law.nd rfl (Or.inl rfl)) (pgs_cons (pg_name (i := 6) sc_law.nd rfl (Or.inl rfl)) pgs_nil))))
      (pss_cons (ps_if (pt_cmpR (op_neD hr.units) (pe_cal C_after hr rfl pass0 (pa_cons (pv 2) (pa_cons (pv 4) pa_nil))) (pv 5) (nomark _)) (pss_one (ps_ret pe_bl)) pss_nil)
      (pss_cons (ps_set (i := 7) sc_law.nd rfl (Or.inl rfl) (pe_cal C_ends_after hr rfl pass0 (pa_cons (pv 2) pa_nil)))
      (pss_cutM (ps_if (PW.pt (pw_or (PW.pt (pw_and (pt_cmpR op_lt (pv 6) (pv 4) (nomark _)) (pw_and1 (pt_cmpR op_ne (pv 7) (pv 6) (nomark _))))) (pw_or1 (PW.pt (pw_and (pt_cmpR op_eq (pe_callB (cr_minT rfl hr.units) (by rfl) T.min (by decide +kernel) (pa_cons (pv 2) pa_nil)) pe_int (nomark _)) (pw_and1 (pt_cmpR op_ne (pv 7) pe_int (nomark _)))))))) (pss_one (ps_ret pe_bl)) pss_nil)
      (pss_cutM (ps_if (pt_cmpR op_notN (pv 7) pe_non (nomark _)) (pss_cons (ps_if (PW.pt (pw_or (pt_cmpR op_ne (pe_ix ix_tup (pe_cal C_l_walk hr rfl pass0 (pa_cons (pv 2) (pa_cons (pv 7) pa_nil))) pe_int (fun _ _ => rfl)) (pv 7) (nomark _)) (pw_or1 (pt_cmpR op_gt (pe_callB (cr_minT rfl hr.units) (by rfl) T.min (by decide +kernel) (pa_cons (pe_ix ix_tup (pe_cal C_l_walk hr rfl pass0 (pa_cons (pv 2) (pa_cons (pv 7) pa_nil))) pe_int (fun _ _ => rfl)) pa_nil)) pe_int (nomark _))))) (pss_one (ps_ret pe_bl)) pss_nil)
      (pss_one (ps_if (PW.pt (pw_and (pt_cmpR op_gt (pv 7) pe_int (nomark _)) (pw_and1 (pt_cmpR op_eq (pe_callB (cr_minT rfl hr.units) (by rfl) T.min (by decide +kernel) (pa_cons (pe_ix ix_tup (pe_cal C_l_walk hr rfl pass0 (pa_cons (pv 2) (pa_cons (pe_op op_sub (pv 7) pe_int) pa_nil))) pe_int (fun _ _ => rfl)) pa_nil)) pe_int (nomark _))))) (pss_one (ps_ret pe_bl)) pss_nil))) pss_nil)
      (pss_cutM (ps_if (PW.pt (pw_and (pt_cmpR op_isN (pv 7) pe_non (nomark _)) (pw_and1 (pt_cmpR op_eq (pe_callB (cr_minT rfl hr.units) (by rfl) T.min (by decide +kernel) (pa_cons (pe_ix ix_tup (pe_cal C_l_walk hr rfl pass0 (pa_cons (pv 2) (pa_cons pe_int pa_nil))) pe_int (fun _ _ => rfl)) pa_nil)) pe_int (nomark _))))) (pss_one (ps_ret pe_bl)) pss_nil)
      (pss_cons (ps_set (i := 4) sc_law.nd rfl (Or.inl rfl) (pe_cal C_l_next hr rfl pass0 (pa_cons (pv 1) (pa_cons (pe_ix ix_list (pe_lst (pa_cons (pe_op op_pow pe_int pe_int) (pa_cons (pe_op op_pow pe_int pe_int) pa_nil))) (pe_cal C_l_next hr rfl pass0 (pa_cons (pv 1) (pa_cons pe_int pa_nil))) (fun _ _ => rfl)) pa_nil))))
      (pss_cons (ps_set (i := 8) sc_law.nd rfl (Or.inl rfl) (pe_cal C_after hr rfl pass0 (pa_cons (pv 2) (pa_cons (pv 4) pa_nil))))
      (pss_cutM (ps_if (PW.pt (pw_or (pt_cmpR op_ne (pe_callB (cr_sumT rfl) (by rfl) T.sum (by decide +kernel) (pa_cons (pv 8) pa_nil)) (pv 3) (nomark _)) (pw_or1 (PW.pt (pw_and (pt_cmpR op_isN (pv 7) pe_non (nomark _)) (pw_and1 (pt_cmpR op_ne (pe_ix ix_tup (pv 8) pe_int (fun _ _ => rfl)) (pe_op op_mod (pe_callTy call_int1 (by rfl) T.int (by decide +kernel) (pa_cons (pe_op op_mulW (pe_ix ix_tup (pv 2) pe_int (fun _ _ => rfl)) (pe_cal C_l_power hr rfl pass0 (pa_cons (pv 4) (pa_cons (pv 3) pa_nil)))) pa_nil)) (pv 3)) (nomark _)))))))) (pss_one (ps_ret pe_bl)) pss_nil)
      (pss_cutM (ps_if (PW.pt (pw_and (pt_cmpR op_notN (pv 7) pe_non (nomark _)) (pw_and1 (pt_cmpR (op_neD hr.units) (pv 8) (pe_ix ix_tup (pe_cal C_l_walk hr rfl pass0 (pa_cons (pv 2) (pa_cons (pe_callB (call_min2 rfl) (by rfl) T.min (by decide +kernel) (pa_cons (pv 4) (pa_cons (pv 7) pa_nil))) pa_nil))) pe_int (fun _ _ => rfl)) (nomark _))))) (pss_one (ps_ret pe_bl)) pss_nil)
      (pss_cons (ps_set (i := 9) sc_law.nd rfl (Or.inl rfl) (pe_cal C_l_told hr rfl pass0 (pa_cons (pv 2) pa_nil)))
      (pss_cons (ps_if (pt_cmpR op_gt (pv 3) (pe_op op_pow pe_int pe_int) (nomark _)) (pss_one (ps_ret (pe_cmpR op_isN (pv 9) pe_non (nomark _)))) pss_nil)
      (pss_cons (ps_if (PW.pt (pw_and (pt_cmpR op_gt (pv 3) pe_int (nomark _)) (pw_and1 (pt_cmpR op_gt (pe_ix ix_tup (pv 9) pe_int (fun _ _ => rfl)) pe_int (nomark _))))) (pss_one (ps_ret (pe_cal C_l_is_least hr rfl pass0 (pa_cons (pv 2) (pa_cons (pe_ix ix_tup (pv 9) pe_int (fun _ _ => rfl)) (pa_cons (pe_ix ix_tup (pv 9) pe_int (fun _ _ => rfl)) pa_nil)))))) pss_nil)
      (pss_one (ps_ret (pe_cmpR (op_eqD hr.units) (pv 9) (pe_cal C_l_ring hr rfl pass0 (pa_cons (pv 2) pa_nil)) (nomark _)))))))))))))))))))), ?_⟩
    -- _law_h, _law_heaps_here
    refine ⟨_, rfl, a0, zs, 3, rfl, hS, hlen, fun h c H1 _ _ s1 D1 => ?_⟩
    refine ⟨_, rfl, h, c, rfl, D1, fun t a b o tw H2 T2 D2 k2 => ?_⟩
    have hp := T2.par
    have ha := T2.ha
    have hb := T2.hb
    have hpos := hp.pos
    have htw : tw < 128 := (hp.small (k := 128) (by omega)).1
    have hsum : [(a : Int), (b : Int)].sum = ((a + b : Nat) : Int) := by
      simp only [List.sum_cons, List.sum_nil]
      omega
    have mins : ∀ x y : Nat, [(y : Int)].foldl min (x : Int) = ((min x y : Nat) : Int) := fun x y => by
      simp only [List.foldl_cons, List.foldl_nil]
      omega
    have minz : ∀ i, (min (wpos a b o tw i).1 (wpos a b o tw i).2 = 0) ↔ (o = 1 ∧ tw ≤ i) := fun i => by
      constructor
      · intro z
        exact hp.zero_end (by omega)
      · intro z
        have := (hp.ended z).2.1
        omega
    have minab : min a b = 0 ↔ (o = 1 ∧ tw ≤ 0) := by
      rw [← minz 0, hp.start]
    have gone_eq : o = 1 → ∀ i, tw ≤ i → gone o tw i = tw := fun h i hi => if_pos ⟨h, hi⟩
    -- _law_whole, _law_many
    refine ⟨_, rfl, t, [(a : Int), (b : Int)], rfl, T2.at_, ?_⟩
    rw [hsum]
    refine ⟨_, rfl, h, c, 130, rfl, D2, by decide, by decide, fun m H3 l3 u3 D3 k3 => ⟨_, _, rfl, ?_⟩⟩
    obtain ⟨m, rfl⟩ := Int.eq_ofNat_of_zero_le l3
    have T3 : TwoOk K H3 t a b o tw := ⟨k3.tup D2 T2.at_, hp, ha, hb⟩
    -- _law_here, _law_gone
    refine ⟨_, rfl, _, rfl, t, a, b, o, tw, m, rfl, T3.at_, hp, by omega, fun pq q H4 s4 hq4 hpq4 => ?_⟩
    have T4 := T3.same s4
    have D4 := D3.same s4
    refine ⟨pq, _, rfl, hpq4, rfl, _, _, rfl, _, _, rfl, rfl, ?_⟩
    -- after
    refine ⟨_, rfl, _, rfl, t, a, b, o, tw, m, rfl, T4, by omega, fun p5 H5 s5 hp5 => ?_⟩
    refine ⟨_, rfl, dtwo (wpos a b o tw m), dtwo (wpos a b o tw m), dp_two hp5, dp_two (Same.tup s5 hq4), dtwo_shaped _, dtwo_shaped _, _, rfl, ?_⟩
    rw [dtwo_eqv, decide_eq_true rfl]
    refine iteF ?_
    have T5 := T4.same s5
    have D5 := D4.same s5
    -- _law_end
    refine ⟨_, rfl, t, a, b, o, tw, rfl, T5, fun ve H6 s6 hve => ?_⟩
    have T6 := T5.same s6
    have D6 := D5.same s6
    refine ⟨fun σ H' => σ = [some (.ref a0), some (.ref h), some (.ref t), some (.int ((a + b : Nat) : Int)), some (.int (m : Int)), some (.ref q), some (.int (gone o tw m : Int)), some ve, none, none] ∧ H' = H6, ?_, ?_⟩
    · by_cases ho : o = 1
      · rw [show ve = .int (tw : Int) from hve.trans (if_pos ho)]
        refine ⟨_, rfl, _, rfl, _, _, rfl, rfl, _, rfl, ?_⟩
        refine ite2 (fun hc => ?_) (fun hc => ?_)
        · have hg : gone o tw m = tw := by
            have hlt := of_decide_eq_true hc
            unfold gone at hlt ⊢
            by_cases z : o = 1 ∧ tw ≤ m
            · rw [if_pos z]
            · rw [if_neg z] at hlt
              omega
          refine ⟨_, rfl, _, rfl, rfl, _, rfl, ?_⟩
          rw [dec_int, decide_eq_true (show (tw : Int) = (gone o tw m : Int) by rw [hg])]
          refine iteF ⟨_, rfl, t, _, [(b : Int)], rfl, T6.at_, rfl, _, rfl, ?_⟩
          rw [mins, dec_int]
          refine ite2 (fun hz => ?_) (fun hz => iteF ⟨rfl, rfl⟩)
          have h0 : tw = 0 := by
            have := minab.mp (by have := of_decide_eq_true hz; omega)
            omega
          refine ⟨_, rfl, rfl, _, rfl, ?_⟩
          rw [dec_int, decide_eq_true (show (tw : Int) = 0 by omega)]
          exact iteF ⟨rfl, rfl⟩
        · refine iteF ⟨_, rfl, t, _, [(b : Int)], rfl, T6.at_, rfl, _, rfl, ?_⟩
          rw [mins, dec_int]
          refine ite2 (fun hz => ?_) (fun hz => iteF ⟨rfl, rfl⟩)
          have h0 : tw = 0 := by
            have := minab.mp (by have := of_decide_eq_true hz; omega)
            omega
          refine ⟨_, rfl, rfl, _, rfl, ?_⟩
          rw [dec_int, decide_eq_true (show (tw : Int) = 0 by omega)]
          exact iteF ⟨rfl, rfl⟩
      · rw [show ve = .non from hve.trans (if_neg ho)]
        have hg : gone o tw m = m := if_neg fun z => ho z.1
        refine ⟨_, rfl, _, rfl, _, _, rfl, rfl, _, rfl, ?_⟩
        rw [hg, decide_eq_false (show ¬ (m : Int) < (m : Int) by omega)]
        refine iteF (iteF ⟨_, rfl, t, _, [(b : Int)], rfl, T6.at_, rfl, _, rfl, ?_⟩)
        rw [mins, dec_int, decide_eq_false (show ¬ ((min a b : Nat) : Int) = 0 from fun z => ho (minab.mp (by omega)).1)]
        exact iteF (iteF ⟨rfl, rfl⟩)
    · rintro σ H' ⟨rfl, rfl⟩
      refine ⟨fun σ H6 => σ = [some (.ref a0), some (.ref h), some (.ref t), some (.int ((a + b : Nat) : Int)), some (.int (m : Int)), some (.ref q), some (.int (gone o tw m : Int)), some ve, none, none] ∧ Same H' H6, ?_, ?_⟩
      · by_cases ho : o = 1
        · rw [show ve = .int (tw : Int) from hve.trans (if_pos ho)]
          have hgg := gone_eq ho tw (Nat.le_refl _)
          refine ⟨_, rfl, rfl, _, rfl, iteT ?_⟩
          refine ⟨_, rfl, _, rfl, t, a, b, o, tw, tw, rfl, T6.at_, hp, by omega, fun p1 q1 H7 s7 hq7 hp7 => ⟨p1, _, _, _, rfl, rfl, hp7, rfl, _, rfl, rfl, _, rfl, ?_⟩⟩
          rw [hgg, dec_int, decide_eq_true rfl]
          refine iteF ⟨_, rfl, _, rfl, t, a, b, o, tw, tw, rfl, Same.tup s7 T6.at_, hp, by omega, fun p2 q2 H8 s8 hq8 hp8 => ⟨p2, _, _, _, rfl, rfl, hp8, rfl, q2, _, [((wpos a b o tw tw).2 : Int)], rfl, hq8, _, _, rfl, rfl, _, rfl, ?_⟩⟩
          rw [mins, (minz tw).mpr ⟨ho, Nat.le_refl _⟩]
          refine iteF ⟨_, rfl, _, _, rfl, rfl, _, rfl, ?_⟩
          refine ite2 (fun hc => ?_) (fun hc => iteF ⟨rfl, s7.trans s8⟩)
          have h0 : 0 < tw := by have := of_decide_eq_true hc; omega
          refine ⟨_, rfl, _, rfl, _, _, rfl, rfl, t, a, b, o, tw, tw - 1, ?_, Same.tup (s7.trans s8) T6.at_, hp, by omega, fun p3 q3 H9 s9 hq9 hp9 => ⟨p3, _, _, _, rfl, rfl, hp9, rfl, q3, _, [((wpos a b o tw (tw - 1)).2 : Int)], rfl, hq9, rfl, _, rfl, ?_⟩⟩
          · show [V.ref t, V.int ((tw : Int) - 1)] = _
            rw [show ((tw : Int) - 1) = ((tw - 1 : Nat) : Int) by omega]
          rw [mins, dec_int, decide_eq_false (show ¬ ((min (wpos a b o tw (tw - 1)).1 (wpos a b o tw (tw - 1)).2 : Nat) : Int) = 0 from fun z => by
            have := (minz (tw - 1)).mp (by omega)
            omega)]
          exact iteF ⟨rfl, (s7.trans s8).trans s9⟩
        · rw [show ve = .non from hve.trans (if_neg ho)]
          exact ⟨_, rfl, rfl, _, rfl, iteF ⟨rfl, Same.refl _⟩⟩
      · rintro σ H7 ⟨rfl, s7⟩
        refine ⟨fun σ H7 => σ = [some (.ref a0), some (.ref h), some (.ref t), some (.int ((a + b : Nat) : Int)), some (.int (m : Int)), some (.ref q), some (.int (gone o tw m : Int)), some ve, none, none] ∧ Same H' H7, ?_, ?_⟩
        · by_cases ho : o = 1
          · rw [show ve = .int (tw : Int) from hve.trans (if_pos ho)]
            exact ⟨_, rfl, rfl, _, rfl, iteF ⟨rfl, s7⟩⟩
          · rw [show ve = .non from hve.trans (if_neg ho)]
            refine ⟨_, rfl, rfl, _, rfl, iteT ?_⟩
            refine ⟨_, rfl, t, a, b, o, tw, 130, rfl, Same.tup s7 T6.at_, hp, by omega, fun p1 q1 H8 s8 hq8 hp8 => ⟨p1, _, _, _, rfl, rfl, hp8, rfl, q1, _, [((wpos a b o tw 130).2 : Int)], rfl, hq8, rfl, _, rfl, ?_⟩⟩
            rw [mins, dec_int, decide_eq_false (show ¬ ((min (wpos a b o tw 130).1 (wpos a b o tw 130).2 : Nat) : Int) = 0 from fun z => ho ((minz 130).mp (by omega)).1)]
            exact iteF ⟨rfl, s7.trans s8⟩
        · rintro σ H8 ⟨rfl, s8⟩
          have T8 := T6.same s8
          have D8 := D6.same s8
          -- _law_many
          refine ⟨_, rfl, _, _, rfl, rfl, ⟨by decide, by decide, by decide⟩, _, _, rfl, rfl, ⟨by decide, by decide, by decide⟩, by show 2 ≤ sizeLine; decide, fun p9 hp9 => ?_⟩
          obtain ⟨np1, np2⟩ := D8.nots hp9
          refine ⟨_, rfl, h, c, 2, rfl, D8.new hp9, by decide, by decide, fun n9 H9 l9 u9 D9 k9 => ?_⟩
          obtain ⟨bnd, e9, bnd_in⟩ := pick_in (xs := [10 ^ (3 : Int).toNat, 10 ^ (30 : Int).toNat]) l9 u9
          have hbnd : 0 < bnd ∧ bnd ≤ 10 ^ 30 := by
            simp only [List.mem_cons, List.mem_nil_iff, or_false] at bnd_in
            rcases bnd_in with e | e <;> subst e <;> decide
          refine ⟨p9, _, _, _, rfl, rfl, SqL.of (k9 p9 _ upd_same np1 np2), e9, h, c, _, rfl, D9, hbnd.1, by omega, fun m2 H10 l10 u10 D10 k10 => ?_⟩
          obtain ⟨m2, rfl⟩ := Int.eq_ofNat_of_zero_le l10
          have T9 : TwoOk K H9 t a b o tw := ⟨k9.tup (D8.new hp9) (Same.tup (Same.new hp9) T8.at_), hp, ha, hb⟩
          have T10 : TwoOk K H10 t a b o tw := ⟨k10.tup D9 T9.at_, hp, ha, hb⟩
          -- _law_told_here
          refine ⟨_, rfl, _, rfl, t, a, b, o, tw, m2, rfl, T10, by omega, fun p11 H11 s11 hp11 => ?_⟩
          have T11 := T10.same s11
          have hw := hp.sum_pos m2
          refine ⟨fun σ H' => σ = [some (.ref a0), some (.ref h), some (.ref t), some (.int ((a + b : Nat) : Int)), some (.int (m2 : Int)), some (.ref q), some (.int (gone o tw m : Int)), some ve, some (.ref p11), none] ∧ Same H11 H', ?_, ?_⟩
          · refine ⟨_, rfl, p11, [((wpos a b o tw m2).1 : Int), ((wpos a b o tw m2).2 : Int)], rfl, hp11, _, rfl, rfl, _, rfl, ?_⟩
            have hsw : [((wpos a b o tw m2).1 : Int), ((wpos a b o tw m2).2 : Int)].sum = ((a + b : Nat) : Int) := by
              simp only [List.sum_cons, List.sum_nil]
              omega
            rw [hsw, dec_int, decide_eq_true rfl]
            refine iteF ?_
            by_cases ho : o = 1
            · rw [show ve = .int (tw : Int) from hve.trans (if_pos ho)]
              exact ⟨_, rfl, rfl, _, rfl, iteF ⟨rfl, Same.refl _⟩⟩
            · rw [show ve = .non from hve.trans (if_neg ho)]
              have hl := (hp.live (k := m2) fun z => ho z.1).1
              refine ⟨_, rfl, rfl, _, rfl, iteT ?_⟩
              refine ⟨_, rfl, p11, _, _, _, rfl, rfl, hp11, rfl, _, rfl, t, _, _, _, rfl, rfl, T11.at_, rfl, _, rfl, _, rfl, m2, a + b, rfl, hpos, (by omega), fun z H12 s12 hz hz2 => ?_⟩
              refine ⟨_, _, rfl, rfl, wide_mul (a := 200) (b := 200) (by omega) (by omega) (by decide) (by decide) (by decide), .inl ⟨_, rfl, _, rfl, _, _, rfl, rfl, (by show (0 : Int) < ((a + b : Nat) : Int); omega), rfl, _, rfl, ?_⟩⟩
              have ev : ((wpos a b o tw m2).1 : Int) = (a : Int) * (z : Int) % ((a + b : Nat) : Int) := by
                rw [← Int.natCast_mul, ← Int.natCast_emod, pow_times hz2, hl]
              rw [dec_int, decide_eq_true ev]
              exact iteF ⟨rfl, s12⟩
          · rintro σ H12 ⟨rfl, s12⟩
            have T12 := T11.same s12
            have hp12 := Same.tup s12 hp11
            refine ⟨fun σ H' => σ = [some (.ref a0), some (.ref h), some (.ref t), some (.int ((a + b : Nat) : Int)), some (.int (m2 : Int)), some (.ref q), some (.int (gone o tw m : Int)), some ve, some (.ref p11), none] ∧ Same H12 H', ?_, ?_⟩
            · by_cases ho : o = 1
              · rw [show ve = .int (tw : Int) from hve.trans (if_pos ho)]
                refine ⟨_, rfl, rfl, _, rfl, iteT ?_⟩
                have hmin : (if (tw : Int) < (m2 : Int) then (tw : Int) else (m2 : Int)) = ((min m2 tw : Nat) : Int) := by split <;> omega
                refine ⟨_, rfl, _, rfl, _, rfl, _, rfl, _, _, rfl, ?_⟩
                rw [hmin]
                refine ⟨t, a, b, o, tw, min m2 tw, rfl, T12.at_, hp, by omega, fun p13 q13 H13 s13 hq13 hp13 => ⟨p13, _, _, _, rfl, rfl, hp13, rfl, ?_⟩⟩
                have ew : wpos a b o tw (min m2 tw) = wpos a b o tw m2 := by
                  by_cases z : m2 ≤ tw
                  · rw [Nat.min_eq_left z]
                  · rw [Nat.min_eq_right (by omega), hp.at_end (k := m2) ⟨ho, by omega⟩]
                rw [ew] at hq13
                refine ⟨dtwo (wpos a b o tw m2), dtwo (wpos a b o tw m2), dp_two (Same.tup s13 hp12), dp_two hq13, dtwo_shaped _, dtwo_shaped _, _, rfl, ?_⟩
                rw [dtwo_eqv, decide_eq_true rfl]
                exact iteF ⟨rfl, s13⟩
              · rw [show ve = .non from hve.trans (if_neg ho)]
                exact ⟨_, rfl, rfl, _, rfl, iteF ⟨rfl, Same.refl _⟩⟩
            · rintro σ H13 ⟨rfl, s13⟩
              have T13 := T12.same s13
              -- _law_ring_here
              have hr2 : ∃ r, (o = 1 → r = 0) ∧ (o ≠ 1 → Ord o r) ∧ r ≤ a + b := by
                by_cases ho : o = 1
                · exact ⟨0, fun _ => rfl, fun z => absurd ho z, Nat.zero_le _⟩
                · obtain ⟨r, hle, hO⟩ := ord_some hp.odd
                  refine ⟨r, fun z => absurd z ho, fun _ => hO, ?_⟩
                  have e := hp.eq
                  have h1 : (a + b) / Nat.gcd a b ≤ a + b := Nat.div_le_self _ _
                  have h2 : o ≤ o * 2 ^ tw := Nat.le_mul_of_pos_right _ (Nat.pow_pos (by decide))
                  omega
              obtain ⟨r, r1, r2, rle⟩ := hr2
              refine ⟨_, rfl, t, a, b, o, tw, r, rfl, T13, r1, r2, fun hle p14 H14 s14 hp14 => ?_, fun hgt H14 s14 => ?_⟩
              · have T14 := T13.same s14
                refine ⟨_, rfl, _, _, rfl, rfl, ⟨by decide, by decide, by decide⟩, _, _, rfl, rfl, _, rfl, ?_⟩
                have h6 : (10 : Int) ^ (6 : Int).toNat = 1000000 := by decide
                refine ite2 (fun hc => ?_) (fun _ => ?_)
                · have z : (10 : Int) ^ (6 : Int).toNat < ((a + b : Nat) : Int) := of_decide_eq_true hc
                  rw [h6] at z
                  omega
                have last : tw + r ≤ 1000 → spRing K [.ref t] H14 (fun v H' => ∃ d e, Dp K H' (.ref p14) d ∧ Dp K H' v e ∧ SeqAt.shaped d = true ∧ SeqAt.shaped e = true ∧ Q (.bl (PyData.eqv d e)) H') E := fun hb => by
                  refine ⟨t, a, b, o, tw, r, rfl, T14.at_, hp, r1, r2, hb, fun p15 H15 s15 hp15 => ?_⟩
                  refine ⟨dtwo (tw, r), dtwo (tw, r), dp_two (SqT.of (s15 _ _ hp14)), dp_two (SqT.of hp15), dtwo_shaped _, dtwo_shaped _, ?_⟩
                  rw [dtwo_eqv, decide_eq_true rfl]
                  exact k _
                refine ⟨_, rfl, _, _, rfl, rfl, _, rfl, ?_⟩
                refine ite2 (fun hc => ?_) (fun hc => ?_)
                · refine ⟨_, rfl, p14, _, _, _, rfl, rfl, SqT.of hp14, rfl, _, _, rfl, rfl, _, rfl, ?_⟩
                  refine ite2 (fun hc2 => ?_) (fun hc2 => ?_)
                  · have hr3 : 300 < r := by have := of_decide_eq_true hc2; omega
                    have ho : o ≠ 1 := fun z => by
                      have := r1 z
                      omega
                    exact ⟨_, rfl, _, rfl, p14, _, _, _, rfl, rfl, SqT.of hp14, rfl, _, rfl, p14, _, _, _, rfl, rfl, SqT.of hp14, rfl, t, a, b, o, tw, r, rfl, T14, ho, r2 ho, fun H' => k H'⟩
                  · have hr3 : ¬ 300 < r := fun z => hc2 (decide_eq_true (by omega))
                    exact ⟨_, rfl, _, rfl, last (by omega)⟩
                · have hr3 : ¬ 300 < a + b := fun z => hc (decide_eq_true (by omega))
                  exact iteF ⟨_, rfl, _, rfl, last (by omega)⟩
              · have h6 : (10 : Int) ^ (6 : Int).toNat = 1000000 := by decide
                refine ⟨_, rfl, _, _, rfl, rfl, ⟨by decide, by decide, by decide⟩, _, _, rfl, rfl, _, rfl, ?_⟩
                refine ite2 (fun _ => ?_) (fun hc => ?_)
                · exact ⟨_, rfl, rfl, k _⟩
                · refine absurd (decide_eq_true ?_) hc
                  show (10 : Int) ^ (6 : Int).toNat < ((a + b : Nat) : Int)
                  rw [h6]
                  omega
end
end Hd
set_option maxHeartbeats 4000000
namespace Hd
open PySem PySem.Spec PyProof.Rows L2
/-- an error is caught by its own class's name -/
theorem exm_self {K : PySem.W.Frag} {S : Addr} (b : PySem.W.subIn K (.ref S) (.type "BaseException") = some true) (i : PySem.W.isClsIn K S = true)
    (t : PySem.W.typeIn K (.ref S) = some (.type "type")) (s : PySem.W.subIn K (.ref S) (.ref S) = some true) : PySem.W.exmOne K (.ref S) (.ref S) = some true := by
  have i' : (PySem.W.clsIn K S).isSome = true := i
  have g1 : (PySem.W.subIn K (.ref S) (.type "BaseException") == some true) = true := by rw [b]; rfl
  have g2 : ((PySem.W.clsIn K S).isSome && PySem.W.typeIn K (.ref S) == some (.type "type")) = true := by rw [i', t]; rfl
  show (if (_ : Bool) = true then (if (_ : Bool) = true then PySem.W.subIn K (.ref S) (.ref S) else none) else none) = some true
  rw [if_pos g1, if_pos g2]
  exact s
abbrev s_HeapError_init : Stmt := inClass (top 7) 0
theorem sup_mk {prog : Program} {K : PySem.W.Frag} {fI HE cc cda : Addr} {oc kV dc pm ct ccl cl : Value} {od an cdd cld : Option Addr} {osl ccs csl : Array (Option Value)} {vs : Array Value} {file : Str} {tf : Tok} {cdD : ClassData}
    (tI : PySem.W.typeIn K (.ref fI) = some (.type "function"))
    (lI : K.lookup fI = some ⟨oc, od, .func (PySem.W.fnX "__init__" "HeapError.__init__" (defArgs s_HeapError_init) (defBody s_HeapError_init) (defScope s_HeapError_init) [("__class__", cc)] .none kV dc pm an (.ref cda) ct), osl⟩)
    (cI : PySem.W.codeIn K (.ref cda) "HeapError.__init__" = true) (lcda : K.lookup cda = some ⟨ccl, cdd, .fields vs, ccs⟩) (hvs : vs[2]? = some (.str file tf)) (hfile : ((prog.main.file : Str) == file) = true)
    (lcc : K.lookup cc = some ⟨cl, cld, .cell (some (.ref HE)), csl⟩) (hD : PySem.W.clsIn K HE = some cdD) (zs : PySem.W.nsIn K mainGlobals "super" = some none) (thr : PySem.W.nsIn K cStatics "thirdparty.any" = some none)
    (top : (prog.main.scope.names.lookup ("super" : Str)).isSome = false) : SupDef prog K fI HE :=
  ⟨⟨oc, od, an, defArgs s_HeapError_init, "HeapError.__init__", .none, kV, dc, pm, ct, cc, cda, osl, _, _, _, _, _, _, ccl, cl, cdd, cld, vs, ccs, csl, file, tf, cdD, lI, cI, rfl, rfl, fun v => rfl, fun L => ⟨_, rfl⟩, lcda, hvs, hfile, lcc, hD⟩, tI, zs, thr, top⟩
end Hd
set_option maxHeartbeats 8000000
namespace Hd
open PySem PySem.Spec PyProof.Rows L2
theorem all_mk {l : PySem.W.OpenLaw} {w : World} {K : PySem.W.Frag} {h : Heap} {mg : Str → Option Value} {fa : Addr} (X : K.In h) (G : h.Ns mainGlobals mg) (hfa : mg "law" = some (.ref fa))
    {A_TooGreat : Addr}
    (x_TooGreat : PySem.W.nsIn K mainGlobals "TooGreat" = some (some (.ref A_TooGreat)))
    {nm q : Str} {N HE : Addr} {bs : List Value} {sn : List Str} {sub : List Value} {ab : Bool} {col : Option Bool} {dd : Option Addr} {m0 m1 m2 m3 m5 : Option Value}
    (xL : K.lookup A_TooGreat = some (excClassObj nm q A_TooGreat N bs [.ref HE, .type "ValueError", .type "Exception", .type "BaseException", .type "object"] true sn sub ab col dd m0 m1 m2 m3 m5 "ValueError.__new__"))
    {f_HI cc cda : Addr} {ocI kVI dcI pmI ctI ccl cl : Value} {odI anI cdd cld : Option Addr} {oslI ccs csl : Array (Option Value)} {vs : Array Value} {file : Str} {tf : Tok} {cdD : ClassData}
    (iHI : PySem.W.findIn K (.ref A_TooGreat) "__init__" = some (some (.ref f_HI)))
    (tI : PySem.W.typeIn K (.ref f_HI) = some (.type "function"))
    (lI : K.lookup f_HI = some ⟨ocI, odI, .func (PySem.W.fnX "__init__" "HeapError.__init__" (defArgs s_HeapError_init) (defBody s_HeapError_init) (defScope s_HeapError_init) [("__class__", cc)] .none kVI dcI pmI anI (.ref cda) ctI), oslI⟩)
    (cI : PySem.W.codeIn K (.ref cda) "HeapError.__init__" = true)
    (lcda : K.lookup cda = some ⟨ccl, cdd, .fields vs, ccs⟩)
    (hvs : vs[2]? = some (.str file tf))
    (hfile : ((l.prog.main.file : Str) == file) = true)
    (lcc : K.lookup cc = some ⟨cl, cld, .cell (some (.ref HE)), csl⟩)
    (hD : PySem.W.clsIn K HE = some cdD)
    (supI : PySem.W.ks_superIn K A_TooGreat HE "__init__" = some (some (.builtin "ValueError.__init__")))
    (mroI : PySem.W.mroIn K A_TooGreat (.ref HE) = some true)
    (veI : PySem.W.subIn K (.ref A_TooGreat) (.type "ValueError") = some true)
    (xinI : PySem.W.excInitIn K A_TooGreat [.type "ValueError", .type "Exception", .type "BaseException", .type "object"] "ValueError.__new__" = true)
    (thr : PySem.W.nsIn K cStatics "thirdparty.any" = some none)
    (topN : (l.prog.main.scope.names.lookup ("super" : Str)).isSome = false)
    (gG : PySem.W.nsIn K mainGlobals "gcd" = some (some (.builtin "math.gcd")))
    (kC : PySem.W.keepIn K (.ref A_TooGreat) = true)
    (eC : PySem.W.subIn K (.ref A_TooGreat) (.type "BaseException") = some true)
    (tC : PySem.W.typeIn K (.ref A_TooGreat) = some (.type "type"))
    (iC : PySem.W.isClsIn K A_TooGreat = true)
    (sC : PySem.W.subIn K (.ref A_TooGreat) (.ref A_TooGreat) = some true)
    {od_is_integer an_is_integer : Option Addr} {sl_is_integer : Array (Option Value)} {oc_is_integer kV_is_integer dc_is_integer pm_is_integer cd_is_integer ct_is_integer : Value} {f_is_integer : Addr}
    (a_is_integer : PySem.W.nsIn K mainGlobals "is_integer" = some (some (.ref f_is_integer)))
    (l_is_integer : K.lookup f_is_integer = some ⟨oc_is_integer, od_is_integer, .func (PySem.W.fnOf "is_integer" "is_integer" (defArgs s_is_integer) (defBody s_is_integer) (defScope s_is_integer) .none kV_is_integer dc_is_integer pm_is_integer an_is_integer cd_is_integer ct_is_integer), sl_is_integer⟩)
    (c_is_integer : PySem.W.codeIn K cd_is_integer "is_integer" = true) (k_is_integer : PySem.W.keepIn K (.ref f_is_integer) = true)
    {od_is_heaps an_is_heaps : Option Addr} {sl_is_heaps : Array (Option Value)} {oc_is_heaps kV_is_heaps dc_is_heaps pm_is_heaps cd_is_heaps ct_is_heaps : Value} {f_is_heaps : Addr}
    (a_is_heaps : PySem.W.nsIn K mainGlobals "is_heaps" = some (some (.ref f_is_heaps)))
    (l_is_heaps : K.lookup f_is_heaps = some ⟨oc_is_heaps, od_is_heaps, .func (PySem.W.fnOf "is_heaps" "is_heaps" (defArgs s_is_heaps) (defBody s_is_heaps) (defScope s_is_heaps) .none kV_is_heaps dc_is_heaps pm_is_heaps an_is_heaps cd_is_heaps ct_is_heaps), sl_is_heaps⟩)
    (c_is_heaps : PySem.W.codeIn K cd_is_heaps "is_heaps" = true) (k_is_heaps : PySem.W.keepIn K (.ref f_is_heaps) = true)
    {od_check_heaps an_check_heaps : Option Addr} {sl_check_heaps : Array (Option Value)} {oc_check_heaps kV_check_heaps dc_check_heaps pm_check_heaps cd_check_heaps ct_check_heaps : Value} {f_check_heaps : Addr}
    (a_check_heaps : PySem.W.nsIn K mainGlobals "check_heaps" = some (some (.ref f_check_heaps)))
    (l_check_heaps : K.lookup f_check_heaps = some ⟨oc_check_heaps, od_check_heaps, .func (PySem.W.fnOf "check_heaps" "check_heaps" (defArgs s_check_heaps) (defBody s_check_heaps) (defScope s_check_heaps) .none kV_check_heaps dc_check_heaps pm_check_heaps an_check_heaps cd_check_heaps ct_check_heaps), sl_check_heaps⟩)
    (c_check_heaps : PySem.W.codeIn K cd_check_heaps "check_heaps" = true) (k_check_heaps : PySem.W.keepIn K (.ref f_check_heaps) = true)
    {od_split_twos an_split_twos : Option Addr} {sl_split_twos : Array (Option Value)} {oc_split_twos kV_split_twos dc_split_twos pm_split_twos cd_split_twos ct_split_twos : Value} {f_split_twos : Addr}
    (a_split_twos : PySem.W.nsIn K mainGlobals "split_twos" = some (some (.ref f_split_twos)))
    (l_split_twos : K.lookup f_split_twos = some ⟨oc_split_twos, od_split_twos, .func (PySem.W.fnOf "split_twos" "split_twos" (defArgs s_split_twos) (defBody s_split_twos) (defScope s_split_twos) .none kV_split_twos dc_split_twos pm_split_twos an_split_twos cd_split_twos ct_split_twos), sl_split_twos⟩)
    (c_split_twos : PySem.W.codeIn K cd_split_twos "split_twos" = true) (k_split_twos : PySem.W.keepIn K (.ref f_split_twos) = true)
    {od_power_of_two an_power_of_two : Option Addr} {sl_power_of_two : Array (Option Value)} {oc_power_of_two kV_power_of_two dc_power_of_two pm_power_of_two cd_power_of_two ct_power_of_two : Value} {f_power_of_two : Addr}
    (a_power_of_two : PySem.W.nsIn K mainGlobals "power_of_two" = some (some (.ref f_power_of_two)))
    (l_power_of_two : K.lookup f_power_of_two = some ⟨oc_power_of_two, od_power_of_two, .func (PySem.W.fnOf "power_of_two" "power_of_two" (defArgs s_power_of_two) (defBody s_power_of_two) (defScope s_power_of_two) .none kV_power_of_two dc_power_of_two pm_power_of_two an_power_of_two cd_power_of_two ct_power_of_two), sl_power_of_two⟩)
    (c_power_of_two : PySem.W.codeIn K cd_power_of_two "power_of_two" = true) (k_power_of_two : PySem.W.keepIn K (.ref f_power_of_two) = true)
    {od_order_of_two an_order_of_two : Option Addr} {sl_order_of_two : Array (Option Value)} {oc_order_of_two kV_order_of_two dc_order_of_two pm_order_of_two cd_order_of_two ct_order_of_two : Value} {f_order_of_two : Addr}
    (a_order_of_two : PySem.W.nsIn K mainGlobals "order_of_two" = some (some (.ref f_order_of_two)))
    (l_order_of_two : K.lookup f_order_of_two = some ⟨oc_order_of_two, od_order_of_two, .func (PySem.W.fnOf "order_of_two" "order_of_two" (defArgs s_order_of_two) (defBody s_order_of_two) (defScope s_order_of_two) .none kV_order_of_two dc_order_of_two pm_order_of_two an_order_of_two cd_order_of_two ct_order_of_two), sl_order_of_two⟩)
    (c_order_of_two : PySem.W.codeIn K cd_order_of_two "order_of_two" = true) (k_order_of_two : PySem.W.keepIn K (.ref f_order_of_two) = true)
    {od_check_two an_check_two : Option Addr} {sl_check_two : Array (Option Value)} {oc_check_two kV_check_two dc_check_two pm_check_two cd_check_two ct_check_two : Value} {f_check_two : Addr}
    (a_check_two : PySem.W.nsIn K mainGlobals "check_two" = some (some (.ref f_check_two)))
    (l_check_two : K.lookup f_check_two = some ⟨oc_check_two, od_check_two, .func (PySem.W.fnOf "check_two" "check_two" (defArgs s_check_two) (defBody s_check_two) (defScope s_check_two) .none kV_check_two dc_check_two pm_check_two an_check_two cd_check_two ct_check_two), sl_check_two⟩)
    (c_check_two : PySem.W.codeIn K cd_check_two "check_two" = true) (k_check_two : PySem.W.keepIn K (.ref f_check_two) = true)
    {od_reduced_parts an_reduced_parts : Option Addr} {sl_reduced_parts : Array (Option Value)} {oc_reduced_parts kV_reduced_parts dc_reduced_parts pm_reduced_parts cd_reduced_parts ct_reduced_parts : Value} {f_reduced_parts : Addr}
    (a_reduced_parts : PySem.W.nsIn K mainGlobals "reduced_parts" = some (some (.ref f_reduced_parts)))
    (l_reduced_parts : K.lookup f_reduced_parts = some ⟨oc_reduced_parts, od_reduced_parts, .func (PySem.W.fnOf "reduced_parts" "reduced_parts" (defArgs s_reduced_parts) (defBody s_reduced_parts) (defScope s_reduced_parts) .none kV_reduced_parts dc_reduced_parts pm_reduced_parts an_reduced_parts cd_reduced_parts ct_reduced_parts), sl_reduced_parts⟩)
    (c_reduced_parts : PySem.W.codeIn K cd_reduced_parts "reduced_parts" = true) (k_reduced_parts : PySem.W.keepIn K (.ref f_reduced_parts) = true)
    {od_ends_after an_ends_after : Option Addr} {sl_ends_after : Array (Option Value)} {oc_ends_after kV_ends_after dc_ends_after pm_ends_after cd_ends_after ct_ends_after : Value} {f_ends_after : Addr}
    (a_ends_after : PySem.W.nsIn K mainGlobals "ends_after" = some (some (.ref f_ends_after)))
    (l_ends_after : K.lookup f_ends_after = some ⟨oc_ends_after, od_ends_after, .func (PySem.W.fnOf "ends_after" "ends_after" (defArgs s_ends_after) (defBody s_ends_after) (defScope s_ends_after) .none kV_ends_after dc_ends_after pm_ends_after an_ends_after cd_ends_after ct_ends_after), sl_ends_after⟩)
    (c_ends_after : PySem.W.codeIn K cd_ends_after "ends_after" = true) (k_ends_after : PySem.W.keepIn K (.ref f_ends_after) = true)
    {od_after an_after : Option Addr} {sl_after : Array (Option Value)} {oc_after kV_after dc_after pm_after cd_after ct_after : Value} {f_after : Addr}
    (a_after : PySem.W.nsIn K mainGlobals "after" = some (some (.ref f_after)))
    (l_after : K.lookup f_after = some ⟨oc_after, od_after, .func (PySem.W.fnOf "after" "after" (defArgs s_after) (defBody s_after) (defScope s_after) .none kV_after dc_after pm_after an_after cd_after ct_after), sl_after⟩)
    (c_after : PySem.W.codeIn K cd_after "after" = true) (k_after : PySem.W.keepIn K (.ref f_after) = true)
    {od_tail_and_ring an_tail_and_ring : Option Addr} {sl_tail_and_ring : Array (Option Value)} {oc_tail_and_ring kV_tail_and_ring dc_tail_and_ring pm_tail_and_ring cd_tail_and_ring ct_tail_and_ring : Value} {f_tail_and_ring : Addr}
    (a_tail_and_ring : PySem.W.nsIn K mainGlobals "tail_and_ring" = some (some (.ref f_tail_and_ring)))
    (l_tail_and_ring : K.lookup f_tail_and_ring = some ⟨oc_tail_and_ring, od_tail_and_ring, .func (PySem.W.fnOf "tail_and_ring" "tail_and_ring" (defArgs s_tail_and_ring) (defBody s_tail_and_ring) (defScope s_tail_and_ring) .none kV_tail_and_ring dc_tail_and_ring pm_tail_and_ring an_tail_and_ring cd_tail_and_ring ct_tail_and_ring), sl_tail_and_ring⟩)
    (c_tail_and_ring : PySem.W.codeIn K cd_tail_and_ring "tail_and_ring" = true) (k_tail_and_ring : PySem.W.keepIn K (.ref f_tail_and_ring) = true)
    {od_l_mix an_l_mix : Option Addr} {sl_l_mix : Array (Option Value)} {oc_l_mix kV_l_mix dc_l_mix pm_l_mix cd_l_mix ct_l_mix : Value} {f_l_mix : Addr}
    (a_l_mix : PySem.W.nsIn K mainGlobals "_law_mix" = some (some (.ref f_l_mix)))
    (l_l_mix : K.lookup f_l_mix = some ⟨oc_l_mix, od_l_mix, .func (PySem.W.fnOf "_law_mix" "_law_mix" (defArgs s_l_mix) (defBody s_l_mix) (defScope s_l_mix) .none kV_l_mix dc_l_mix pm_l_mix an_l_mix cd_l_mix ct_l_mix), sl_l_mix⟩)
    (c_l_mix : PySem.W.codeIn K cd_l_mix "_law_mix" = true) (k_l_mix : PySem.W.keepIn K (.ref f_l_mix) = true)
    {od_l_next an_l_next : Option Addr} {sl_l_next : Array (Option Value)} {oc_l_next kV_l_next dc_l_next pm_l_next cd_l_next ct_l_next : Value} {f_l_next : Addr}
    (a_l_next : PySem.W.nsIn K mainGlobals "_law_next" = some (some (.ref f_l_next)))
    (l_l_next : K.lookup f_l_next = some ⟨oc_l_next, od_l_next, .func (PySem.W.fnOf "_law_next" "_law_next" (defArgs s_l_next) (defBody s_l_next) (defScope s_l_next) .none kV_l_next dc_l_next pm_l_next an_l_next cd_l_next ct_l_next), sl_l_next⟩)
    (c_l_next : PySem.W.codeIn K cd_l_next "_law_next" = true) (k_l_next : PySem.W.keepIn K (.ref f_l_next) = true)
    {od_l_heaps an_l_heaps : Option Addr} {sl_l_heaps : Array (Option Value)} {oc_l_heaps kV_l_heaps dc_l_heaps pm_l_heaps cd_l_heaps ct_l_heaps : Value} {f_l_heaps : Addr}
    (a_l_heaps : PySem.W.nsIn K mainGlobals "_law_heaps" = some (some (.ref f_l_heaps)))
    (l_l_heaps : K.lookup f_l_heaps = some ⟨oc_l_heaps, od_l_heaps, .func (PySem.W.fnOf "_law_heaps" "_law_heaps" (defArgs s_l_heaps) (defBody s_l_heaps) (defScope s_l_heaps) .none kV_l_heaps dc_l_heaps pm_l_heaps an_l_heaps cd_l_heaps ct_l_heaps), sl_l_heaps⟩)
    (c_l_heaps : PySem.W.codeIn K cd_l_heaps "_law_heaps" = true) (k_l_heaps : PySem.W.keepIn K (.ref f_l_heaps) = true)
    {od_l_behind an_l_behind : Option Addr} {sl_l_behind : Array (Option Value)} {oc_l_behind kV_l_behind dc_l_behind pm_l_behind cd_l_behind ct_l_behind : Value} {f_l_behind : Addr}
    (a_l_behind : PySem.W.nsIn K mainGlobals "_law_behind" = some (some (.ref f_l_behind)))
    (l_l_behind : K.lookup f_l_behind = some ⟨oc_l_behind, od_l_behind, .func (PySem.W.fnOf "_law_behind" "_law_behind" (defArgs s_l_behind) (defBody s_l_behind) (defScope s_l_behind) .none kV_l_behind dc_l_behind pm_l_behind an_l_behind cd_l_behind ct_l_behind), sl_l_behind⟩)
    (c_l_behind : PySem.W.codeIn K cd_l_behind "_law_behind" = true) (k_l_behind : PySem.W.keepIn K (.ref f_l_behind) = true)
    {od_l_pair an_l_pair : Option Addr} {sl_l_pair : Array (Option Value)} {oc_l_pair kV_l_pair dc_l_pair pm_l_pair cd_l_pair ct_l_pair : Value} {f_l_pair : Addr}
    (a_l_pair : PySem.W.nsIn K mainGlobals "_law_pair" = some (some (.ref f_l_pair)))
    (l_l_pair : K.lookup f_l_pair = some ⟨oc_l_pair, od_l_pair, .func (PySem.W.fnOf "_law_pair" "_law_pair" (defArgs s_l_pair) (defBody s_l_pair) (defScope s_l_pair) .none kV_l_pair dc_l_pair pm_l_pair an_l_pair cd_l_pair ct_l_pair), sl_l_pair⟩)
    (c_l_pair : PySem.W.codeIn K cd_l_pair "_law_pair" = true) (k_l_pair : PySem.W.keepIn K (.ref f_l_pair) = true)
    {od_l_next_pair an_l_next_pair : Option Addr} {sl_l_next_pair : Array (Option Value)} {oc_l_next_pair kV_l_next_pair dc_l_next_pair pm_l_next_pair cd_l_next_pair ct_l_next_pair : Value} {f_l_next_pair : Addr}
    (a_l_next_pair : PySem.W.nsIn K mainGlobals "_law_next_pair" = some (some (.ref f_l_next_pair)))
    (l_l_next_pair : K.lookup f_l_next_pair = some ⟨oc_l_next_pair, od_l_next_pair, .func (PySem.W.fnOf "_law_next_pair" "_law_next_pair" (defArgs s_l_next_pair) (defBody s_l_next_pair) (defScope s_l_next_pair) .none kV_l_next_pair dc_l_next_pair pm_l_next_pair an_l_next_pair cd_l_next_pair ct_l_next_pair), sl_l_next_pair⟩)
    (c_l_next_pair : PySem.W.codeIn K cd_l_next_pair "_law_next_pair" = true) (k_l_next_pair : PySem.W.keepIn K (.ref f_l_next_pair) = true)
    {od_l_walk an_l_walk : Option Addr} {sl_l_walk : Array (Option Value)} {oc_l_walk kV_l_walk dc_l_walk pm_l_walk cd_l_walk ct_l_walk : Value} {f_l_walk : Addr}
    (a_l_walk : PySem.W.nsIn K mainGlobals "_law_walk" = some (some (.ref f_l_walk)))
    (l_l_walk : K.lookup f_l_walk = some ⟨oc_l_walk, od_l_walk, .func (PySem.W.fnOf "_law_walk" "_law_walk" (defArgs s_l_walk) (defBody s_l_walk) (defScope s_l_walk) .none kV_l_walk dc_l_walk pm_l_walk an_l_walk cd_l_walk ct_l_walk), sl_l_walk⟩)
    (c_l_walk : PySem.W.codeIn K cd_l_walk "_law_walk" = true) (k_l_walk : PySem.W.keepIn K (.ref f_l_walk) = true)
    {od_l_power an_l_power : Option Addr} {sl_l_power : Array (Option Value)} {oc_l_power kV_l_power dc_l_power pm_l_power cd_l_power ct_l_power : Value} {f_l_power : Addr}
    (a_l_power : PySem.W.nsIn K mainGlobals "_law_power" = some (some (.ref f_l_power)))
    (l_l_power : K.lookup f_l_power = some ⟨oc_l_power, od_l_power, .func (PySem.W.fnOf "_law_power" "_law_power" (defArgs s_l_power) (defBody s_l_power) (defScope s_l_power) .none kV_l_power dc_l_power pm_l_power an_l_power cd_l_power ct_l_power), sl_l_power⟩)
    (c_l_power : PySem.W.codeIn K cd_l_power "_law_power" = true) (k_l_power : PySem.W.keepIn K (.ref f_l_power) = true)
    {od_l_ring an_l_ring : Option Addr} {sl_l_ring : Array (Option Value)} {oc_l_ring kV_l_ring dc_l_ring pm_l_ring cd_l_ring ct_l_ring : Value} {f_l_ring : Addr}
    (a_l_ring : PySem.W.nsIn K mainGlobals "_law_ring" = some (some (.ref f_l_ring)))
    (l_l_ring : K.lookup f_l_ring = some ⟨oc_l_ring, od_l_ring, .func (PySem.W.fnOf "_law_ring" "_law_ring" (defArgs s_l_ring) (defBody s_l_ring) (defScope s_l_ring) .none kV_l_ring dc_l_ring pm_l_ring an_l_ring cd_l_ring ct_l_ring), sl_l_ring⟩)
    (c_l_ring : PySem.W.codeIn K cd_l_ring "_law_ring" = true) (k_l_ring : PySem.W.keepIn K (.ref f_l_ring) = true)
    {od_l_is_least an_l_is_least : Option Addr} {sl_l_is_least : Array (Option Value)} {oc_l_is_least kV_l_is_least dc_l_is_least pm_l_is_least cd_l_is_least ct_l_is_least : Value} {f_l_is_least : Addr}
    (a_l_is_least : PySem.W.nsIn K mainGlobals "_law_is_least" = some (some (.ref f_l_is_least)))
    (l_l_is_least : K.lookup f_l_is_least = some ⟨oc_l_is_least, od_l_is_least, .func (PySem.W.fnOf "_law_is_least" "_law_is_least" (defArgs s_l_is_least) (defBody s_l_is_least) (defScope s_l_is_least) .none kV_l_is_least dc_l_is_least pm_l_is_least an_l_is_least cd_l_is_least ct_l_is_least), sl_l_is_least⟩)
    (c_l_is_least : PySem.W.codeIn K cd_l_is_least "_law_is_least" = true) (k_l_is_least : PySem.W.keepIn K (.ref f_l_is_least) = true)
    {od_l_told an_l_told : Option Addr} {sl_l_told : Array (Option Value)} {oc_l_told kV_l_told dc_l_told pm_l_told cd_l_told ct_l_told : Value} {f_l_told : Addr}
    (a_l_told : PySem.W.nsIn K mainGlobals "_law_told" = some (some (.ref f_l_told)))
    (l_l_told : K.lookup f_l_told = some ⟨oc_l_told, od_l_told, .func (PySem.W.fnOf "_law_told" "_law_told" (defArgs s_l_told) (defBody s_l_told) (defScope s_l_told) .none kV_l_told dc_l_told pm_l_told an_l_told cd_l_told ct_l_told), sl_l_told⟩)
    (c_l_told : PySem.W.codeIn K cd_l_told "_law_told" = true) (k_l_told : PySem.W.keepIn K (.ref f_l_told) = true)
    {od_law an_law : Option Addr} {sl_law : Array (Option Value)} {oc_law kV_law dc_law pm_law cd_law ct_law : Value} {f_law : Addr}
    (a_law : PySem.W.nsIn K mainGlobals "law" = some (some (.ref f_law)))
    (l_law : K.lookup f_law = some ⟨oc_law, od_law, .func (PySem.W.fnOf "law" "law" (defArgs s_law) (defBody s_law) (defScope s_law) .none kV_law dc_law pm_law an_law cd_law ct_law), sl_law⟩)
    (c_law : PySem.W.codeIn K cd_law "law" = true) (k_law : PySem.W.keepIn K (.ref f_law) = true)
    (z_int : PySem.W.nsIn K mainGlobals "int" = some none)
    (z_bool : PySem.W.nsIn K mainGlobals "bool" = some none)
    (z_list : PySem.W.nsIn K mainGlobals "list" = some none)
    (z_len : PySem.W.nsIn K mainGlobals "len" = some none)
    (z_tuple : PySem.W.nsIn K mainGlobals "tuple" = some none)
    (z_isinstance : PySem.W.nsIn K mainGlobals "isinstance" = some none)
    (z_all : PySem.W.nsIn K mainGlobals "all" = some none)
    (z_sum : PySem.W.nsIn K mainGlobals "sum" = some none)
    (z_enumerate : PySem.W.nsIn K mainGlobals "enumerate" = some none)
    (z_range : PySem.W.nsIn K mainGlobals "range" = some none)
    (z_max : PySem.W.nsIn K mainGlobals "max" = some none)
    (z_min : PySem.W.nsIn K mainGlobals "min" = some none)
    (z_super : PySem.W.nsIn K mainGlobals "super" = some none)
    {tk_FEWEST_HEAPS : Tok} (w_FEWEST_HEAPS : PySem.W.nsIn K mainGlobals "FEWEST_HEAPS" = some (some (.int 2 tk_FEWEST_HEAPS)))
    {tk_MOST_HEAPS : Tok} (w_MOST_HEAPS : PySem.W.nsIn K mainGlobals "MOST_HEAPS" = some (some (.int 6 tk_MOST_HEAPS)))
    {tk_GREATEST : Tok} (w_GREATEST : PySem.W.nsIn K mainGlobals "GREATEST" = some (some (.int 1000000000000000000000000000000 tk_GREATEST)))
    {tk_GREATEST_SUM : Tok} (w_GREATEST_SUM : PySem.W.nsIn K mainGlobals "GREATEST_SUM" = some (some (.int 1000000 tk_GREATEST_SUM)))
    : ∃ fd : FuncData, (∀ (s : Shared) (v : Value), BindsTo s fd ⟨[v], []⟩ [("_law_script", v)]) ∧ ∀ base : Heap, K.In base → base.Ns mainGlobals mg → FnOk l.prog w K mg base CX0 8 fa fd ["_law_script"] (spLaw K) := by
  have e := hfa.symm.trans (PySem.W.mg_of X G a_law)
  cases e
  have F_is_integer := fun_mk (st := s_is_integer) l_is_integer c_is_integer k_is_integer
  have b_is_integer := F_is_integer.binds (ps := ["value", "least", "greatest"]) fun _ _ _ _ _ _ us hl => match us, hl with | [_, _, _], _ => rfl
  have F_is_heaps := fun_mk (st := s_is_heaps) l_is_heaps c_is_heaps k_is_heaps
  have b_is_heaps := F_is_heaps.binds (ps := ["value"]) fun _ _ _ _ _ _ us hl => match us, hl with | [_], _ => rfl
  have F_check_heaps := fun_mk (st := s_check_heaps) l_check_heaps c_check_heaps k_check_heaps
  have b_check_heaps := F_check_heaps.binds (ps := ["heaps"]) fun _ _ _ _ _ _ us hl => match us, hl with | [_], _ => rfl
  have F_split_twos := fun_mk (st := s_split_twos) l_split_twos c_split_twos k_split_twos
  have b_split_twos := F_split_twos.binds (ps := ["number"]) fun _ _ _ _ _ _ us hl => match us, hl with | [_], _ => rfl
  have F_power_of_two := fun_mk (st := s_power_of_two) l_power_of_two c_power_of_two k_power_of_two
  have b_power_of_two := F_power_of_two.binds (ps := ["exponent", "modulus"]) fun _ _ _ _ _ _ us hl => match us, hl with | [_, _], _ => rfl
  have F_order_of_two := fun_mk (st := s_order_of_two) l_order_of_two c_order_of_two k_order_of_two
  have b_order_of_two := F_order_of_two.binds (ps := ["odd"]) fun _ _ _ _ _ _ us hl => match us, hl with | [_], _ => rfl
  have F_check_two := fun_mk (st := s_check_two) l_check_two c_check_two k_check_two
  have b_check_two := F_check_two.binds (ps := ["heaps"]) fun _ _ _ _ _ _ us hl => match us, hl with | [_], _ => rfl
  have F_reduced_parts := fun_mk (st := s_reduced_parts) l_reduced_parts c_reduced_parts k_reduced_parts
  have b_reduced_parts := F_reduced_parts.binds (ps := ["numbers"]) fun _ _ _ _ _ _ us hl => match us, hl with | [_], _ => rfl
  have F_ends_after := fun_mk (st := s_ends_after) l_ends_after c_ends_after k_ends_after
  have b_ends_after := F_ends_after.binds (ps := ["heaps"]) fun _ _ _ _ _ _ us hl => match us, hl with | [_], _ => rfl
  have F_after := fun_mk (st := s_after) l_after c_after k_after
  have b_after := F_after.binds (ps := ["heaps", "many"]) fun _ _ _ _ _ _ us hl => match us, hl with | [_, _], _ => rfl
  have F_tail_and_ring := fun_mk (st := s_tail_and_ring) l_tail_and_ring c_tail_and_ring k_tail_and_ring
  have b_tail_and_ring := F_tail_and_ring.binds (ps := ["heaps"]) fun _ _ _ _ _ _ us hl => match us, hl with | [_], _ => rfl
  have F_l_mix := fun_mk (st := s_l_mix) l_l_mix c_l_mix k_l_mix
  have b_l_mix := F_l_mix.binds (ps := ["_law_script", "_law_seed"]) fun _ _ _ _ _ _ us hl => match us, hl with | [_, _], _ => rfl
  have F_l_next := fun_mk (st := s_l_next) l_l_next c_l_next k_l_next
  have b_l_next := F_l_next.binds (ps := ["_law_h", "_law_bound"]) fun _ _ _ _ _ _ us hl => match us, hl with | [_, _], _ => rfl
  have F_l_heaps := fun_mk (st := s_l_heaps) l_l_heaps c_l_heaps k_l_heaps
  have b_l_heaps := F_l_heaps.binds (ps := ["_law_h", "_law_least", "_law_most"]) fun _ _ _ _ _ _ us hl => match us, hl with | [_, _, _], _ => rfl
  have F_l_behind := fun_mk (st := s_l_behind) l_l_behind c_l_behind k_l_behind
  have b_l_behind := F_l_behind.binds (ps := ["_law_heaps_here", "_law_step"]) fun _ _ _ _ _ _ us hl => match us, hl with | [_, _], _ => rfl
  have F_l_pair := fun_mk (st := s_l_pair) l_l_pair c_l_pair k_l_pair
  have b_l_pair := F_l_pair.binds (ps := ["_law_h"]) fun _ _ _ _ _ _ us hl => match us, hl with | [_], _ => rfl
  have F_l_next_pair := fun_mk (st := s_l_next_pair) l_l_next_pair c_l_next_pair k_l_next_pair
  have b_l_next_pair := F_l_next_pair.binds (ps := ["_law_heaps_here"]) fun _ _ _ _ _ _ us hl => match us, hl with | [_], _ => rfl
  have F_l_walk := fun_mk (st := s_l_walk) l_l_walk c_l_walk k_l_walk
  have b_l_walk := F_l_walk.binds (ps := ["_law_heaps_here", "_law_many"]) fun _ _ _ _ _ _ us hl => match us, hl with | [_, _], _ => rfl
  have F_l_power := fun_mk (st := s_l_power) l_l_power c_l_power k_l_power
  have b_l_power := F_l_power.binds (ps := ["_law_many", "_law_whole"]) fun _ _ _ _ _ _ us hl => match us, hl with | [_, _], _ => rfl
  have F_l_ring := fun_mk (st := s_l_ring) l_l_ring c_l_ring k_l_ring
  have b_l_ring := F_l_ring.binds (ps := ["_law_heaps_here"]) fun _ _ _ _ _ _ us hl => match us, hl with | [_], _ => rfl
  have F_l_is_least := fun_mk (st := s_l_is_least) l_l_is_least c_l_is_least k_l_is_least
  have b_l_is_least := F_l_is_least.binds (ps := ["_law_heaps_here", "_law_tail", "_law_ring_here"]) fun _ _ _ _ _ _ us hl => match us, hl with | [_, _, _], _ => rfl
  have F_l_told := fun_mk (st := s_l_told) l_l_told c_l_told k_l_told
  have b_l_told := F_l_told.binds (ps := ["_law_heaps_here"]) fun _ _ _ _ _ _ us hl => match us, hl with | [_], _ => rfl
  have F_law := fun_mk (st := s_law) l_law c_law k_law
  have b_law := F_law.binds (ps := ["_law_script"]) fun _ _ _ _ _ _ us hl => match us, hl with | [_], _ => rfl
  have T : Tp K mg := ⟨PySem.W.mg_none_of X G z_int, PySem.W.mg_none_of X G z_bool, PySem.W.mg_none_of X G z_list, PySem.W.mg_none_of X G z_len, PySem.W.mg_none_of X G z_tuple, PySem.W.mg_none_of X G z_isinstance, PySem.W.mg_none_of X G z_all, PySem.W.mg_none_of X G z_sum, PySem.W.mg_none_of X G z_enumerate, PySem.W.mg_none_of X G z_range, ⟨_, PySem.W.mg_of X G w_FEWEST_HEAPS⟩, ⟨_, PySem.W.mg_of X G w_MOST_HEAPS⟩, ⟨_, PySem.W.mg_of X G w_GREATEST⟩⟩
  have U : Tx K mg := ⟨PySem.W.mg_none_of X G z_int, PySem.W.mg_none_of X G z_list, PySem.W.mg_none_of X G z_max, PySem.W.mg_none_of X G z_len, PySem.W.mg_none_of X G z_tuple, PySem.W.mg_none_of X G z_range⟩
  have V3 : Tw K mg := ⟨U, PySem.W.mg_none_of X G z_int, PySem.W.mg_none_of X G z_list, PySem.W.mg_none_of X G z_len, PySem.W.mg_none_of X G z_tuple, PySem.W.mg_none_of X G z_range, PySem.W.mg_none_of X G z_sum, PySem.W.mg_none_of X G z_min, PySem.W.mg_none_of X G z_max⟩
  have B : NilX l.prog K mg "TooGreat" A_TooGreat := ⟨PySem.W.mg_of X G x_TooGreat, kC, eC, tC, ⟨HE, f_HI, sup_mk tI lI cI lcda hvs hfile lcc hD z_super thr topN, ⟨⟨nm, q, N, bs, _, sn, sub, ab, col, dd, m0, m1, m2, m3, m5, xL, rfl⟩, iHI, supI, mroI, veI, xinI⟩⟩⟩
  have te := exm_self eC iC tC sC
  refine ⟨PySem.W.fnOf "law" "law" (defArgs s_law) (defBody s_law) (defScope s_law) .none kV_law dc_law pm_law an_law cd_law ct_law, fun s v => .of_eq rfl, fun base KB GB => ?_⟩
  have C_is_integer : Cal l.prog w K mg base CX0 1 "is_integer" ["value", "least", "greatest"] (spIsInt) := ⟨_, _, PySem.W.mg_of X G a_is_integer, k_is_integer, b_is_integer, ok_is_integer F_is_integer T⟩
  have C_is_heaps : Cal l.prog w K mg base CX0 2 "is_heaps" ["value"] (spIsHeaps K) := ⟨_, _, PySem.W.mg_of X G a_is_heaps, k_is_heaps, b_is_heaps, ok_is_heaps F_is_heaps T C_is_integer⟩
  have C_check_heaps : Cal l.prog w K mg base CX0 3 "check_heaps" ["heaps"] (spChkHeaps K) := ⟨_, _, PySem.W.mg_of X G a_check_heaps, k_check_heaps, b_check_heaps, ok_check_heaps F_check_heaps T C_is_heaps⟩
  have C_split_twos : Cal l.prog w K mg base CX0 1 "split_twos" ["number"] (spSplit) := ⟨_, _, PySem.W.mg_of X G a_split_twos, k_split_twos, b_split_twos, ok_split_twos F_split_twos⟩
  have C_power_of_two : Cal l.prog w K mg base CX0 1 "power_of_two" ["exponent", "modulus"] (spPow) := ⟨_, _, PySem.W.mg_of X G a_power_of_two, k_power_of_two, b_power_of_two, ok_power_of_two F_power_of_two⟩
  have C_order_of_two : Cal l.prog w K mg base CX0 1 "order_of_two" ["odd"] (spOrd) := ⟨_, _, PySem.W.mg_of X G a_order_of_two, k_order_of_two, b_order_of_two, ok_order_of_two F_order_of_two⟩
  have C_check_two : Cal l.prog w K mg base CX0 4 "check_two" ["heaps"] (spChk2 K) := ⟨_, _, PySem.W.mg_of X G a_check_two, k_check_two, b_check_two, ok_check_two F_check_two T C_check_heaps⟩
  have C_reduced_parts : Cal l.prog w K mg base CX0 2 "reduced_parts" ["numbers"] (spRed K) := ⟨_, _, PySem.W.mg_of X G a_reduced_parts, k_reduced_parts, b_reduced_parts, ok_reduced_parts F_reduced_parts T (PySem.W.mg_of X G gG) C_split_twos⟩
  have C_ends_after : Cal l.prog w K mg base CX0 5 "ends_after" ["heaps"] (spEnds K) := ⟨_, _, PySem.W.mg_of X G a_ends_after, k_ends_after, b_ends_after, ok_ends_after F_ends_after C_check_two C_reduced_parts⟩
  have C_after : Cal l.prog w K mg base CX0 6 "after" ["heaps", "many"] (spAfter K) := ⟨_, _, PySem.W.mg_of X G a_after, k_after, b_after, ok_after F_after T C_check_two C_is_integer C_ends_after C_power_of_two⟩
  have C_tail_and_ring : Cal l.prog w K mg base (L2.CX l.prog w) 6 "tail_and_ring" ["heaps"] (spTail K A_TooGreat) := ⟨_, _, PySem.W.mg_of X G a_tail_and_ring, k_tail_and_ring, b_tail_and_ring, ok_tail_and_ring F_tail_and_ring T B ⟨_, PySem.W.mg_of X G w_GREATEST_SUM⟩ C_check_two C_reduced_parts C_order_of_two⟩
  have C_l_mix : Cal l.prog w K mg base CX0 1 "_law_mix" ["_law_script", "_law_seed"] (spMix K) := ⟨_, _, PySem.W.mg_of X G a_l_mix, k_l_mix, b_l_mix, ok_mix F_l_mix U⟩
  have C_l_next : Cal l.prog w K mg base CX0 1 "_law_next" ["_law_h", "_law_bound"] (spNext) := ⟨_, _, PySem.W.mg_of X G a_l_next, k_l_next, b_l_next, ok_next F_l_next U⟩
  have C_l_heaps : Cal l.prog w K mg base CX0 2 "_law_heaps" ["_law_h", "_law_least", "_law_most"] (spHeaps) := ⟨_, _, PySem.W.mg_of X G a_l_heaps, k_l_heaps, b_l_heaps, ok_heaps F_l_heaps U C_l_next⟩
  have C_l_behind : Cal l.prog w K mg base CX0 1 "_law_behind" ["_law_heaps_here", "_law_step"] (spBehd K) := ⟨_, _, PySem.W.mg_of X G a_l_behind, k_l_behind, b_l_behind, ok_l_behind F_l_behind V3⟩
  have C_l_pair : Cal l.prog w K mg base CX0 3 "_law_pair" ["_law_h"] (spPair K) := ⟨_, _, PySem.W.mg_of X G a_l_pair, k_l_pair, b_l_pair, ok_l_pair F_l_pair V3 C_l_next C_l_heaps⟩
  have C_l_next_pair : Cal l.prog w K mg base CX0 2 "_law_next_pair" ["_law_heaps_here"] (spNxp K) := ⟨_, _, PySem.W.mg_of X G a_l_next_pair, k_l_next_pair, b_l_next_pair, ok_l_next_pair F_l_next_pair C_l_behind⟩
  have C_l_walk : Cal l.prog w K mg base CX0 3 "_law_walk" ["_law_heaps_here", "_law_many"] (spWalk K) := ⟨_, _, PySem.W.mg_of X G a_l_walk, k_l_walk, b_l_walk, ok_l_walk F_l_walk V3 C_l_next_pair⟩
  have C_l_power : Cal l.prog w K mg base CX0 1 "_law_power" ["_law_many", "_law_whole"] (spLPow) := ⟨_, _, PySem.W.mg_of X G a_l_power, k_l_power, b_l_power, ok_l_power F_l_power V3⟩
  have C_l_ring : Cal l.prog w K mg base CX0 3 "_law_ring" ["_law_heaps_here"] (spRing K) := ⟨_, _, PySem.W.mg_of X G a_l_ring, k_l_ring, b_l_ring, ok_l_ring F_l_ring V3 C_l_next_pair⟩
  have C_l_is_least : Cal l.prog w K mg base CX0 2 "_law_is_least" ["_law_heaps_here", "_law_tail", "_law_ring_here"] (spLeast K) := ⟨_, _, PySem.W.mg_of X G a_l_is_least, k_l_is_least, b_l_is_least, ok_l_is_least F_l_is_least V3 C_l_power⟩
  have C_l_told : Cal l.prog w K mg base CX0 7 "_law_told" ["_law_heaps_here"] (spTold3 K) := ⟨_, _, PySem.W.mg_of X G a_l_told, k_l_told, b_l_told, ok_l_told F_l_told B te C_tail_and_ring⟩
  exact ok_law F_law V3 C_l_mix C_l_next C_l_pair C_l_walk C_l_power C_l_ring C_l_is_least C_l_told C_after C_ends_after
theorem walk {l : PySem.W.OpenLaw} {q : Program} {loose : List Str} {XP : (Str → Option Value) → Heap → Prop} {YP : World → Heap → Prop} {d : DefRec} {K : Params → PySem.W.Frag} (hn : l.most = some 63) (hdf : d.params.defaults = [])
    (hY : ∀ (w : World) (h : Heap), YP w h → (K w.params).In h)
    (F : ∀ (w : World) (mg : Str → Option Value) (fa : Addr) (h : Heap), (K w.params).In h → h.Ns mainGlobals mg → mg d.name = some (.ref fa) →
      ∃ fd : FuncData, (∀ (s : Shared) (u : Value), BindsTo s fd ⟨[u], []⟩ [("_law_script", u)]) ∧ ∀ base : Heap, (K w.params).In base → base.Ns mainGlobals mg → FnOk l.prog w (K w.params) mg base CX0 8 fa fd ["_law_script"] (spLaw (K w.params))) :
    PySem.W.WalkO q loose XP YP l.row.toRowW d [] (fun f vs => PySem.call f vs) :=
  L2.walk_of (n := 63) (k := 8) (x := "_law_script") (CX := fun _ => CX0) (sp := fun w => spLaw (K w.params)) hn (by decide) hdf ⟨rfl, by decide, by decide⟩ hY F (fun _ _ a ns hl _ hS => ⟨a, ns, rfl, hS, hl, fun _ => rfl⟩) fun _ _ _ _ _ z => z
end Hd
open PySem PySem.W PyProof.Rows
set_option maxRecDepth 100000 in
set_option maxHeartbeats 0 in
theorem PySem.Challenge.cw_heapsdouble_k03_whole_walks_of_two_holds : PySem.Challenge.rw_heapsdouble_k03_whole_walks_of_two.Holds := by
  w_on; o_law; k_head; (case hw => w_witness2)
  k_fill
  refine Hd.walk (l := PySem.Challenge.rw_heapsdouble_k03_whole_walks_of_two) rfl rfl (fun w h Y => PySem.W.kIn_of Y) ?F
  case F =>
    intro w mg fa h KX G hmg
    refine' Hd.all_mk KX G hmg ?x_TooGreat ?xL ?iHI ?tI ?lI ?cI ?lcda ?hvs ?hfile ?lcc ?hD ?supI ?mroI ?veI ?xinI ?thr ?topN ?gG ?kC ?eC ?tC ?iC ?sC ?a_is_integer ?l_is_integer ?c_is_integer ?k_is_integer ?a_is_heaps ?l_is_heaps ?c_is_heaps ?k_is_heaps ?a_check_heaps ?l_check_heaps ?c_check_heaps ?k_check_heaps ?a_split_twos ?l_split_twos ?c_split_twos ?k_split_twos ?a_power_of_two ?l_power_of_two ?c_power_of_two ?k_power_of_two ?a_order_of_two ?l_order_of_two ?c_order_of_two ?k_order_of_two ?a_check_two ?l_check_two ?c_check_two ?k_check_two ?a_reduced_parts ?l_reduced_parts ?c_reduced_parts ?k_reduced_parts ?a_ends_after ?l_ends_after ?c_ends_after ?k_ends_after ?a_after ?l_after ?c_after ?k_after ?a_tail_and_ring ?l_tail_and_ring ?c_tail_and_ring ?k_tail_and_ring ?a_l_mix ?l_l_mix ?c_l_mix ?k_l_mix ?a_l_next ?l_l_next ?c_l_next ?k_l_next ?a_l_heaps ?l_l_heaps ?c_l_heaps ?k_l_heaps ?a_l_behind ?l_l_behind ?c_l_behind ?k_l_behind ?a_l_pair ?l_l_pair ?c_l_pair ?k_l_pair ?a_l_next_pair ?l_l_next_pair ?c_l_next_pair ?k_l_next_pair ?a_l_walk ?l_l_walk ?c_l_walk ?k_l_walk ?a_l_power ?l_l_power ?c_l_power ?k_l_power ?a_l_ring ?l_l_ring ?c_l_ring ?k_l_ring ?a_l_is_least ?l_l_is_least ?c_l_is_least ?k_l_is_least ?a_l_told ?l_l_told ?c_l_told ?k_l_told ?a_law ?l_law ?c_law ?k_law ?z_int ?z_bool ?z_list ?z_len ?z_tuple ?z_isinstance ?z_all ?z_sum ?z_enumerate ?z_range ?z_max ?z_min ?z_super ?w_FEWEST_HEAPS ?w_MOST_HEAPS ?w_GREATEST ?w_GREATEST_SUM
    (case x_TooGreat => k_is)
    (case xL => k_is)
    (case iHI => k_is)
    (case tI => k_is)
    (case lI => k_is)
    (case cI => k_is)
    (case lcda => k_is)
    (case hvs => rfl)
    (case hfile => first | rfl | decide +kernel)
    (case lcc => k_is)
    (case hD => k_is)
    (case supI => ks_is)
    (case mroI => k_is)
    (case veI => k_is)
    (case xinI => kx_is)
    (case thr => k_is)
    (case topN => first | rfl | decide +kernel)
    (case gG => k_is)
    (case kC => k_is)
    (case eC => k_is)
    (case tC => k_is)
    (case iC => k_is)
    (case sC => first | rfl | k_is)
    (case a_is_integer => k_is)
    (case l_is_integer => k_is)
    (case c_is_integer => k_is)
    (case k_is_integer => k_is)
    (case a_is_heaps => k_is)
    (case l_is_heaps => k_is)
    (case c_is_heaps => k_is)
    (case k_is_heaps => k_is)
    (case a_check_heaps => k_is)
    (case l_check_heaps => k_is)
    (case c_check_heaps => k_is)
    (case k_check_heaps => k_is)
    (case a_split_twos => k_is)
    (case l_split_twos => k_is)
    (case c_split_twos => k_is)
    (case k_split_twos => k_is)
    (case a_power_of_two => k_is)
    (case l_power_of_two => k_is)
    (case c_power_of_two => k_is)
    (case k_power_of_two => k_is)
    (case a_order_of_two => k_is)
    (case l_order_of_two => k_is)
    (case c_order_of_two => k_is)
    (case k_order_of_two => k_is)
    (case a_check_two => k_is)
    (case l_check_two => k_is)
    (case c_check_two => k_is)
    (case k_check_two => k_is)
    (case a_reduced_parts => k_is)
    (case l_reduced_parts => k_is)
    (case c_reduced_parts => k_is)
    (case k_reduced_parts => k_is)
    (case a_ends_after => k_is)
    (case l_ends_after => k_is)
    (case c_ends_after => k_is)
    (case k_ends_after => k_is)
    (case a_after => k_is)
    (case l_after => k_is)
    (case c_after => k_is)
    (case k_after => k_is)
    (case a_tail_and_ring => k_is)
    (case l_tail_and_ring => k_is)
    (case c_tail_and_ring => k_is)
    (case k_tail_and_ring => k_is)
    (case a_l_mix => k_is)
    (case l_l_mix => k_is)
    (case c_l_mix => k_is)
    (case k_l_mix => k_is)
    (case a_l_next => k_is)
    (case l_l_next => k_is)
    (case c_l_next => k_is)
    (case k_l_next => k_is)
    (case a_l_heaps => k_is)
    (case l_l_heaps => k_is)
    (case c_l_heaps => k_is)
    (case k_l_heaps => k_is)
    (case a_l_behind => k_is)
    (case l_l_behind => k_is)
    (case c_l_behind => k_is)
    (case k_l_behind => k_is)
    (case a_l_pair => k_is)
    (case l_l_pair => k_is)
    (case c_l_pair => k_is)
    (case k_l_pair => k_is)
    (case a_l_next_pair => k_is)
    (case l_l_next_pair => k_is)
    (case c_l_next_pair => k_is)
    (case k_l_next_pair => k_is)
    (case a_l_walk => k_is)
    (case l_l_walk => k_is)
    (case c_l_walk => k_is)
    (case k_l_walk => k_is)
    (case a_l_power => k_is)
    (case l_l_power => k_is)
    (case c_l_power => k_is)
    (case k_l_power => k_is)
    (case a_l_ring => k_is)
    (case l_l_ring => k_is)
    (case c_l_ring => k_is)
    (case k_l_ring => k_is)
    (case a_l_is_least => k_is)
    (case l_l_is_least => k_is)
    (case c_l_is_least => k_is)
    (case k_l_is_least => k_is)
    (case a_l_told => k_is)
    (case l_l_told => k_is)
    (case c_l_told => k_is)
    (case k_l_told => k_is)
    (case a_law => k_is)
    (case l_law => k_is)
    (case c_law => k_is)
    (case k_law => k_is)
    (case z_int => k_is)
    (case z_bool => k_is)
    (case z_list => k_is)
    (case z_len => k_is)
    (case z_tuple => k_is)
    (case z_isinstance => k_is)
    (case z_all => k_is)
    (case z_sum => k_is)
    (case z_enumerate => k_is)
    (case z_range => k_is)
    (case z_max => k_is)
    (case z_min => k_is)
    (case z_super => k_is)
    (case w_FEWEST_HEAPS => k_is)
    (case w_MOST_HEAPS => k_is)
    (case w_GREATEST => k_is)
    (case w_GREATEST_SUM => k_is)
