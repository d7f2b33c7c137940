import PyProof.Rows.All
import Wide.All
import OpenK.AllK
import Wide.FinOn
import HandS.ForMost
import HandS.Exc
import HandS.TryOnly
import HandS.ExcOwn
import HandS.WordsExc
import HandS.ExcInit
import HandS.ExcField
import HandS.IsInst
import HandS.Deep
import HandS.Walk
import HandS.Wide
import HandS.Style
import KE.KTupSum
import KE.GoesEnum
import HandS.TupSets
import HandS.DictTup
import HandS.ListItems
import HandS.SortRule
import HandS.Gcd
import HandS.SortInts
import HandS.Conv
import PySem.Challenge.RW_heapsdouble_k13_whole_rings_of_two
set_option Elab.async false
set_option linter.all false
set_option maxRecDepth 100000
set_option maxHeartbeats 2000000
/-! Rules of our own: xs[i] read for op=, sum of a tuple, enumerate of a tuple. -/
namespace Hd
open PySem PySem.Spec PyProof.Rows L2

theorem Same.tup {K : PySem.W.Frag} {H H' : Hp} {a : Addr} {xs : List V} (e : Same H H') (h : SqT K H a xs) : SqT K H' a xs := by
  rcases h with (h | ⟨o, h⟩) | h
  · exact .inl (.inl (e _ _ h))
  · exact .inl (.inr ⟨o, e _ _ h⟩)
  · exact .inr h
theorem Same.new {H : Hp} {p : Addr} {o : HO} (h : H p = none) : Same H (upd H p o) := fun a u e => by
  rw [upd_ne (ne_of_none e h)]
  exact e
theorem same_upd {H H' : Hp} {p : Addr} {o : HO} (e : Same H H') (h : H p = none) : Same H (upd H' p o) := fun a u ha => by
  rw [upd_ne (ne_of_none ha h)]
  exact e a u ha

/-- a def of one's own by its name: what a caller needs -/
structure Cal (P : Program) (w : World) (K : PySem.W.Frag) (mg : Str → Option Value) (base : Heap) (CX : CXT) (k : Nat) (x : Str) (ps : List Str) (sp : Sp) : Prop where
  ex : ∃ (f : Addr) (fd : FuncData), mg x = some (.ref f) ∧ PySem.W.keepIn K (.ref f) = true ∧ Binds K fd ps [] ∧ FnOk P w K mg base CX k f fd ps sp
def tCal (sp : Sp) (E : XK) (t : TA) : TE := fun σ H Q => t σ H fun vs H1 => sp vs H1 Q E
section
variable {X : Cx}
theorem pe_cal {CX : CXT} {j k : Nat} {x : Str} {ps : List Str} {sp : Sp} {E : XK} {e : Expr} {es : List Expr} {t : TA} {p pos : Pos} (C : Cal X.prog X.w X.K X.mg X.base CX j x ps sp) (hr : Room k X.A) (hg : Gl X x) (hx : Passes CX X E)
    (ha : PA X (e :: es) t) (hk : j ≤ k := by decide) (hdb : (x == ("__debug__" : Str)) = false := by decide) (he : starEach (e :: es) X.env = (false, eval e X.env) :: starEach es X.env := by rfl) (hpl : (backTo pos (starEach es X.env)).any (·.1) = false := by rfl) :
    PE X (.Call (.Name x p) (e :: es) [] pos) (tCal sp E t) := by
  obtain ⟨f, fd, hm, kp, hb, F⟩ := C.ex
  refine ⟨fun pins s σ H Q I h => (pe_call (dvs := []) F (hr.mono hk) hg hm kp hb .nil hx ha hdb he hpl).run pins s σ H Q I ?_⟩
  have e1 : (tCall sp [] E t) = tCal sp E t := by
    funext σ H Q
    unfold tCall tCal
    congr 1
    funext vs H1
    rw [List.append_nil]
  rw [e1]
  exact h
end

/-- a block cut behind its first statement: R is what every way through it brings -/
def tCutM (t u : TS) : TS := fun D σ H => ∃ R : L2.St → Hp → Prop, t { D with nx := R } σ H ∧ ∀ σ' H', R σ' H' → u D σ' H'
theorem pss_cutM {X : Cx} {st : Stmt} {rest : List Stmt} {t u : TS} (a : PS X st t) (b : PSs X rest u) : PSs X (st :: rest) (tCutM t u) := by
  refine ⟨fun pins s σ H D I hh => ?_⟩
  obtain ⟨R, hR, go⟩ := hh
  refine wpAny_execs_cons (thn (a.run pins s σ H { D with nx := R } I hR) fun f s1 q => ?_)
  cases f with
  | next =>
    obtain ⟨σ1, H1, I1, q1⟩ := q
    exact b.run pins s1 σ1 H1 D I1 (go σ1 H1 q1)
  | ret _ => exact q
  | brk => exact q
  | cont => exact q
section
variable {X : Cx}
/-- xs[k], 0 ≤ k, read for xs[k] op= e -/
def rGetL (K : PySem.W.Frag) : V → V → Hp → VK → Prop := fun o i H Q => ∃ p xs k v, o = .ref p ∧ i = .int k ∧ SqL K H p xs ∧ 0 ≤ k ∧ xs[k.toNat]? = some v ∧ Q v H
theorem pget_list : PGet X (rGetL X.K) := by
  intro pins s σ H o i ov iv Q I ro ri h
  obtain ⟨p, xs, k, v, rfl, rfl, hq, h0, he, q⟩ := h
  cases ro
  obtain ⟨t, rfl⟩ := ri
  obtain ⟨its, r, pl, hz⟩ := I.list hq
  obtain ⟨w, ew, rw'⟩ := r.get he
  have hl := r.length
  have hlt : k.toNat < its.length := (List.getElem?_eq_some_iff.mp ew).1
  have hb : k < 2 ^ 63 := by
    rw [sizeLine_eq] at hz
    omega
  exact wpAny_getItem_list pl.isList h0 hb (by simpa using ew) ⟨v, H, I, rw', q⟩

/-- sum(t) of a tuple of ints -/
def rSumT (K : PySem.W.Frag) : List V → Hp → VK → Prop := fun vs H Q => ∃ (a : Addr) (ns : List Int), vs = [V.ref a] ∧ SqT K H a (ns.map V.int) ∧ Q (.int ns.sum) H
theorem cr_sumT (hc : X.calm = true) : CallR X (.builtin "sum") (rSumT X.K) := by
  intro pins s σ H vs us Q I r h
  obtain ⟨a, ns, rfl, hs, q⟩ := h
  obtain ⟨its, rv, hl, _⟩ := I.tuple hs
  rw [Vals.ref1 r]
  have hi := rv.ints
  obtain ⟨xs, e⟩ := hi.allInts.items
  have hn : numsOf (intItems xs).toList = ns := by rw [← e]; exact hi.numsOf
  rw [nums_intItems] at hn
  rw [e] at hl
  refine PySem.W.ktm_sumG (I.ok.hd hc) hl fun h' tk t' hk => ?_
  rw [PySem.preSum_eq, List.take_of_length_le (by simp), hn]
  exact ⟨.int _, H, I.kept hk, ⟨_, rfl⟩, q⟩
end
end Hd
set_option maxHeartbeats 4000000
/-! enumerate of a tuple. -/
namespace Hd
open PySem PySem.Spec PyProof.Rows L2
open AutoSeq1 (wpAny_loadPart')
theorem enumNewT (q : Addr) (zs : Array Value) (m : Nat) (od : Option Addr) (so : Array (Option Value)) :
    Meets (Builtin.«enumerate.__new__» ⟨[.type "enumerate", .ref q], []⟩) (fun _ R s =>
      s.heap.get? q = some { cls := .type "tuple", dict := od, data := .seq zs m, slots := so } ∧
      R (.ok (.ret (.ref (s.heap.push { cls := .type "tuple_iterator", data := .fields #[.ref q, .int 0 0] }).objs.size)))
        ⟨(s.heap.push { cls := .type "tuple_iterator", data := .fields #[.ref q, .int 0 0] }).push
              { cls := .type "enumerate", data := .fields #[.none, .bool false, .ref s.heap.objs.size, rawInt 0, .none, .none] }, s.gens, s.drawn, s.toks, s.os⟩) :=
  .of_wp fun P0 w0 A0 R0 s0 k0 => by
    obtain ⟨h0, g0, d0, t0, o0⟩ := s0
    obtain ⟨hq, k0⟩ := k0
    have subE := sub_enumerate
    have isT : Heap.IsTuple (Shared.heap ⟨h0, g0, d0, t0, o0⟩) q zs := ⟨_, hq, rfl, m, rfl⟩
    wp_walk using wpAny_loadPart' hq
    refine wpAny_stack_any fun _ => wpAny_pure ?_
    split
    · rename_i c _ _ _ _ _
      cases (c == Value.type "enumerate") <;> (wp_walk using wpAny_loadPart' hq, wpAny_pyIter_tuple isT; exact ⟨_, rfl, k0⟩)
    · wp_walk using wpAny_loadPart' hq, wpAny_pyIter_tuple isT
      exact ⟨_, rfl, k0⟩
theorem enumCallT {prog : Program} {w : World} {A : Around} {E : Value → Shared → Prop} {s : Shared} {q : Addr} {zs : Array Value} {Q : Value → Shared → Prop} (isT : s.heap.IsTuple q zs)
    (k : ∀ h', IsEnum h' (s.heap.objs.size + 1) s.heap.objs.size 0 .none → h'.IsTupleIter s.heap.objs.size q 0 → (∀ b o, s.heap.get? b = some o → h'.get? b = some o) → Q (.ref (s.heap.objs.size + 1)) { s with heap := h' }) :
    wpAny (model prog w) A (call (.type "enumerate") [.ref q]) Q E s := by
  obtain ⟨⟨oc, od, dt, so⟩, hq, hc, m, hd⟩ := isT
  replace hc : oc = .type "tuple" := hc
  replace hd : dt = .seq zs m := hd
  subst hc hd
  refine callType_new F.called_enumerate (by decide) (F.typeCall_enumerate_1 _) (F.newCall_enumerate_1 _)
    (fun obj => F.args_object_init_2 obj _) F.entry_enumerate_new (enumNewT q zs m od so) ⟨hq, ?_⟩
  have hz : (s.heap.push { cls := .type "tuple_iterator", data := .fields #[.ref q, .int 0 0] }).objs.size = s.heap.objs.size + 1 := Heap.size_push ..
  show _ ∧ _
  rw [hz]
  have he : IsEnum ((s.heap.push { cls := .type "tuple_iterator", data := .fields #[.ref q, .int 0 0] }).push
      { cls := .type "enumerate", data := .fields #[.none, .bool false, .ref s.heap.objs.size, rawInt 0, .none, .none] })
      (s.heap.objs.size + 1) s.heap.objs.size 0 .none := by
    have := Heap.get?_push_size (s.heap.push { cls := .type "tuple_iterator", data := .fields #[.ref q, .int 0 0] })
      (o := { cls := .type "enumerate", data := .fields #[.none, .bool false, .ref s.heap.objs.size, rawInt 0, .none, .none] }) rfl
    rw [hz] at this
    exact this
  exact ⟨⟨_, he, rfl⟩, k _ he ⟨({ cls := .type "tuple_iterator", data := .fields #[.ref q, .int 0 0] } : Obj), Heap.get?_push_of_some _ (Heap.get?_push_size _ rfl), rfl, rfl⟩
    fun b o x => Heap.get?_push_of_some _ (Heap.get?_push_of_some _ x)⟩
/-- the tuple at a, each item in a new pair -/
def IteT (K : PySem.W.Frag) (a : Addr) : It where
  go := fun i H => ∃ (xs : List V) (x : V), SqT K H a xs ∧ xs[i]? = some x
  yld := fun i H v H' => ∃ T x, v = .ref T ∧ H T = none ∧ H' = upd H T (.tup [.int (i : Nat), x]) ∧ ∀ xs, SqT K H a xs → xs[i]? = some x
  stop := fun i H => ∃ xs : List V, SqT K H a xs ∧ xs.length = i
theorem tupNe {h : Heap} {a it : Addr} {zs : Array Value} {i : Nat} (t : h.IsTuple a zs) (j : h.IsTupleIter it a i) : a ≠ it := fun z => by
  obtain ⟨o, h1, h2, _⟩ := t
  obtain ⟨o', h3, h4, _⟩ := j
  rw [z, h3] at h1
  cases h1
  rw [h2] at h4
  injection h4 with h5
  exact absurd h5 (by decide)
theorem enumNe {h : Heap} {a e it : Addr} {zs : Array Value} {c : Int} {v : Value} (t : h.IsTuple a zs) (j : IsEnum h e it c v) : e ≠ a := fun z => by
  obtain ⟨o, h1, h2, _⟩ := t
  have j' : h.get? e = some _ := j
  rw [z, h1] at j'
  have j2 := Option.some.inj j'
  rw [j2] at h2
  injection h2 with h5
  exact absurd h5 (by decide)
theorem turn_enumT {P : Program} {w : World} {K : PySem.W.Frag} {elts : List Expr} {kk : Nat} {tpos : Pos} (a e it : Addr) :
    Turn P w K (.Tuple elts kk tpos) (IteT K a) [e, it] e (fun i h => (∃ old, IsEnum h e it ((i : Nat) : Int) old) ∧ h.IsTupleIter it a i ∧ e ≠ it) where
  mem := List.mem_cons_self
  obj := fun i h st b hb => by
    obtain ⟨⟨old, he⟩, ⟨o, ho, hc, hd⟩, _⟩ := st
    rcases (show b = e ∨ b = it by simpa using hb) with z | z
    · subst z
      exact ⟨_, he, fun v q => nomatch q⟩
    · subst z
      exact ⟨o, ho, fun v q => by rw [hd] at q; cases q⟩
  keep := fun i h h' st k => by
    obtain ⟨⟨old, he⟩, hi, hne⟩ := st
    exact ⟨⟨old, k e (by simp) _ he⟩, hi.at fun o q => k it (by simp) o q, hne⟩
  item := by
    intro X hP hw hK hc i pins s σ H E I hf st hg
    subst hP hw hK
    obtain ⟨⟨old, he⟩, hit, hne⟩ := st
    obtain ⟨xs, x, hq, hx⟩ := hg
    obtain ⟨its, rv, p, hz⟩ := I.tuple hq
    have isT : s.heap.IsTuple a its.toArray := p
    have hel : e < s.heap.objs.size := Heap.lt_size he
    have hil : it < s.heap.objs.size := by
      obtain ⟨_, q, _⟩ := hit
      exact Heap.lt_size q
    have hai := tupNe isT hit
    have hea := enumNe isT he
    have hlt : i < its.toArray.size := by
      have z := (List.getElem?_eq_some_iff.mp hx).1
      have l := rv.length
      simp
      omega
    have D := Draws.tuple (prog := X.prog) (w := X.w) (A := X.A.in1) (I.ok.hd hc) it a hai its.toArray
    refine wpAny_pyNext_enum_itemC D he ⟨hit, isT⟩ hlt hne (by simp [hne, hea]) fun u h' tk hu ho st' hT hsz hk => ?_
    refine ⟨_, rfl, wpAny_letOwnedTupleGo_enum (s := { s with heap := h', toks := tk + 1 }) ho fun h'' he' sb => ?_⟩
    obtain ⟨u', hu', ru⟩ := rv.get hx
    have euu : u' = u := by
      have z : its[i]? = some u := by simpa using hu
      rw [hu'] at z
      exact Option.some.inj z
    subst euu
    have hT2 : h''.get? s.heap.objs.size = some { cls := .type "tuple", data := .seq #[.int i tk, u'] } := (sb.2 _ (Nat.ne_of_gt hel)).trans hT
    have new : ObjOk X.prog X.w (upd H s.heap.objs.size (.tup [.int (i : Nat), x])) h'' s.heap.objs.size (.tup [.int (i : Nat), x]) :=
      ⟨by show 2 ≤ sizeLine; decide, [.int i tk, u'], .cons ⟨_, rfl⟩ (.cons ru .nil), ⟨_, hT2, rfl, _, rfl⟩⟩
    have J : Inv X pins σ (upd H s.heap.objs.size (.tup [.int (i : Nat), x])) { s with heap := h'', toks := tk + 1 } :=
      I.turnedNew (ch := [e, it]) (fun b ob hb q => (sb.2 b fun z => hb (by simp [z])).trans (hk b ob (fun z => hb (by simp [z])) (fun z => hb (by simp [z])) q)) hf (Nat.le_refl _) new
    refine ⟨.ref s.heap.objs.size, _, J, rfl, ⟨_, x, rfl, I.hok.fresh (Nat.le_refl _), rfl, fun ys hy => by rw [I.tuple_inj hy hq]; exact hx⟩,
      ⟨⟨u', ?_⟩, st'.1.at fun o q => (sb.2 it (Ne.symm hne)).trans q, hne⟩, fun b hb => ?_⟩
    · have e1 : ((i + 1 : Nat) : Int) = (i : Int) + 1 := by omega
      rw [e1]
      exact he'
    · have hb' : b < s.heap.objs.size := by
        rcases (show b = e ∨ b = it by simpa using hb) with z | z
        · rw [z]
          exact hel
        · rw [z]
          exact hil
      rw [upd_ne (Nat.ne_of_lt hb')]
      exact (hf b hb).1
  done := by
    intro X hP hw hK hc i pins s σ H E I hf st hg
    subst hP hw hK
    obtain ⟨⟨old, he⟩, hit, hne⟩ := st
    obtain ⟨xs, hq, hx⟩ := hg
    obtain ⟨its, rv, p, hz⟩ := I.tuple hq
    have isT : s.heap.IsTuple a its.toArray := p
    have hai := tupNe isT hit
    obtain ⟨f0, f1, f2, f3, f4, f5⟩ := hf it (by simp)
    have D := Draws.tuple (prog := X.prog) (w := X.w) (A := X.A.in1) (I.ok.hd hc) it a hai its.toArray
    have ei : its.toArray.size = i := by
      have l := rv.length
      simp
      omega
    refine wpAny_pyNext_enum_endD D he ⟨by rw [ei]; exact hit, isT⟩ fun h' eb => ⟨rfl, ?_⟩
    exact I.turned (t' := s.toks) (fun b o hb q => eb b o hb q) f0 f1 f3 f4 f5
  self := fun A i s Q E st k => by
    obtain ⟨⟨_, he⟩, _⟩ := st
    exact wpAny_pyIter_enum he k
def iEnumT (K : PySem.W.Frag) (ta : TA) : TI := fun σ H R => ta σ H fun vs H1 => ∃ a xs, vs = [.ref a] ∧ SqT K H1 a xs ∧ R (IteT K a) H1
theorem pi_enumT {X : Cx} {e : Expr} {ta : TA} {p pos tpos : Pos} {elts : List Expr} {kk : Nat} (hg : Gl X "enumerate") (hm : X.mg "enumerate" = none) (ha : PA X [e] ta)
    (hs : starEach [e] X.env = [(false, eval e X.env)] := by rfl) : PI X (.Tuple elts kk tpos) (.Call (.Name "enumerate" p) [e] [] pos) (iEnumT X.K ta) := by
  refine ⟨fun pins s σ H R I h => ?_⟩
  refine Call_ (ld_blt I hg hm boot_enumerate (PyProof.Rows.callWith_type1 (thn (ha.run pos pins s σ H _ I h) fun us s1 hh => ?_) hs rfl))
  obtain ⟨vs, H1, I1, r1, a, xs, ex, hq, q⟩ := hh
  subst ex
  rw [Vals.ref1 r1]
  obtain ⟨its, rv, p', hz⟩ := I1.tuple hq
  refine enumCallT (show s1.heap.IsTuple a its.toArray from p') fun h' he hit hk => wpAny_pyIter_enum he ?_
  have I2 : Inv X pins σ H1 { s1 with heap := h' } := I1.kept (t' := s1.toks) hk
  refine ⟨s1.heap.objs.size + 1, [s1.heap.objs.size + 1, s1.heap.objs.size], _, _, H1, rfl, I2, turn_enumT a (s1.heap.objs.size + 1) s1.heap.objs.size,
    ⟨⟨.none, he⟩, hit, Nat.succ_ne_self _⟩, fun b hb => ?_, q⟩
  have hle : s1.heap.objs.size ≤ b := by
    rcases (show b = s1.heap.objs.size + 1 ∨ b = s1.heap.objs.size by simpa using hb) with z | z
    · rw [z]
      exact Nat.le_add_right _ _
    · rw [z]
      exact Nat.le_refl _
  exact I1.fpOk hle (I1.hok.fresh hle)
theorem walk_enumT {K : PySem.W.Frag} {a : Addr} {xs : List V} : Walk (IteT K a) xs.length (fun H => SqT K H a xs) (YPair (fun i => some (.int (i : Nat))) (fun i => xs[i]?)) := by
  refine ⟨fun i _ hi q => ⟨xs, xs[i], q, by simp [hi]⟩, fun _ q => ⟨xs, q, rfl⟩, fun i H v H' _ q y => ?_⟩
  obtain ⟨T, x, h1, h2, h3, h4⟩ := y
  exact ⟨T, .int (i : Nat), x, h1, h2, h3, rfl, h4 xs q⟩
end Hd
set_option maxHeartbeats 2000000
/-! The numbers of two heaps. -/
namespace Hd
/-! ### powers of two -/
theorem two_cop {o : Nat} (ho : o % 2 = 1) (k : Nat) : Nat.Coprime o (2 ^ k) := by
  refine Nat.Coprime.pow_right k ?_
  have h1 : Nat.gcd o 2 ∣ 2 := Nat.gcd_dvd_right _ _
  have h2 : Nat.gcd o 2 ∣ o := Nat.gcd_dvd_left _ _
  have h3 : Nat.gcd o 2 ≤ 2 := Nat.le_of_dvd (by decide) h1
  have h4 : Nat.gcd o 2 ≠ 0 := fun z => by
    rw [z] at h1
    have := Nat.eq_zero_of_zero_dvd h1
    omega
  have h5 : Nat.gcd o 2 ≠ 2 := fun z => by
    rw [z] at h2
    have := Nat.mod_eq_zero_of_dvd h2
    omega
  show Nat.gcd o 2 = 1
  omega
theorem odd_pred {d : Nat} (hd : 0 < d) : (2 ^ d - 1) % 2 = 1 := by
  obtain ⟨e, rfl⟩ : ∃ e, d = e + 1 := ⟨d - 1, by omega⟩
  have : 0 < 2 ^ e := Nat.pow_pos (by decide)
  rw [Nat.pow_succ]
  omega
theorem pow_dvd_pow_mul {t i n : Nat} (hn : n % 2 = 1) : 2 ^ t ∣ 2 ^ i * n ↔ t ≤ i := by
  refine ⟨fun h => ?_, fun h => Nat.dvd_trans (Nat.pow_dvd_pow 2 h) (Nat.dvd_mul_right _ _)⟩
  have h2 : 2 ^ t ∣ 2 ^ i := Nat.Coprime.dvd_of_dvd_mul_right (Nat.Coprime.symm (two_cop hn t)) h
  exact (Nat.pow_dvd_pow_iff_le_right (by decide)).mp h2
theorem part_dvd {o t i n : Nat} (ho : o % 2 = 1) (hn : n % 2 = 1) : o * 2 ^ t ∣ 2 ^ i * n ↔ t ≤ i ∧ o ∣ n := by
  constructor
  · intro h
    refine ⟨(pow_dvd_pow_mul hn).mp (Nat.dvd_trans (Nat.dvd_mul_left _ _) h), ?_⟩
    exact Nat.Coprime.dvd_of_dvd_mul_left (two_cop ho i) (Nat.dvd_trans (Nat.dvd_mul_right _ _) h)
  · rintro ⟨h1, h2⟩
    rw [Nat.mul_comm]
    exact Nat.mul_dvd_mul (Nat.pow_dvd_pow 2 h1) h2
theorem part_pow {o t k : Nat} (ho : o % 2 = 1) : o * 2 ^ t ∣ 2 ^ k ↔ o = 1 ∧ t ≤ k := by
  have e := part_dvd (o := o) (t := t) (i := k) (n := 1) ho (by decide)
  rw [Nat.mul_one] at e
  rw [e]
  constructor
  · rintro ⟨h1, h2⟩
    exact ⟨Nat.eq_one_of_dvd_one h2, h1⟩
  · rintro ⟨h1, h2⟩
    exact ⟨h2, by rw [h1]; exact Nat.dvd_refl 1⟩
theorem part_one {o t o' t' : Nat} (ho : o % 2 = 1) (ho' : o' % 2 = 1) (h : o * 2 ^ t = o' * 2 ^ t') : o = o' ∧ t = t' := by
  have a1 : t ≤ t' := by
    have z : 2 ^ t ∣ 2 ^ t' * o' := by
      rw [Nat.mul_comm, ← h]
      exact Nat.dvd_mul_left _ _
    exact (pow_dvd_pow_mul ho').mp z
  have a2 : t' ≤ t := by
    have z : 2 ^ t' ∣ 2 ^ t * o := by
      rw [Nat.mul_comm, h]
      exact Nat.dvd_mul_left _ _
    exact (pow_dvd_pow_mul ho).mp z
  have e : t = t' := by omega
  subst e
  exact ⟨Nat.eq_of_mul_eq_mul_right (Nat.pow_pos (by decide)) h, rfl⟩
/-! ### two heaps -/
theorem both_mod (a b k : Nat) : ((2 ^ k * a) % (a + b) + (2 ^ k * b) % (a + b)) % (a + b) = 0 := by
  rw [← Nat.add_mod, ← Nat.mul_add, Nat.mul_mod_left]
/-- the odd part and the twos of the reduced sum -/
structure Par (a b o t : Nat) : Prop where
  pos : 0 < a + b
  eq : (a + b) / Nat.gcd a b = o * 2 ^ t
  odd : o % 2 = 1
theorem Par.one {a b o t o' t' : Nat} (p : Par a b o t) (q : Par a b o' t') : o = o' ∧ t = t' := part_one p.odd q.odd (p.eq.symm.trans q.eq)
section
variable {a b o t : Nat} (p : Par a b o t)
include p
theorem Par.gpos : 0 < Nat.gcd a b := Nat.gcd_pos_iff.mpr (by have := p.pos; omega)
theorem Par.sum : a + b = Nat.gcd a b * (o * 2 ^ t) := by
  rw [← p.eq]
  exact (Nat.mul_div_cancel' (Nat.dvd_add (Nat.gcd_dvd_left a b) (Nat.gcd_dvd_right a b))).symm
theorem Par.dvd (x : Nat) : a + b ∣ x * a ↔ o * 2 ^ t ∣ x := by
  have g0 := p.gpos
  obtain ⟨a', ha⟩ := Nat.gcd_dvd_left a b
  obtain ⟨b', hb⟩ := Nat.gcd_dvd_right a b
  have hs := p.sum
  have hc : Nat.Coprime a' b' := by
    have e : Nat.gcd a b * Nat.gcd a' b' = Nat.gcd a b * 1 := by
      rw [← Nat.gcd_mul_left, ← ha, ← hb, Nat.mul_one]
    exact Nat.eq_of_mul_eq_mul_left g0 e
  have hr : o * 2 ^ t = a' + b' := by
    have e : Nat.gcd a b * (o * 2 ^ t) = Nat.gcd a b * (a' + b') := by
      rw [← hs, Nat.mul_add, ← ha, ← hb]
    exact Nat.eq_of_mul_eq_mul_left g0 e
  have hc2 : Nat.Coprime (a' + b') a' := by
    show Nat.gcd (a' + b') a' = 1
    rw [Nat.gcd_comm, Nat.gcd_self_add_right]
    exact hc
  constructor
  · intro h
    have h' : Nat.gcd a b * (o * 2 ^ t) ∣ Nat.gcd a b * (x * a') := by
      rw [← hs]
      have e : Nat.gcd a b * (x * a') = x * a := by
        rw [Nat.mul_left_comm, ← ha]
      rw [e]
      exact h
    have h2 := Nat.dvd_of_mul_dvd_mul_left g0 h'
    rw [hr] at h2 ⊢
    exact Nat.Coprime.dvd_of_dvd_mul_right hc2 h2
  · intro h
    rw [hs]
    have e : x * a = Nat.gcd a b * (x * a') := by
      rw [Nat.mul_left_comm, ← ha]
    rw [e]
    exact Nat.mul_dvd_mul_left _ (Nat.dvd_trans h (Nat.dvd_mul_right _ _))
/-- one heap is empty behind k steps -/
theorem Par.zero (k : Nat) : (2 ^ k * a) % (a + b) = 0 ↔ o = 1 ∧ t ≤ k := by
  rw [← part_pow p.odd, ← p.dvd (2 ^ k)]
  exact ⟨Nat.dvd_of_mod_eq_zero, Nat.mod_eq_zero_of_dvd⟩
theorem Par.zero' (k : Nat) : (2 ^ k * b) % (a + b) = 0 ↔ o = 1 ∧ t ≤ k := by
  rw [← p.zero k]
  have s0 := p.pos
  have h := both_mod a b k
  have l1 := Nat.mod_lt (2 ^ k * a) s0
  have l2 := Nat.mod_lt (2 ^ k * b) s0
  constructor
  · intro e
    rw [e, Nat.add_zero, Nat.mod_eq_of_lt l1] at h
    exact h
  · intro e
    rw [e, Nat.zero_add, Nat.mod_eq_of_lt l2] at h
    exact h
end
/-- where the walk is behind k steps -/
def wpos (a b o t k : Nat) : Nat × Nat := if o = 1 ∧ t ≤ k then (if t = 0 then (a, b) else (0, a + b)) else ((2 ^ k * a) % (a + b), (2 ^ k * b) % (a + b))
def nxt (x y : Nat) : Nat × Nat := if y ≤ x then (x - y, 2 * y) else (2 * x, y - x)
section
variable {a b o t : Nat} (p : Par a b o t)
include p
theorem Par.live {k : Nat} (h : ¬ (o = 1 ∧ t ≤ k)) : wpos a b o t k = ((2 ^ k * a) % (a + b), (2 ^ k * b) % (a + b)) ∧ 0 < (2 ^ k * a) % (a + b) ∧ 0 < (2 ^ k * b) % (a + b) ∧ (2 ^ k * a) % (a + b) + (2 ^ k * b) % (a + b) = a + b := by
  have s0 := p.pos
  have z1 : (2 ^ k * a) % (a + b) ≠ 0 := fun z => h ((p.zero k).mp z)
  have z2 : (2 ^ k * b) % (a + b) ≠ 0 := fun z => h ((p.zero' k).mp z)
  have hm := both_mod a b k
  have l1 := Nat.mod_lt (2 ^ k * a) s0
  have l2 := Nat.mod_lt (2 ^ k * b) s0
  refine ⟨if_neg h, by omega, by omega, ?_⟩
  by_cases hlt : (2 ^ k * a) % (a + b) + (2 ^ k * b) % (a + b) < a + b
  · rw [Nat.mod_eq_of_lt hlt] at hm
    omega
  · have e : ((2 ^ k * a) % (a + b) + (2 ^ k * b) % (a + b) - (a + b)) % (a + b) = 0 := by
      rw [Nat.mod_eq_sub_mod (by omega)] at hm
      exact hm
    rw [Nat.mod_eq_of_lt (by omega)] at e
    omega
theorem Par.start : wpos a b o t 0 = (a, b) := by
  unfold wpos
  by_cases h : o = 1 ∧ t ≤ 0
  · rw [if_pos h, if_pos (by omega)]
  · obtain ⟨e, h1, h2, h3⟩ := p.live h
    rw [if_neg h]
    simp only [Nat.pow_zero, Nat.one_mul] at h1 h2 h3 ⊢
    have ha : a ≠ a + b := fun z => by
      rw [← z, Nat.mod_self] at h1
      omega
    have hb : b ≠ a + b := fun z => by
      rw [← z, Nat.mod_self] at h2
      omega
    rw [Nat.mod_eq_of_lt (by omega), Nat.mod_eq_of_lt (by omega)]
theorem Par.ended {k : Nat} (h : o = 1 ∧ t ≤ k) : wpos a b o t k = (if t = 0 then (a, b) else (0, a + b)) ∧ ((wpos a b o t k).1 = 0 ∨ (wpos a b o t k).2 = 0) ∧ (wpos a b o t k).1 + (wpos a b o t k).2 = a + b := by
  have e : wpos a b o t k = (if t = 0 then (a, b) else (0, a + b)) := if_pos h
  refine ⟨e, ?_, ?_⟩
  · rw [e]
    by_cases ht : t = 0
    · rw [if_pos ht]
      have z := (p.zero 0).mpr ⟨h.1, by omega⟩
      rw [Nat.pow_zero, Nat.one_mul] at z
      have s0 := p.pos
      by_cases hb : b = 0
      · exact .inr hb
      · rw [Nat.mod_eq_of_lt (by omega)] at z
        exact .inl z
    · rw [if_neg ht]
      exact .inl rfl
  · rw [e]
    by_cases ht : t = 0
    · rw [if_pos ht]
    · rw [if_neg ht]
      exact Nat.zero_add _
theorem Par.step {k : Nat} (h : ¬ (o = 1 ∧ t ≤ k)) : nxt (wpos a b o t k).1 (wpos a b o t k).2 = wpos a b o t (k + 1) := by
  obtain ⟨e, h1, h2, h3⟩ := p.live h
  have d1 : (2 ^ (k + 1) * a) % (a + b) = (2 * ((2 ^ k * a) % (a + b))) % (a + b) := by
    rw [Nat.pow_succ, Nat.mul_comm (2 ^ k) 2, Nat.mul_assoc, Nat.mul_mod_mod]
  have d2 : (2 ^ (k + 1) * b) % (a + b) = (2 * ((2 ^ k * b) % (a + b))) % (a + b) := by
    rw [Nat.pow_succ, Nat.mul_comm (2 ^ k) 2, Nat.mul_assoc, Nat.mul_mod_mod]
  rw [e]
  have z1 := p.zero (k + 1)
  have e1 : wpos a b o t (k + 1) = if o = 1 ∧ t ≤ k + 1 then (if t = 0 then (a, b) else (0, a + b)) else ((2 ^ (k + 1) * a) % (a + b), (2 ^ (k + 1) * b) % (a + b)) := rfl
  rw [e1, d1, d2]
  rw [d1] at z1
  generalize (2 ^ k * a) % (a + b) = x at *
  generalize (2 ^ k * b) % (a + b) = y at *
  unfold nxt
  show (if y ≤ x then (x - y, 2 * y) else (2 * x, y - x)) = _
  have big : ∀ u v : Nat, 0 < v → v < u → u + v = a + b → (2 * u) % (a + b) = u - v := fun u v g0 g q => by
    rw [Nat.mod_eq_sub_mod (by omega), Nat.mod_eq_of_lt (by omega)]
    omega
  by_cases hxy : x = y
  · have z : (2 * x) % (a + b) = 0 := by
      have : 2 * x = a + b := by omega
      rw [this, Nat.mod_self]
    have en := z1.mp z
    rw [if_pos (by omega), if_pos en, if_neg (by omega)]
    rw [hxy] at h3 ⊢
    congr 1
    · omega
    · omega
  · have nz : (2 * x) % (a + b) ≠ 0 := by
      by_cases g : y < x
      · rw [big x y h2 g h3]
        omega
      · rw [Nat.mod_eq_of_lt (by omega)]
        omega
    rw [if_neg (show ¬ (o = 1 ∧ t ≤ k + 1) from fun q => nz (z1.mpr q))]
    by_cases g : y < x
    · rw [if_pos (by omega), big x y h2 g h3, Nat.mod_eq_of_lt (show 2 * y < a + b by omega)]
    · rw [if_neg (by omega), big y x h1 (by omega) (by omega), Nat.mod_eq_of_lt (show 2 * x < a + b by omega)]
theorem Par.still {k : Nat} (h : o = 1 ∧ t ≤ k) : wpos a b o t (k + 1) = wpos a b o t k := by
  rw [(p.ended h).1, (p.ended ⟨h.1, Nat.le_succ_of_le h.2⟩).1]
theorem Par.at_end {k : Nat} (h : o = 1 ∧ t ≤ k) : wpos a b o t k = wpos a b o t t := by
  rw [(p.ended h).1, (p.ended ⟨h.1, Nat.le_refl t⟩).1]
theorem Par.sum_pos (k : Nat) : (wpos a b o t k).1 + (wpos a b o t k).2 = a + b := by
  by_cases h : o = 1 ∧ t ≤ k
  · exact (p.ended h).2.2
  · obtain ⟨e, h1, h2, h3⟩ := p.live h
    rw [e]
    exact h3
/-- the same heaps again -/
theorem Par.again {x d : Nat} (hd : 0 < d) (i : Nat) (hx : x = (2 ^ i * a) % (a + b)) : (2 ^ (i + d) * a) % (a + b) = x ↔ t ≤ i ∧ o ∣ 2 ^ d - 1 := by
  subst hx
  rw [← part_dvd p.odd (odd_pred hd), ← p.dvd]
  have hp : 0 < 2 ^ d := Nat.pow_pos (by decide)
  have e : 2 ^ (i + d) * a = 2 ^ i * a + 2 ^ i * (2 ^ d - 1) * a := by
    rw [← Nat.add_mul, Nat.pow_add]
    congr 1
    have : 2 ^ d = 1 + (2 ^ d - 1) := by omega
    rw (occs := [1]) [this]
    rw [Nat.mul_add, Nat.mul_one]
  rw [e]
  generalize 2 ^ i * a = u
  generalize 2 ^ i * (2 ^ d - 1) * a = v
  generalize hs : a + b = s
  have s0 : 0 < s := by rw [← hs]; exact p.pos
  constructor
  · intro h
    have := Nat.sub_mod_eq_zero_of_mod_eq h
    rw [Nat.add_sub_cancel_left] at this
    exact Nat.dvd_of_mod_eq_zero this
  · rintro ⟨q, rfl⟩
    exact Nat.add_mul_mod_self_left _ _ _
end
/-- the least number of doublings that comes back -/
structure Ord (o k : Nat) : Prop where
  pos : 0 < k
  yes : o ∣ 2 ^ k - 1
  no : ∀ j, 0 < j → j < k → ¬ o ∣ 2 ^ j - 1
theorem ord_some {o : Nat} (ho : o % 2 = 1) : ∃ k, k ≤ o ∧ Ord o k := by
  have hpos : 0 < o := by omega
  -- pigeons
  have two : ∃ i j, i < j ∧ j ≤ o ∧ 2 ^ i % o = 2 ^ j % o := by
    refine Classical.byContradiction fun hn => ?_
    have inj : ∀ i j, i ≤ o → j ≤ o → 2 ^ i % o = 2 ^ j % o → i = j := fun i j hi hj e => by
      rcases Nat.lt_trichotomy i j with h | h | h
      · exact absurd ⟨i, j, h, hj, e⟩ hn
      · exact h
      · exact absurd ⟨j, i, h, hi, e.symm⟩ hn
    have nd : ((List.range (o + 1)).map fun i => 2 ^ i % o).Nodup := by
      refine List.pairwise_map.mpr (List.Pairwise.imp_of_mem (fun {x y} hx hy hxy e => ?_) (List.nodup_range (n := o + 1)))
      exact hxy (inj x y (by have := List.mem_range.mp hx; omega) (by have := List.mem_range.mp hy; omega) e)
    have le := L2.nat_nodup_len _ (List.range o) nd fun x hx => by
      obtain ⟨i, _, rfl⟩ := List.mem_map.mp hx
      exact List.mem_range.mpr (Nat.mod_lt _ hpos)
    rw [List.length_map, List.length_range, List.length_range] at le
    omega
  obtain ⟨i, j, hij, hj, e⟩ := two
  have hd : o ∣ 2 ^ (j - i) - 1 := by
    have h1 := Nat.sub_mod_eq_zero_of_mod_eq e.symm
    have h2 : 2 ^ j - 2 ^ i = 2 ^ i * (2 ^ (j - i) - 1) := by
      rw [Nat.mul_sub, Nat.mul_one, ← Nat.pow_add, Nat.add_sub_cancel' (Nat.le_of_lt hij)]
    rw [h2] at h1
    exact Nat.Coprime.dvd_of_dvd_mul_left (two_cop ho i) (Nat.dvd_of_mod_eq_zero h1)
  have least : ∀ n, (0 < n ∧ o ∣ 2 ^ n - 1) → ∃ k, k ≤ n ∧ Ord o k := by
    intro n
    induction n using Nat.strongRecOn with
    | _ n ih =>
      rintro ⟨h0, h1⟩
      by_cases hm : ∃ m, m < n ∧ 0 < m ∧ o ∣ 2 ^ m - 1
      · obtain ⟨m, a1, a2, a3⟩ := hm
        obtain ⟨k, b1, b2⟩ := ih m a1 ⟨a2, a3⟩
        exact ⟨k, by omega, b2⟩
      · exact ⟨n, Nat.le_refl _, h0, h1, fun j c1 c2 c3 => hm ⟨j, c2, c1, c3⟩⟩
  obtain ⟨k, h1, h2⟩ := least (j - i) ⟨by omega, hd⟩
  exact ⟨k, by omega, h2⟩
theorem Ord.one {o k k' : Nat} (x : Ord o k) (y : Ord o k') : k = k' := by
  rcases Nat.lt_trichotomy k k' with h | h | h
  · exact absurd x.yes (y.no k x.pos h)
  · exact h
  · exact absurd y.yes (x.no k' y.pos h)
theorem mod_one_dvd {o k : Nat} (ho : 1 < o) : 2 ^ k % o = 1 % o ↔ o ∣ 2 ^ k - 1 := by
  have hp : 0 < 2 ^ k := Nat.pow_pos (by decide)
  constructor
  · intro h
    exact Nat.dvd_of_mod_eq_zero (Nat.sub_mod_eq_zero_of_mod_eq h)
  · rintro ⟨q, hq⟩
    have e : 2 ^ k = 1 + o * q := by omega
    rw [e]
    exact Nat.add_mul_mod_self_left _ _ _
theorem twos_some : ∀ n : Nat, 0 < n → ∃ o t, n = o * 2 ^ t ∧ o % 2 = 1 := by
  intro n
  induction n using Nat.strongRecOn with
  | _ n ih =>
    intro h
    by_cases he : n % 2 = 1
    · exact ⟨n, 0, by simp, he⟩
    · obtain ⟨o, t, e, ho⟩ := ih (n / 2) (by omega) (by omega)
      refine ⟨o, t + 1, ?_, ho⟩
      have : n = n / 2 * 2 := by omega
      rw [this, e, Nat.pow_succ, Nat.mul_assoc]
theorem par_some {a b : Nat} (h : 0 < a + b) : ∃ o t, Par a b o t := by
  have g0 : 0 < Nat.gcd a b := Nat.gcd_pos_iff.mpr (by omega)
  have hd : Nat.gcd a b ∣ a + b := Nat.dvd_add (Nat.gcd_dvd_left a b) (Nat.gcd_dvd_right a b)
  obtain ⟨o, t, e, ho⟩ := twos_some ((a + b) / Nat.gcd a b) (Nat.div_pos (Nat.le_of_dvd h hd) g0)
  exact ⟨o, t, h, e, ho⟩
theorem twos_small {n o t k : Nat} (h : n = o * 2 ^ t) (ho : 0 < o) (hn : n < 2 ^ k) : t < k := by
  refine Nat.lt_of_not_le fun z => ?_
  have h1 : 2 ^ k ≤ 2 ^ t := Nat.pow_le_pow_right (by decide) z
  have h2 : 2 ^ t ≤ o * 2 ^ t := Nat.le_mul_of_pos_left _ ho
  omega
theorem Par.small {a b o t k : Nat} (p : Par a b o t) (h : a + b < 2 ^ k) : t < k ∧ o < 2 ^ k := by
  have ho : 0 < o := by have := p.odd; omega
  have hle : (a + b) / Nat.gcd a b ≤ a + b := Nat.div_le_self _ _
  have e := p.eq
  refine ⟨twos_small e ho (by omega), ?_⟩
  have : o ≤ o * 2 ^ t := Nat.le_mul_of_pos_right _ (Nat.pow_pos (by decide))
  omega
/-- an empty heap: the walk has ended -/
theorem Par.empty {a b o t : Nat} (p : Par a b o t) (h : a = 0 ∨ b = 0) : o = 1 ∧ t = 0 := by
  have e := p.eq
  have s0 := p.pos
  have e1 : (a + b) / Nat.gcd a b = 1 := by
    rcases h with h | h
    · subst h
      rw [Nat.gcd_zero_left, Nat.zero_add]
      exact Nat.div_self (by omega)
    · subst h
      rw [Nat.gcd_zero_right, Nat.add_zero]
      exact Nat.div_self (by omega)
  rw [e1] at e
  have q := part_one (o := 1) (t := 0) (by decide) p.odd (by rw [← e])
  exact ⟨q.1.symm, q.2.symm⟩
theorem Par.full {a b o t : Nat} (p : Par a b o t) (h : a ≠ 0 ∧ b ≠ 0) (ho : o = 1) : t ≠ 0 := fun ht => by
  have z := (p.zero 0).mpr ⟨ho, by omega⟩
  rw [Nat.pow_zero, Nat.one_mul, Nat.mod_eq_of_lt (by omega)] at z
  omega
end Hd
set_option maxHeartbeats 4000000
/-! Counting: those prime to a number, the divisors' classes, the powers of two by an odd number. -/
namespace Hd
/-- how many below n -/
def cnt (n : Nat) (p : Nat → Bool) : Nat := (List.range n).countP p
theorem cnt_zero (p : Nat → Bool) : cnt 0 p = 0 := rfl
theorem cnt_succ (n : Nat) (p : Nat → Bool) : cnt (n + 1) p = cnt n p + if p n = true then 1 else 0 := by
  unfold cnt
  rw [List.range_succ, List.countP_append, List.countP_cons, List.countP_nil, Nat.zero_add]
theorem cnt_congr {n : Nat} {p q : Nat → Bool} (h : ∀ x, x < n → p x = q x) : cnt n p = cnt n q := by
  induction n with
  | zero => rfl
  | succ n ih => rw [cnt_succ, cnt_succ, ih fun x hx => h x (by omega), h n (by omega)]
theorem cnt_add (a b : Nat) (p : Nat → Bool) : cnt (a + b) p = cnt a p + cnt b fun y => p (a + y) := by
  induction b with
  | zero => rw [cnt_zero, Nat.add_zero, Nat.add_zero]
  | succ b ih => rw [← Nat.add_assoc, cnt_succ, cnt_succ, ih, Nat.add_assoc]
theorem cnt_split (n : Nat) (p q : Nat → Bool) : cnt n p = cnt n (fun x => p x && q x) + cnt n fun x => p x && !q x := by
  induction n with
  | zero => rfl
  | succ n ih =>
    rw [cnt_succ, cnt_succ, cnt_succ, ih]
    cases p n <;> cases q n <;> simp <;> omega
theorem cnt_none {n : Nat} {p : Nat → Bool} (h : ∀ x, x < n → p x = false) : cnt n p = 0 := by
  induction n with
  | zero => rfl
  | succ n ih => rw [cnt_succ, ih fun x hx => h x (by omega), h n (by omega), if_neg (by decide)]
theorem cnt_mul {g : Nat} (hg : 0 < g) (m : Nat) (p : Nat → Bool) : cnt (g * m) (fun x => decide (g ∣ x) && p (x / g)) = cnt m p := by
  induction m with
  | zero => rfl
  | succ m ih =>
    rw [Nat.mul_succ, cnt_add, ih, cnt_succ]
    congr 1
    obtain ⟨k, rfl⟩ : ∃ k, g = k + 1 := ⟨g - 1, by omega⟩
    rw [show k + 1 = 1 + k by omega, cnt_add, cnt_succ, cnt_zero, Nat.zero_add, cnt_none, Nat.add_zero]
    · rw [Nat.add_zero, decide_eq_true (Nat.dvd_mul_right _ _), Bool.true_and, Nat.mul_div_cancel_left _ (by omega)]
    · intro x hx
      rw [decide_eq_false, Bool.false_and]
      intro hd
      have := (Nat.dvd_add_right (Nat.dvd_mul_right (1 + k) m)).mp hd
      have := Nat.le_of_dvd (by omega) this
      omega
theorem cnt_period {a : Nat} {p : Nat → Bool} (h : ∀ x, p (a + x) = p x) : ∀ m, cnt (m * a) p = m * cnt a p
  | 0 => by rw [Nat.zero_mul, Nat.zero_mul, cnt_zero]
  | m + 1 => by
    rw [Nat.succ_mul, Nat.add_comm (m * a), cnt_add, cnt_congr (fun x _ => h x), cnt_period h m, Nat.succ_mul, Nat.add_comm]
/-- how many below d are prime to it -/
def phi (d : Nat) : Nat := cnt d fun y => decide (Nat.gcd y d = 1)
theorem phi_one : phi 1 = 1 := by decide
theorem cop_period (a x : Nat) : decide (Nat.gcd (a + x) a = 1) = decide (Nat.gcd x a = 1) := by
  have e : Nat.gcd (a + x) a = Nat.gcd x a := by rw [Nat.gcd_comm, Nat.gcd_self_add_right, Nat.gcd_comm]
  simp only [e]
theorem phi_grow {a f k : Nat} (hpr : ∀ x, Nat.gcd x f = 1 ∨ f ∣ x) (hf : 2 ≤ f) (hfa : Nat.gcd f a = 1) : phi (a * f ^ (k + 1)) + f ^ k * phi a = f ^ (k + 1) * phi a := by
  have e1 : cnt (f ^ (k + 1) * a) (fun x => decide (Nat.gcd x a = 1)) = f ^ (k + 1) * phi a := cnt_period (cop_period a) _
  have e2 := cnt_split (f ^ (k + 1) * a) (fun x => decide (Nat.gcd x a = 1)) fun x => decide (f ∣ x)
  have e3 : cnt (f ^ (k + 1) * a) (fun x => decide (Nat.gcd x a = 1) && !decide (f ∣ x)) = phi (a * f ^ (k + 1)) := by
    unfold phi
    rw [Nat.mul_comm]
    refine cnt_congr fun x _ => ?_
    rw [Bool.eq_iff_iff]
    simp only [Bool.and_eq_true, decide_eq_true_eq, Bool.not_eq_true', decide_eq_false_iff_not]
    constructor
    · rintro ⟨h1, h2⟩
      have h3 : Nat.gcd x f = 1 := (hpr x).resolve_right h2
      exact Nat.Coprime.mul_right h1 (Nat.Coprime.pow_right _ h3)
    · intro h
      refine ⟨Nat.Coprime.coprime_mul_right_right h, fun hd => ?_⟩
      have h2 : Nat.Coprime x (f ^ (k + 1)) := Nat.Coprime.coprime_mul_left_right h
      rw [Nat.pow_succ] at h2
      have h3 : Nat.Coprime x f := Nat.Coprime.coprime_mul_left_right h2
      have h4 : f ∣ Nat.gcd x f := Nat.dvd_gcd hd (Nat.dvd_refl f)
      rw [h3] at h4
      have := Nat.le_of_dvd (by decide) h4
      omega
  have e4 : cnt (f ^ (k + 1) * a) (fun x => decide (Nat.gcd x a = 1) && decide (f ∣ x)) = f ^ k * phi a := by
    have : f ^ (k + 1) * a = f * (f ^ k * a) := by rw [Nat.pow_succ, Nat.mul_comm (f ^ k), Nat.mul_assoc]
    show _ = f ^ k * cnt a fun y => decide (Nat.gcd y a = 1)
    rw [this, ← cnt_period (a := a) (p := fun y => decide (Nat.gcd y a = 1)) (cop_period a) (f ^ k), ← cnt_mul (show 0 < f by omega) (f ^ k * a)]
    refine cnt_congr fun x _ => ?_
    by_cases hd : f ∣ x
    · rw [decide_eq_true hd, Bool.and_true, Bool.true_and]
      obtain ⟨y, rfl⟩ := hd
      have e := Nat.Coprime.gcd_mul_left_cancel y hfa
      rw [Nat.mul_div_cancel_left _ (by omega)]
      simp only [e]
    · rw [decide_eq_false hd, Bool.and_false, Bool.false_and]
  omega
/-- so many have this quotient -/
theorem phi_class {n d : Nat} (hn : 0 < n) (hd : d ∣ n) : cnt n (fun x => decide (n / Nat.gcd x n = d)) = phi d := by
  obtain ⟨g, rfl⟩ := hd
  have d0 : 0 < d := Nat.pos_of_mul_pos_right hn
  have g0 : 0 < g := Nat.pos_of_mul_pos_left hn
  rw [Nat.mul_comm d g]
  unfold phi
  rw [← cnt_mul g0 d]
  refine cnt_congr fun x _ => ?_
  rw [Bool.eq_iff_iff]
  simp only [Bool.and_eq_true, decide_eq_true_eq]
  constructor
  · intro h
    have h1 : Nat.gcd x (g * d) ∣ g * d := Nat.gcd_dvd_right _ _
    have h2 := Nat.div_mul_cancel h1
    rw [h] at h2
    have h3 : Nat.gcd x (g * d) = g := Nat.eq_of_mul_eq_mul_left d0 (by rw [h2, Nat.mul_comm])
    have h4 : g ∣ x := by
      rw [← h3]
      exact Nat.gcd_dvd_left _ _
    obtain ⟨y, rfl⟩ := h4
    refine ⟨Nat.dvd_mul_right _ _, ?_⟩
    rw [Nat.mul_div_cancel_left _ g0]
    rw [Nat.gcd_mul_left] at h3
    exact Nat.eq_of_mul_eq_mul_left g0 (by rw [h3, Nat.mul_one])
  · rintro ⟨⟨y, rfl⟩, h⟩
    rw [Nat.mul_div_cancel_left _ g0] at h
    rw [Nat.gcd_mul_left, h, Nat.mul_one, Nat.mul_div_cancel_left _ g0]
/-- a sum over l told by classes -/
theorem sum_pick {D : List Nat} (h : D.Nodup) (f : Nat → Nat) (y : Nat) : (D.map fun d => f d * if y = d then 1 else 0).sum = if y ∈ D then f y else 0 := by
  induction D with
  | nil => rfl
  | cons d D ih =>
    obtain ⟨h1, h2⟩ := List.nodup_cons.mp h
    rw [List.map_cons, List.sum_cons, ih h2]
    by_cases e : y = d
    · subst e
      rw [if_pos rfl, if_neg h1, if_pos List.mem_cons_self]
      omega
    · rw [if_neg e, Nat.mul_zero, Nat.zero_add]
      by_cases m : y ∈ D
      · rw [if_pos m, if_pos (List.mem_cons_of_mem _ m)]
      · rw [if_neg m, if_neg fun z => (List.mem_cons.mp z).elim e m]
theorem sum_part {D : List Nat} (hD : D.Nodup) (f g : Nat → Nat) : ∀ {l : List Nat}, (∀ x ∈ l, f (g x) ≠ 0 → g x ∈ D) → (l.map fun x => f (g x)).sum = (D.map fun d => f d * l.countP fun x => decide (g x = d)).sum
  | [], _ => by
    rw [List.map_nil, List.sum_nil]
    have : ∀ D : List Nat, (D.map fun d => f d * ([] : List Nat).countP fun x => decide (g x = d)).sum = 0 := fun D => by
      induction D with
      | nil => rfl
      | cons d D ih => rw [List.map_cons, List.sum_cons, ih, List.countP_nil, Nat.mul_zero]
    exact (this D).symm
  | x :: l, h => by
    have ih := sum_part hD f g (l := l) fun y hy => h y (List.mem_cons_of_mem _ hy)
    rw [List.map_cons, List.sum_cons, ih]
    have e : ∀ D : List Nat, (D.map fun d => f d * (x :: l).countP fun x => decide (g x = d)).sum = (D.map fun d => f d * if g x = d then 1 else 0).sum + (D.map fun d => f d * l.countP fun x => decide (g x = d)).sum := fun D => by
      induction D with
      | nil => rfl
      | cons d D ih =>
        simp only [List.map_cons, List.sum_cons]
        rw [ih, List.countP_cons, Nat.mul_add]
        simp only [decide_eq_true_eq]
        omega
    rw [e, sum_pick hD]
    by_cases m : g x ∈ D
    · rw [if_pos m]
    · rw [if_neg m]
      have : f (g x) = 0 := Classical.byContradiction fun z => m (h x List.mem_cons_self z)
      rw [this]
/-! ### the powers of two -/
def prodL : List Nat → Nat
  | [] => 1
  | x :: r => x * prodL r
theorem prodL_perm {l m : List Nat} (h : l.Perm m) : prodL l = prodL m := by
  induction h with
  | nil => rfl
  | cons x _ ih => rw [prodL, prodL, ih]
  | swap x y l => rw [prodL, prodL, prodL, prodL, Nat.mul_left_comm]
  | trans _ _ a b => rw [a, b]
theorem prodL_cop {d : Nat} : ∀ {l : List Nat}, (∀ x ∈ l, Nat.gcd x d = 1) → Nat.gcd (prodL l) d = 1
  | [], _ => Nat.gcd_one_left d
  | x :: l, h => Nat.Coprime.mul_left (h x List.mem_cons_self) (prodL_cop fun y hy => h y (List.mem_cons_of_mem _ hy))
theorem prodL_two {d : Nat} : ∀ l : List Nat, prodL (l.map fun u => 2 * u % d) % d = (2 ^ l.length * prodL l) % d
  | [] => rfl
  | x :: l => by
    rw [List.map_cons, prodL, prodL, List.length_cons, Nat.mul_mod, prodL_two l, Nat.mod_mod, ← Nat.mul_mod, Nat.pow_succ]
    congr 1
    rw [Nat.mul_assoc, Nat.mul_assoc, Nat.mul_left_comm, Nat.mul_left_comm x, ← Nat.mul_assoc 2]
    rw [Nat.mul_left_comm, Nat.mul_assoc 2]
theorem euler_two {d : Nat} (hd : d % 2 = 1) : d ∣ 2 ^ phi d - 1 := by
  by_cases h1 : d = 1
  · subst h1
    exact Nat.one_dvd _
  have hd1 : 1 < d := by omega
  have U_ : ∃ U : List Nat, U = (List.range d).filter fun y => decide (Nat.gcd y d = 1) := ⟨_, rfl⟩
  obtain ⟨U, hU⟩ := U_
  have mU : ∀ x, x ∈ U ↔ x < d ∧ Nat.gcd x d = 1 := fun x => by rw [hU, List.mem_filter, List.mem_range, decide_eq_true_eq]
  have nU : U.Nodup := by rw [hU]; exact List.Pairwise.filter _ List.nodup_range
  have lU : U.length = phi d := by rw [hU, ← List.countP_eq_length_filter]; rfl
  have c2 : Nat.gcd 2 d = 1 := by
    have := two_cop hd 1
    rw [Nat.pow_one] at this
    exact Nat.Coprime.symm this
  have half : 2 * ((d + 1) / 2) = d + 1 := by omega
  have inj : ∀ x y, x < d → y < d → 2 * x % d = 2 * y % d → x = y := fun x y hx hy h => by
    have h1 : (2 * x * ((d + 1) / 2)) % d = (2 * y * ((d + 1) / 2)) % d := by rw [Nat.mul_mod, h, ← Nat.mul_mod]
    have e : ∀ z, 2 * z * ((d + 1) / 2) = z + d * z := fun z => by
      rw [Nat.mul_comm 2, Nat.mul_assoc, half, Nat.mul_add, Nat.mul_one, Nat.add_comm, Nat.mul_comm]
    rw [e, e, Nat.add_mul_mod_self_left, Nat.add_mul_mod_self_left, Nat.mod_eq_of_lt hx, Nat.mod_eq_of_lt hy] at h1
    exact h1
  have nM : (U.map fun u => 2 * u % d).Nodup := by
    rw [List.nodup_iff_pairwise_ne, List.pairwise_map]
    refine List.Pairwise.imp_of_mem (fun {a b} ha hb hab e => ?_) (List.nodup_iff_pairwise_ne.mp nU)
    exact hab (inj a b ((mU a).mp ha).1 ((mU b).mp hb).1 e)
  have cop : ∀ x k, Nat.gcd x d = 1 → Nat.gcd k d = 1 → Nat.gcd (k * x % d) d = 1 := fun x k h hk => by
    rw [← Nat.gcd_rec, Nat.gcd_comm]
    exact Nat.Coprime.mul_left hk h
  have P : (U.map fun u => 2 * u % d).Perm U := by
    refine (List.perm_ext_iff_of_nodup nM nU).mpr fun a => ?_
    rw [List.mem_map, mU]
    constructor
    · rintro ⟨u, hu, rfl⟩
      exact ⟨Nat.mod_lt _ (by omega), cop u 2 ((mU u).mp hu).2 c2⟩
    · rintro ⟨h1, h2⟩
      have ch : Nat.gcd ((d + 1) / 2) d = 1 := by
        have : Nat.gcd ((d + 1) / 2) d ∣ 1 := by
          have a1 : Nat.gcd ((d + 1) / 2) d ∣ d + 1 := by
            exact Nat.dvd_trans (Nat.gcd_dvd_left _ _) ⟨2, by omega⟩
          exact (Nat.dvd_add_right (Nat.gcd_dvd_right _ _)).mp a1
        exact Nat.dvd_one.mp this
      refine ⟨(d + 1) / 2 * a % d, (mU _).mpr ⟨Nat.mod_lt _ (by omega), cop a _ h2 ch⟩, ?_⟩
      rw [Nat.mul_mod_mod, ← Nat.mul_assoc, half, Nat.add_mul, Nat.one_mul, Nat.add_comm, Nat.add_mul_mod_self_left, Nat.mod_eq_of_lt h1]
  have e := prodL_two (d := d) U
  rw [prodL_perm P, lU] at e
  have cp := prodL_cop (d := d) (l := U) fun x hx => ((mU x).mp hx).2
  have e2 : d ∣ 2 ^ phi d * prodL U - prodL U := Nat.dvd_of_mod_eq_zero (Nat.sub_mod_eq_zero_of_mod_eq e.symm)
  · rw [show 2 ^ phi d * prodL U - prodL U = (2 ^ phi d - 1) * prodL U by rw [Nat.sub_mul, Nat.one_mul]] at e2
    exact Nat.Coprime.dvd_of_dvd_mul_right (Nat.Coprime.symm cp) e2
theorem ord_dvd {o k m : Nat} (ho : 1 < o) (h2 : o % 2 = 1) (hO : Ord o k) (h : o ∣ 2 ^ m - 1) : k ∣ m := by
  have hk := hO.pos
  have e1 := (mod_one_dvd ho).mpr hO.yes
  have e2 := (mod_one_dvd ho).mpr h
  have e3 : 2 ^ (k * (m / k)) % o = 1 % o := by
    rw [Nat.pow_mul, Nat.pow_mod, e1, ← Nat.pow_mod, Nat.one_pow]
  have e4 : 2 ^ (m % k) % o = 1 % o := by
    have : 2 ^ m = 2 ^ (k * (m / k)) * 2 ^ (m % k) := by rw [← Nat.pow_add, Nat.div_add_mod]
    rw [this, Nat.mul_mod, e3, ← Nat.mul_mod, Nat.one_mul] at e2
    exact e2
  have e5 := (mod_one_dvd ho).mp e4
  by_cases hz : m % k = 0
  · exact Nat.dvd_of_mod_eq_zero hz
  · exact absurd e5 (hO.no (m % k) (by omega) (Nat.mod_lt _ hk))
theorem ord_phi {o k : Nat} (ho : 1 < o) (h2 : o % 2 = 1) (hO : Ord o k) : k ∣ phi o := ord_dvd ho h2 hO (euler_two h2)
end Hd
set_option maxHeartbeats 4000000
/-! The totient by trial; the events of rings, tails and ends. -/
namespace Hd
/-- within the trial: left is what is left of N, free is its share -/
structure To (N left fac free : Nat) : Prop where
  dn : ∃ done, N = left * done ∧ Nat.gcd left done = 1 ∧ free = left * phi done
  no : ∀ e, 2 ≤ e → e < fac → ¬ e ∣ left
  f2 : 2 ≤ fac
  lo : left = 1 ∨ fac ≤ left
  pos : 0 < left
theorem To.start {N : Nat} (h : 0 < N) : To N N 2 N := ⟨⟨1, by omega, Nat.gcd_one_right N, by rw [phi_one]; omega⟩, fun e h1 h2 => by omega, by decide, by omega, h⟩
theorem To.end {N fac free : Nat} (h : To N 1 fac free) : free = phi N := by
  obtain ⟨d, h1, h2, h3⟩ := h.dn
  rw [Nat.one_mul] at h1 h3
  rw [h3, h1]
/-- the trial's factor is left itself where it has no smaller one -/
theorem To.fac {N left fac free : Nat} (h : To N left fac free) (hl : 1 < left) (f : Nat) (hf : f = if fac * fac > left then left else fac) : To N left f free ∧ f ≤ left ∧ (¬ f ∣ left → f = fac ∧ f < left) := by
  have h2 := h.f2
  have lo : fac ≤ left := h.lo.resolve_left (by omega)
  by_cases c : fac * fac > left
  · rw [if_pos c] at hf
    subst hf
    refine ⟨⟨h.dn, fun e e1 e2 hd => ?_, hl, .inr (Nat.le_refl _), h.pos⟩, Nat.le_refl _, fun z => absurd (Nat.dvd_refl _) z⟩
    obtain ⟨q, hq⟩ := hd
    have q2 : 2 ≤ q := by
      rcases Nat.lt_or_ge q 2 with z | z
      · have : q = 0 ∨ q = 1 := by omega
        rcases this with z | z <;> subst z <;> omega
      · exact z
    have n1 : fac ≤ e := by
      rcases Nat.lt_or_ge e fac with z | z
      · exact absurd ⟨q, hq⟩ (h.no e e1 z)
      · exact z
    have n2 : fac ≤ q := by
      rcases Nat.lt_or_ge q fac with z | z
      · exact absurd ⟨e, by rw [Nat.mul_comm]; exact hq⟩ (h.no q q2 z)
      · exact z
    have := Nat.mul_le_mul n1 n2
    omega
  · rw [if_neg c] at hf
    subst hf
    refine ⟨h, lo, fun _ => ⟨rfl, ?_⟩⟩
    have := Nat.mul_le_mul_right f h2
    omega
/-- nothing of it is there -/
theorem To.skip {N left f free : Nat} (h : To N left f free) (hn : ¬ f ∣ left) (hlt : f < left) : To N left (f + 1) free :=
  ⟨h.dn, fun e e1 e2 => by
    rcases Nat.lt_or_ge e f with z | z
    · exact h.no e e1 z
    · have : e = f := by omega
      rw [this]
      exact hn, by have := h.f2; omega, .inr hlt, h.pos⟩
theorem To.prime {N left f free : Nat} (h : To N left f free) (hd : f ∣ left) (x : Nat) : Nat.gcd x f = 1 ∨ f ∣ x := by
  have f2 := h.f2
  have g1 := Nat.gcd_dvd_right x f
  have g0 : 0 < Nat.gcd x f := Nat.gcd_pos_of_pos_right _ (by omega)
  rcases Nat.lt_or_ge (Nat.gcd x f) f with z | z
  · left
    rcases Nat.lt_or_ge (Nat.gcd x f) 2 with y | y
    · omega
    · exact absurd (Nat.dvd_trans g1 hd) (h.no _ y z)
  · right
    have : Nat.gcd x f = f := Nat.le_antisymm (Nat.le_of_dvd (by omega) g1) z
    rw [← this]
    exact Nat.gcd_dvd_left x f
/-- all of it is taken: left was cur times so many of it -/
theorem To.take {N left f free k cur : Nat} (h : To N left f free) (e : left = f ^ (k + 1) * cur) (hn : ¬ f ∣ cur) : To N cur (f + 1) (free - free / f) ∧ 2 * cur ≤ left := by
  have f2 := h.f2
  have hd : f ∣ left := by
    rw [e, Nat.pow_succ, Nat.mul_comm (f ^ k), Nat.mul_assoc]
    exact Nat.dvd_mul_right _ _
  have c0 : 0 < cur := by
    rcases Nat.eq_zero_or_pos cur with z | z
    · have := h.pos
      rw [e, z] at this
      omega
    · exact z
  have cd : cur ∣ left := by
    rw [e]
    exact Nat.dvd_mul_left _ _
  have fp : 0 < f ^ k := Nat.pow_pos (by omega)
  have cop : Nat.gcd cur f = 1 := (h.prime hd cur).resolve_right hn
  have l2 : 2 * cur ≤ left := by
    rw [e, Nat.pow_succ]
    have a1 := Nat.mul_le_mul (show 1 ≤ f ^ k from fp) f2
    rw [Nat.one_mul] at a1
    exact Nat.mul_le_mul_right cur a1
  obtain ⟨done, h1, h2, h3⟩ := h.dn
  have fd : Nat.gcd f done = 1 := Nat.Coprime.coprime_dvd_left hd h2
  refine ⟨⟨⟨done * f ^ (k + 1), ?_, ?_, ?_⟩, fun x x1 x2 hx => ?_, by omega, ?_, c0⟩, l2⟩
  · rw [h1, e]
    rw [Nat.mul_comm (f ^ (k + 1)) cur, Nat.mul_assoc, Nat.mul_comm (f ^ (k + 1))]
  · refine Nat.Coprime.mul_right (Nat.Coprime.coprime_dvd_left cd h2) (Nat.Coprime.pow_right _ cop)
  · have g := phi_grow (a := done) (k := k) (h.prime hd) f2 fd
    have e1 : free = f * (f ^ k * cur * phi done) := by
      rw [h3, e, Nat.pow_succ]
      rw [Nat.mul_comm (f ^ k) f, Nat.mul_assoc, Nat.mul_assoc, Nat.mul_assoc]
    have e2 : free / f = f ^ k * cur * phi done := by rw [e1, Nat.mul_div_cancel_left _ (by omega)]
    rw [e2, h3, e]
    have e3 : f ^ (k + 1) * cur * phi done = cur * (f ^ (k + 1) * phi done) := by rw [Nat.mul_comm (f ^ (k + 1)) cur, Nat.mul_assoc]
    have e4 : f ^ k * cur * phi done = cur * (f ^ k * phi done) := by rw [Nat.mul_comm (f ^ k) cur, Nat.mul_assoc]
    rw [e3, e4, ← Nat.mul_sub, ← g, Nat.add_sub_cancel]
  · rcases Nat.lt_or_ge x f with z | z
    · exact h.no x x1 z (Nat.dvd_trans hx cd)
    · have : x = f := by omega
      rw [this] at hx
      exact hn hx
  · rcases Nat.lt_or_ge cur 2 with z | z
    · left
      omega
    · right
      rcases Nat.lt_or_ge cur f with y | y
      · exact absurd cd (h.no cur z y)
      · have : cur ≠ f := fun z => hn (by rw [z]; exact Nat.dvd_refl _)
        omega
/-! ### the classes of a sum's standings -/
/-- the odd divisors above 1, in order -/
def divs (odd : Nat) : List Nat := ((List.range ((odd - 1) / 2)).map fun i => 3 + 2 * i).filter fun d => decide (odd % d = 0)
theorem divs_nodup (odd : Nat) : (divs odd).Nodup := by
  refine List.Pairwise.filter _ (List.pairwise_map.mpr (List.Pairwise.imp (fun {a b} (h : a ≠ b) => ?_) List.nodup_range))
  show 3 + 2 * a ≠ 3 + 2 * b
  omega
theorem mem_divs {odd d : Nat} (ho : odd % 2 = 1) : d ∈ divs odd ↔ d ∣ odd ∧ 1 < d := by
  unfold divs
  rw [List.mem_filter, List.mem_map, decide_eq_true_eq]
  constructor
  · rintro ⟨⟨i, _, rfl⟩, h⟩
    exact ⟨Nat.dvd_of_mod_eq_zero h, by omega⟩
  · rintro ⟨h1, h2⟩
    have le := Nat.le_of_dvd (by omega) h1
    have od : d % 2 = 1 := by
      rcases Nat.mod_two_eq_zero_or_one d with z | z
      · have : 2 ∣ odd := Nat.dvd_trans (Nat.dvd_of_mod_eq_zero z) h1
        omega
      · exact z
    refine ⟨⟨(d - 3) / 2, List.mem_range.mpr (by omega), by omega⟩, Nat.mod_eq_zero_of_dvd h1⟩
theorem divs_odd {odd d : Nat} (ho : odd % 2 = 1) (h : d ∈ divs odd) : d % 2 = 1 ∧ 3 ≤ d := by
  have h1 := (mem_divs ho).mp h
  have od : d % 2 = 1 := by
    rcases Nat.mod_two_eq_zero_or_one d with z | z
    · have : 2 ∣ odd := Nat.dvd_trans (Nat.dvd_of_mod_eq_zero z) h1.1
      omega
    · exact z
  exact ⟨od, by omega⟩
theorem sum_map_congr {α : Type} {f g : α → Nat} : ∀ {l : List α}, (∀ x ∈ l, f x = g x) → (l.map f).sum = (l.map g).sum
  | [], _ => rfl
  | x :: l, h => by rw [List.map_cons, List.map_cons, List.sum_cons, List.sum_cons, h x List.mem_cons_self, sum_map_congr fun y hy => h y (List.mem_cons_of_mem _ hy)]
/-- a weight of the odd classes above 1, summed over all places -/
theorem sum_odd {n odd : Nat} (hn : 0 < n) (ho : odd % 2 = 1) (hd : odd ∣ n) (f : Nat → Nat) (hf : ∀ x, x < n → f (n / Nat.gcd x n) ≠ 0 → n / Nat.gcd x n ∈ divs odd) :
    ((List.range n).map fun x => f (n / Nat.gcd x n)).sum = ((divs odd).map fun d => f d * phi d).sum := by
  rw [sum_part (divs_nodup odd) f (fun x => n / Nat.gcd x n) fun x hx => hf x (List.mem_range.mp hx)]
  refine sum_map_congr fun d hdd => ?_
  congr 1
  exact phi_class hn (Nat.dvd_trans ((mem_divs ho).mp hdd).1 hd)
theorem gauss {odd : Nat} (ho : odd % 2 = 1) : ((divs odd).map phi).sum = odd - 1 := by
  have h := sum_odd (n := odd) (odd := odd) (by omega) ho (Nat.dvd_refl _) (fun d => if 1 < d then 1 else 0) fun x hx hne => by
    have c : 1 < odd / Nat.gcd x odd := Classical.byContradiction fun z => hne (if_neg z)
    exact (mem_divs ho).mpr ⟨Nat.div_dvd_of_dvd (Nat.gcd_dvd_right _ _), c⟩
  have e1 : ((divs odd).map fun d => (if 1 < d then 1 else 0) * phi d).sum = ((divs odd).map phi).sum := sum_map_congr fun d hd => by
    rw [if_pos ((mem_divs ho).mp hd).2, Nat.one_mul]
  rw [← e1, ← h]
  have e2 : ∀ l : List Nat, (∀ x ∈ l, x ≠ 0 ∧ x < odd) → (l.map fun x => if 1 < odd / Nat.gcd x odd then 1 else 0).sum = l.length := fun l => by
    induction l with
    | nil => intro _; rfl
    | cons x l ih =>
      intro hl
      obtain ⟨x0, x1⟩ := hl x List.mem_cons_self
      have g1 : Nat.gcd x odd ≤ x := Nat.le_of_dvd (by omega) (Nat.gcd_dvd_left _ _)
      have g2 := Nat.div_mul_cancel (Nat.gcd_dvd_right x odd)
      have c : 1 < odd / Nat.gcd x odd := by
        rcases Nat.lt_or_ge 1 (odd / Nat.gcd x odd) with z | z
        · exact z
        · have := Nat.mul_le_mul_right (Nat.gcd x odd) z
          omega
      rw [List.map_cons, List.sum_cons, if_pos c, ih fun y hy => hl y (List.mem_cons_of_mem _ hy), List.length_cons, Nat.add_comm]
  obtain ⟨m, rfl⟩ : ∃ m, odd = m + 1 := ⟨odd - 1, by omega⟩
  rw [List.range_succ_eq_map, List.map_cons, List.sum_cons, Nat.gcd_zero_left, Nat.div_self (by omega), if_neg (by decide), Nat.zero_add, e2, List.length_map, List.length_range]
  · rfl
  · intro x hx
    obtain ⟨y, hy, rfl⟩ := List.mem_map.mp hx
    have := List.mem_range.mp hy
    exact ⟨by omega, by omega⟩
end Hd
set_option maxHeartbeats 4000000
/-! sorted(d.items()), d a dict of ints by ints. -/
namespace Hd
open PySem PySem.Spec PyProof.Rows L2
/-- a tuple of two ints at each address -/
def PairsAt (H : Hp) (ts : List Addr) (qs : List (Int × Int)) : Prop := Paired (fun (t : Addr) (q : Int × Int) => H t = some (.tup [.int q.1, .int q.2])) ts qs
def ltQ (p q : Int × Int) : Bool := SrtO.lexB p q
/-- sorted: no later one is below an earlier one -/
def SrtQ (qs : List (Int × Int)) : Prop := qs.Pairwise fun p q => SrtO.lexB q p = false
abbrev dRow (p : Int × Int) : L2.Key × V := (Sum.inl p.1, V.int p.2)
def rSortedItems : V → Hp → VK → Prop := fun x H Q => ∃ (d : Addr) (ps : List (Int × Int)), x = .ref d ∧ H d = some (.dK (ps.map dRow)) ∧
  ∀ (H' : Hp) (p : Addr) (ts : List Addr) (qs : List (Int × Int)), Same H H' → H p = none → qs.Perm ps → SrtQ qs → H' p = some (.lst (ts.map V.ref)) → PairsAt H' ts qs → Q (.ref p) H'
def tSortedItems (te : TE) : TE := fun σ H Q => te σ H fun x H1 => rSortedItems x H1 Q
theorem pairs_get {prog : Program} {w : World} {K : Type} [DecidableEq K] {knd : KeyKind prog w K} : ∀ {es : List DictEntry} {kvs : List (K × Value)}, PySem.Pairs knd es kvs → ∀ {j : Nat} {e : DictEntry}, es[j]? = some e → ∃ k x, kvs[j]? = some (k, x) ∧ knd.is k e.key = true ∧ e.val = x
  | _, _, .nil, j, e, h => by cases h
  | _, _, .cons a b t, 0, e, h => by
    cases h
    exact ⟨_, _, rfl, a, b⟩
  | _, _, .cons a b t, j + 1, e, h => pairs_get t h
theorem srtd_q {k : Value → Int × Int} {out : List Value} (h : SrtO.Srtd (fun v u => SrtO.lexB (k v) (k u)) out) : SrtQ (out.map k) := List.pairwise_map.mpr h
theorem paired_map {α β γ : Type} {F : β → γ → Prop} (f : α → β) (g : α → γ) : ∀ {l : List α}, (∀ x ∈ l, F (f x) (g x)) → Paired F (l.map f) (l.map g)
  | [], _ => .nil
  | x :: l, h => .cons (h x List.mem_cons_self) (paired_map f g fun y hy => h y (List.mem_cons_of_mem _ hy))
theorem zip_maps {α β γ δ : Type} (f : α → γ) (g : β → δ) : ∀ (as : List α) (bs : List β), as.length = bs.length → (as.zip bs).map (fun z => f z.1) = as.map f ∧ (as.zip bs).map (fun z => g z.2) = bs.map g
  | [], [], _ => ⟨rfl, rfl⟩
  | [], _ :: _, h => by cases h
  | _ :: _, [], h => by cases h
  | a :: as, b :: bs, h => by
    obtain ⟨h1, h2⟩ := zip_maps f g as bs (Nat.succ.inj h)
    exact ⟨by rw [List.zip_cons_cons, List.map_cons, h1, List.map_cons], by rw [List.zip_cons_cons, List.map_cons, h2, List.map_cons]⟩
theorem perm_back {α β : Type} (f : α → β) : ∀ {L M : List β}, L.Perm M → ∀ xs : List α, M = xs.map f → ∃ ys : List α, L = ys.map f ∧ ys.Perm xs := by
  intro L M p
  induction p with
  | nil => exact fun xs e => ⟨xs, e, List.Perm.refl _⟩
  | cons x p ih =>
    intro xs e
    obtain ⟨y, ys, rfl, e1, e2⟩ := List.map_eq_cons_iff.mp e.symm
    obtain ⟨zs, z1, z2⟩ := ih ys e2.symm
    exact ⟨y :: zs, by rw [List.map_cons, e1, z1], z2.cons y⟩
  | swap x y l =>
    intro xs e
    obtain ⟨u, us, rfl, e1, e2⟩ := List.map_eq_cons_iff.mp e.symm
    obtain ⟨v, vs, rfl, e3, e4⟩ := List.map_eq_cons_iff.mp e2
    exact ⟨v :: u :: vs, by rw [List.map_cons, List.map_cons, e1, e3, e4], List.Perm.swap _ _ _⟩
  | trans p q ih1 ih2 =>
    intro xs e
    obtain ⟨ys, y1, y2⟩ := ih2 xs e
    obtain ⟨zs, z1, z2⟩ := ih1 ys y1
    exact ⟨zs, z1, z2.trans y2⟩
section
variable {X : Cx} {e : Expr} {te : TE} {p apos cpos pos : Pos}
theorem sorted_view {pins : List (Addr × Obj)} {σ : L2.St} {H : Hp} {s : Shared} {d r : Addr} {ps : List (Int × Int)} {Q : VK} (hc : X.calm = true) (I : L2.Inv X pins σ H s) (hd : H d = some (.dK (ps.map dRow))) (hv : s.heap.IsItemsView r d)
    (q : ∀ (H' : Hp) (p : Addr) (ts : List Addr) (qs : List (Int × Int)), Same H H' → H p = none → qs.Perm ps → SrtQ qs → H' p = some (.lst (ts.map V.ref)) → PairsAt H' ts qs → Q (.ref p) H') :
    wpAny (model X.prog X.w) X.A (call (.builtin "sorted") [.ref r]) (EP X pins σ Q) X.xe s := by
  obtain ⟨hz, hs0, vs, kv, hdo⟩ := I.hok d _ hd
  obtain ⟨o, es, ep, ho, hx, hdat, _, hpr, hnd⟩ := hdo
  have l1 : ps.length = vs.length := by
    have := Paired.length kv
    rwa [List.length_map] at this
  have l2 : es.toList.length = vs.length := hpr.length
  rw [List.length_map] at hz
  have l3 : es.size = ps.length := by rw [← Array.length_toList]; omega
  refine DT.sortedI (es := es) (ep := ep) (I.ok.hd hc) hv ⟨o, ho, hx, hdat⟩ (by omega) fun h' tk as hk hlt hl hG => ?_
  have lak : as.length = ps.length := by omega
  have nd : as.Nodup := List.Pairwise.imp (fun h => Nat.ne_of_lt h) hG.rise
  -- the pairs that were made
  have pr : ∀ (j : Nat) (b : Addr), as[j]? = some b → ∃ (z : Int × Int) (t1 t2 : Tok), ps[j]? = some z ∧ h'.get? b = some { cls := .type "tuple", data := .seq #[Value.int z.1 t1, Value.int z.2 t2] } := fun j b hj => by
    obtain ⟨en, he, hg⟩ := hG.pairs j b hj
    have he' : es.toList[j]? = some en := by simpa using he
    obtain ⟨k, x, e1, e2, e3⟩ := pairs_get hpr he'
    have hjl : j < ps.length := by
      have := (List.getElem?_eq_some_iff.mp hj).1
      omega
    have e4 : (ps.map dRow)[j]? = some (dRow ps[j]) := by rw [List.getElem?_map, List.getElem?_eq_getElem hjl]; rfl
    obtain ⟨y, f1, f2, f3⟩ := LiI.paired_get kv e4
    rw [e1] at f1
    cases f1
    have f2' : k = Sum.inl ps[j].1 := f2.symm
    subst f2'
    have rk : RelV (V.int ps[j].1) en.key := relV_key (show keyIs (Sum.inl ps[j].1) en.key = true from e2)
    obtain ⟨t1, ek⟩ := rk
    obtain ⟨t2, ex⟩ := (show RelV (V.int ps[j].2) x from f3)
    refine ⟨ps[j], t1, t2, List.getElem?_eq_getElem hjl, ?_⟩
    rw [hg, ek, e3, ex]
  have fz : ∀ v, v ∈ as → ∃ z : Int × Int, z ∈ ps ∧ ∃ t1 t2, h'.get? v = some { cls := .type "tuple", data := .seq #[Value.int z.1 t1, Value.int z.2 t2] } := fun v hv => by
    obtain ⟨j, hj⟩ := List.mem_iff_getElem?.mp hv
    obtain ⟨z, t1, t2, e1, e2⟩ := pr j v hj
    exact ⟨z, List.mem_of_getElem? e1, t1, t2, e2⟩
  -- which pair stands at an address
  let kz : Addr → Int × Int := fun b => ((as.zip ps).find? fun z => decide (z.1 = b)).elim (0, 0) (·.2)
  have kzj : ∀ (j : Nat) (b : Addr), as[j]? = some b → ∃ t1 t2, h'.get? b = some { cls := .type "tuple", data := .seq #[Value.int (kz b).1 t1, Value.int (kz b).2 t2] } ∧ ps[j]? = some (kz b) := fun j b hj => by
    obtain ⟨z, t1, t2, e1, e2⟩ := pr j b hj
    have ek : kz b = z := by
      have hm : (b, z) ∈ as.zip ps := by
        refine List.mem_of_getElem? (i := j) ?_
        rw [List.getElem?_zip_eq_some]
        exact ⟨hj, e1⟩
      cases ef : (as.zip ps).find? fun z => decide (z.1 = b) with
      | none => exact absurd (List.find?_eq_none.mp ef _ hm) (by simp)
      | some y =>
        have y1 : y.1 = b := of_decide_eq_true (List.find?_some (p := fun z : Addr × (Int × Int) => decide (z.1 = b)) ef)
        have y2 := List.mem_of_find?_eq_some ef
        obtain ⟨i, hi⟩ := List.mem_iff_getElem?.mp y2
        rw [List.getElem?_zip_eq_some] at hi
        obtain ⟨i1, i2⟩ := hi
        rw [y1] at i1
        have hij : i = j := by
          obtain ⟨a1, a2⟩ := List.getElem?_eq_some_iff.mp i1
          obtain ⟨b1, b2⟩ := List.getElem?_eq_some_iff.mp hj
          exact (List.getElem_inj nd).mp (a2.trans b2.symm)
        rw [hij, e1] at i2
        show ((as.zip ps).find? fun z => decide (z.1 = b)).elim (0, 0) (·.2) = z
        rw [ef]
        exact (Option.some.inj i2).symm
    rw [ek]
    exact ⟨t1, t2, e2, e1⟩
  have emap : as.map kz = ps := by
    refine List.ext_getElem? fun j => ?_
    rw [List.getElem?_map]
    cases hj : as[j]? with
    | none =>
      have := List.getElem?_eq_none_iff.mp hj
      exact (List.getElem?_eq_none_iff.mpr (by omega)).symm
    | some b =>
      obtain ⟨_, _, _, e⟩ := kzj j b hj
      exact e.symm
  have hsl : ((as.map Value.ref).toArray).size = as.length := by simp
  -- the heap of the sort
  have hob : (h'.push { cls := .type "list", data := .seq (as.map Value.ref).toArray }).get? h'.objs.size = some (seqObj "list" (as.map Value.ref).toArray 0) := Heap.get?_push_size _ rfl
  let kV' : Value → Int × Int := fun v => match v with | .ref a => kz a | _ => (0, 0)
  have isp : ∀ v ∈ as.map Value.ref, Srt.IsPair (h'.push { cls := .type "list", data := .seq (as.map Value.ref).toArray }) v (kV' v).1 (kV' v).2 := fun v hv => by
    obtain ⟨b, hb, rfl⟩ := List.mem_map.mp hv
    obtain ⟨j, hj⟩ := List.mem_iff_getElem?.mp hb
    obtain ⟨t1, t2, e1, e2⟩ := kzj j b hj
    exact ⟨b, _, t1, t2, 0, rfl, Heap.get?_push_of_some _ e1, rfl, rfl⟩
  refine wpAny_call_entry slot_list_sort ⟨_, hob, rfl⟩ entry_list_sort (SrtO.list_sort_ord (vs := as.map Value.ref) (ltv := fun v u => SrtO.lexB (kV' v) (kV' u)) (SrtO.swo_lex kV') hob (by rw [List.length_map]; omega) (fun h2 => ?_) fun out hsr hst => ⟨_, rfl, ?_⟩) (PyProof.Rows.args_list_sort _)
  · refine SrtO.pairs_sortableO (by omega) isp fun o e => ?_
    have e' : some o = some (seqObj "list" (as.map Value.ref).toArray 0) := e.symm.trans hob
    cases e'
    intro c
    exact absurd (Value.type.inj c) (by decide)
  · -- what is known behind
    have I1 : L2.Inv X pins σ H { s with heap := h', toks := tk } := I.kept (t' := tk) hk
    obtain ⟨H2, I2, g2, q2⟩ := L2.DX.takeT (X := X) (h' := h') (tk := tk) (P := fun a vs => vs = [V.int (kz a).1, V.int (kz a).2]) I as H I1 nd fun a ha => by
      obtain ⟨j, hj⟩ := List.mem_iff_getElem?.mp ha
      obtain ⟨t1, t2, e1, e2⟩ := kzj j a hj
      refine ⟨Nat.le_of_lt (hG.above a ha), I.hok.fresh (Nat.le_of_lt (hG.above a ha)), _, rfl, fun H2 => ⟨by show 2 ≤ sizeLine; decide, [_, _], .cons ⟨t1, rfl⟩ (.cons ⟨t2, rfl⟩ .nil), ⟨_, e1, rfl, _, rfl⟩⟩⟩
    have hperm : out.Perm (as.map Value.ref) := hst.perm
    obtain ⟨ts, ets, eperm⟩ := perm_back Value.ref hperm as rfl
    have hh2 : h'.objs.size = h'.objs.size := rfl
    obtain ⟨epo, he'⟩ := PyProof.Rows.sortedHeap_at (vs := as.map Value.ref) (out := out.toArray) hob
    have keep : ∀ b u, h'.get? b = some u → (sortedHeap (h'.push { cls := .type "list", data := .seq (as.map Value.ref).toArray }) h'.objs.size (as.map Value.ref) out.toArray).get? b = some u := fun b u e => by
      have hlt := Heap.lt_size e
      rw [PyProof.Rows.sortedHeap_old (Nat.ne_of_lt hlt) (by rw [Heap.size_push]; exact Nat.lt_succ_of_lt hlt)]
      exact Heap.get?_push_of_some _ e
    have hsz : (ts.map V.ref).length ≤ sizeLine := by
      rw [List.length_map, eperm.length_eq]
      omega
    have new : ObjOk X.prog X.w (upd H2 h'.objs.size (.lst (ts.map V.ref))) (sortedHeap (h'.push { cls := .type "list", data := .seq (as.map Value.ref).toArray }) h'.objs.size (as.map Value.ref) out.toArray) h'.objs.size (.lst (ts.map V.ref)) :=
      ⟨hsz, out, epo, by rw [ets]; exact LiI.vals_refs ts, he'⟩
    have I3 : L2.Inv X pins σ (upd H2 h'.objs.size (.lst (ts.map V.ref))) { s with heap := sortedHeap (h'.push { cls := .type "list", data := .seq (as.map Value.ref).toArray }) h'.objs.size (as.map Value.ref) out.toArray, toks := tk } :=
      I2.laid (t' := tk) keep (Nat.le_refl _) new
    have fr2 : H2 h'.objs.size = none := I2.hok.fresh (Nat.le_refl _)
    have frs : H h'.objs.size = none := I.hok.fresh (Nat.le_of_lt hlt)
    refine ⟨.ref h'.objs.size, _, I3, rfl, q _ _ ts (ts.map kz) (fun b u e => ?_) frs ?_ ?_ upd_same ?_⟩
    · rw [upd_ne (ne_of_none (g2 b u e) fr2)]
      exact g2 b u e
    · rw [← emap]
      exact eperm.map kz
    · have := srtd_q (k := kV') hsr
      rw [ets, List.map_map] at this
      exact this
    · have : Paired (fun (t : Addr) (q : Int × Int) => upd H2 h'.objs.size (.lst (ts.map V.ref)) t = some (.tup [.int q.1, .int q.2])) (ts.map id) (ts.map kz) := paired_map id kz fun a ha => by
        obtain ⟨vs', e1, e2⟩ := q2 a (eperm.mem_iff.mp ha)
        show upd H2 h'.objs.size (.lst (ts.map V.ref)) a = _
        rw [upd_ne (ne_of_none e2 fr2), e2, e1]
      rw [List.map_id] at this
      exact this
/-- sorted(e.items()) -/
theorem pe_sortedItems (hc : X.calm = true) (he : PE X e te) (hg : Gl X "sorted") (hm : X.mg "sorted" = none) (hbase : attributeBase e "items" X.env (eval e X.env) = eval e X.env := by rfl) (hline : (apos.endLine == cpos.line) = true := by rfl)
    (hs : starEach [.Call (.Attribute e "items" apos) [] [] cpos] X.env = (false, eval (.Call (.Attribute e "items" apos) [] [] cpos) X.env) :: starEach [] X.env := by rfl) :
    PE X (.Call (.Name "sorted" p) [.Call (.Attribute e "items" apos) [] [] cpos] [] pos) (tSortedItems te) := by
  refine ⟨fun pins s σ H Q I hq => ?_⟩
  refine wpAny_Call_Name_kw (ld_blt I hg hm (u := .builtin "sorted") (by decide +kernel) ?_)
  refine PyProof.Rows.callWith_builtin1 ?_ hs rfl
  rw [hs]
  show wpAny _ _ (spliced ((false, eval (.Call (.Attribute e "items" apos) [] [] cpos) X.env) :: backTo pos (starEach [] X.env))) _ _ s
  refine Calls.spliced_cons ?_
  refine wpAny_Call_method (T := "dict") (id := "dict.items") hbase rfl hline F.plainAttrs_dict F.slot_dict_items F.type_dict_items (thn (he.run pins s σ H _ I hq) fun u s1 ⟨x, H1, I1, rx, d, ps, ex, hd, q⟩ => ?_)
  subst ex
  obtain rfl : u = Value.ref d := rx
  obtain ⟨hz, hs0, vs, kv, hdo⟩ := I1.hok d _ hd
  have I2 : L2.Inv X pins σ H1 { s1 with heap := s1.heap.push { cls := .type "dict_items", data := .fields #[.ref d] } } := I1.kept (t' := s1.toks) fun b ob q => Heap.get?_push_of_some _ q
  refine ⟨hdo.typeIs, hdo.mapOf.noDict, ?_⟩
  show wpAny _ _ (callWith cpos (.builtin "dict.items") [.ref d] [] []) _ X.xe s1
  refine method_meetsIn F.slot_dict_items F.entry_dict_items rfl (PySem.evalArgs_none ⟨rfl, hdo.typeIs, F.args_dict_items_1 _, _, meets_dict_items (mixKind X.prog X.w) d hs0, ⟨vs, hdo⟩, ?_⟩)
  refine Calls.spliced_nil ?_
  exact sorted_view hc I2 hd ⟨_, Heap.get?_push_size _ rfl, rfl, rfl⟩ q
end
end Hd
set_option maxHeartbeats 4000000
/-! A dict that counts; the events of a sum's standings. -/
namespace Hd
open PySem PySem.Spec PyProof.Rows L2
/-! ### a dict that counts -/
/-- the weight of a key -/
def wsum (es : List (Nat × Nat)) (k : Nat) : Nat := (es.map fun e => if e.1 = k then e.2 else 0).sum
theorem wsum_app (es fs : List (Nat × Nat)) (k : Nat) : wsum (es ++ fs) k = wsum es k + wsum fs k := by
  unfold wsum
  rw [List.map_append, List.sum_append]
theorem wsum_one (e : Nat × Nat) (k : Nat) : wsum [e] k = if e.1 = k then e.2 else 0 := by
  unfold wsum
  simp
theorem wsum_none {es : List (Nat × Nat)} {k : Nat} (h : ¬ ∃ e ∈ es, e.1 = k) : wsum es k = 0 := by
  induction es with
  | nil => rfl
  | cons e es ih =>
    have h1 : e.1 ≠ k := fun z => h ⟨e, List.mem_cons_self, z⟩
    have h2 := ih fun ⟨x, hx, z⟩ => h ⟨x, List.mem_cons_of_mem _ hx, z⟩
    unfold wsum at h2 ⊢
    rw [List.map_cons, List.sum_cons, if_neg h1, h2]
abbrev nRow (p : Nat × Nat) : L2.Key × V := dRow ((p.1 : Int), (p.2 : Int))
/-- what the counting dict holds behind the events es -/
structure Dic (ps es : List (Nat × Nat)) : Prop where
  nd : (ps.map (·.1)).Nodup
  mem : ∀ k v, (k, v) ∈ ps ↔ (∃ e ∈ es, e.1 = k) ∧ v = wsum es k
  whole : (ps.map fun p => p.1 * p.2).sum = (es.map fun e => e.1 * e.2).sum
  len : ps.length ≤ es.length
theorem Dic.nil : Dic [] [] := ⟨List.nodup_nil, fun k v => by simp, rfl, Nat.le_refl _⟩
def bump (ps : List (Nat × Nat)) (k v : Nat) : List (Nat × Nat) := if k ∈ ps.map (·.1) then ps.map fun p => if p.1 = k then (p.1, v) else p else ps ++ [(k, v)]
theorem bump_map (ps : List (Nat × Nat)) (k v : Nat) : putK (ps.map nRow) (Sum.inl (k : Int)) (V.int (v : Int)) = (bump ps k v).map nRow := by
  have e1 : ((ps.map nRow).any fun kv => decide (kv.1 = Sum.inl (k : Int))) = decide (k ∈ ps.map (·.1)) := by
    rw [List.any_map, Bool.eq_iff_iff, List.any_eq_true, decide_eq_true_eq, List.mem_map]
    constructor
    · rintro ⟨p, hp, e⟩
      have e' := of_decide_eq_true e
      have := Sum.inl.inj e'
      exact ⟨p, hp, by omega⟩
    · rintro ⟨p, hp, e⟩
      exact ⟨p, hp, decide_eq_true (by show (Sum.inl (p.1 : Int) : L2.Key) = Sum.inl (k : Int); rw [e])⟩
  unfold putK bump
  rw [e1]
  by_cases h : k ∈ ps.map (·.1)
  · rw [if_pos (decide_eq_true h), if_pos h, List.map_map, List.map_map]
    refine List.map_congr_left fun p _ => ?_
    show (if (Sum.inl (p.1 : Int) : L2.Key) = Sum.inl (k : Int) then _ else _) = nRow (if p.1 = k then (p.1, v) else p)
    by_cases e : p.1 = k
    · rw [if_pos e, if_pos (by rw [e])]
    · rw [if_neg e, if_neg fun z => e (by have := Sum.inl.inj z; omega)]
  · rw [if_neg (by rw [decide_eq_false h]; decide), if_neg h, List.map_append]
    rfl
theorem Dic.val {ps es : List (Nat × Nat)} (h : Dic ps es) (k : Nat) : (valV (ps.map nRow) (Sum.inl (k : Int))).getD (V.int 0) = V.int (wsum es k : Int) := by
  unfold valV
  rw [List.find?_map]
  cases e : ps.find? ((fun kv : L2.Key × V => decide (kv.1 = Sum.inl (k : Int))) ∘ nRow) with
  | none =>
    have : ¬ ∃ x ∈ es, x.1 = k := fun hx => by
      have := List.find?_eq_none.mp e (k, wsum es k) ((h.mem k _).mpr ⟨hx, rfl⟩)
      exact this (decide_eq_true rfl)
    rw [wsum_none this]
    rfl
  | some p =>
    have e1 := List.find?_some e
    have e2 := List.mem_of_find?_eq_some e
    have e3 : p.1 = k := by
      have := Sum.inl.inj (of_decide_eq_true e1)
      omega
    obtain ⟨a, b⟩ := p
    dsimp only at e3
    subst e3
    have := ((h.mem a b).mp e2).2
    rw [this]
    rfl
theorem Dic.has {ps es : List (Nat × Nat)} (h : Dic ps es) {k : Nat} (hk : k ∈ ps.map (·.1)) : valV (ps.map nRow) (Sum.inl (k : Int)) = some (V.int (wsum es k : Int)) := by
  have e := h.val k
  cases ev : valV (ps.map nRow) (Sum.inl (k : Int)) with
  | none =>
    have := valV_any (Sum.inl (k : Int)) (ps.map nRow)
    rw [ev] at this
    obtain ⟨p, hp, rfl⟩ := List.mem_map.mp hk
    have h2 : ((ps.map nRow).any fun kv => decide (kv.1 = Sum.inl (p.1 : Int))) = true := by
      rw [List.any_map, List.any_eq_true]
      exact ⟨p, hp, decide_eq_true rfl⟩
    rw [h2] at this
    cases this
  | some v =>
    rw [ev] at e
    have e' : v = V.int (wsum es k : Int) := e
    rw [e']
theorem bump_keys {ps : List (Nat × Nat)} {k v : Nat} (h : (ps.map (·.1)).Nodup) : ((bump ps k v).map (·.1)).Nodup ∧ (bump ps k v).length ≤ ps.length + 1 := by
  unfold bump
  by_cases c : k ∈ ps.map (·.1)
  · rw [if_pos c, List.map_map, List.length_map]
    have : (ps.map ((fun p : Nat × Nat => p.1) ∘ fun p => if p.1 = k then (p.1, v) else p)) = ps.map (·.1) := List.map_congr_left fun p _ => by
      show (if p.1 = k then (p.1, v) else p).1 = p.1
      split <;> rfl
    rw [this]
    exact ⟨h, by omega⟩
  · rw [if_neg c, List.map_append, List.length_append]
    refine ⟨List.nodup_append.mpr ⟨h, by simp, fun a ha b hb e => ?_⟩, Nat.le_refl _⟩
    have eb : b = k := by simpa using hb
    rw [e, eb] at ha
    exact c ha
theorem bump_mem {ps : List (Nat × Nat)} {k v a b : Nat} (h : (ps.map (·.1)).Nodup) : (a, b) ∈ bump ps k v ↔ (a = k ∧ b = v) ∨ (a ≠ k ∧ (a, b) ∈ ps) := by
  unfold bump
  by_cases c : k ∈ ps.map (·.1)
  · rw [if_pos c, List.mem_map]
    constructor
    · rintro ⟨p, hp, e⟩
      by_cases e2 : p.1 = k
      · rw [if_pos e2] at e
        cases e
        exact .inl ⟨e2, rfl⟩
      · rw [if_neg e2] at e
        subst e
        exact .inr ⟨e2, hp⟩
    · rintro (⟨e1, e2⟩ | ⟨e1, e2⟩)
      · subst e1 e2
        obtain ⟨p, hp, e⟩ := List.mem_map.mp c
        exact ⟨p, hp, by rw [if_pos e, e]⟩
      · exact ⟨(a, b), e2, if_neg e1⟩
  · rw [if_neg c, List.mem_append]
    constructor
    · rintro (h1 | h1)
      · refine .inr ⟨fun z => ?_, h1⟩
        subst z
        exact c (List.mem_map.mpr ⟨(a, b), h1, rfl⟩)
      · have : (a, b) = (k, v) := by simpa using h1
        cases this
        exact .inl ⟨rfl, rfl⟩
    · rintro (⟨e1, e2⟩ | ⟨e1, e2⟩)
      · subst e1 e2
        exact .inr (by simp)
      · exact .inl e2
theorem bump_sum : ∀ {ps : List (Nat × Nat)} {k v w : Nat}, (ps.map (·.1)).Nodup → (k, v) ∈ ps → (((ps.map fun p => if p.1 = k then (p.1, v + w) else p)).map fun p => p.1 * p.2).sum = (ps.map fun p => p.1 * p.2).sum + k * w
  | p :: ps, k, v, w, h, hm => by
    obtain ⟨h1, h2⟩ := List.nodup_cons.mp (by rwa [List.map_cons] at h)
    rw [List.map_cons, List.map_cons, List.map_cons, List.sum_cons, List.sum_cons]
    rcases List.mem_cons.mp hm with e | hm
    · subst e
      have : (ps.map fun p => if p.1 = k then (p.1, v + w) else p) = ps := by
        refine (List.map_congr_left fun p hp => if_neg fun z => h1 ?_).trans (List.map_id _)
        exact List.mem_map.mpr ⟨p, hp, z⟩
      rw [this, if_pos rfl, Nat.mul_add]
      dsimp only
      omega
    · have e : p.1 ≠ k := fun z => h1 (by rw [z]; exact List.mem_map.mpr ⟨(k, v), hm, rfl⟩)
      rw [if_neg e, bump_sum h2 hm]
      omega
theorem Dic.put {ps es : List (Nat × Nat)} (h : Dic ps es) (k w : Nat) : Dic (bump ps k (wsum es k + w)) (es ++ [(k, w)]) := by
  obtain ⟨b1, b2⟩ := bump_keys (k := k) (v := wsum es k + w) h.nd
  refine ⟨b1, fun a b => ?_, ?_, by rw [List.length_append]; have := h.len; exact Nat.le_trans b2 (Nat.succ_le_succ this)⟩
  · rw [bump_mem h.nd, wsum_app, wsum_one, h.mem]
    constructor
    · rintro (⟨e1, e2⟩ | ⟨e1, e2, e3⟩)
      · subst e1
        exact ⟨⟨(a, w), by simp, rfl⟩, by rw [if_pos rfl]; exact e2⟩
      · obtain ⟨x, hx, hxk⟩ := e2
        exact ⟨⟨x, List.mem_append_left _ hx, hxk⟩, by rw [if_neg (fun z => e1 z.symm)]; exact e3⟩
    · rintro ⟨⟨x, hx, hxk⟩, e2⟩
      by_cases c : k = a
      · subst c
        rw [if_pos rfl] at e2
        exact .inl ⟨rfl, e2⟩
      · rw [if_neg c] at e2
        refine .inr ⟨fun z => c z.symm, ?_, e2⟩
        rcases List.mem_append.mp hx with hx | hx
        · exact ⟨x, hx, hxk⟩
        · have : x = (k, w) := by simpa using hx
          subst this
          exact absurd hxk c
  · rw [List.map_append, List.sum_append, ← h.whole]
    have es1 : (([(k, w)] : List (Nat × Nat)).map fun e => e.1 * e.2).sum = k * w := by simp
    rw [es1]
    unfold bump
    by_cases c : k ∈ ps.map (·.1)
    · rw [if_pos c]
      obtain ⟨p, hp, e⟩ := List.mem_map.mp c
      obtain ⟨a, b⟩ := p
      dsimp only at e
      subst e
      have := ((h.mem a b).mp hp).2
      subst this
      exact bump_sum h.nd hp
    · rw [if_neg c, List.map_append, List.sum_append]
      have : wsum es k = 0 := wsum_none fun hx => c (List.mem_map.mpr ⟨_, (h.mem k _).mpr ⟨hx, rfl⟩, rfl⟩)
      rw [this, Nat.zero_add]
      simp
/-! ### sorted lists of pairs are one -/
theorem srt_uniq : ∀ {a b : List (Int × Int)}, SrtQ a → SrtQ b → a.Perm b → a = b
  | [], b, _, _, p => (List.Perm.nil_eq p)
  | x :: a, [], _, _, p => absurd p.length_eq (by simp)
  | x :: a, y :: b, sa, sb, p => by
    obtain ⟨a1, a2⟩ := List.pairwise_cons.mp sa
    obtain ⟨b1, b2⟩ := List.pairwise_cons.mp sb
    have e : x = y := by
      rcases List.mem_cons.mp (p.mem_iff.mp (List.mem_cons_self (a := x) (l := a))) with z | hx
      · exact z
      · rcases List.mem_cons.mp (p.mem_iff.mpr (List.mem_cons_self (a := y) (l := b))) with z | hy
        · exact z.symm
        · have h1 := SrtO.lexB_no.mp (a1 y hy)
          have h2 := SrtO.lexB_no.mp (b1 x hx)
          exact Prod.ext (by omega) (by omega)
    subst e
    rw [srt_uniq a2 b2 (List.Perm.cons_inv p)]
end Hd
set_option maxHeartbeats 4000000
/-! The events of a sum's standings, and what the divisors tell of them. -/
namespace Hd
/-- the odd part and the twos of a number, the order of two by an odd one -/
noncomputable def oP (d : Nat) : Nat := if h : 0 < d then Classical.choose (twos_some d h) else 1
noncomputable def tP (d : Nat) : Nat := if h : 0 < d then Classical.choose (Classical.choose_spec (twos_some d h)) else 0
theorem parts {d : Nat} (h : 0 < d) : d = oP d * 2 ^ tP d ∧ oP d % 2 = 1 := by
  unfold oP tP
  rw [dif_pos h, dif_pos h]
  exact Classical.choose_spec (Classical.choose_spec (twos_some d h))
theorem parts_one {d o t : Nat} (h : d = o * 2 ^ t) (ho : o % 2 = 1) : oP d = o ∧ tP d = t := by
  have d0 : 0 < d := by rw [h]; exact Nat.mul_pos (by omega) (Nat.pow_pos (by decide))
  obtain ⟨a, b⟩ := parts d0
  obtain ⟨e1, e2⟩ := part_one b ho (a.symm.trans h)
  exact ⟨e1, e2⟩
noncomputable def oR (o : Nat) : Nat := if h : o % 2 = 1 then Classical.choose (ord_some h) else 0
theorem oR_ord {o : Nat} (h : o % 2 = 1) : Ord o (oR o) := by
  unfold oR
  rw [dif_pos h]
  exact (Classical.choose_spec (ord_some h)).2
theorem oR_le {o : Nat} (h : o % 2 = 1) : oR o ≤ o := by
  unfold oR
  rw [dif_pos h]
  exact (Classical.choose_spec (ord_some h)).1
def cls (n x : Nat) : Nat := n / Nat.gcd x n
noncomputable def evR (n x : Nat) : List (Nat × Nat) := if oP (cls n x) ≠ 1 ∧ tP (cls n x) = 0 then [(oR (oP (cls n x)), 1)] else []
noncomputable def evT (n x : Nat) : List (Nat × Nat) := if oP (cls n x) ≠ 1 then [(tP (cls n x), 1)] else []
noncomputable def evE (n x : Nat) : List (Nat × Nat) := if oP (cls n x) = 1 then [(tP (cls n x), 1)] else []
/-- the events of 1, 2, .. (i of them) -/
def evs (ev : Nat → List (Nat × Nat)) (i : Nat) : List (Nat × Nat) := (List.range i).flatMap fun j => ev (1 + j)
theorem evs_succ (ev : Nat → List (Nat × Nat)) (i : Nat) : evs ev (i + 1) = evs ev i ++ ev (1 + i) := by
  unfold evs
  rw [List.range_succ, List.flatMap_append]
  simp
theorem wsum_evs (ev : Nat → List (Nat × Nat)) (k : Nat) : ∀ i, wsum (evs ev i) k = ((List.range i).map fun j => wsum (ev (1 + j)) k).sum
  | 0 => rfl
  | i + 1 => by rw [evs_succ, wsum_app, wsum_evs ev k i, List.range_succ, List.map_append, List.sum_append]; simp
theorem mem_evs {ev : Nat → List (Nat × Nat)} {i : Nat} {e : Nat × Nat} : e ∈ evs ev i ↔ ∃ x, 1 ≤ x ∧ x < i + 1 ∧ e ∈ ev x := by
  unfold evs
  rw [List.mem_flatMap]
  constructor
  · rintro ⟨j, hj, h⟩
    have := List.mem_range.mp hj
    exact ⟨1 + j, by omega, by omega, h⟩
  · rintro ⟨x, h1, h2, h⟩
    exact ⟨x - 1, List.mem_range.mpr (by omega), by rw [show 1 + (x - 1) = x by omega]; exact h⟩
/-- from 1 on, or from 0 where 0 has none -/
theorem sum_from {f : Nat → Nat} (h0 : f 0 = 0) (i : Nat) : ((List.range i).map fun j => f (1 + j)).sum = ((List.range (i + 1)).map f).sum := by
  rw [List.range_succ_eq_map, List.map_cons, List.sum_cons, h0, Nat.zero_add, List.map_map]
  refine sum_map_congr fun x _ => ?_
  show f (1 + x) = f (x + 1)
  rw [Nat.add_comm]
theorem sum_cnt (p : Nat → Bool) : ∀ n, ((List.range n).map fun x => if p x = true then 1 else 0).sum = cnt n p
  | 0 => rfl
  | n + 1 => by rw [List.range_succ, List.map_append, List.sum_append, sum_cnt p n, cnt_succ]; simp
theorem cls_zero {n : Nat} (hn : 0 < n) : cls n 0 = 1 := by
  unfold cls
  rw [Nat.gcd_zero_left, Nat.div_self hn]
theorem cls_dvd (n x : Nat) : cls n x ∣ n := Nat.div_dvd_of_dvd (Nat.gcd_dvd_right _ _)
theorem cls_pos {n : Nat} (hn : 0 < n) (x : Nat) : 0 < cls n x := Nat.pos_of_dvd_of_pos (cls_dvd n x) hn
theorem one_parts : oP 1 = 1 ∧ tP 1 = 0 := parts_one (by decide) (by decide)
theorem cls_one {n x : Nat} (hn : 0 < n) (h : cls n x = 1) : n ∣ x := by
  have g := Nat.div_mul_cancel (Nat.gcd_dvd_right x n)
  have h' : n / Nat.gcd x n = 1 := h
  rw [h', Nat.one_mul] at g
  rw [← g]
  exact Nat.gcd_dvd_left _ _
/-- so many have a class that divides m -/
theorem cnt_cls {n m : Nat} (hn : 0 < n) (hm : m ∣ n) : cnt n (fun x => decide (cls n x ∣ m)) = m := by
  obtain ⟨g, rfl⟩ := hm
  have m0 : 0 < m := Nat.pos_of_mul_pos_right hn
  have g0 : 0 < g := Nat.pos_of_mul_pos_left hn
  have e : cnt m (fun _ => true) = m := by
    unfold cnt
    rw [List.countP_true, List.length_range]
  refine Eq.trans ?_ e
  rw [← cnt_mul g0 m, Nat.mul_comm m g]
  refine cnt_congr fun x _ => ?_
  rw [Bool.and_true, Bool.eq_iff_iff, decide_eq_true_eq, decide_eq_true_eq]
  have d1 := Nat.gcd_dvd_right x (g * m)
  have gp : 0 < Nat.gcd x (g * m) := Nat.gcd_pos_of_pos_right _ (by rw [Nat.mul_comm]; exact hn)
  have d2 := Nat.div_mul_cancel d1
  constructor
  · rintro ⟨q, hq⟩
    -- g * m = cls * gcd, m = cls * q: so g * q = gcd
    have hq' : m = (g * m / Nat.gcd x (g * m)) * q := hq
    have c0 : 0 < g * m / Nat.gcd x (g * m) := Nat.div_pos (Nat.le_of_dvd (by rw [Nat.mul_comm]; exact hn) d1) gp
    have : g * q = Nat.gcd x (g * m) := by
      refine Nat.eq_of_mul_eq_mul_left c0 ?_
      rw [Nat.mul_left_comm, ← hq', d2]
    refine Nat.dvd_trans ⟨q, this.symm⟩ (Nat.gcd_dvd_left _ _)
  · intro h
    have h2 : g ∣ Nat.gcd x (g * m) := Nat.dvd_gcd h (Nat.dvd_mul_right _ _)
    obtain ⟨q, hq⟩ := h2
    refine ⟨q, ?_⟩
    show m = g * m / Nat.gcd x (g * m) * q
    refine Nat.eq_of_mul_eq_mul_left g0 ?_
    rw [Nat.mul_left_comm, ← hq, d2]
theorem dvd_class {n odd T t d : Nat} (e : n = odd * 2 ^ T) (ho : odd % 2 = 1) (hd : d ∣ n) (d0 : 0 < d) (ht : t ≤ T) : (d ∣ odd * 2 ^ t ↔ tP d ≤ t) ∧ (d ∣ 2 ^ t ↔ oP d = 1 ∧ tP d ≤ t) := by
  obtain ⟨p1, p2⟩ := parts d0
  rw [e, p1, Nat.mul_comm odd] at hd
  obtain ⟨q1, q2⟩ := (part_dvd p2 ho).mp hd
  refine ⟨?_, ?_⟩
  · rw (occs := [1]) [p1]
    rw [Nat.mul_comm odd, part_dvd p2 ho]
    exact ⟨fun h => h.1, fun h => ⟨h, q2⟩⟩
  · rw (occs := [1]) [p1]
    exact part_pow p2
/-- the share of a tail -/
def sh (t : Nat) : Nat := if t = 0 then 1 else 2 ^ (t - 1)
theorem sh_pos (t : Nat) : 0 < sh t := by
  unfold sh
  split
  · decide
  · exact Nat.pow_pos (by decide)
/-- so many end with t, so many do not end and have the tail t -/
theorem cnt_parts {n odd T : Nat} (e : n = odd * 2 ^ T) (ho : odd % 2 = 1) (t : Nat) (ht : t ≤ T) :
    cnt n (fun x => decide (tP (cls n x) = t) && decide (oP (cls n x) = 1)) = sh t ∧ cnt n (fun x => decide (tP (cls n x) = t) && !decide (oP (cls n x) = 1)) = (odd - 1) * sh t := by
  have hn : 0 < n := by rw [e]; exact Nat.mul_pos (by omega) (Nat.pow_pos (by decide))
  have hcl : ∀ x t, t ≤ T → (cls n x ∣ odd * 2 ^ t ↔ tP (cls n x) ≤ t) ∧ (cls n x ∣ 2 ^ t ↔ oP (cls n x) = 1 ∧ tP (cls n x) ≤ t) := fun x t h => dvd_class e ho (cls_dvd n x) (cls_pos hn x) h
  have dv : ∀ s, s ≤ T → odd * 2 ^ s ∣ n := fun s h => by
    rw [e]
    exact Nat.mul_dvd_mul_left _ (Nat.pow_dvd_pow 2 h)
  have dv2 : ∀ s, s ≤ T → 2 ^ s ∣ n := fun s h => Nat.dvd_trans (Nat.dvd_mul_left _ _) (dv s h)
  have A : ∀ s, s ≤ T → cnt n (fun x => decide (tP (cls n x) ≤ s)) = odd * 2 ^ s := fun s h => by
    rw [← cnt_cls hn (dv s h)]
    exact cnt_congr fun x _ => decide_eq_decide.mpr (hcl x s h).1.symm
  have B : ∀ s, s ≤ T → cnt n (fun x => decide (tP (cls n x) ≤ s) && decide (oP (cls n x) = 1)) = 2 ^ s := fun s h => by
    rw [← cnt_cls hn (dv2 s h)]
    refine cnt_congr fun x _ => ?_
    rw [Bool.eq_iff_iff, Bool.and_eq_true, decide_eq_true_eq, decide_eq_true_eq, decide_eq_true_eq, (hcl x s h).2]
    exact And.comm
  have sp := cnt_split n (fun x => decide (tP (cls n x) = t)) fun x => decide (oP (cls n x) = 1)
  cases t with
  | zero =>
    have a := A 0 ht
    have b := B 0 ht
    have ea : cnt n (fun x => decide (tP (cls n x) ≤ 0)) = cnt n (fun x => decide (tP (cls n x) = 0)) := cnt_congr fun x _ => decide_eq_decide.mpr (by omega)
    have eb : cnt n (fun x => decide (tP (cls n x) ≤ 0) && decide (oP (cls n x) = 1)) = cnt n (fun x => decide (tP (cls n x) = 0) && decide (oP (cls n x) = 1)) := cnt_congr fun x _ => by
      rw [decide_eq_decide.mpr (show tP (cls n x) ≤ 0 ↔ tP (cls n x) = 0 by omega)]
    rw [ea] at a
    rw [eb] at b
    simp only [Nat.pow_zero, Nat.mul_one] at a b
    refine ⟨b, ?_⟩
    show _ = (odd - 1) * 1
    omega
  | succ t =>
    have a1 := A (t + 1) ht
    have a0 := A t (by omega)
    have b1 := B (t + 1) ht
    have b0 := B t (by omega)
    have s1 := cnt_split n (fun x => decide (tP (cls n x) ≤ t + 1)) fun x => decide (tP (cls n x) ≤ t)
    have s2 := cnt_split n (fun x => decide (tP (cls n x) ≤ t + 1) && decide (oP (cls n x) = 1)) fun x => decide (tP (cls n x) ≤ t)
    have c1 : cnt n (fun x => decide (tP (cls n x) ≤ t + 1) && decide (tP (cls n x) ≤ t)) = cnt n (fun x => decide (tP (cls n x) ≤ t)) := cnt_congr fun x _ => by
      rw [Bool.eq_iff_iff, Bool.and_eq_true, decide_eq_true_eq, decide_eq_true_eq]
      omega
    have c2 : cnt n (fun x => decide (tP (cls n x) ≤ t + 1) && !decide (tP (cls n x) ≤ t)) = cnt n (fun x => decide (tP (cls n x) = t + 1)) := cnt_congr fun x _ => by
      rw [Bool.eq_iff_iff, Bool.and_eq_true, decide_eq_true_eq, decide_eq_true_eq, Bool.not_eq_true', decide_eq_false_iff_not]
      omega
    have c3 : cnt n (fun x => (decide (tP (cls n x) ≤ t + 1) && decide (oP (cls n x) = 1)) && decide (tP (cls n x) ≤ t)) = cnt n (fun x => decide (tP (cls n x) ≤ t) && decide (oP (cls n x) = 1)) := cnt_congr fun x _ => by
      rw [Bool.eq_iff_iff]
      simp only [Bool.and_eq_true, decide_eq_true_eq]
      omega
    have c4 : cnt n (fun x => (decide (tP (cls n x) ≤ t + 1) && decide (oP (cls n x) = 1)) && !decide (tP (cls n x) ≤ t)) = cnt n (fun x => decide (tP (cls n x) = t + 1) && decide (oP (cls n x) = 1)) := cnt_congr fun x _ => by
      rw [Bool.eq_iff_iff]
      simp only [Bool.and_eq_true, decide_eq_true_eq, Bool.not_eq_true', decide_eq_false_iff_not]
      omega
    have es : sh (t + 1) = 2 ^ t := by
      unfold sh
      rw [if_neg (by omega), Nat.add_sub_cancel]
    have em : (odd - 1) * 2 ^ t = odd * 2 ^ t - 2 ^ t := by rw [Nat.sub_mul, Nat.one_mul]
    have ep : 2 ^ (t + 1) = 2 ^ t + 2 ^ t := by rw [Nat.pow_succ]; omega
    have eo : odd * 2 ^ (t + 1) = odd * 2 ^ t + odd * 2 ^ t := by rw [ep, Nat.mul_add]
    rw [es, em]
    have : 2 ^ t ≤ odd * 2 ^ t := Nat.le_mul_of_pos_left _ (by omega)
    omega
end Hd
set_option maxHeartbeats 4000000
/-! What the walks count is what the divisors tell. -/
namespace Hd
open PySem PySem.Spec PyProof.Rows L2
/-- the sum, its odd part and its twos -/
structure Tot (n odd T : Nat) : Prop where
  eq : n = odd * 2 ^ T
  odd : odd % 2 = 1
theorem Tot.pos {n odd T : Nat} (h : Tot n odd T) : 0 < n := by
  rw [h.eq]
  exact Nat.mul_pos (by have := h.odd; omega) (Nat.pow_pos (by decide))
theorem Tot.od {n odd T : Nat} (h : Tot n odd T) : odd ∣ n := by
  rw [h.eq]
  exact Nat.dvd_mul_right _ _
theorem tot_some {n : Nat} (h : 0 < n) : ∃ odd T, Tot n odd T := by
  obtain ⟨o, t, e, ho⟩ := twos_some n h
  exact ⟨o, t, e, ho⟩
theorem Tot.cls {n odd T : Nat} (h : Tot n odd T) (x : Nat) : oP (cls n x) ∣ odd ∧ tP (cls n x) ≤ T ∧ oP (cls n x) % 2 = 1 ∧ cls n x = oP (cls n x) * 2 ^ tP (cls n x) := by
  obtain ⟨p1, p2⟩ := parts (cls_pos h.pos x)
  have hd : oP (Hd.cls n x) * 2 ^ tP (Hd.cls n x) ∣ 2 ^ T * odd := by
    rw [← p1, ← h.eq.trans (Nat.mul_comm odd (2 ^ T))]
    exact cls_dvd n x
  obtain ⟨q1, q2⟩ := (part_dvd p2 h.odd).mp hd
  exact ⟨q2, q1, p2, p1⟩
theorem divs_parts {odd d : Nat} (ho : odd % 2 = 1) (h : d ∈ divs odd) : oP d = d ∧ tP d = 0 := parts_one (by simp) (divs_odd ho h).1
/-! ### rings -/
noncomputable def esP (odd : Nat) : List (Nat × Nat) := (divs odd).map fun d => (oR d, phi d / oR d)
theorem evR_wsum (n x k : Nat) : wsum (evR n x) k = (fun d => if oP d ≠ 1 ∧ tP d = 0 ∧ oR (oP d) = k then 1 else 0) (cls n x) := by
  unfold evR
  dsimp only
  by_cases c : oP (cls n x) ≠ 1 ∧ tP (cls n x) = 0
  · rw [if_pos c, wsum_one]
    dsimp only
    by_cases e : oR (oP (cls n x)) = k
    · rw [if_pos e, if_pos ⟨c.1, c.2, e⟩]
    · rw [if_neg e, if_neg fun z => e z.2.2]
  · rw [if_neg c, if_neg fun z => c ⟨z.1, z.2.1⟩]
    rfl
theorem ring_sum {n odd T : Nat} (h : Tot n odd T) (k : Nat) : wsum (evs (evR n) (n - 1)) k = ((divs odd).map fun d => if oR d = k then phi d else 0).sum := by
  rw [wsum_evs]
  have hn := h.pos
  have e1 : ((List.range (n - 1)).map fun j => wsum (evR n (1 + j)) k).sum = ((List.range (n - 1)).map fun j => (fun x => (fun d => if oP d ≠ 1 ∧ tP d = 0 ∧ oR (oP d) = k then 1 else 0) (cls n x)) (1 + j)).sum := sum_map_congr fun j _ => evR_wsum n (1 + j) k
  have e3 := sum_from (f := fun x => (fun d => if oP d ≠ 1 ∧ tP d = 0 ∧ oR (oP d) = k then 1 else 0) (cls n x)) (by dsimp only; rw [cls_zero hn, one_parts.1, if_neg fun z => z.1 rfl]) (n - 1)
  refine (e1.trans e3).trans ?_
  rw [show n - 1 + 1 = n by omega]
  have e2 := sum_odd hn h.odd h.od (fun d => if oP d ≠ 1 ∧ tP d = 0 ∧ oR (oP d) = k then 1 else 0) fun x hx hne => by
    have c : oP (cls n x) ≠ 1 ∧ tP (cls n x) = 0 ∧ oR (oP (cls n x)) = k := Classical.byContradiction fun z => hne (if_neg z)
    obtain ⟨a1, a2, a3, a4⟩ := h.cls x
    rw [c.2.1, Nat.pow_zero, Nat.mul_one] at a4
    show cls n x ∈ divs odd
    rw [mem_divs h.odd, a4]
    refine ⟨a1, ?_⟩
    have := c.1
    omega
  refine Eq.trans e2 (sum_map_congr fun d hd => ?_)
  obtain ⟨p1, p2⟩ := divs_parts h.odd hd
  have d3 := divs_odd h.odd hd
  rw [p1, p2]
  by_cases e : oR d = k
  · rw [if_pos e, if_pos ⟨by omega, rfl, e⟩, Nat.one_mul]
  · rw [if_neg e, if_neg fun z => e z.2.2, Nat.zero_mul]
theorem ring_keys {n odd T : Nat} (h : Tot n odd T) (k : Nat) : (∃ e ∈ evs (evR n) (n - 1), e.1 = k) ↔ ∃ d ∈ divs odd, oR d = k := by
  have hn := h.pos
  constructor
  · rintro ⟨e, he, rfl⟩
    obtain ⟨x, h1, h2, hx⟩ := mem_evs.mp he
    unfold evR at hx
    split at hx
    · rename_i c
      have ex : e = (oR (oP (cls n x)), 1) := by simpa using hx
      obtain ⟨a1, a2, a3, a4⟩ := h.cls x
      exact ⟨oP (cls n x), (mem_divs h.odd).mpr ⟨a1, by have := c.1; omega⟩, by rw [ex]⟩
    · cases hx
  · rintro ⟨d, hd, rfl⟩
    have hdv := (mem_divs h.odd).mp hd
    obtain ⟨p1, p2⟩ := divs_parts h.odd hd
    have dn := Nat.dvd_trans hdv.1 h.od
    obtain ⟨g, eg⟩ := dn
    have d0 : 0 < d := by omega
    have g0 : 0 < g := by
      rcases Nat.eq_zero_or_pos g with z | z
      · rw [z] at eg
        omega
      · exact z
    have ec : cls n g = d := by
      unfold cls
      rw [eg, Nat.gcd_comm, Nat.gcd_mul_left_left, Nat.mul_div_cancel _ g0]
    have gn : g < n := by
      rw [eg]
      have := Nat.mul_le_mul_right g (show 2 ≤ d by omega)
      omega
    refine ⟨(oR d, 1), mem_evs.mpr ⟨g, g0, by omega, ?_⟩, rfl⟩
    unfold evR
    rw [ec, p1, p2, if_pos ⟨by omega, rfl⟩]
    exact List.mem_cons_self
theorem oR_pos {odd d : Nat} (ho : odd % 2 = 1) (h : d ∈ divs odd) : 0 < oR d ∧ oR d ∣ phi d := by
  have d3 := divs_odd ho h
  have O := oR_ord d3.1
  exact ⟨O.pos, ord_phi (by omega) d3.1 O⟩
theorem esP_sum {odd : Nat} (ho : odd % 2 = 1) (k : Nat) : k * wsum (esP odd) k = ((divs odd).map fun d => if oR d = k then phi d else 0).sum := by
  unfold esP wsum
  rw [List.map_map]
  have : ∀ l : List Nat, (∀ d ∈ l, d ∈ divs odd) → k * (l.map ((fun e : Nat × Nat => if e.1 = k then e.2 else 0) ∘ fun d => (oR d, phi d / oR d))).sum = (l.map fun d => if oR d = k then phi d else 0).sum := fun l => by
    induction l with
    | nil => intro _; rfl
    | cons d l ih =>
      intro hl
      rw [List.map_cons, List.map_cons, List.sum_cons, List.sum_cons, Nat.mul_add, ih fun x hx => hl x (List.mem_cons_of_mem _ hx)]
      congr 1
      show k * (if oR d = k then phi d / oR d else 0) = _
      by_cases e : oR d = k
      · rw [if_pos e, if_pos e, ← e, Nat.mul_div_cancel' (oR_pos ho (hl d List.mem_cons_self)).2]
      · rw [if_neg e, if_neg e, Nat.mul_zero]
  exact this _ fun _ h => h
theorem esP_keys (odd k : Nat) : (∃ e ∈ esP odd, e.1 = k) ↔ ∃ d ∈ divs odd, oR d = k := by
  unfold esP
  constructor
  · rintro ⟨e, he, rfl⟩
    obtain ⟨d, hd, rfl⟩ := List.mem_map.mp he
    exact ⟨d, hd, rfl⟩
  · rintro ⟨d, hd, rfl⟩
    exact ⟨_, List.mem_map.mpr ⟨d, hd, rfl⟩, rfl⟩
theorem esP_whole {odd : Nat} (ho : odd % 2 = 1) : ((esP odd).map fun e => e.1 * e.2).sum = odd - 1 := by
  rw [← gauss ho]
  unfold esP
  rw [List.map_map]
  refine sum_map_congr fun d hd => ?_
  show oR d * (phi d / oR d) = phi d
  exact Nat.mul_div_cancel' (oR_pos ho hd).2
/-- the value of a ring's length -/
theorem ring_val {n odd T k : Nat} (h : Tot n odd T) (hk : ∃ d ∈ divs odd, oR d = k) : wsum (evs (evR n) (n - 1)) k / k = wsum (esP odd) k := by
  obtain ⟨d, hd, rfl⟩ := hk
  rw [ring_sum h, ← esP_sum h.odd, Nat.mul_div_cancel_left _ (oR_pos h.odd hd).1]
/-! ### tails and ends -/
theorem evT_wsum (n x k : Nat) : wsum (evT n x) k = if (decide (tP (cls n x) = k) && !decide (oP (cls n x) = 1)) = true then 1 else 0 := by
  unfold evT
  by_cases c : oP (cls n x) = 1
  · rw [if_neg (fun z => z c), decide_eq_true c, Bool.not_true, Bool.and_false, if_neg (by decide)]
    rfl
  · rw [if_pos c, wsum_one, decide_eq_false c, Bool.not_false, Bool.and_true]
    simp only [decide_eq_true_eq]
theorem evE_wsum (n x k : Nat) : wsum (evE n x) k = if (decide (tP (cls n x) = k) && decide (oP (cls n x) = 1)) = true then 1 else 0 := by
  unfold evE
  by_cases c : oP (cls n x) = 1
  · rw [if_pos c, wsum_one, decide_eq_true c, Bool.and_true]
    simp only [decide_eq_true_eq]
  · rw [if_neg c, decide_eq_false c, Bool.and_false, if_neg (by decide)]
    rfl
theorem tail_sum {n odd T k : Nat} (h : Tot n odd T) (hk : k ≤ T) : wsum (evs (evT n) (n - 1)) k = (odd - 1) * sh k := by
  rw [wsum_evs, sum_map_congr fun j _ => evT_wsum n (1 + j) k]
  have := sum_from (f := fun x => if (decide (tP (cls n x) = k) && !decide (oP (cls n x) = 1)) = true then 1 else 0) (by rw [cls_zero h.pos, decide_eq_true one_parts.1, Bool.not_true, Bool.and_false, if_neg (by decide)]) (n - 1)
  have hn := h.pos
  refine this.trans ?_
  rw [show n - 1 + 1 = n by omega, sum_cnt]
  exact (cnt_parts h.eq h.odd k hk).2
theorem end_sum {n odd T k : Nat} (h : Tot n odd T) (hk : k ≤ T) (h0 : k ≠ 0) : wsum (evs (evE n) (n - 1)) k = sh k := by
  rw [wsum_evs, sum_map_congr fun j _ => evE_wsum n (1 + j) k]
  have := sum_from (f := fun x => if (decide (tP (cls n x) = k) && decide (oP (cls n x) = 1)) = true then 1 else 0) (by rw [cls_zero h.pos, one_parts.2, decide_eq_false (fun z => h0 z.symm), Bool.false_and, if_neg (by decide)]) (n - 1)
  have hn := h.pos
  refine this.trans ?_
  rw [show n - 1 + 1 = n by omega, sum_cnt]
  exact (cnt_parts h.eq h.odd k hk).1
theorem tail_keys {n odd T k : Nat} (h : Tot n odd T) : (∃ e ∈ evs (evT n) (n - 1), e.1 = k) ↔ odd ≠ 1 ∧ k ≤ T := by
  constructor
  · rintro ⟨e, he, rfl⟩
    obtain ⟨x, h1, h2, hx⟩ := mem_evs.mp he
    obtain ⟨a1, a2, a3, a4⟩ := h.cls x
    unfold evT at hx
    split at hx
    · rename_i c
      have ex : e = (tP (cls n x), 1) := by simpa using hx
      rw [ex]
      refine ⟨fun z => c ?_, a2⟩
      rw [z] at a1
      exact Nat.dvd_one.mp a1
    · cases hx
  · rintro ⟨h1, h2⟩
    refine Classical.byContradiction fun z => ?_
    have a := wsum_none z
    rw [tail_sum h h2] at a
    have := Nat.mul_pos (show 0 < odd - 1 by have := h.odd; omega) (sh_pos k)
    omega
theorem end_keys {n odd T k : Nat} (h : Tot n odd T) : (∃ e ∈ evs (evE n) (n - 1), e.1 = k) ↔ 0 < k ∧ k ≤ T := by
  have hn := h.pos
  constructor
  · rintro ⟨e, he, rfl⟩
    obtain ⟨x, h1, h2, hx⟩ := mem_evs.mp he
    obtain ⟨a1, a2, a3, a4⟩ := h.cls x
    unfold evE at hx
    split at hx
    · rename_i c
      have ex : e = (tP (cls n x), 1) := by simpa using hx
      rw [ex]
      refine ⟨?_, a2⟩
      rcases Nat.eq_zero_or_pos (tP (cls n x)) with z | z
      · rw [c, z] at a4
        have := Nat.le_of_dvd (by omega) (cls_one (x := x) hn (by simpa using a4))
        omega
      · exact z
    · cases hx
  · rintro ⟨h1, h2⟩
    refine Classical.byContradiction fun z => ?_
    have a := wsum_none z
    rw [end_sum h h2 (by omega)] at a
    have := sh_pos k
    omega
/-! ### as lists -/
def pT (odd T : Nat) : List (Nat × Nat) := if odd = 1 then [] else (List.range (T + 1)).map fun t => (t, (odd - 1) * sh t)
def pE (T : Nat) : List (Nat × Nat) := ((List.range (T + 1)).filter fun t => decide (0 < t)).map fun t => (t, sh t)
def c2 (p : Nat × Nat) : Int × Int := ((p.1 : Int), (p.2 : Int))
theorem keys_nodup {ps : List (Nat × Nat)} (h : (ps.map (·.1)).Nodup) : ps.Nodup := by
  rw [List.nodup_iff_pairwise_ne] at h ⊢
  rw [List.pairwise_map] at h
  exact List.Pairwise.imp (fun {a b} z e => z (by rw [e])) h
theorem sorted_fn (f : Nat → Nat) {l : List Nat} (h : l.Pairwise (· ≤ ·)) : SrtQ ((l.map fun t => (t, f t)).map c2) := by
  unfold SrtQ
  rw [List.pairwise_map, List.pairwise_map]
  refine List.Pairwise.imp (fun {a b} (hab : a ≤ b) => ?_) h
  refine SrtO.lexB_no.mpr ?_
  show ¬ (((b : Int) < (a : Int)) ∨ ((b : Int) = (a : Int) ∧ ((f b : Nat) : Int) < ((f a : Nat) : Int)))
  by_cases c : a = b
  · subst c
    omega
  · omega
theorem fn_nodup (f : Nat → Nat) {l : List Nat} (h : l.Nodup) : (l.map fun t => (t, f t)).Nodup := by
  rw [List.nodup_iff_pairwise_ne] at h ⊢
  rw [List.pairwise_map]
  exact List.Pairwise.imp (fun {a b} z e => z (Prod.mk.inj e).1) h
theorem range_le (n : Nat) : (List.range n).Pairwise (· ≤ ·) := List.Pairwise.imp (fun h => Nat.le_of_lt h) List.pairwise_lt_range
theorem tails_one {n odd T : Nat} {ps : List (Nat × Nat)} {qs : List (Int × Int)} (h : Tot n odd T) (D : Dic ps (evs (evT n) (n - 1))) (hs : SrtQ qs) (hp : qs.Perm (ps.map c2)) : qs = (pT odd T).map c2 := by
  have hm : ps.Perm (pT odd T) := by
    unfold pT
    by_cases c : odd = 1
    · rw [if_pos c]
      have : ps = [] := by
        cases ps with
        | nil => rfl
        | cons p ps =>
          have := ((D.mem p.1 p.2).mp List.mem_cons_self).1
          exact absurd c ((tail_keys h).mp this).1
      rw [this]
    · rw [if_neg c]
      refine (List.perm_ext_iff_of_nodup (keys_nodup D.nd) (fn_nodup _ List.nodup_range)).mpr fun p => ?_
      obtain ⟨k, v⟩ := p
      rw [D.mem, tail_keys h, List.mem_map]
      constructor
      · rintro ⟨⟨_, h2⟩, h3⟩
        rw [tail_sum h h2] at h3
        exact ⟨k, List.mem_range.mpr (by omega), by rw [h3]⟩
      · rintro ⟨t, ht, e⟩
        cases e
        have := List.mem_range.mp ht
        exact ⟨⟨c, by omega⟩, by rw [tail_sum h (by omega)]⟩
  refine srt_uniq hs ?_ (hp.trans (hm.map c2))
  unfold pT
  split
  · exact List.Pairwise.nil
  · exact sorted_fn _ (range_le _)
theorem ends_one {n odd T : Nat} {ps : List (Nat × Nat)} {qs : List (Int × Int)} (h : Tot n odd T) (D : Dic ps (evs (evE n) (n - 1))) (hs : SrtQ qs) (hp : qs.Perm (ps.map c2)) : qs = (pE T).map c2 := by
  have hm : ps.Perm (pE T) := by
    unfold pE
    refine (List.perm_ext_iff_of_nodup (keys_nodup D.nd) (fn_nodup _ (List.Pairwise.filter _ List.nodup_range))).mpr fun p => ?_
    obtain ⟨k, v⟩ := p
    rw [D.mem, end_keys h, List.mem_map]
    constructor
    · rintro ⟨⟨h1, h2⟩, h3⟩
      rw [end_sum h h2 (by omega)] at h3
      exact ⟨k, List.mem_filter.mpr ⟨List.mem_range.mpr (by omega), decide_eq_true h1⟩, by rw [h3]⟩
    · rintro ⟨t, ht, e⟩
      cases e
      obtain ⟨t1, t2⟩ := List.mem_filter.mp ht
      have t1 := List.mem_range.mp t1
      have t2 := of_decide_eq_true t2
      exact ⟨⟨t2, by omega⟩, by rw [end_sum h (by omega) (by omega)]⟩
  refine srt_uniq hs ?_ (hp.trans (hm.map c2))
  unfold pE
  exact sorted_fn _ (List.Pairwise.filter _ (range_le _))
/-- the law's row of rings is the program's -/
theorem rings_one {n odd T : Nat} {psL psP : List (Nat × Nat)} {qsP : List (Int × Int)} {ks : List Nat} (h : Tot n odd T) (DL : Dic psL (evs (evR n) (n - 1))) (DP : Dic psP (esP odd)) (hs : SrtQ qsP) (hp : qsP.Perm (psP.map c2)) (hk : ks.Perm (psL.map (·.1))) (hks : ks.Pairwise (· ≤ ·)) :
    qsP = (ks.map fun k => (k, wsum (evs (evR n) (n - 1)) k / k)).map c2 := by
  refine srt_uniq hs (sorted_fn _ hks) (hp.trans (List.Perm.map c2 ?_))
  refine (List.perm_ext_iff_of_nodup (keys_nodup DP.nd) (fn_nodup _ (hk.nodup_iff.mpr DL.nd))).mpr fun p => ?_
  obtain ⟨k, v⟩ := p
  have hkey : k ∈ ks ↔ ∃ d ∈ divs odd, oR d = k := by
    rw [hk.mem_iff, List.mem_map, ← ring_keys h]
    constructor
    · rintro ⟨⟨a, b⟩, hp, rfl⟩
      exact ((DL.mem a b).mp hp).1
    · intro hx
      exact ⟨(k, _), (DL.mem k _).mpr ⟨hx, rfl⟩, rfl⟩
  rw [DP.mem, esP_keys, List.mem_map]
  constructor
  · rintro ⟨h1, h2⟩
    exact ⟨k, hkey.mpr h1, by rw [h2, ring_val h h1]⟩
  · rintro ⟨t, ht, e⟩
    cases e
    have h1 := hkey.mp ht
    exact ⟨h1, ring_val h h1⟩
end Hd
set_option maxHeartbeats 4000000
/-! Steps of heaps, plans that can be made: numbers alone. -/
namespace Hd
open PySem PySem.Spec PyProof.Rows L2
def can (ns : List Int) (i j : Nat) : Bool := decide (0 < ns.getD j 0) && decide (ns.getD j 0 ≤ ns.getD i 0)
def shf (ns : List Int) (i j : Nat) (m : Int) : List Int := (ns.set i (ns.getD i 0 - m)).set j (ns.getD j 0 + m)
def mv (ns : List Int) (i j : Nat) : List Int := shf ns i j (ns.getD j 0)
theorem can_iff {ns : List Int} {i j : Nat} : can ns i j = true ↔ 0 < ns.getD j 0 ∧ ns.getD j 0 ≤ ns.getD i 0 := by
  unfold can
  simp only [Bool.and_eq_true, decide_eq_true_eq]
theorem len_mv (ns : List Int) (i j : Nat) : (mv ns i j).length = ns.length := by
  unfold mv shf
  rw [List.length_set, List.length_set]
theorem getD_set {ns : List Int} {i k : Nat} {v : Int} : (ns.set i v).getD k 0 = if k = i ∧ i < ns.length then v else ns.getD k 0 := by
  rw [List.getD_eq_getElem?_getD, List.getElem?_set, List.getD_eq_getElem?_getD]
  by_cases h : i = k
  · subst h
    rw [if_pos rfl]
    by_cases h2 : i < ns.length
    · rw [if_pos h2, if_pos ⟨rfl, h2⟩]
      rfl
    · rw [if_neg h2, if_neg fun z => h2 z.2, List.getElem?_eq_none (by omega)]
  · rw [if_neg h, if_neg fun z => h z.1.symm]
theorem getD_mv {ns : List Int} {i j k : Nat} (hi : i < ns.length) (hj : j < ns.length) (hij : i ≠ j) : (mv ns i j).getD k 0 = if k = j then 2 * ns.getD j 0 else if k = i then ns.getD i 0 - ns.getD j 0 else ns.getD k 0 := by
  unfold mv shf
  rw [getD_set, getD_set, List.length_set]
  by_cases h : k = j
  · rw [if_pos ⟨h, hj⟩, if_pos h]
    omega
  · rw [if_neg fun z => h z.1, if_neg h]
    by_cases h2 : k = i
    · rw [if_pos ⟨h2, hi⟩, if_pos h2]
    · rw [if_neg fun z => h2 z.1, if_neg h2]
/-- nothing below 0 -/
def NN (ns : List Int) : Prop := ∀ k, 0 ≤ ns.getD k 0
theorem nn_of {ns : List Int} (h : ∀ n ∈ ns, 0 ≤ n) : NN ns := fun k => by
  rw [List.getD_eq_getElem?_getD]
  cases e : ns[k]? with
  | none => exact Int.le_refl _
  | some v => exact h v (List.mem_of_getElem? e)
theorem NN.mem {ns : List Int} (h : NN ns) : ∀ n ∈ ns, 0 ≤ n := fun n hn => by
  obtain ⟨k, hk, e⟩ := List.mem_iff_getElem.mp hn
  have := h k
  rw [List.getD_eq_getElem?_getD, List.getElem?_eq_getElem hk] at this
  rw [← e]
  exact this
theorem NN.mv {ns : List Int} {i j : Nat} (h : NN ns) (hi : i < ns.length) (hj : j < ns.length) (hij : i ≠ j) (hc : can ns i j = true) : NN (mv ns i j) := fun k => by
  rw [getD_mv hi hj hij]
  obtain ⟨c1, c2⟩ := can_iff.mp hc
  have := h k
  split
  · omega
  · split <;> omega
theorem sum_set : ∀ (ns : List Int) (i : Nat) (v : Int), i < ns.length → (ns.set i v).sum = ns.sum + v - ns.getD i 0
  | [], i, v, h => absurd h (by simp)
  | x :: r, 0, v, _ => by
    simp only [List.set_cons_zero, List.sum_cons, List.getD_cons_zero]
    omega
  | x :: r, i + 1, v, h => by
    simp only [List.set_cons_succ, List.sum_cons, List.getD_cons_succ]
    rw [sum_set r i v (by simpa using h)]
    omega
theorem sum_mv {ns : List Int} {i j : Nat} (hi : i < ns.length) (hj : j < ns.length) (hij : i ≠ j) : (mv ns i j).sum = ns.sum := by
  unfold Hd.mv shf
  rw [sum_set _ _ _ (by rw [List.length_set]; exact hj), sum_set _ _ _ hi, getD_set, if_neg fun z => hij z.1.symm]
  omega
/-- the whole is at least what lies at unlike places -/
theorem sum_ge : ∀ (ns : List Int), NN ns → 0 ≤ ns.sum
  | [], _ => by simp
  | x :: r, h => by
    have := h 0
    have := sum_ge r fun k => by simpa using h (k + 1)
    simp only [List.sum_cons, List.getD_cons_zero] at *
    omega
theorem sum_del (ns : List Int) (i : Nat) (h : NN ns) (hi : i < ns.length) : (ns.set i 0).sum = ns.sum - ns.getD i 0 ∧ NN (ns.set i 0) := by
  refine ⟨by rw [sum_set _ _ _ hi]; omega, fun k => ?_⟩
  rw [getD_set]
  split
  · exact Int.le_refl _
  · exact h k
theorem sum_one {ns : List Int} {i : Nat} (h : NN ns) : ns.getD i 0 ≤ ns.sum := by
  by_cases hi : i < ns.length
  · obtain ⟨e, n⟩ := sum_del ns i h hi
    have := sum_ge _ n
    omega
  · rw [List.getD_eq_getElem?_getD, List.getElem?_eq_none (by omega)]
    exact sum_ge _ h
theorem sum_three {ns : List Int} {i j k : Nat} (h : NN ns) (hi : i < ns.length) (hj : j < ns.length) (hk : k < ns.length) (hij : i ≠ j) (hik : i ≠ k) (hjk : j ≠ k) : ns.getD i 0 + ns.getD j 0 + ns.getD k 0 ≤ ns.sum := by
  obtain ⟨e1, n1⟩ := sum_del ns i h hi
  obtain ⟨e2, n2⟩ := sum_del (ns.set i 0) j n1 (by rw [List.length_set]; exact hj)
  have e3 := sum_one (i := k) n2
  rw [getD_set, if_neg fun z => hjk z.1.symm, getD_set, if_neg fun z => hik z.1.symm] at e3
  rw [getD_set, if_neg fun z => hij z.1.symm] at e2
  omega
/-- a plan all of whose steps can be made -/
def run : List Int → List (Nat × Nat) → Option (List Int)
  | ns, [] => some ns
  | ns, s :: r => if can ns s.1 s.2 = true then run (mv ns s.1 s.2) r else none
theorem run_app : ∀ (ps : List (Nat × Nat)) (ns : List Int) (qs : List (Nat × Nat)), run ns (ps ++ qs) = (run ns ps).bind fun m => run m qs
  | [], ns, qs => rfl
  | p :: ps, ns, qs => by
    show (if can ns p.1 p.2 = true then run (mv ns p.1 p.2) (ps ++ qs) else none) = (if can ns p.1 p.2 = true then run (mv ns p.1 p.2) ps else none).bind _
    split
    · exact run_app ps _ qs
    · rfl
/-- the steps are of so many heaps -/
def Stp (n : Nat) (ps : List (Nat × Nat)) : Prop := ∀ p ∈ ps, p.1 < n ∧ p.2 < n ∧ p.1 ≠ p.2
theorem Stp.app {n : Nat} {ps qs : List (Nat × Nat)} (a : Stp n ps) (b : Stp n qs) : Stp n (ps ++ qs) := fun p hp => (List.mem_append.mp hp).elim (a p) (b p)
structure Gone (ns : List Int) (ps : List (Nat × Nat)) (m : List Int) : Prop where
  run : run ns ps = some m
  stp : Stp ns.length ps
theorem Gone.nil (ns : List Int) : Gone ns [] ns := ⟨rfl, fun p hp => nomatch hp⟩
theorem run_keeps : ∀ (ps : List (Nat × Nat)) (ns m : List Int), Stp ns.length ps → Hd.run ns ps = some m → m.length = ns.length ∧ m.sum = ns.sum ∧ (NN ns → NN m) ∧ (∀ g : Int, (∀ k, g ∣ ns.getD k 0) → ∀ k, g ∣ m.getD k 0)
  | [], ns, m, _, e => by
    have e' : ns = m := Option.some.inj e
    subst e'
    exact ⟨rfl, rfl, id, fun _ h => h⟩
  | p :: ps, ns, m, st, e => by
    obtain ⟨a, b, c⟩ := st p List.mem_cons_self
    have e' : (if can ns p.1 p.2 = true then Hd.run (Hd.mv ns p.1 p.2) ps else none) = some m := e
    by_cases hc : can ns p.1 p.2 = true
    · rw [if_pos hc] at e'
      obtain ⟨h1, h2, h3, h4⟩ := run_keeps ps (Hd.mv ns p.1 p.2) m (fun q hq => by rw [len_mv]; exact st q (List.mem_cons_of_mem _ hq)) e'
      rw [len_mv] at h1
      rw [sum_mv a b c] at h2
      refine ⟨h1, h2, fun n => h3 (n.mv a b c hc), fun g hg => h4 g fun k => ?_⟩
      rw [getD_mv a b c]
      split
      · exact Int.dvd_trans (hg p.2) (Int.dvd_mul_left _ _)
      · split
        · exact Int.dvd_sub (hg _) (hg _)
        · exact hg k
    · rw [if_neg hc] at e'
      cases e'
theorem Gone.len {ns m : List Int} {ps : List (Nat × Nat)} (h : Gone ns ps m) : m.length = ns.length := (run_keeps ps ns m h.stp h.run).1
theorem Gone.sum {ns m : List Int} {ps : List (Nat × Nat)} (h : Gone ns ps m) : m.sum = ns.sum := (run_keeps ps ns m h.stp h.run).2.1
theorem Gone.nn {ns m : List Int} {ps : List (Nat × Nat)} (h : Gone ns ps m) (n : NN ns) : NN m := (run_keeps ps ns m h.stp h.run).2.2.1 n
theorem Gone.dvd {ns m : List Int} {ps : List (Nat × Nat)} (h : Gone ns ps m) {g : Int} (n : ∀ k, g ∣ ns.getD k 0) : ∀ k, g ∣ m.getD k 0 := (run_keeps ps ns m h.stp h.run).2.2.2 g n
theorem Gone.app {ns m r : List Int} {ps qs : List (Nat × Nat)} (a : Gone ns ps m) (b : Gone m qs r) : Gone ns (ps ++ qs) r := by
  refine ⟨?_, a.stp.app ?_⟩
  · rw [run_app, a.run]
    exact b.run
  · rw [← a.len]
    exact b.stp
theorem Gone.one {ns : List Int} {i j : Nat} (hi : i < ns.length) (hj : j < ns.length) (hij : i ≠ j) (hc : can ns i j = true) : Gone ns [(i, j)] (Hd.mv ns i j) := by
  refine ⟨?_, fun p hp => ?_⟩
  · show (if can ns i j = true then some (Hd.mv ns i j) else none) = _
    rw [if_pos hc]
  · have e : p = (i, j) := by simpa using hp
    subst e
    exact ⟨hi, hj, hij⟩
/-! ### halving -/
/-- the state within halving: q the figures left, r those that are through, e the weight; the heaps ns at lo, mi, hi are m's there -/
structure Hv (ns : List Int) (lo mi hi : Nat) (p q r e : Int) (ps : List (Nat × Nat)) (m : List Int) : Prop where
  go : Gone ns ps m
  pq : p = q * e + r
  r0 : 0 ≤ r
  re : r < e
  q1 : 1 ≤ q
  len : e = 2 ^ ps.length
  lo_ : m.getD lo 0 = e * ns.getD lo 0
  mi_ : m.getD mi 0 = ns.getD mi 0 - r * ns.getD lo 0
  hi_ : m.getD hi 0 = ns.getD hi 0 - (e - 1 - r) * ns.getD lo 0
  un : ∀ k, k ≠ lo → k ≠ mi → k ≠ hi → m.getD k 0 = ns.getD k 0
/-- three heaps, the least first -/
structure Three (ns : List Int) (lo mi hi : Nat) : Prop where
  blo : lo < ns.length
  bmi : mi < ns.length
  bhi : hi < ns.length
  n1 : lo ≠ mi
  n2 : lo ≠ hi
  n3 : mi ≠ hi
  pos : 0 < ns.getD lo 0
  le1 : ns.getD lo 0 ≤ ns.getD mi 0
  le2 : ns.getD mi 0 ≤ ns.getD hi 0
theorem near_ok {a b : Int} (ha : 0 < a) (hab : a ≤ b) : 1 ≤ (2 * b + a - 1) / (2 * a) ∧ -a < 2 * b - 2 * ((2 * b + a - 1) / (2 * a) * a) ∧ 2 * b - 2 * ((2 * b + a - 1) / (2 * a) * a) ≤ a := by
  have h1 := Int.mul_ediv_add_emod (2 * b + a - 1) (2 * a)
  have h2 := Int.emod_nonneg (2 * b + a - 1) (show 2 * a ≠ 0 by omega)
  have h3 := Int.emod_lt_of_pos (2 * b + a - 1) (show 0 < 2 * a by omega)
  have h4 : 1 ≤ (2 * b + a - 1) / (2 * a) := by
    rw [Int.le_ediv_iff_mul_le (by omega)]
    omega
  have h5 : 2 * a * ((2 * b + a - 1) / (2 * a)) = 2 * ((2 * b + a - 1) / (2 * a) * a) := by
    rw [Int.mul_assoc, Int.mul_comm a]
  rw [h5] at h1
  refine ⟨h4, by omega, by omega⟩
theorem Hv.start {ns : List Int} {lo mi hi : Nat} {p : Int} (hp : 1 ≤ p) : Hv ns lo mi hi p p 0 1 [] ns :=
  ⟨.nil _, by omega, by omega, by omega, hp, rfl, by omega, by omega, by omega, fun _ _ _ _ => rfl⟩
theorem Hv.next {ns m : List Int} {lo mi hi : Nat} {p q r e : Int} {ps : List (Nat × Nat)} (T : Three ns lo mi hi) (h : Hv ns lo mi hi p q r e ps m) (hpa : (p - 1) * ns.getD lo 0 ≤ ns.getD mi 0) (hq : 1 < q) (g : Nat) (hg : g = if q % 2 = 1 then mi else hi) :
    Hv ns lo mi hi p (q / 2) (if q % 2 = 1 then r + e else r) (2 * e) (ps ++ [(g, lo)]) (mv m g lo) := by
  have hlen := h.go.len
  have a0 := T.pos
  have e1 : q = 2 * (q / 2) + q % 2 := by omega
  have hq2 : 1 ≤ q / 2 := by omega
  have he : 0 < e := by
    have := h.r0
    have := h.re
    omega
  have pe : 2 * e ≤ (q / 2) * (2 * e) := by
    have := Int.mul_le_mul_of_nonneg_right hq2 (show 0 ≤ 2 * e by omega)
    omega
  have r0 := h.r0
  have re := h.re
  have ea : 0 < e * ns.getD lo 0 := Int.mul_pos he a0
  have d2 : 2 * e * ns.getD lo 0 = 2 * (e * ns.getD lo 0) := Int.mul_assoc _ _ _
  have hlo : lo < m.length := by rw [hlen]; exact T.blo
  by_cases hb : q % 2 = 1
  · rw [if_pos hb] at hg
    subst hg
    rw [if_pos hb]
    have ep : p = (q / 2) * (2 * e) + (r + e) := by
      have : q * e = (q / 2) * (2 * e) + e := by
        rw (occs := [1]) [e1]
        rw [hb, Int.add_mul, Int.one_mul, Int.mul_comm 2, Int.mul_assoc]
      have := h.pq
      omega
    have k1 : (r + e) * ns.getD lo 0 ≤ (p - 1) * ns.getD lo 0 := Int.mul_le_mul_of_nonneg_right (by omega) (by omega)
    have k2 : (r + e) * ns.getD lo 0 = r * ns.getD lo 0 + e * ns.getD lo 0 := Int.add_mul _ _ _
    have k3 : (2 * e - 1 - (r + e)) = e - 1 - r := by omega
    have hmi : g < m.length := by rw [hlen]; exact T.bmi
    have hc : can m g lo = true := can_iff.mpr (by rw [h.lo_, h.mi_]; omega)
    refine ⟨h.go.app (.one hmi hlo (Ne.symm T.n1) hc), ep, by omega, by omega, hq2, ?_, ?_, ?_, ?_, fun k x1 x2 x3 => ?_⟩
    · rw [List.length_append, h.len]
      show 2 * 2 ^ ps.length = 2 ^ (ps.length + 1)
      rw [Int.pow_succ, Int.mul_comm]
    · rw [getD_mv hmi hlo (Ne.symm T.n1), if_pos rfl, h.lo_, d2]
    · rw [getD_mv hmi hlo (Ne.symm T.n1), if_neg (Ne.symm T.n1), if_pos rfl, h.lo_, h.mi_, k2]
      omega
    · rw [getD_mv hmi hlo (Ne.symm T.n1), if_neg (Ne.symm T.n2), if_neg (Ne.symm T.n3), h.hi_, k3]
    · rw [getD_mv hmi hlo (Ne.symm T.n1), if_neg x1, if_neg x2]
      exact h.un k x1 x2 x3
  · rw [if_neg hb] at hg
    subst hg
    rw [if_neg hb]
    have ep : p = (q / 2) * (2 * e) + r := by
      have : q * e = (q / 2) * (2 * e) := by
        rw (occs := [1]) [e1]
        rw [show q % 2 = 0 by omega, Int.add_zero, Int.mul_comm 2, Int.mul_assoc]
      have := h.pq
      omega
    have k1 : (2 * e - 1 - r) * ns.getD lo 0 ≤ (p - 1) * ns.getD lo 0 := Int.mul_le_mul_of_nonneg_right (by omega) (by omega)
    have k2 : (2 * e - 1 - r) * ns.getD lo 0 = (e - 1 - r) * ns.getD lo 0 + e * ns.getD lo 0 := by
      rw [← Int.add_mul]
      congr 1
      omega
    have le2 := T.le2
    have hhi : g < m.length := by rw [hlen]; exact T.bhi
    have hc : can m g lo = true := can_iff.mpr (by rw [h.lo_, h.hi_]; omega)
    refine ⟨h.go.app (.one hhi hlo (Ne.symm T.n2) hc), ep, by omega, by omega, hq2, ?_, ?_, ?_, ?_, fun k x1 x2 x3 => ?_⟩
    · rw [List.length_append, h.len]
      show 2 * 2 ^ ps.length = 2 ^ (ps.length + 1)
      rw [Int.pow_succ, Int.mul_comm]
    · rw [getD_mv hhi hlo (Ne.symm T.n2), if_pos rfl, h.lo_, d2]
    · rw [getD_mv hhi hlo (Ne.symm T.n2), if_neg (Ne.symm T.n1), if_neg T.n3, h.mi_]
    · rw [getD_mv hhi hlo (Ne.symm T.n2), if_neg (Ne.symm T.n2), if_pos rfl, h.lo_, h.hi_, k2]
      omega
    · rw [getD_mv hhi hlo (Ne.symm T.n2), if_neg x1, if_neg x3]
      exact h.un k x1 x2 x3
/-- what halving is for: at one of the three places at most half of the least, elsewhere nothing new; so many steps that 2 to their number is at most the whole -/
structure Halved (ns : List Int) (lo mi hi : Nat) (ps : List (Nat × Nat)) (m : List Int) : Prop where
  go : Gone ns ps m
  half : ∃ k, (k = lo ∨ k = mi ∨ k = hi) ∧ 2 * m.getD k 0 ≤ ns.getD lo 0
  un : ∀ k, k ≠ lo → k ≠ mi → k ≠ hi → m.getD k 0 = ns.getD k 0
  len : (2 : Int) ^ ps.length ≤ ns.sum
theorem Hv.end {ns m : List Int} {lo mi hi : Nat} {p r e : Int} {ps : List (Nat × Nat)} (N : NN ns) (T : Three ns lo mi hi) (h : Hv ns lo mi hi p 1 r e ps m) (n1 : -ns.getD lo 0 < 2 * ns.getD mi 0 - 2 * (p * ns.getD lo 0)) (n2 : 2 * ns.getD mi 0 - 2 * (p * ns.getD lo 0) ≤ ns.getD lo 0) :
    Halved ns lo mi hi (ps ++ [if p * ns.getD lo 0 > ns.getD mi 0 then (lo, mi) else (mi, lo)]) (if p * ns.getD lo 0 > ns.getD mi 0 then mv m lo mi else mv m mi lo) := by
  have hlen := h.go.len
  have a0 := T.pos
  have r0 := h.r0
  have re := h.re
  have he : 0 < e := by omega
  have hlo : lo < m.length := by rw [hlen]; exact T.blo
  have hmi : mi < m.length := by rw [hlen]; exact T.bmi
  have ep : p = e + r := by
    have := h.pq
    omega
  have k1 : p * ns.getD lo 0 = e * ns.getD lo 0 + r * ns.getD lo 0 := by rw [ep, Int.add_mul]
  have k2 : 1 * ns.getD lo 0 ≤ e * ns.getD lo 0 := Int.mul_le_mul_of_nonneg_right (by omega) (by omega)
  have s3 := sum_three N T.blo T.bmi T.bhi T.n1 T.n2 T.n3
  have le2 := T.le2
  have elen : (2 : Int) ^ (ps.length + 1) ≤ ns.sum := by
    have q1 : (2 : Int) ^ (ps.length + 1) = 2 * e := by rw [Int.pow_succ, ← h.len, Int.mul_comm]
    have q2 : p * 1 ≤ p * ns.getD lo 0 := Int.mul_le_mul_of_nonneg_left (by omega) (by omega)
    omega
  by_cases hs : p * ns.getD lo 0 > ns.getD mi 0
  · rw [if_pos hs, if_pos hs]
    have hc : can m lo mi = true := can_iff.mpr (by rw [h.lo_, h.mi_]; omega)
    refine ⟨h.go.app (.one hlo hmi T.n1 hc), ⟨lo, .inl rfl, ?_⟩, fun k x1 x2 x3 => ?_, by rw [List.length_append]; exact elen⟩
    · rw [getD_mv hlo hmi T.n1, if_neg T.n1, if_pos rfl, h.lo_, h.mi_]
      omega
    · rw [getD_mv hlo hmi T.n1, if_neg x2, if_neg x1]
      exact h.un k x1 x2 x3
  · rw [if_neg hs, if_neg hs]
    have hc : can m mi lo = true := can_iff.mpr (by rw [h.lo_, h.mi_]; omega)
    refine ⟨h.go.app (.one hmi hlo (Ne.symm T.n1) hc), ⟨mi, .inr (.inl rfl), ?_⟩, fun k x1 x2 x3 => ?_, by rw [List.length_append]; exact elen⟩
    · rw [getD_mv hmi hlo (Ne.symm T.n1), if_neg (Ne.symm T.n1), if_pos rfl, h.lo_, h.mi_]
      omega
    · rw [getD_mv hmi hlo (Ne.symm T.n1), if_neg x1, if_neg x2]
      exact h.un k x1 x2 x3
end Hd
set_option maxHeartbeats 4000000
namespace Hd
open PySem PySem.Spec PyProof.Rows L2
def top (i : Nat) : Stmt := PySem.Challenge.pw_heapsdouble_k13_whole_rings_of_two.main.body.getD i (.Pass ⟨0, 0, 0, 0⟩)
/-! ### the draws -/
structure Tx (K : PySem.W.Frag) (mg : Str → Option Value) : Prop where
  int : mg "int" = none
  list : mg "list" = none
  max : mg "max" = none
  len : mg "len" = none
  tuple : mg "tuple" = none
  range : mg "range" = none
/-- the source of draws at h: [state, cells, index], the cells at c -/
structure DrawAt (H : Hp) (h c : Addr) : Prop where
  ex : ∃ (st ix : Int) (cells : List Int), H h = some (.lst [.int st, .ref c, .int ix]) ∧ H c = some (.lst (cells.map V.int)) ∧ cells.length ≤ 63
  ne : h ≠ c
/-- all but the source stands as it stood -/
def Kept (h c : Addr) (H H' : Hp) : Prop := ∀ a o, H a = some o → a ≠ h → a ≠ c → H' a = some o
theorem Kept.refl {h c : Addr} {H : Hp} : Kept h c H H := fun _ _ e _ _ => e
theorem Kept.of {h c : Addr} {H H' : Hp} (e : Same H H') : Kept h c H H' := fun a o q _ _ => e a o q
theorem Kept.trans {h c : Addr} {H H1 H2 : Hp} (a : Kept h c H H1) (b : Kept h c H1 H2) : Kept h c H H2 := fun x o e n m => b x o (a x o e n m) n m
theorem Kept.new {h c : Addr} {H H1 : Hp} {p : Addr} {o : HO} (a : Kept h c H H1) (hp : H p = none) : Kept h c H (upd H1 p o) := fun x u e n m => by
  rw [upd_ne (ne_of_none e hp)]
  exact a x u e n m
theorem Kept.at_h {h c : Addr} {H H1 : Hp} {o : HO} (a : Kept h c H H1) : Kept h c H (upd H1 h o) := fun x u e n m => by
  rw [upd_ne n]
  exact a x u e n m
theorem Kept.at_c {h c : Addr} {H H1 : Hp} {o : HO} (a : Kept h c H H1) : Kept h c H (upd H1 c o) := fun x u e n m => by
  rw [upd_ne m]
  exact a x u e n m
theorem DrawAt.new {H : Hp} {h c p : Addr} {o : HO} (d : DrawAt H h c) (hp : H p = none) : DrawAt (upd H p o) h c := by
  obtain ⟨⟨st, ix, cells, h1, h2, h3⟩, ne⟩ := d
  exact ⟨⟨st, ix, cells, by rw [upd_ne (ne_of_none h1 hp)]; exact h1, by rw [upd_ne (ne_of_none h2 hp)]; exact h2, h3⟩, ne⟩
theorem DrawAt.upd {H : Hp} {h c p : Addr} {o : HO} (d : DrawAt H h c) (hh : p ≠ h) (hc : p ≠ c) : DrawAt (upd H p o) h c := by
  obtain ⟨⟨st, ix, cells, h1, h2, h3⟩, ne⟩ := d
  exact ⟨⟨st, ix, cells, by rw [upd_ne (Ne.symm hh)]; exact h1, by rw [upd_ne (Ne.symm hc)]; exact h2, h3⟩, ne⟩
theorem DrawAt.same {H H' : Hp} {h c : Addr} (d : DrawAt H h c) (e : Same H H') : DrawAt H' h c := by
  obtain ⟨⟨st, ix, cells, h1, h2, h3⟩, ne⟩ := d
  exact ⟨⟨st, ix, cells, e _ _ h1, e _ _ h2, h3⟩, ne⟩
theorem DrawAt.nots {H : Hp} {h c p : Addr} (d : DrawAt H h c) (hp : H p = none) : p ≠ h ∧ p ≠ c := by
  obtain ⟨⟨st, ix, cells, h1, h2, h3⟩, ne⟩ := d
  exact ⟨(ne_of_none h1 hp).symm, (ne_of_none h2 hp).symm⟩
theorem Kept.free {h c p : Addr} {H H' : Hp} (k : Kept h c H H') (d : DrawAt H' h c) (hp : H' p = none) : H p = none := by
  obtain ⟨n1, n2⟩ := d.nots hp
  cases e : H p with
  | none => rfl
  | some o =>
    rw [k p o e n1 n2] at hp
    cases hp
theorem Kept.tup {K : PySem.W.Frag} {h c a : Addr} {H H' : Hp} {xs : List V} (k : Kept h c H H') (d : DrawAt H h c) (q : SqT K H a xs) : SqT K H' a xs := by
  obtain ⟨⟨st, ix, cells, h1, h2, h3⟩, ne⟩ := d
  rcases q with (q | ⟨o, q⟩) | q
  · exact .inl (.inl (k _ _ q (ne_of q h1 (by intro z; cases z)) (ne_of q h2 (by intro z; cases z))))
  · exact .inl (.inr ⟨o, k _ _ q (ne_of q h1 (by intro z; cases z)) (ne_of q h2 (by intro z; cases z))⟩)
  · exact .inr q
def spMix (K : PySem.W.Frag) : Sp := fun vs H Q _ => ∃ (a : Addr) (ns : List Int) (seed : Int), vs = [.ref a, .int seed] ∧ SqL K H a (ns.map V.int) ∧ ns.length ≤ 63 ∧
  ∀ (h c : Addr) (H' : Hp), H h = none → H c = none → Same H H' → DrawAt H' h c → Q (.ref h) H'
def spNext : Sp := fun vs H Q _ => ∃ (h c : Addr) (b : Int), vs = [.ref h, .int b] ∧ DrawAt H h c ∧ 0 < b ∧ b < 2 ^ 200 ∧
  ∀ (n : Int) (H' : Hp), 0 ≤ n → n < b → DrawAt H' h c → Kept h c H H' → Q (.int n) H'
/-- the place of the drawn cell -/
theorem draw_ix (cells : List Int) (ix : Int) : ∃ (j : Nat) (z : Int), ix % (if (cells.length : Int) > 1 then (cells.length : Int) else 1) = (j : Int) ∧ (cells.map V.int ++ [V.int 0])[j]? = some (.int z) ∧ (cells = [] → z = 0) ∧ (cells ≠ [] → j < cells.length ∧ (if (cells.length : Int) > 1 then (cells.length : Int) else 1) = (cells.length : Int)) := by
  have hm : 0 < (if (cells.length : Int) > 1 then (cells.length : Int) else 1) := by split <;> omega
  have h0 := Int.emod_nonneg ix (Int.ne_of_gt hm)
  have h1 := Int.emod_lt_of_pos ix hm
  obtain ⟨j, hj⟩ := Int.eq_ofNat_of_zero_le h0
  rw [hj] at h1
  cases cells with
  | nil =>
    refine ⟨j, 0, hj, ?_, fun _ => rfl, fun h => absurd rfl h⟩
    simp at h1
    have : j = 0 := by omega
    subst this
    rfl
  | cons x r =>
    have hm2 : (if (((x :: r).length : Nat) : Int) > 1 then (((x :: r).length : Nat) : Int) else 1) = (((x :: r).length : Nat) : Int) := by
      split
      · rfl
      · have : (((x :: r).length : Nat) : Int) ≥ 1 := by rw [List.length_cons]; omega
        omega
    rw [hm2] at h1
    have hlt : j < (x :: r).length := by omega
    refine ⟨j, (x :: r)[j], hj, ?_, fun h => (nomatch h), fun _ => ⟨hlt, hm2⟩⟩
    rw [List.getElem?_append_left (by rw [List.length_map]; exact hlt), List.getElem?_map, List.getElem?_eq_getElem hlt]
    rfl
theorem int_at {ns : List Int} {i : Nat} {y : V} (hi : (ns.map V.int)[i]? = some y) : ∃ z, ns[i]? = some z ∧ y = V.int z := by
  rw [List.getElem?_map] at hi
  cases e : ns[i]? with
  | none =>
    rw [e] at hi
    cases hi
  | some z =>
    rw [e] at hi
    exact ⟨z, rfl, (Option.some.inj hi).symm⟩
section
variable {P : Program} {w : World} {K : PySem.W.Frag} {mg : Str → Option Value} {base : Heap}
abbrev s_l_mix : Stmt := top 33
theorem sc_l_mix : FnScope ["_law_script", "_law_seed", "_law_state", "_law_cell"] ["_law_script", "_law_seed"] (defScope s_l_mix) := ⟨rfl, rfl, rfl, by decide +kernel, rfl, by decide +kernel, by decide +kernel⟩
theorem ok_mix {f : Addr} {fd : FuncData} (F : Fun K "_law_mix" "_law_mix" s_l_mix f fd) (T : Tx K mg) : FnOk P w K mg base CX0 1 f fd ["_law_script", "_law_seed"] (spMix K) := by
  refine F.ok sc_l_mix (fun vs H Q E h => ?_) (fun cdv A outer s H vs Q E hr h => ?_)
  · obtain ⟨a, ns, seed, rfl, _⟩ := h
    rfl
  · obtain ⟨a, ns, seed, rfl, hS, hlen, k⟩ := h
    refine ⟨_, (pss_cons (ps_set (i := 2) sc_l_mix.nd rfl (Or.inl rfl) (pv 1))
      (pss_cons (ps_for PassesOwn.never rfl (pi_list (pv 0)) (pg_name (i := 3) sc_l_mix.nd rfl (Or.inl rfl))
      (pss_one (ps_set (i := 2) sc_l_mix.nd rfl (Or.inl rfl) (pe_op op_mod (pe_callTy call_int1 (by rfl) T.int (by decide +kernel) (pa_cons (pe_op op_add (pe_op op_add (pe_op op_mul (pv 2) pe_int) (pe_op op_mod (pe_callTy call_int1 (by rfl) T.int (by decide +kernel) (pa_cons (pv 3) pa_nil)) pe_int)) pe_int) pa_nil)) pe_int))))
      (pss_one (ps_ret (pe_lst (pa_cons (pv 2) (pa_cons (pe_callTy call_list_of (by rfl) T.list (by decide +kernel) (pa_cons (pv 0) pa_nil)) (pa_cons pe_int pa_nil)))))))), ?_⟩
    refine ⟨_, rfl, _, rfl, a, rfl, ⟨_, hS⟩, for_list (K := K) (a := a) (xs := ns.map V.int) (fun i σ H2 => ∃ (st : Int) (v : Option V), σ = [some (.ref a), some (.int seed), some (.int st), v] ∧ H2 = H)
      ⟨seed, none, rfl, rfl⟩ (fun i σ H2 _ ⟨_, _, _, e⟩ => by rw [e]; exact hS) ?_ ?_⟩
    · rintro i y σ H2 hi ⟨st, v, rfl, rfl⟩
      obtain ⟨z, _, rfl⟩ := int_at hi
      refine ⟨_, rfl, _, _, rfl, rfl, .inr ⟨by decide, by decide⟩, _, rfl, .inl ⟨_, rfl, _, _, rfl, rfl, (by show (0 : Int) < 2147483629; decide), _, _, rfl, rfl, _, _, rfl, rfl, .inl ⟨_, rfl, _, _, rfl, rfl, (by show (0 : Int) < 2147483647; decide), ?_⟩⟩⟩
      exact ⟨_, _, rfl, rfl⟩
    · rintro σ H2 ⟨st, v, rfl, rfl⟩
      refine ⟨_, rfl, _, rfl, a, _, rfl, .inl hS, fun c hc => ⟨by show 3 ≤ sizeLine; decide, fun h hh => ?_⟩⟩
      have hch : h ≠ c := fun e => by
        rw [e, upd_same] at hh
        cases hh
      have hh0 : H2 h = none := by
        rw [upd_ne hch] at hh
        exact hh
      refine k h c _ hh0 hc (same_upd (same_upd (Same.refl _) hc) hh0) ⟨⟨st, 0, ns, upd_same, by rw [upd_ne hch.symm, upd_same], hlen⟩, hch⟩
abbrev s_l_next : Stmt := top 34
theorem sc_l_next : FnScope ["_law_h", "_law_bound", "_law_cell", "_law_cells"] ["_law_h", "_law_bound"] (defScope s_l_next) := ⟨rfl, rfl, rfl, by decide +kernel, rfl, by decide +kernel, by decide +kernel⟩
theorem ok_next {f : Addr} {fd : FuncData} (F : Fun K "_law_next" "_law_next" s_l_next f fd) (T : Tx K mg) : FnOk P w K mg base CX0 1 f fd ["_law_h", "_law_bound"] spNext := by
  refine F.ok sc_l_next (fun vs H Q E h => ?_) (fun cdv A outer s H vs Q E hr h => ?_)
  · obtain ⟨a, c, b, rfl, _⟩ := h
    rfl
  · obtain ⟨h, c, b, rfl, D, hb, hb2, k⟩ := h
    obtain ⟨⟨st, ix, cells, hh, hc, hl⟩, hne0⟩ := id D
    refine ⟨_, (pss_cons (ps_set (i := 2) sc_l_next.nd rfl (Or.inl rfl) (pe_ix ix_list (pe_op op_cat (pe_ix ix_list (pv 0) pe_int (fun _ _ => rfl)) (pe_lst (pa_cons pe_int pa_nil))) (pe_op op_mod (pe_callTy call_int1 (by rfl) T.int (by decide +kernel) (pa_cons (pe_ix ix_list (pv 0) pe_int (fun _ _ => rfl)) pa_nil)) (pe_callB (call_max2 rfl) (by rfl) T.max (by decide +kernel) (pa_cons pe_int (pa_cons (pe_callB call_len_seq (by rfl) T.len PySem.boot_len (pa_cons (pe_ix ix_list (pv 0) pe_int (fun _ _ => rfl)) pa_nil)) pa_nil)))) (fun _ _ => rfl)))
      (pss_cons (ps_if (pt_cmpR op_ge (pv 2) (pe_op op_pow pe_int pe_int) (nomark _)) (pss_cons (ps_set (i := 3) sc_l_next.nd rfl (Or.inl rfl) (pe_ix ix_list (pv 0) pe_int (fun _ _ => rfl)))
      (pss_cons (ps_asg (pe_op op_fdivW (pv 2) (pv 1)) (pg_sub (pv 3) (pe_op op_mod (pe_callTy call_int1 (by rfl) T.int (by decide +kernel) (pa_cons (pe_ix ix_list (pv 0) pe_int (fun _ _ => rfl)) pa_nil)) (pe_callB call_len_seq (by rfl) T.len PySem.boot_len (pa_cons (pv 3) pa_nil))) set_list))
      (pss_one (ps_ret (pe_op op_mod (pe_callTy call_int1 (by rfl) T.int (by decide +kernel) (pa_cons (pv 2) pa_nil)) (pv 1)))))) pss_nil)
      (pss_cons (ps_asg (pe_op op_mod (pe_callTy call_int1 (by rfl) T.int (by decide +kernel) (pa_cons (pe_op op_add (pe_op op_add (pe_op op_mul (pe_ix ix_list (pv 0) pe_int (fun _ _ => rfl)) pe_int) (pe_op op_mul (pv 2) pe_int)) pe_int) pa_nil)) pe_int) (pg_sub (pv 0) pe_int set_list))
      (pss_cons (ps_asg (pe_op op_add (pe_ix ix_list (pv 0) pe_int (fun _ _ => rfl)) pe_int) (pg_sub (pv 0) pe_int set_list))
      (pss_one (ps_ret (pe_op op_mod (pe_callTy call_int1 (by rfl) T.int (by decide +kernel) (pa_cons (pe_op op_fdiv (pe_ix ix_list (pv 0) pe_int (fun _ _ => rfl)) pe_int) pa_nil)) (pv 1)))))))), ?_⟩
    obtain ⟨j, z, ej, ez, e0, e1⟩ := draw_ix cells ix
    -- _law_cell
    refine ⟨_, rfl, h, _, _, _, rfl, rfl, SqL.of hh, rfl, by show 1 ≤ sizeLine; decide, fun p hp => ?_⟩
    have nph : h ≠ p := ne_of_none hh hp
    have npc : c ≠ p := ne_of_none hc hp
    refine ⟨c, p, _, _, rfl, rfl, by rw [upd_ne npc]; exact hc, upd_same, ?_, fun q hq => ?_⟩
    · rw [List.length_map, sizeLine_eq]
      show cells.length + 1 ≤ _
      omega
    have nqp : p ≠ q := ne_of_none upd_same hq
    have hq' : H q = none := by
      rw [upd_ne nqp.symm] at hq
      exact hq
    have nqh : h ≠ q := ne_of_none hh hq'
    have nqc : c ≠ q := ne_of_none hc hq'
    have hh2 : (upd (upd H p (.lst [.int 0])) q (.lst (cells.map V.int ++ [.int 0]))) h = some (.lst [.int st, .ref c, .int ix]) := by rw [upd_ne nqh, upd_ne nph]; exact hh
    have hc2 : (upd (upd H p (.lst [.int 0])) q (.lst (cells.map V.int ++ [.int 0]))) c = some (.lst (cells.map V.int)) := by rw [upd_ne nqc, upd_ne npc]; exact hc
    have hq2 : (upd (upd H p (.lst [.int 0])) q (.lst (cells.map V.int ++ [.int 0]))) q = some (.lst (cells.map V.int ++ [.int 0])) := upd_same
    have kk : Kept h c H (upd (upd H p (.lst [.int 0])) q (.lst (cells.map V.int ++ [.int 0]))) := (Kept.refl.new hp).new hq'
    generalize upd (upd H p (.lst [.int 0])) q (.lst (cells.map V.int ++ [.int 0])) = H2 at hh2 hc2 hq2 kk ⊢
    refine ⟨_, rfl, h, _, _, _, rfl, rfl, SqL.of hh2, rfl, .inl ⟨_, rfl, _, rfl, h, _, _, _, rfl, rfl, SqL.of hh2, rfl, c, _, rfl, .inl (SqL.of hc2), _, _, rfl, ?_⟩⟩
    rw [List.length_map]
    refine ⟨_, _, rfl, rfl, (by split <;> omega), q, _, _, _, rfl, rfl, SqL.of hq2, at_of ej ez, ?_⟩
    -- if _law_cell >= 10 ** 18
    refine ⟨_, rfl, _, _, rfl, rfl, ⟨by decide, by decide, by decide⟩, _, _, rfl, rfl, _, rfl, ?_⟩
    refine ite2 (fun hge => ?_) (fun _ => ?_)
    · have hz : (10 : Int) ^ 18 ≤ z := of_decide_eq_true hge
      have hz0 : z ≠ 0 := by omega
      have hne : cells ≠ [] := fun e => hz0 (e0 e)
      obtain ⟨hj, em⟩ := e1 hne
      rw [em] at ej
      refine ⟨_, rfl, h, _, _, _, rfl, rfl, SqL.of hh2, rfl, _, rfl, _, rfl, _, _, rfl, rfl, wide_div hb (b := 200) ?_ (by decide) (by decide), ?_⟩
      · omega
      refine ⟨_, rfl, _, rfl, h, _, _, _, rfl, rfl, SqL.of hh2, rfl, .inl ⟨_, rfl, _, rfl, c, _, rfl, .inl (SqL.of hc2), _, _, rfl, rfl, ?_, ?_⟩⟩
      · rw [List.length_map]
        omega
      refine ⟨c, _, _, j, rfl, rfl, hc2, ?_, ?_⟩
      · rw [List.length_map, ej]
        unfold ixN
        rw [if_pos (by omega), if_pos (by omega)]
        simp
      refine ⟨_, rfl, .inl ⟨_, rfl, _, rfl, _, _, rfl, rfl, hb, ?_⟩⟩
      refine k _ _ (Int.emod_nonneg _ (by omega)) (Int.emod_lt_of_pos _ hb) ⟨⟨st, ix, cells.set j (z / b), ?_, ?_, by rw [List.length_set]; exact hl⟩, hne0⟩ kk.at_c
      · rw [upd_ne hne0]
        exact hh2
      · rw [upd_same, List.map_set]
    · -- _law_h[0] = ..
      refine ⟨_, rfl, h, _, _, _, rfl, rfl, SqL.of hh2, rfl, _, _, rfl, rfl, .inr ⟨by decide, by decide⟩, _, rfl, _, _, rfl, rfl, .inr ⟨by decide, by decide⟩, _, _, rfl, rfl, _, _, rfl, rfl, .inl ⟨_, rfl, _, _, rfl, rfl, (by show (0 : Int) < 2147483647; decide), ?_⟩⟩
      refine ⟨_, rfl, h, _, _, 0, rfl, rfl, hh2, rfl, ?_⟩
      -- _law_h[2] = _law_h[2] + 1
      refine ⟨_, rfl, h, _, _, _, rfl, rfl, SqL.of upd_same, rfl, _, _, rfl, rfl, _, rfl, h, _, _, 2, rfl, rfl, upd_same, rfl, ?_⟩
      refine ⟨_, rfl, h, _, _, _, rfl, rfl, SqL.of upd_same, rfl, _, _, rfl, rfl, ⟨by decide, by decide⟩, .inl ⟨_, rfl, _, rfl, _, _, rfl, rfl, hb, ?_⟩⟩
      refine k _ _ (Int.emod_nonneg _ (by omega)) (Int.emod_lt_of_pos _ hb) ⟨⟨_, _, cells, upd_same, ?_, hl⟩, hne0⟩ kk.at_h.at_h
      rw [upd_ne hne0.symm, upd_ne hne0.symm]
      exact hc2
theorem pick5 {x0 x1 x2 x3 x4 : Int} {n : Int} (h0 : 0 ≤ n) (h5 : n < 5) : ∃ z, atI [V.int x0, V.int x1, V.int x2, V.int x3, V.int x4] n = some (V.int z) ∧ z ∈ [x0, x1, x2, x3, x4] := by
  have : n = 0 ∨ n = 1 ∨ n = 2 ∨ n = 3 ∨ n = 4 := by omega
  rcases this with e | e | e | e | e <;> subst e <;> exact ⟨_, rfl, by simp⟩
end
end Hd
set_option maxHeartbeats 4000000
namespace Hd
open PySem PySem.Spec PyProof.Rows L2
theorem pe_gint {X : Cx} {x : Str} {v : Int} {pos : Pos} (hg : Gl X x) (hm : ∃ t, X.mg x = some (.int v t)) (hd : (x == ("__debug__" : Str)) = false := by decide) : PE X (.Name x pos) (tC (.int v)) := by
  obtain ⟨t, hm⟩ := hm
  exact pe_glob hg hm ⟨t, rfl⟩ hd
theorem tyx_tup {K : PySem.W.Frag} {H : Hp} {a : Addr} {xs : List V} (h : SqT K H a xs) : TyX K H (.ref a) (.type "tuple") := by
  rcases h with (h | ⟨o, h⟩) | ⟨o, its, n, hk, hc, _⟩
  · exact .base (.tup h)
  · exact .fTuple h
  · exact .kTuple hk hc
/-- what the program's top gives its defs -/
structure Tp (K : PySem.W.Frag) (mg : Str → Option Value) : Prop where
  int : mg "int" = none
  bool : mg "bool" = none
  list : mg "list" = none
  len : mg "len" = none
  tuple : mg "tuple" = none
  isinstance : mg "isinstance" = none
  all : mg "all" = none
  sum : mg "sum" = none
  enumerate : mg "enumerate" = none
  range : mg "range" = none
  c_FEWEST_HEAPS : ∃ t, mg "FEWEST_HEAPS" = some (.int 2 t)
  c_MOST_HEAPS : ∃ t, mg "MOST_HEAPS" = some (.int 6 t)
  c_GREATEST : ∃ t, mg "GREATEST" = some (.int (10 ^ 30) t)
/-! ### the mirror -/
def inR (l g v : Int) : Bool := decide (l ≤ v) && decide (v ≤ g)
def hpsB (ns : List Int) : Bool := (decide (2 ≤ ns.length) && decide (ns.length ≤ 6)) && ((ns.map (inR 0 (10 ^ 30))).all id && decide (0 < ns.sum))
theorem getD_at {ns : List Int} {i : Nat} (h : i < ns.length) : (ns.map V.int)[i]? = some (.int (ns.getD i 0)) := by
  rw [List.getElem?_map, List.getElem?_eq_getElem h]
  show some (V.int ns[i]) = _
  congr 2
  rw [List.getD_eq_getElem?_getD, List.getElem?_eq_getElem h]
  rfl
theorem ixN_nat {n i : Nat} (h : i < n) : ixN n (i : Int) = some i := by
  unfold ixN
  rw [if_pos (by omega), if_pos (by omega)]
  simp
/-! ### the promises -/
def spIsInt : Sp := fun vs H Q _ => ∃ v l g : Int, vs = [.int v, .int l, .int g] ∧ Q (.bl (inR l g v)) H
def spIsHeaps (K : PySem.W.Frag) : Sp := fun vs H Q _ => ∃ (t : Addr) (ns : List Int), vs = [.ref t] ∧ SqT K H t (ns.map V.int) ∧ ns.length ≤ 1000 ∧ ∀ H', Same H H' → Q (.bl (hpsB ns)) H'
def spChkHeaps (K : PySem.W.Frag) : Sp := fun vs H Q _ => ∃ (t : Addr) (ns : List Int), vs = [.ref t] ∧ SqT K H t (ns.map V.int) ∧ hpsB ns = true ∧ ∀ H', Same H H' → Q .non H'
section
variable {P : Program} {w : World} {K : PySem.W.Frag} {mg : Str → Option Value} {base : Heap}
abbrev s_is_integer : Stmt := top 16
theorem sc_is_integer : FnScope ["value", "least", "greatest"] ["value", "least", "greatest"] (defScope s_is_integer) := ⟨rfl, rfl, rfl, by decide +kernel, rfl, by decide +kernel, by decide +kernel⟩
theorem ok_is_integer {f : Addr} {fd : FuncData} (F : Fun K "is_integer" "is_integer" s_is_integer f fd) (T : Tp K mg) : FnOk P w K mg base CX0 1 f fd ["value", "least", "greatest"] spIsInt := by
  refine F.ok sc_is_integer (fun vs H Q E h => ?_) (fun cdv A outer s H vs Q E hr h => ?_)
  · obtain ⟨v, l, g, rfl, _⟩ := h
    rfl
  · obtain ⟨v, l, g, rfl, k⟩ := h
    refine ⟨_, (pss_cons (ps_if (PW.pt (pw_or (pt_val (pe_callB call_isi (by rfl) T.isinstance (by decide +kernel) (pa_cons (pv 0) (pa_cons (pe_bltn (v := .ty "bool") (u := .type "bool") (by rfl) T.bool (by decide +kernel) rfl) pa_nil)))) (pw_or1 (pt_not (pt_val (pe_callB call_isi (by rfl) T.isinstance (by decide +kernel) (pa_cons (pv 0) (pa_cons (pe_bltn (v := .ty "int") (u := .type "int") (by rfl) T.int (by decide +kernel) rfl) pa_nil)))))))) (pss_one (ps_ret pe_bl)) pss_nil)
      (pss_one (ps_ret (pe_chain op_le op_le (pv 1) (pv 0) (pv 2))))), ?_⟩
    refine ⟨_, rfl, _, _, _, _, false, rfl, ClsV.ty _, .base (.int _), kit_ty (by decide +kernel), _, rfl, ?_⟩
    refine iteF ⟨_, rfl, _, _, _, _, true, rfl, ClsV.ty _, .base (.int _), kit_ty (by decide +kernel), _, rfl, ?_⟩
    refine iteF ?_
    refine ⟨_, rfl, _, rfl, _, _, rfl, rfl, _, rfl, ?_⟩
    unfold inR at k
    cases hd : decide (l ≤ v) with
    | false =>
      rw [hd] at k
      exact iteF k
    | true =>
      rw [hd] at k
      exact iteT ⟨_, rfl, _, _, rfl, rfl, k⟩
abbrev s_is_heaps : Stmt := top 17
theorem sc_is_heaps : FnScope ["value", "heap"] ["value"] (defScope s_is_heaps) := ⟨rfl, rfl, rfl, by decide +kernel, rfl, by decide +kernel, by decide +kernel⟩
theorem ok_is_heaps {f : Addr} {fd : FuncData} (F : Fun K "is_heaps" "is_heaps" s_is_heaps f fd) (T : Tp K mg) (C_is_integer : Cal P w K mg base CX0 1 "is_integer" ["value", "least", "greatest"] spIsInt) : FnOk P w K mg base CX0 2 f fd ["value"] (spIsHeaps K) := by
  refine F.ok sc_is_heaps (fun vs H Q E h => ?_) (fun cdv A outer s H vs Q E hr h => ?_)
  · obtain ⟨t, ns, rfl, _⟩ := h
    rfl
  · obtain ⟨t, ns, rfl, hS, hl, k⟩ := h
    refine ⟨_, (pss_cons (ps_if (PW.pt (pw_or (pt_not (pt_val (pe_callB call_isi (by rfl) T.isinstance (by decide +kernel) (pa_cons (pv 0) (pa_cons (pe_bltn (v := .ty "tuple") (u := .type "tuple") (by rfl) T.tuple (by decide +kernel) rfl) pa_nil))))) (pw_or1 (pt_not (pt_chain op_le op_le (pe_gint rfl T.c_FEWEST_HEAPS) (pe_callB call_len_seq (by rfl) T.len PySem.boot_len (pa_cons (pv 0) pa_nil)) (pe_gint rfl T.c_MOST_HEAPS)))))) (pss_one (ps_ret pe_bl)) pss_nil)
      (pss_one (ps_ret (pe_and (pe_callB (cr_all rfl) (by rfl) T.all (by decide +kernel) (pa_cons (pe_lc (own := [("heap", 1)]) (g := gName 1) (by rfl) sc_is_heaps.nd (pi_tup (pv 0)) (blkOk_by (own := [("heap", 1)]) (N := ["value", "heap"]) (sc := defScope s_is_heaps) (by decide +kernel)) (fun _ _ _ _ _ => pg_name (i := 1) sc_is_heaps.nd rfl (Or.inl rfl)) (fun _ _ _ _ _ => pts_nil) (fun _ _ _ _ _ => (pe_cal C_is_integer hr rfl pass0 (pa_cons (pv 1) (pa_cons pe_int (pa_cons (pe_gint rfl T.c_GREATEST) pa_nil)))))) pa_nil)) (pe_one (pe_cmpR op_gt (pe_callB (cr_sumT rfl) (by rfl) T.sum (by decide +kernel) (pa_cons (pv 0) pa_nil)) pe_int (nomark _))))))), ?_⟩
    refine ⟨_, rfl, _, _, _, _, true, rfl, ClsV.ty _, tyx_tup hS, kit_ty (by decide +kernel), _, rfl, ?_⟩
    refine iteF ?_
    refine ⟨_, rfl, t, _, rfl, .inr hS, _, _, rfl, rfl, _, rfl, ?_⟩
    unfold hpsB at k
    rw [List.length_map]
    cases h2 : decide (2 ≤ ns.length) with
    | false =>
      have z : decide ((2 : Int) ≤ (ns.length : Int)) = false := decide_eq_false fun z => (of_decide_eq_false h2) (by omega)
      rw [z]
      refine iteF ⟨_, rfl, iteT ?_⟩
      rw [h2] at k
      exact k H (Same.refl _)
    | true =>
      have z : decide ((2 : Int) ≤ (ns.length : Int)) = true := decide_eq_true (by have := of_decide_eq_true h2; omega)
      rw [z]
      refine iteT ⟨_, _, rfl, rfl, _, rfl, ?_⟩
      cases h6 : decide (ns.length ≤ 6) with
      | false =>
        have z : decide ((ns.length : Int) ≤ 6) = false := decide_eq_false fun z => (of_decide_eq_false h6) (by omega)
        rw [z]
        refine iteT ?_
        rw [h2, h6] at k
        exact k H (Same.refl _)
      | true =>
        have z : decide ((ns.length : Int) ≤ 6) = true := decide_eq_true (by have := of_decide_eq_true h6; omega)
        rw [z]
        refine iteF ?_
        rw [h2, h6] at k
        refine ⟨_, rfl, t, rfl, ⟨_, hS⟩, fun D hD => lc_tup (K := K) (a := t) (xs := ns.map V.int) (fun i H1 => H1 D = some (.lst (((ns.take i).map (inR 0 (10 ^ 30))).map V.bl)) ∧ Same H H1) ⟨upd_same, Same.new hD⟩ (fun i H1 _ q => Same.tup q.2 hS) ?_ ?_⟩
        · rintro i x H1 hi ⟨hL, s1⟩
          obtain ⟨z, hz, rfl⟩ := int_at hi
          refine ⟨rfl, _, rfl, z, 0, 10 ^ 30, rfl, _, hL, ?_, ?_⟩
          · rw [List.length_map, List.length_map, List.length_take, sizeLine_eq]
            omega
          · refine ⟨?_, same_upd s1 hD⟩
            rw [upd_same, List.take_add_one, hz]
            simp
        · rintro H1 ⟨hL, s1⟩
          rw [List.length_map, List.take_length] at hL
          refine ⟨D, _, rfl, SqL.of hL, _, rfl, ?_⟩
          cases ha : (ns.map (inR 0 (10 ^ 30))).all id with
          | false =>
            rw [ha] at k
            exact iteF (k _ s1)
          | true =>
            rw [ha] at k
            exact iteT ⟨_, rfl, t, _, rfl, Same.tup s1 hS, _, _, rfl, rfl, k _ s1⟩
abbrev s_check_heaps : Stmt := top 18
theorem sc_check_heaps : FnScope ["heaps"] ["heaps"] (defScope s_check_heaps) := ⟨rfl, rfl, rfl, by decide +kernel, rfl, by decide +kernel, by decide +kernel⟩
theorem ok_check_heaps {f : Addr} {fd : FuncData} (F : Fun K "check_heaps" "check_heaps" s_check_heaps f fd) (T : Tp K mg) (C_is_heaps : Cal P w K mg base CX0 2 "is_heaps" ["value"] (spIsHeaps K)) : FnOk P w K mg base CX0 3 f fd ["heaps"] (spChkHeaps K) := by
  refine F.ok sc_check_heaps (fun vs H Q E h => ?_) (fun cdv A outer s H vs Q E hr h => ?_)
  · obtain ⟨t, ns, rfl, _⟩ := h
    rfl
  · obtain ⟨t, ns, rfl, hS, hg, k⟩ := h
    refine ⟨_, (pss_one (ps_if (pt_not (pt_val (pe_cal C_is_heaps hr rfl pass0 (pa_cons (pv 0) pa_nil)))) (pss_one ps_never) pss_nil)), ?_⟩
    refine ⟨_, rfl, t, ns, rfl, hS, ?_, fun H1 s1 => ⟨_, rfl, ?_⟩⟩
    · unfold hpsB at hg
      simp only [Bool.and_eq_true, decide_eq_true_eq] at hg
      omega
    rw [hg]
    exact iteF (k _ s1)
end
end Hd
set_option maxHeartbeats 4000000
namespace Hd
open PySem PySem.Spec PyProof.Rows L2
theorem dec_int (a b : Int) : decide (V.int a = V.int b) = decide (a = b) := by
  by_cases z : a = b
  · subst z
    rw [decide_eq_true rfl, decide_eq_true rfl]
  · rw [decide_eq_false z, decide_eq_false fun q => z (V.int.inj q)]
abbrev two (a b : Nat) : List V := [V.int (a : Int), V.int (b : Int)]
def spSplit : Sp := fun vs H Q _ => ∃ n o t : Nat, vs = [.int (n : Int)] ∧ 0 < n ∧ n = o * 2 ^ t ∧ o % 2 = 1 ∧ ∀ (p : Addr) (H' : Hp), Same H H' → H p = none → H' p = some (.tup (two o t)) → Q (.ref p) H'
/-- the common divisor of all -/
def gAll (ns : List Int) : Nat := ns.foldl (fun d x => Nat.gcd d x.natAbs) 0
theorem gAll_more (ns : List Int) (x : Int) : gAll (ns ++ [x]) = Nat.gcd (gAll ns) x.natAbs := by
  unfold gAll
  rw [List.foldl_append]
  rfl
theorem fold_dvd : ∀ (ns : List Int) (d : Nat), ns.foldl (fun d x => Nat.gcd d x.natAbs) d ∣ d ∧ ∀ x ∈ ns, ns.foldl (fun d x => Nat.gcd d x.natAbs) d ∣ x.natAbs
  | [], d => ⟨Nat.dvd_refl _, fun x hx => nomatch hx⟩
  | x :: r, d => by
    obtain ⟨a, b⟩ := fold_dvd r (Nat.gcd d x.natAbs)
    refine ⟨Nat.dvd_trans a (Nat.gcd_dvd_left _ _), fun y hy => ?_⟩
    rcases List.mem_cons.mp hy with e | hy
    · subst e
      exact Nat.dvd_trans a (Nat.gcd_dvd_right _ _)
    · exact b y hy
theorem gAll_dvd {ns : List Int} {x : Int} (h : x ∈ ns) : (gAll ns : Int) ∣ x := Int.dvd_natAbs.mp (Int.natCast_dvd_natCast.mpr ((fold_dvd ns 0).2 x h))
theorem dvd_sum {g : Int} : ∀ {ns : List Int}, (∀ x ∈ ns, g ∣ x) → g ∣ ns.sum
  | [], _ => Int.dvd_zero _
  | x :: r, h => by
    rw [List.sum_cons]
    exact Int.dvd_add (h x List.mem_cons_self) (dvd_sum fun y hy => h y (List.mem_cons_of_mem _ hy))
theorem gAll_sum (ns : List Int) : (gAll ns : Int) ∣ ns.sum := dvd_sum fun x hx => gAll_dvd hx
theorem gAll_pos {ns : List Int} (h : 0 < ns.sum) : 0 < gAll ns := by
  obtain ⟨c, hc⟩ := gAll_sum ns
  by_cases z : gAll ns = 0
  · rw [z] at hc
    simp at hc
    omega
  · omega
theorem gAll_le {ns : List Int} (h : 0 < ns.sum) : (gAll ns : Int) ≤ ns.sum := Int.le_of_dvd h (gAll_sum ns)
theorem gAll_getD (ns : List Int) (k : Nat) : (gAll ns : Int) ∣ ns.getD k 0 := by
  rw [List.getD_eq_getElem?_getD]
  cases e : ns[k]? with
  | none => exact Int.dvd_zero _
  | some v => exact gAll_dvd (List.mem_of_getElem? e)
/-- o is the odd part of the sum by the common divisor, tw the twos -/
structure OddOf (ns : List Int) (o tw : Nat) : Prop where
  eq : ns.sum = (gAll ns : Int) * ((o * 2 ^ tw : Nat) : Int)
  odd : o % 2 = 1
theorem OddOf.div {ns : List Int} {o tw : Nat} (h : OddOf ns o tw) (p : 0 < ns.sum) : ns.sum / (gAll ns : Int) = ((o * 2 ^ tw : Nat) : Int) := by
  have g := gAll_pos p
  rw [h.eq, Int.mul_ediv_cancel_left _ (by omega)]
theorem odd_some {ns : List Int} (p : 0 < ns.sum) : ∃ o tw, OddOf ns o tw := by
  obtain ⟨c, hc⟩ := gAll_sum ns
  have g := gAll_pos p
  have cp : 0 < c := by
    by_cases z : 0 < c
    · exact z
    · have := Int.mul_nonneg (show 0 ≤ (gAll ns : Int) by omega) (show 0 ≤ -c by omega)
      rw [Int.mul_neg] at this
      omega
  obtain ⟨o, t, e, ho⟩ := twos_some c.toNat (by omega)
  refine ⟨o, t, ?_, ho⟩
  rw [← e, hc, Int.toNat_of_nonneg (by omega)]
/-- what good heaps are -/
theorem hps_good {ns : List Int} (h : hpsB ns = true) : 2 ≤ ns.length ∧ ns.length ≤ 6 ∧ NN ns ∧ 0 < ns.sum ∧ ns.sum < 2 ^ 103 := by
  unfold hpsB at h
  simp only [Bool.and_eq_true, decide_eq_true_eq, List.all_eq_true, List.mem_map] at h
  obtain ⟨⟨h1, h2⟩, h3, h4⟩ := h
  have each : ∀ x ∈ ns, 0 ≤ x ∧ x ≤ 10 ^ 30 := fun x hx => by
    have := h3 _ ⟨x, hx, rfl⟩
    unfold inR at this
    simpa using this
  have le : ∀ (xs : List Int), (∀ x ∈ xs, 0 ≤ x ∧ x ≤ 10 ^ 30) → xs.sum ≤ xs.length * 10 ^ 30 := fun xs => by
    induction xs with
    | nil => intro _; simp
    | cons x r ih =>
      intro hx
      have := ih fun y hy => hx y (List.mem_cons_of_mem _ hy)
      have := (hx x List.mem_cons_self).2
      rw [List.sum_cons, List.length_cons]
      omega
  have := le ns each
  refine ⟨h1, h2, nn_of fun x hx => (each x hx).1, h4, ?_⟩
  omega
def spRed (K : PySem.W.Frag) : Sp := fun vs H Q _ => ∃ (t : Addr) (ns : List Int) (o tw : Nat), vs = [.ref t] ∧ SqT K H t (ns.map V.int) ∧ hpsB ns = true ∧ OddOf ns o tw ∧ ∀ (p : Addr) (H' : Hp), Same H H' → H p = none → H' p = some (.tup (two o tw)) → Q (.ref p) H'
theorem small_two {a b : Int} {n : Nat} (ha : -(2 ^ 62) ≤ a) (ha' : a < 2 ^ 61) (hb : -(2 ^ 62) ≤ b) (hb' : b < 2 ^ 61) (e : Builtin.Range.rangeSize a b 2 = (n : Int)) (hn : n < 2 ^ 40) : Builtin.Range.small a b 2 = true := by
  unfold Builtin.Range.small
  rw [e]
  simp only [Builtin.Range.rangeFitsLong, Bool.and_eq_true, Bool.or_eq_true, decide_eq_true_eq, beq_iff_eq, show (2 : Int) > 0 by decide, if_true]
  omega
theorem rgc_two {o : Nat} (ho : o % 2 = 1) (hle : o ≤ 10 ^ 6) : RgC 3 ((o : Int) + 1) 2 ((o - 1) / 2) := by
  have e : Builtin.Range.rangeSize 3 ((o : Int) + 1) 2 = (((o - 1) / 2 : Nat) : Int) := by
    unfold Builtin.Range.rangeSize
    simp only [show (2 : Int) > 0 by decide, if_true]
    split <;> omega
  exact ⟨by decide, by decide, small_two (by omega) (by omega) (by omega) (by omega) e (by omega), e⟩
def spOrd : Sp := fun vs H Q _ => ∃ o k : Nat, vs = [.int (o : Int)] ∧ 1 < o ∧ Ord o k ∧ Q (.int (k : Int)) H
def spTot : Sp := fun vs H Q _ => ∃ d : Nat, vs = [.int (d : Int)] ∧ 1 ≤ d ∧ d ≤ 10 ^ 6 ∧ Q (.int (phi d : Int)) H
def spDivs : Sp := fun vs H Q _ => ∃ o : Nat, vs = [.int (o : Int)] ∧ o % 2 = 1 ∧ o ≤ 10 ^ 6 ∧ ∀ (p : Addr) (H' : Hp), Same H H' → H p = none → H' p = some (.lst ((divs o).map fun d : Nat => V.int (d : Int))) → Q (.ref p) H'
section
variable {P : Program} {w : World} {K : PySem.W.Frag} {mg : Str → Option Value} {base : Heap}
abbrev s_split_twos : Stmt := top 2
theorem sc_split_twos : FnScope ["number", "odd", "twos"] ["number"] (defScope s_split_twos) := ⟨rfl, rfl, rfl, by decide +kernel, rfl, by decide +kernel, by decide +kernel⟩
theorem ok_split_twos {f : Addr} {fd : FuncData} (F : Fun K "split_twos" "split_twos" s_split_twos f fd) : FnOk P w K mg base CX0 1 f fd ["number"] spSplit := by
  refine F.ok sc_split_twos (fun vs H Q E h => ?_) (fun cdv A outer s H vs Q E hr h => ?_)
  · obtain ⟨n, o, t, rfl, _⟩ := h
    rfl
  · obtain ⟨n, o, t, rfl, hn, e, ho, k⟩ := h
    refine ⟨_, (pss_cons (ps_set (i := 1) sc_split_twos.nd rfl (Or.inl rfl) (pv 0))
      (pss_cons (ps_set (i := 2) sc_split_twos.nd rfl (Or.inl rfl) pe_int)
      (pss_cons (ps_while PassesOwn.never (pt_cmpR op_eq (pe_op op_mod (pv 1) pe_int) pe_int (nomark _)) (pss_cons (ps_aug (i := 1) sc_split_twos.nd rfl (Or.inl rfl) pe_int iop_fdiv)
      (pss_one (ps_aug (i := 2) sc_split_twos.nd rfl (Or.inl rfl) pe_int ip_add))))
      (pss_one (ps_ret (pe_tup (pa_cons (pv 1) (pa_cons (pv 2) pa_nil)))))))), ?_⟩
    refine ⟨_, rfl, ?_⟩
    refine ⟨fun m σ H1 => ∃ u v : Nat, σ = [some (.int (n : Int)), some (.int (u : Int)), some (.int (v : Int))] ∧ H1 = H ∧ n = u * 2 ^ v ∧ 0 < u ∧ u = m, ⟨n, n, 0, rfl, rfl, by simp, hn, rfl⟩, ?_⟩
    rintro m σ H1 ⟨u, v, rfl, rfl, euv, hu, rfl⟩
    refine ⟨_, rfl, _, _, rfl, rfl, (by show (0 : Int) < 2; decide), rfl, _, rfl, ?_⟩
    rw [dec_int]
    refine ite2 (fun hz => ?_) (fun hz => ?_)
    · have hz' : u % 2 = 0 := by have := of_decide_eq_true hz; omega
      refine ⟨fun σ' H' => ∃ u' v' : Nat, σ' = [some (.int (n : Int)), some (.int (u' : Int)), some (.int (v' : Int))] ∧ H' = H1 ∧ n = u' * 2 ^ v' ∧ 0 < u' ∧ u' < u, fun σ' H' ⟨u', v', e1, e2, e3, e4, e5⟩ => ⟨u', e5, u', v', e1, e2, e3, e4, rfl⟩, ?_⟩
      refine ⟨_, rfl, _, _, rfl, rfl, ⟨by decide, by decide⟩, _, rfl, _, _, rfl, rfl, ?_⟩
      refine ⟨u / 2, v + 1, ?_, rfl, ?_, by omega, by omega⟩
      · show [some (V.int (n : Int)), some (V.int ((u : Int) / 2)), some (V.int ((v : Int) + 1))] = _
        rw [show ((u : Int) / 2) = ((u / 2 : Nat) : Int) by omega, show ((v : Int) + 1) = ((v + 1 : Nat) : Int) by omega]
      · rw [euv, Nat.pow_succ]
        have : u = u / 2 * 2 := by omega
        rw (occs := [1]) [this]
        rw [Nat.mul_assoc, Nat.mul_comm 2]
    · have hz' : u % 2 = 1 := by
        have : ¬ ((u : Int) % 2 = 0) := fun z => hz (decide_eq_true z)
        omega
      obtain ⟨e1, e2⟩ := part_one ho hz' (e.symm.trans euv)
      subst e1 e2
      refine ⟨_, rfl, _, rfl, by show 2 ≤ sizeLine; decide, fun p hp => ?_⟩
      exact k p _ (Same.new hp) hp upd_same
abbrev s_reduced_parts : Stmt := top 3
theorem sc_reduced_parts : FnScope ["numbers", "divisor", "number"] ["numbers"] (defScope s_reduced_parts) := ⟨rfl, rfl, rfl, by decide +kernel, rfl, by decide +kernel, by decide +kernel⟩
theorem ok_reduced_parts {f : Addr} {fd : FuncData} (F : Fun K "reduced_parts" "reduced_parts" s_reduced_parts f fd) (T : Tp K mg) (m_gcd : mg "gcd" = some (.builtin "math.gcd")) (C_split_twos : Cal P w K mg base CX0 1 "split_twos" ["number"] spSplit) : FnOk P w K mg base CX0 2 f fd ["numbers"] (spRed K) := by
  refine F.ok sc_reduced_parts (fun vs H Q E h => ?_) (fun cdv A outer s H vs Q E hr h => ?_)
  · obtain ⟨t, ns, o, tw, rfl, _⟩ := h
    rfl
  · obtain ⟨t, ns, o, tw, rfl, hS, hg, hO, k⟩ := h
    obtain ⟨g1, g2, g3, g4, g5⟩ := hps_good hg
    refine ⟨_, (pss_cons (ps_set (i := 1) sc_reduced_parts.nd rfl (Or.inl rfl) pe_int)
      (pss_cons (ps_for PassesOwn.never rfl (pi_tup (pv 0)) (pg_name (i := 2) sc_reduced_parts.nd rfl (Or.inl rfl))
      (pss_one (ps_set (i := 1) sc_reduced_parts.nd rfl (Or.inl rfl) (pe_callBfun cr_gcd rfl m_gcd (pa_cons (pv 1) (pa_cons (pv 2) pa_nil))))))
      (pss_one (ps_ret (pe_cal C_split_twos hr rfl pass0 (pa_cons (pe_op op_fdivW (pe_callB (cr_sumT rfl) (by rfl) T.sum (by decide +kernel) (pa_cons (pv 0) pa_nil)) (pv 1)) pa_nil)))))), ?_⟩
    refine ⟨_, rfl, t, rfl, ⟨_, hS⟩, for_tup (K := K) (a := t) (xs := ns.map V.int) (fun i σ H1 => ∃ v : Option V, σ = [some (.ref t), some (.int (gAll (ns.take i) : Int)), v] ∧ H1 = H) ⟨none, rfl, rfl⟩ (fun i σ H1 _ ⟨_, _, e⟩ => by rw [e]; exact hS) ?_ ?_⟩
    · rintro i x σ H1 hi ⟨v, rfl, rfl⟩
      obtain ⟨z, hz, rfl⟩ := int_at hi
      refine ⟨_, rfl, _, rfl, _, _, rfl, ?_⟩
      refine ⟨some (.int z), ?_, rfl⟩
      rw [List.take_add_one, hz]
      show _ = [some (V.ref t), some (V.int ((gAll (ns.take i ++ [z]) : Nat) : Int)), some (V.int z)]
      rw [gAll_more]
      rfl
    · rintro σ H1 ⟨v, rfl, rfl⟩
      rw [List.length_map, List.take_length]
      have q0 := gAll_pos g4
      have q1 := gAll_le g4
      have hd := hO.div g4
      have op : 0 < o * 2 ^ tw := Nat.mul_pos (by have := hO.odd; omega) (Nat.pow_pos (by decide))
      refine ⟨_, rfl, t, ns, rfl, hS, _, rfl, _, _, rfl, rfl, wide_div (b := 200) (by omega) (by omega) (by decide) (by decide), ?_⟩
      exact ⟨o * 2 ^ tw, o, tw, congrArg (fun z : Int => [V.int z]) hd, op, rfl, hO.odd, k⟩
abbrev s_order_of_two : Stmt := top 4
theorem sc_order_of_two : FnScope ["odd", "start", "power", "order"] ["odd"] (defScope s_order_of_two) := ⟨rfl, rfl, rfl, by decide +kernel, rfl, by decide +kernel, by decide +kernel⟩
theorem ok_order_of_two {f : Addr} {fd : FuncData} (F : Fun K "order_of_two" "order_of_two" s_order_of_two f fd) : FnOk P w K mg base CX0 1 f fd ["odd"] spOrd := by
  refine F.ok sc_order_of_two (fun vs H Q E h => ?_) (fun cdv A outer s H vs Q E hr h => ?_)
  · obtain ⟨o, n, rfl, _⟩ := h
    rfl
  · obtain ⟨o, n, rfl, ho, hO, k⟩ := h
    refine ⟨_, (pss_cons (ps_set (i := 1) sc_order_of_two.nd rfl (Or.inl rfl) (pe_op op_mod pe_int (pv 0)))
      (pss_cons (ps_set (i := 2) sc_order_of_two.nd rfl (Or.inl rfl) (pe_op op_mod pe_int (pv 0)))
      (pss_cons (ps_set (i := 3) sc_order_of_two.nd rfl (Or.inl rfl) pe_int)
      (pss_cons (ps_while PassesOwn.never (pt_cmpR op_ne (pv 2) (pv 1) (nomark _)) (pss_cons (ps_set (i := 2) sc_order_of_two.nd rfl (Or.inl rfl) (pe_op op_mod (pe_op op_mul (pv 2) pe_int) (pv 0)))
      (pss_one (ps_aug (i := 3) sc_order_of_two.nd rfl (Or.inl rfl) pe_int ip_add))))
      (pss_one (ps_ret (pv 3))))))), ?_⟩
    have cst : ∀ c : Nat, ((c : Int) % (o : Int)) = ((c % o : Nat) : Int) := fun c => by omega
    refine ⟨_, rfl, _, _, rfl, rfl, (by show (0 : Int) < (o : Int); omega), _, rfl, _, _, rfl, rfl, (by show (0 : Int) < (o : Int); omega), ?_⟩
    refine ⟨fun mm σ H1 => ∃ j : Nat, σ = [some (.int (o : Int)), some (.int ((1 % o : Nat) : Int)), some (.int ((2 ^ j % o : Nat) : Int)), some (.int (j : Int))] ∧ H1 = H ∧ 0 < j ∧ j ≤ n ∧ mm = n - j, ⟨n - 1, 1, ?_, rfl, by decide, hO.pos, rfl⟩, ?_⟩
    · rw [← cst 1, ← cst (2 ^ 1)]
      rfl
    rintro mm σ H1 ⟨j, rfl, rfl, hj, hjn, rfl⟩
    refine ⟨_, rfl, _, rfl, rfl, _, rfl, ?_⟩
    rw [dec_int]
    by_cases hjj : j = n
    · subst hjj
      have e := (mod_one_dvd ho).mpr hO.yes
      rw [e, decide_eq_true rfl]
      exact iteF ⟨_, rfl, k⟩
    · have e : ¬ (((2 ^ j % o : Nat) : Int) = ((1 % o : Nat) : Int)) := fun z => hO.no j hj (by omega) ((mod_one_dvd ho).mp (by omega))
      rw [decide_eq_false e]
      refine iteT ⟨fun σ' H' => ∃ j' : Nat, σ' = [some (.int (o : Int)), some (.int ((1 % o : Nat) : Int)), some (.int ((2 ^ j' % o : Nat) : Int)), some (.int (j' : Int))] ∧ H' = H1 ∧ 0 < j' ∧ j' ≤ n ∧ n - j' < n - j,
        fun σ' H' ⟨j', e1, e2, e3, e4, e5⟩ => ⟨n - j', e5, j', e1, e2, e3, e4, rfl⟩, ?_⟩
      refine ⟨_, rfl, _, _, rfl, rfl, .inr ⟨by decide, by decide⟩, _, rfl, _, _, rfl, rfl, (by show (0 : Int) < (o : Int); omega), _, rfl, _, _, rfl, rfl, ?_⟩
      refine ⟨j + 1, ?_, rfl, by omega, by omega, by omega⟩
      show [some (V.int (o : Int)), some (V.int ((1 % o : Nat) : Int)), some (V.int (((2 ^ j % o : Nat) : Int) * 2 % (o : Int))), some (V.int ((j : Int) + 1))] = _
      rw [show ((2 ^ j % o : Nat) : Int) * 2 % (o : Int) = ((2 ^ (j + 1) % o : Nat) : Int) by
        rw [show ((2 ^ j % o : Nat) : Int) * 2 = ((2 ^ j % o * 2 : Nat) : Int) by omega, cst, Nat.mod_mul_mod, ← Nat.pow_succ], show ((j : Int) + 1) = ((j + 1 : Nat) : Int) by omega]
abbrev s_odd_divisors : Stmt := top 5
theorem sc_odd_divisors : FnScope ["odd", "number"] ["odd"] (defScope s_odd_divisors) := ⟨rfl, rfl, rfl, by decide +kernel, rfl, by decide +kernel, by decide +kernel⟩
theorem ok_odd_divisors {f : Addr} {fd : FuncData} (F : Fun K "odd_divisors" "odd_divisors" s_odd_divisors f fd) (T : Tp K mg) : FnOk P w K mg base CX0 1 f fd ["odd"] spDivs := by
  refine F.ok sc_odd_divisors (fun vs H Q E h => ?_) (fun cdv A outer s H vs Q E hr h => ?_)
  · obtain ⟨o, rfl, _⟩ := h
    rfl
  · obtain ⟨o, rfl, ho, hle, k⟩ := h
    refine ⟨_, (pss_one (ps_ret (pe_lc (own := [("number", 1)]) (g := gName 1) (by rfl) sc_odd_divisors.nd (pi_range3 rfl T.range (pa_cons pe_int (pa_cons (pe_op op_add (pv 0) pe_int) (pa_cons pe_int pa_nil)))) (blkOk_by (own := [("number", 1)]) (N := ["odd", "number"]) (sc := defScope s_odd_divisors) (by decide +kernel)) (fun _ _ _ _ _ => pg_name (i := 1) sc_odd_divisors.nd rfl (Or.inl rfl)) (fun _ _ _ _ _ => pts_one (pt_cmpR op_eq (pe_op op_mod (pv 0) (pv 1)) pe_int (nomark _))) (fun _ _ _ _ _ => (pv 1))))), ?_⟩
    refine ⟨_, rfl, _, _, rfl, rfl, 3, (o : Int) + 1, 2, (o - 1) / 2, rfl, rgc_two ho hle, fun D hD => ?_⟩
    refine lc_it walk_rangeC (fun i H1 => H1 D = some (.lst ((((List.range i).map fun j => 3 + 2 * j).filter fun d => decide (o % d = 0)).map fun d : Nat => V.int (d : Int))) ∧ Same H H1) ⟨upd_same, Same.new hD⟩ (fun _ _ _ _ => trivial) ?_ ?_
    · rintro i x H1 H2 hi ⟨hL, s1⟩ ⟨rfl, rfl⟩
      have ei : (3 : Int) + (i : Int) * 2 = ((3 + 2 * i : Nat) : Int) := by omega
      have hlen : ((((List.range i).map fun j => 3 + 2 * j).filter fun d => decide (o % d = 0)).map fun d : Nat => V.int (d : Int)).length ≤ i := by
        rw [List.length_map]
        exact Nat.le_trans (List.length_filter_le _ _) (by rw [List.length_map, List.length_range]; exact Nat.le_refl _)
      refine ⟨rfl, _, rfl, _, rfl, _, _, rfl, rfl, (by show (0 : Int) < 3 + (i : Int) * 2; omega), rfl, _, rfl, ?_⟩
      rw [dec_int]
      have em : (o : Int) % (3 + (i : Int) * 2) = ((o % (3 + 2 * i) : Nat) : Int) := by rw [ei]; omega
      rw [em]
      by_cases c : o % (3 + 2 * i) = 0
      · rw [decide_eq_true (show ((o % (3 + 2 * i) : Nat) : Int) = 0 by omega)]
        refine iteT ⟨_, rfl, _, hL, by rw [sizeLine_eq]; omega, ?_, same_upd s1 hD⟩
        rw [upd_same, List.range_succ, List.map_append, List.filter_append, List.map_append]
        show some (HO.lst (_ ++ [V.int (3 + (i : Int) * 2)])) = some (HO.lst (_ ++ (([3 + 2 * i] : List Nat).filter fun d => decide (o % d = 0)).map _))
        rw [List.filter_cons, if_pos (decide_eq_true c), ei]
        rfl
      · rw [decide_eq_false (show ¬ ((o % (3 + 2 * i) : Nat) : Int) = 0 by omega)]
        refine iteF ⟨?_, s1⟩
        rw [List.range_succ, List.map_append, List.filter_append, List.map_append]
        show H2 D = some (HO.lst (_ ++ (([3 + 2 * i] : List Nat).filter fun d => decide (o % d = 0)).map _))
        rw [List.filter_cons, if_neg (by rw [decide_eq_false c]; decide)]
        simpa using hL
    · rintro H1 ⟨hL, s1⟩
      exact k D H1 s1 hD hL
abbrev s_totient : Stmt := top 6
theorem sc_totient : FnScope ["number", "free", "left", "factor"] ["number"] (defScope s_totient) := ⟨rfl, rfl, rfl, by decide +kernel, rfl, by decide +kernel, by decide +kernel⟩
theorem ok_totient {f : Addr} {fd : FuncData} (F : Fun K "totient" "totient" s_totient f fd) : FnOk P w K mg base CX0 1 f fd ["number"] spTot := by
  refine F.ok sc_totient (fun vs H Q E h => ?_) (fun cdv A outer s H vs Q E hr h => ?_)
  · obtain ⟨d, rfl, _⟩ := h
    rfl
  · obtain ⟨N, rfl, h1, hle, k⟩ := h
    refine ⟨_, (pss_cons (ps_set (i := 1) sc_totient.nd rfl (Or.inl rfl) (pv 0))
      (pss_cons (ps_set (i := 2) sc_totient.nd rfl (Or.inl rfl) (pv 0))
      (pss_cons (ps_set (i := 3) sc_totient.nd rfl (Or.inl rfl) pe_int)
      (pss_cons (ps_while PassesOwn.never (pt_cmpR op_gt (pv 2) pe_int (nomark _)) (pss_cutM (ps_if (pt_cmpR op_gt (pe_op op_mul (pv 3) (pv 3)) (pv 2) (nomark _)) (pss_one (ps_set (i := 3) sc_totient.nd rfl (Or.inl rfl) (pv 2))) pss_nil)
      (pss_cutM (ps_if (pt_cmpR op_eq (pe_op op_mod (pv 2) (pv 3)) pe_int (nomark _)) (pss_one (ps_aug (i := 1) sc_totient.nd rfl (Or.inl rfl) (pe_op op_fdiv (pv 1) (pv 3)) ip_sub)) pss_nil)
      (pss_cons (ps_while PassesOwn.never (pt_cmpR op_eq (pe_op op_mod (pv 2) (pv 3)) pe_int (nomark _)) (pss_one (ps_aug (i := 2) sc_totient.nd rfl (Or.inl rfl) (pv 3) iop_fdiv)))
      (pss_one (ps_aug (i := 3) sc_totient.nd rfl (Or.inl rfl) pe_int ip_add))))))
      (pss_one (ps_ret (pv 1))))))), ?_⟩
    have cst : ∀ a b : Nat, ((a : Int) % (b : Int)) = ((a % b : Nat) : Int) := fun a b => by omega
    have csd : ∀ a b : Nat, ((a : Int) / (b : Int)) = ((a / b : Nat) : Int) := fun a b => by omega
    refine ⟨_, rfl, _, rfl, ?_⟩
    refine ⟨fun mm σ H1 => ∃ l g fr : Nat, σ = [some (.int (N : Int)), some (.int (fr : Int)), some (.int (l : Int)), some (.int (g : Int))] ∧ H1 = H ∧ To N l g fr ∧ l ≤ 10 ^ 6 ∧ fr ≤ 10 ^ 6 ∧ 2 * l + 1 - g = mm, ⟨_, N, 2, N, rfl, rfl, To.start (by omega), hle, hle, rfl⟩, ?_⟩
    rintro mm σ H1 ⟨l, g, fr, rfl, rfl, hT, hl6, hf6, rfl⟩
    refine ⟨_, rfl, _, _, rfl, rfl, _, rfl, ?_⟩
    refine ite2 (fun hc => ?_) (fun hc => ?_)
    · have hl : 1 < l := by have := of_decide_eq_true hc; omega
      have glo := hT.lo.resolve_left (by omega)
      refine ⟨fun σ' H' => ∃ l' g' fr' : Nat, σ' = [some (.int (N : Int)), some (.int (fr' : Int)), some (.int (l' : Int)), some (.int (g' : Int))] ∧ H' = H1 ∧ To N l' g' fr' ∧ l' ≤ 10 ^ 6 ∧ fr' ≤ 10 ^ 6 ∧ 2 * l' + 1 - g' < 2 * l + 1 - g,
        fun σ' H' ⟨l', g', fr', e1, e2, e3, e4, e5, e6⟩ => ⟨_, e6, l', g', fr', e1, e2, e3, e4, e5, rfl⟩, ?_⟩
      -- if factor * factor > left: factor = left
      obtain ⟨f, hf⟩ : ∃ f, f = if g * g > l then l else g := ⟨_, rfl⟩
      obtain ⟨hT2, hfl, hno⟩ := hT.fac hl f hf
      have f2 := hT2.f2
      refine ⟨fun σ' H' => σ' = [some (.int (N : Int)), some (.int (fr : Int)), some (.int (l : Int)), some (.int (f : Int))] ∧ H' = H1, ?_, ?_⟩
      · refine ⟨_, rfl, _, rfl, _, _, rfl, rfl, .inl ⟨by omega, by omega⟩, _, rfl, _, _, rfl, rfl, _, rfl, ?_⟩
        have eg : (g : Int) * (g : Int) = ((g * g : Nat) : Int) := (Int.natCast_mul _ _).symm
        rw [eg]
        by_cases c : g * g > l
        · rw [if_pos c] at hf
          rw [decide_eq_true (show ((l : Int) < ((g * g : Nat) : Int)) by omega), hf]
          exact iteT ⟨_, rfl, rfl, rfl⟩
        · rw [if_neg c] at hf
          rw [decide_eq_false (show ¬ ((l : Int) < ((g * g : Nat) : Int)) by omega), hf]
          exact iteF ⟨rfl, rfl⟩
      · rintro σ' H' ⟨rfl, rfl⟩
        obtain ⟨fr2, hfr2⟩ : ∃ fr2, fr2 = if f ∣ l then fr - fr / f else fr := ⟨_, rfl⟩
        have hfr6 : fr2 ≤ 10 ^ 6 := by
          rw [hfr2]
          split
          · exact Nat.le_trans (Nat.sub_le _ _) hf6
          · exact hf6
        have fpos : (0 : Int) < (f : Int) := by omega
        -- if left % factor == 0: free -= free // factor
        refine ⟨fun σ' H2 => σ' = [some (.int (N : Int)), some (.int (fr2 : Int)), some (.int (l : Int)), some (.int (f : Int))] ∧ H2 = H', ?_, ?_⟩
        · refine ⟨_, rfl, _, rfl, _, _, rfl, rfl, fpos, rfl, _, rfl, ?_⟩
          rw [dec_int, cst]
          by_cases c : f ∣ l
          · rw [if_pos c] at hfr2
            rw [decide_eq_true (show ((l % f : Nat) : Int) = 0 by rw [Nat.mod_eq_zero_of_dvd c]; rfl)]
            refine iteT ⟨_, rfl, _, rfl, _, rfl, _, _, rfl, rfl, ⟨by omega, by omega⟩, _, _, rfl, rfl, ?_, rfl⟩
            have hdl := Nat.div_le_self fr f
            show [some (V.int (N : Int)), some (V.int ((fr : Int) - (fr : Int) / (f : Int))), some (V.int (l : Int)), some (V.int (f : Int))] = _
            rw [csd, hfr2, show ((fr : Int) - ((fr / f : Nat) : Int)) = ((fr - fr / f : Nat) : Int) by omega]
          · rw [if_neg c] at hfr2
            rw [decide_eq_false (show ¬ ((l % f : Nat) : Int) = 0 from fun z => c (Nat.dvd_of_mod_eq_zero (by omega))), hfr2]
            exact iteF ⟨rfl, rfl⟩
        · rintro σ' H2 ⟨rfl, rfl⟩
          -- while left % factor == 0: left //= factor
          refine ⟨fun m2 σ2 H3 => ∃ cur j : Nat, σ2 = [some (.int (N : Int)), some (.int (fr2 : Int)), some (.int (cur : Int)), some (.int (f : Int))] ∧ H3 = H2 ∧ l = f ^ j * cur ∧ cur = m2, ⟨l, l, 0, rfl, rfl, by simp, rfl⟩, ?_⟩
          rintro m2 σ2 H3 ⟨cur, j, rfl, rfl, ecur, rfl⟩
          have cpos : 0 < cur := by
            rcases Nat.eq_zero_or_pos cur with z | z
            · rw [z] at ecur
              omega
            · exact z
          refine ⟨_, rfl, _, rfl, _, _, rfl, rfl, fpos, rfl, _, rfl, ?_⟩
          rw [dec_int, cst]
          by_cases c : f ∣ cur
          · rw [decide_eq_true (show ((cur % f : Nat) : Int) = 0 by rw [Nat.mod_eq_zero_of_dvd c]; rfl)]
            refine iteT ⟨fun σ' H' => ∃ cur' j' : Nat, σ' = [some (.int (N : Int)), some (.int (fr2 : Int)), some (.int (cur' : Int)), some (.int (f : Int))] ∧ H' = H3 ∧ l = f ^ j' * cur' ∧ cur' < cur, fun σ' H' ⟨cur', j', e1, e2, e3, e4⟩ => ⟨_, e4, cur', j', e1, e2, e3, rfl⟩, ?_⟩
            refine ⟨_, rfl, _, rfl, _, _, rfl, rfl, ⟨by omega, by omega⟩, cur / f, j + 1, ?_, rfl, ?_, Nat.div_lt_self cpos f2⟩
            · show [some (V.int (N : Int)), some (V.int (fr2 : Int)), some (V.int ((cur : Int) / (f : Int))), some (V.int (f : Int))] = _
              rw [csd]
            · rw [Nat.pow_succ, Nat.mul_assoc, Nat.mul_div_cancel' c]
              exact ecur
          · rw [decide_eq_false (show ¬ ((cur % f : Nat) : Int) = 0 from fun z => c (Nat.dvd_of_mod_eq_zero (by omega)))]
            refine iteF ?_
            -- factor += 1
            refine ⟨_, rfl, _, _, rfl, rfl, cur, f + 1, fr2, rfl, rfl, ?_⟩
            cases j with
            | zero =>
              have el : l = cur := by simpa using ecur
              rw [← el] at c ⊢
              obtain ⟨n1, n2⟩ := hno c
              rw [if_neg c] at hfr2
              rw [hfr2]
              exact ⟨hT2.skip c n2, hl6, hf6, by omega⟩
            | succ j =>
              have hd : f ∣ l := by
                rw [ecur, Nat.pow_succ, Nat.mul_comm (f ^ j), Nat.mul_assoc]
                exact Nat.dvd_mul_right _ _
              rw [if_pos hd] at hfr2
              obtain ⟨t1, t2⟩ := hT2.take ecur c
              rw [← hfr2] at t1
              exact ⟨t1, by omega, hfr6, by omega⟩
    · have hl : l = 1 := by
        have : ¬ ((1 : Int) < (l : Int)) := fun z => hc (decide_eq_true z)
        have := hT.pos
        omega
      subst hl
      rw [hT.end]
      exact ⟨_, rfl, k⟩
end
end Hd
set_option maxHeartbeats 4000000
namespace Hd
open PySem PySem.Spec PyProof.Rows L2
structure Tq (K : PySem.W.Frag) (mg : Str → Option Value) : Prop extends Tp K mg where
  sorted : mg "sorted" = none
theorem sh_sum : ∀ i, ((List.range (i + 1)).map sh).sum = 2 ^ i
  | 0 => rfl
  | i + 1 => by
    rw [List.range_succ, List.map_append, List.sum_append, sh_sum i, List.map_cons, List.map_nil, List.sum_cons, List.sum_nil]
    have : sh (i + 1) = 2 ^ i := by
      unfold sh
      rw [if_neg (by omega), Nat.add_sub_cancel]
    rw [this, Nat.pow_succ]
    omega
theorem sum_cast : ∀ l : List Nat, (l.map fun n : Nat => (n : Int)).sum = ((l.sum : Nat) : Int)
  | [] => rfl
  | x :: l => by
    rw [List.map_cons, List.sum_cons, List.sum_cons, sum_cast l]
    omega
theorem PairsAt.same {H H' : Hp} {ts : List Addr} {qs : List (Int × Int)} (e : Same H H') (h : PairsAt H ts qs) : PairsAt H' ts qs := by
  unfold PairsAt at h ⊢
  induction h with
  | nil => exact .nil
  | cons a _ ih => exact .cons (e _ _ a) ih
theorem PairsAt.at_ {H : Hp} {l : Addr} {ys : List V} {o : HO} {ts : List Addr} {qs : List (Int × Int)} (hl : H l = some (.lst ys)) (h : PairsAt H ts qs) : PairsAt (upd H l o) ts qs := by
  unfold PairsAt at h ⊢
  induction h with
  | nil => exact .nil
  | cons a _ ih => exact .cons (by rw [upd_ne (ne_of a hl (by intro z; cases z))]; exact a) ih
theorem PairsAt.more {H : Hp} {ts : List Addr} {qs : List (Int × Int)} {t : Addr} {q : Int × Int} (h : PairsAt H ts qs) (ht : H t = some (.tup [.int q.1, .int q.2])) : PairsAt H (ts ++ [t]) (qs ++ [q]) := by
  unfold PairsAt at h ⊢
  induction h with
  | nil => exact .cons ht .nil
  | cons a _ ih => exact .cons a ih
theorem Same.free {H H' : Hp} {p : Addr} (s : Same H H') (h : H' p = none) : H p = none := by
  cases e : H p with
  | none => rfl
  | some o =>
    rw [s _ _ e] at h
    cases h
def spShares : Sp := fun vs H Q _ => ∃ T : Nat, vs = [.int (T : Int)] ∧ T ≤ 100 ∧ ∀ (p : Addr) (H' : Hp), Same H H' → H p = none → H' p = some (.lst ((List.range (T + 1)).map fun t => V.int (sh t : Int))) → Q (.ref p) H'
def spChkTot : Sp := fun vs H Q _ => ∃ n : Nat, vs = [.int (n : Int)] ∧ 2 ≤ n ∧ n ≤ 10 ^ 6 ∧ Q .non H
def spRings : Sp := fun vs H Q _ => ∃ n odd T : Nat, vs = [.int (n : Int)] ∧ 2 ≤ n ∧ n ≤ 10 ^ 6 ∧ Tot n odd T ∧ ∀ (p : Addr) (ts : List Addr) (psP : List (Nat × Nat)) (qs : List (Int × Int)) (H' : Hp), Same H H' → H p = none → H' p = some (.lst (ts.map V.ref)) → PairsAt H' ts qs →
  Dic psP (esP odd) → SrtQ qs → qs.Perm (psP.map c2) → Q (.ref p) H'
def spTails : Sp := fun vs H Q _ => ∃ n odd T : Nat, vs = [.int (n : Int)] ∧ 2 ≤ n ∧ n ≤ 10 ^ 6 ∧ Tot n odd T ∧ ∀ (p : Addr) (ts : List Addr) (H' : Hp), Same H H' → H p = none → H' p = some (.lst (ts.map V.ref)) → PairsAt H' ts ((pT odd T).map c2) → Q (.ref p) H'
def spEnding : Sp := fun vs H Q _ => ∃ n odd T : Nat, vs = [.int (n : Int)] ∧ 2 ≤ n ∧ n ≤ 10 ^ 6 ∧ Tot n odd T ∧ ∀ (p : Addr) (ts : List Addr) (H' : Hp), Same H H' → H p = none → H' p = some (.lst (ts.map V.ref)) → PairsAt H' ts ((pE T).map c2) → Q (.ref p) H'
theorem Tot.small {n odd T : Nat} (h : Tot n odd T) (hn : n ≤ 10 ^ 6) : odd ≤ 10 ^ 6 ∧ T < 20 ∧ odd % 2 = 1 := by
  have h1 := Nat.le_of_dvd h.pos h.od
  have h2 : 2 ^ T ≤ n := Nat.le_of_dvd h.pos (by rw [h.eq]; exact Nat.dvd_mul_left _ _)
  refine ⟨by omega, ?_, h.odd⟩
  rcases Nat.lt_or_ge T 20 with z | z
  · exact z
  · have := Nat.pow_le_pow_right (show 0 < 2 by decide) z
    omega
section
variable {P : Program} {w : World} {K : PySem.W.Frag} {mg : Str → Option Value} {base : Heap}
abbrev s_even_shares : Stmt := top 26
theorem sc_even_shares : FnScope ["twos", "shares", "_"] ["twos"] (defScope s_even_shares) := ⟨rfl, rfl, rfl, by decide +kernel, rfl, by decide +kernel, by decide +kernel⟩
theorem ok_even_shares {f : Addr} {fd : FuncData} (F : Fun K "even_shares" "even_shares" s_even_shares f fd) (T : Tp K mg) : FnOk P w K mg base CX0 1 f fd ["twos"] spShares := by
  refine F.ok sc_even_shares (fun vs H Q E h => ?_) (fun cdv A outer s H vs Q E hr h => ?_)
  · obtain ⟨T, rfl, _⟩ := h
    rfl
  · obtain ⟨TT, rfl, hle, k⟩ := h
    refine ⟨_, (pss_cons (ps_set (i := 1) sc_even_shares.nd rfl (Or.inl rfl) (pe_lst (pa_cons pe_int pa_nil)))
      (pss_cons (ps_for PassesOwn.never rfl (pi_range1 rfl T.range (pa_cons (pv 0) pa_nil)) (pg_name (i := 2) sc_even_shares.nd rfl (Or.inl rfl))
      (pss_one (ps_expr (pe_bm PySem.F.plainAttrs_list PySem.F.slot_list_append PySem.F.type_list_append mt_append (pv 1) (pa_cons (pe_callB (cr_sum rfl) (by rfl) T.sum (by decide +kernel) (pa_cons (pv 1) pa_nil)) pa_nil)))))
      (pss_one (ps_ret (pv 1))))), ?_⟩
    refine ⟨by show 1 ≤ sizeLine; decide, fun l hl => ?_⟩
    refine ⟨_, rfl, _, rfl, by omega, by omega, ?_⟩
    rw [Int.toNat_natCast]
    refine for_range (lo := 0) (n := TT) (fun i σ H1 => ∃ v : Option V, σ = [some (.int (TT : Int)), some (.ref l), v] ∧ H1 = upd H l (.lst ((List.range (i + 1)).map fun t => V.int (sh t : Int)))) ⟨none, rfl, rfl⟩ ?_ ?_
    · rintro i σ H1 hi ⟨v, rfl, rfl⟩
      have em : ((List.range (i + 1)).map fun t => V.int (sh t : Int)) = (((List.range (i + 1)).map sh).map fun n : Nat => (n : Int)).map V.int := by
        rw [List.map_map, List.map_map]
        rfl
      refine ⟨_, rfl, .inl ⟨rfl, _, SqL.of upd_same⟩, _, rfl, l, (((List.range (i + 1)).map sh).map fun n : Nat => (n : Int)), rfl, SqL.of (by rw [upd_same, em]), l, _, _, rfl, rfl, upd_same, by rw [List.length_map, List.length_range, sizeLine_eq]; omega, ?_⟩
      rw [upd_upd]
      refine ⟨_, rfl, ?_⟩
      have : sh (i + 1) = 2 ^ i := by
        unfold sh
        rw [if_neg (by omega), Nat.add_sub_cancel]
      rw [sum_cast, sh_sum, List.range_succ (n := i + 1), List.map_append, ← this]
      rfl
    · rintro σ H1 ⟨v, rfl, rfl⟩
      exact ⟨_, rfl, k l _ (Same.new hl) hl upd_same⟩
abbrev s_check_total : Stmt := top 25
theorem sc_check_total : FnScope ["total"] ["total"] (defScope s_check_total) := ⟨rfl, rfl, rfl, by decide +kernel, rfl, by decide +kernel, by decide +kernel⟩
theorem ok_check_total {f : Addr} {fd : FuncData} (F : Fun K "check_total" "check_total" s_check_total f fd) (T : Tp K mg) (c_LT : ∃ t, mg "LEAST_TOTAL" = some (.int 2 t)) (c_GT : ∃ t, mg "GREATEST_TOTAL" = some (.int (10 ^ 6) t)) (C_is_integer : Cal P w K mg base CX0 1 "is_integer" ["value", "least", "greatest"] spIsInt) : FnOk P w K mg base CX0 2 f fd ["total"] spChkTot := by
  refine F.ok sc_check_total (fun vs H Q E h => ?_) (fun cdv A outer s H vs Q E hr h => ?_)
  · obtain ⟨n, rfl, _⟩ := h
    rfl
  · obtain ⟨n, rfl, h2, h6, k⟩ := h
    refine ⟨_, (pss_one (ps_if (pt_not (pt_val (pe_cal C_is_integer hr rfl pass0 (pa_cons (pv 0) (pa_cons (pe_gint rfl c_LT) (pa_cons (pe_gint rfl c_GT) pa_nil)))))) (pss_one ps_never) pss_nil)), ?_⟩
    have g : inR 2 (10 ^ 6) (n : Int) = true := by
      unfold inR
      simp only [Bool.and_eq_true, decide_eq_true_eq]
      omega
    refine ⟨_, rfl, n, 2, 10 ^ 6, rfl, _, rfl, ?_⟩
    rw [g]
    exact iteF k
abbrev s_rings : Stmt := top 22
theorem sc_rings : FnScope ["total", "odd", "_", "counts", "divisor", "length"] ["total"] (defScope s_rings) := ⟨rfl, rfl, rfl, by decide +kernel, rfl, by decide +kernel, by decide +kernel⟩
theorem ok_rings {f : Addr} {fd : FuncData} (F : Fun K "rings" "rings" s_rings f fd) (T : Tq K mg) (C_check_total : Cal P w K mg base CX0 2 "check_total" ["total"] spChkTot) (C_split_twos : Cal P w K mg base CX0 1 "split_twos" ["number"] spSplit)
    (C_odd_divisors : Cal P w K mg base CX0 1 "odd_divisors" ["odd"] spDivs) (C_order_of_two : Cal P w K mg base CX0 1 "order_of_two" ["odd"] spOrd) (C_totient : Cal P w K mg base CX0 1 "totient" ["number"] spTot) : FnOk P w K mg base CX0 3 f fd ["total"] spRings := by
  refine F.ok sc_rings (fun vs H Q E h => ?_) (fun cdv A outer s H vs Q E hr h => ?_)
  · obtain ⟨n, odd, T, rfl, _⟩ := h
    rfl
  · obtain ⟨n, odd, TT, rfl, h2, h6, hT, k⟩ := h
    obtain ⟨b1, b2, ho⟩ := hT.small h6
    have hu := hu_of hr
    refine ⟨_, (pss_cons (ps_expr (pe_cal C_check_total hr rfl pass0 (pa_cons (pv 0) pa_nil)))
      (pss_cons (ps_asg (pe_cal C_split_twos hr rfl pass0 (pa_cons (pv 0) pa_nil)) (pg_tup rfl (pgs_cons (pg_name (i := 1) sc_rings.nd rfl (Or.inl rfl)) (pgs_cons (pg_name (i := 2) sc_rings.nd rfl (Or.inl rfl)) pgs_nil))))
      (pss_cons (ps_set (i := 3) sc_rings.nd rfl (Or.inl rfl) pe_dnewK)
      (pss_cons (ps_for PassesOwn.never rfl (pi_list (pe_cal C_odd_divisors hr rfl pass0 (pa_cons (pv 1) pa_nil))) (pg_name (i := 4) sc_rings.nd rfl (Or.inl rfl))
      (pss_cons (ps_set (i := 5) sc_rings.nd rfl (Or.inl rfl) (pe_cal C_order_of_two hr rfl pass0 (pa_cons (pv 4) pa_nil)))
      (pss_one (ps_dput hu (pv 3) (pv 5) (pe_op op_add (pe_dget2 hu (pv 3) (pv 5) pe_int ⟨by rfl, by rfl, by rfl, by rfl⟩) (pe_op op_fdiv (pe_cal C_totient hr rfl pass0 (pa_cons (pv 4) pa_nil)) (pv 5))) rfl))))
      (pss_one (ps_ret (pe_sortedItems rfl (pv 3) (by rfl) T.sorted))))))), ?_⟩
    refine ⟨_, rfl, n, rfl, h2, h6, ?_⟩
    refine ⟨_, rfl, n, odd, TT, rfl, by omega, hT.eq, ho, fun p H1 s1 hp hp1 => ?_⟩
    refine ⟨p, _, rfl, SqT.of hp1, rfl, _, _, rfl, _, _, rfl, rfl, ?_⟩
    intro d hd
    have hd0 := s1.free hd
    have hds : Same H1 (upd H1 d (.dK [])) := Same.new hd
    refine ⟨_, rfl, odd, rfl, ho, b1, fun lp H2 s2 hlp hL => ?_⟩
    have hD2 : H2 d = some (.dK ((([] : List (Nat × Nat)).map nRow))) := s2 _ _ upd_same
    have s12 : Same H H2 := (s1.trans hds).trans s2
    refine ⟨lp, rfl, ⟨_, SqL.of hL⟩, for_list (K := K) (a := lp) (xs := (divs odd).map fun d : Nat => V.int (d : Int)) (fun i σ H3 => ∃ (ps : List (Nat × Nat)) (v1 v2 : Option V), σ = [some (.int (n : Int)), some (.int (odd : Int)), some (.int (TT : Int)), some (.ref d), v1, v2] ∧ Same H H3 ∧ H3 lp = some (.lst ((divs odd).map fun d : Nat => V.int (d : Int))) ∧ H3 d = some (.dK (ps.map nRow)) ∧ Dic ps ((esP odd).take i)) ?_ (fun i σ H3 _ ⟨_, _, _, _, _, e, _⟩ => SqL.of e) ?_ ?_⟩
    · exact ⟨[], none, none, rfl, s12, hL, hD2, Dic.nil⟩
    · rintro i x σ H3 hx ⟨ps, v1, v2, rfl, s3, hL3, hD3, hdic⟩
      rw [List.getElem?_map] at hx
      obtain ⟨dv, hdv, rfl⟩ := Option.map_eq_some_iff.mp hx
      obtain ⟨hil, edv⟩ := List.getElem?_eq_some_iff.mp hdv
      have hmem := List.mem_of_getElem? hdv
      have hodd := divs_odd ho hmem
      have hle := Nat.le_of_dvd (by omega) ((mem_divs ho).mp hmem).1
      have hor := oR_pos ho hmem
      have horl := oR_le hodd.1
      have ndl : lp ≠ d := ne_of hL3 hD3 (by intro z; cases z)
      have hes : (esP odd).take (i + 1) = (esP odd).take i ++ [(oR dv, phi dv / oR dv)] := by
        rw [List.take_add_one]
        unfold esP
        rw [List.getElem?_map, hdv]
        rfl
      have hpl : ps.length ≤ 1000000 := by
        have a1 := hdic.len
        rw [List.length_take] at a1
        have a2 : (esP odd).length ≤ (odd - 1) / 2 := by
          unfold esP divs
          rw [List.length_map]
          exact Nat.le_trans (List.length_filter_le _ _) (by rw [List.length_map, List.length_range]; exact Nat.le_refl _)
        omega
      refine ⟨_, rfl, dv, oR dv, rfl, by omega, oR_ord hodd.1, ?_⟩
      refine ⟨_, rfl, d, rfl, .inl ⟨_, .inl hD3⟩, _, rfl, _, DGet.k (k := Sum.inl (oR dv : Int)) hD3, _, rfl, dv, rfl, by omega, by omega, _, rfl, _, _, rfl, rfl, ⟨by omega, by omega⟩, ?_⟩
      refine ⟨(wsum ((esP odd).take i) (oR dv) : Int), _, hdic.val (oR dv), rfl, _, rfl, _, rfl, d, _, rfl, DPut.k (k := Sum.inl (oR dv : Int)) hD3 (by rw [List.length_map, sizeLine_eq]; omega), ?_⟩
      have ev : (wsum ((esP odd).take i) (oR dv) : Int) + (phi dv : Int) / (oR dv : Int) = ((wsum ((esP odd).take i) (oR dv) + phi dv / oR dv : Nat) : Int) := by
        rw [Int.natCast_add, Int.natCast_ediv]
      refine ⟨bump ps (oR dv) (wsum ((esP odd).take i) (oR dv) + phi dv / oR dv), _, _, rfl, same_upd s3 hd0, ?_, ?_, ?_⟩
      · rw [upd_ne ndl]
        exact hL3
      · rw [upd_same, ← bump_map, ← ev]
      · rw [hes]
        exact hdic.put _ _
    · rintro σ H3 ⟨ps, v1, v2, rfl, s3, hL3, hD3, hdic⟩
      have hfull : (esP odd).take ((divs odd).map fun d : Nat => V.int (d : Int)).length = esP odd := by
        refine List.take_of_length_le ?_
        unfold esP
        rw [List.length_map, List.length_map]
        exact Nat.le_refl _
      rw [hfull] at hdic
      refine ⟨_, rfl, d, ps.map c2, rfl, ?_, fun H4 p4 ts qs s4 hp4 hperm hsrt hL4 hPA => ?_⟩
      · rw [hD3, List.map_map]
        rfl
      · exact k p4 ts ps qs H4 (s3.trans s4) (s3.free hp4) hL4 hPA hdic hsrt hperm
abbrev s_tails : Stmt := top 23
theorem sc_tails : FnScope ["total", "odd", "twos", "tail", "share"] ["total"] (defScope s_tails) := ⟨rfl, rfl, rfl, by decide +kernel, rfl, by decide +kernel, by decide +kernel⟩
theorem ok_tails {f : Addr} {fd : FuncData} (F : Fun K "tails" "tails" s_tails f fd) (T : Tq K mg) (C_check_total : Cal P w K mg base CX0 2 "check_total" ["total"] spChkTot) (C_split_twos : Cal P w K mg base CX0 1 "split_twos" ["number"] spSplit)
    (C_even_shares : Cal P w K mg base CX0 1 "even_shares" ["twos"] spShares) : FnOk P w K mg base CX0 3 f fd ["total"] spTails := by
  refine F.ok sc_tails (fun vs H Q E h => ?_) (fun cdv A outer s H vs Q E hr h => ?_)
  · obtain ⟨n, odd, T, rfl, _⟩ := h
    rfl
  · obtain ⟨n, odd, TT, rfl, h2, h6, hT, k⟩ := h
    obtain ⟨b1, b2, ho⟩ := hT.small h6
    refine ⟨_, (pss_cons (ps_expr (pe_cal C_check_total hr rfl pass0 (pa_cons (pv 0) pa_nil)))
      (pss_cons (ps_asg (pe_cal C_split_twos hr rfl pass0 (pa_cons (pv 0) pa_nil)) (pg_tup rfl (pgs_cons (pg_name (i := 1) sc_tails.nd rfl (Or.inr rfl)) (pgs_cons (pg_name (i := 2) sc_tails.nd rfl (Or.inl rfl)) pgs_nil))))
      (pss_cons (ps_if (pt_cmpR op_eq (pv 1) pe_int (nomark _)) (pss_one (ps_ret (pe_lst pa_nil))) pss_nil)
      (pss_one (ps_ret (pe_lc (own := [("tail", 3), ("share", 4)]) (g := gTup K 2 (gCons (gName 3) (gCons (gName 4) (gNil)))) (by rfl) sc_tails.nd (pi_enum (by rfl) T.enumerate (pa_cons (pe_cal C_even_shares hr rfl pass0 (pa_cons (pv 2) pa_nil)) pa_nil)) (blkOk_by (own := [("tail", 3), ("share", 4)]) (N := ["total", "odd", "twos", "tail", "share"]) (sc := defScope s_tails) (by decide +kernel)) (fun _ _ _ _ _ => pg_tup (n := 2) rfl (pgs_cons (pg_name (i := 3) sc_tails.nd rfl (Or.inl rfl)) (pgs_cons (pg_name (i := 4) sc_tails.nd rfl (Or.inl rfl)) pgs_nil))) (fun _ _ _ _ _ => pts_nil) (fun _ _ _ _ _ => (pe_tup (pa_cons (pv 3) (pa_cons (pe_op op_mul (pe_op op_sub (pv 1) pe_int) (pv 4)) pa_nil)))))))))), ?_⟩
    refine ⟨_, rfl, n, rfl, h2, h6, ?_⟩
    refine ⟨_, rfl, n, odd, TT, rfl, by omega, hT.eq, ho, fun p H1 s1 hp hp1 => ?_⟩
    refine ⟨p, _, rfl, SqT.of hp1, rfl, _, _, rfl, _, _, rfl, rfl, ?_⟩
    refine ⟨_, rfl, rfl, _, rfl, ?_⟩
    rw [dec_int]
    by_cases c : odd = 1
    · rw [decide_eq_true (show (odd : Int) = 1 by omega)]
      refine iteT ⟨by show 0 ≤ sizeLine; decide, fun l hl => ?_⟩
      refine k l [] _ (s1.trans (Same.new hl)) (s1.free hl) upd_same ?_
      unfold pT
      rw [if_pos c]
      exact .nil
    · rw [decide_eq_false (show ¬ (odd : Int) = 1 by omega)]
      refine iteF ⟨_, rfl, TT, rfl, by omega, fun lp H2 s2 hlp hL => ?_⟩
      refine ⟨lp, _, rfl, SqL.of hL, fun D hD => ?_⟩
      have s12 := s1.trans s2
      have npD : lp ≠ D := ne_of_none hL hD
      refine lc_it (walk_enum (K := K) (a := lp) (xs := (List.range (TT + 1)).map fun t => V.int (sh t : Int))) (fun i H3 => ∃ ts : List Addr, H3 D = some (.lst (ts.map V.ref)) ∧ Same H2 H3 ∧ ts.length = i ∧ PairsAt H3 ts (((List.range i).map fun t => (t, (odd - 1) * sh t)).map c2)) ⟨[], upd_same, Same.new hD, rfl, .nil⟩ (fun i H3 _ ⟨_, _, e, _⟩ => SqL.of (e _ _ hL)) ?_ ?_
      · rintro i x H3 H4 hi ⟨ts, hL3, s3, hlen, hPA⟩ ⟨TP, x1, x2, rfl, hTP, rfl, e1, e2⟩
        rw [List.length_map, List.length_range] at hi
        have e1' := Option.some.inj e1
        subst e1'
        dsimp only at e2
        rw [List.getElem?_map, List.getElem?_range hi] at e2
        have e2' := Option.some.inj e2
        subst e2'
        have s4 : Same H3 (upd H3 TP (.tup [.int (i : Nat), .int (sh i : Int)])) := Same.new hTP
        have hsh : sh i ≤ 2 ^ 20 := by
          unfold sh
          split
          · decide
          · exact Nat.pow_le_pow_right (by decide) (by omega)
        refine ⟨TP, _, rfl, SqT.of upd_same, rfl, _, _, rfl, _, _, rfl, rfl, rfl, _, rfl, _, rfl, _, _, rfl, rfl, _, rfl, _, _, rfl, rfl, .inl ⟨by omega, by omega⟩, by show 2 ≤ sizeLine; decide, fun TQ hTQ => ?_⟩
        have s5 := s4.trans (Same.new (o := .tup [.int (i : Int), .int (((odd : Int) - 1) * (sh i : Int))]) hTQ)
        have hq : (upd (upd H3 TP (.tup [.int (i : Nat), .int (sh i : Int)])) TQ (.tup [.int (i : Int), .int (((odd : Int) - 1) * (sh i : Int))])) TQ = some (.tup [.int (i : Int), .int (((odd : Int) - 1) * (sh i : Int))]) := upd_same
        generalize upd (upd H3 TP (.tup [.int (i : Nat), .int (sh i : Int)])) TQ (.tup [.int (i : Int), .int (((odd : Int) - 1) * (sh i : Int))]) = H5 at s5 hq ⊢
        have hL5 := s5 _ _ hL3
        refine ⟨_, hL5, by rw [List.length_map, sizeLine_eq]; omega, ts ++ [TQ], by rw [upd_same, List.map_append]; rfl, same_upd (s3.trans s5) hD, by rw [List.length_append, hlen]; rfl, ?_⟩
        have hodd : 1 ≤ odd := by omega
        have ev : ((odd : Int) - 1) * (sh i : Int) = (((odd - 1) * sh i : Nat) : Int) := by
          rw [Int.natCast_mul, Int.natCast_sub hodd]
          rfl
        rw [List.range_succ, List.map_append, List.map_append]
        refine PairsAt.at_ hL5 ((hPA.same s5).more ?_)
        rw [hq, ev]
        rfl
      · rintro H3 ⟨ts, hL3, s3, hlen, hPA⟩
        rw [List.length_map, List.length_range] at hPA
        refine k D ts H3 (s12.trans s3) (s12.free hD) hL3 ?_
        unfold pT
        rw [if_neg c]
        exact hPA
abbrev s_ending : Stmt := top 24
theorem sc_ending : FnScope ["total", "_", "twos", "steps", "share"] ["total"] (defScope s_ending) := ⟨rfl, rfl, rfl, by decide +kernel, rfl, by decide +kernel, by decide +kernel⟩
theorem ok_ending {f : Addr} {fd : FuncData} (F : Fun K "ending" "ending" s_ending f fd) (T : Tq K mg) (C_check_total : Cal P w K mg base CX0 2 "check_total" ["total"] spChkTot) (C_split_twos : Cal P w K mg base CX0 1 "split_twos" ["number"] spSplit)
    (C_even_shares : Cal P w K mg base CX0 1 "even_shares" ["twos"] spShares) : FnOk P w K mg base CX0 3 f fd ["total"] spEnding := by
  refine F.ok sc_ending (fun vs H Q E h => ?_) (fun cdv A outer s H vs Q E hr h => ?_)
  · obtain ⟨n, odd, T, rfl, _⟩ := h
    rfl
  · obtain ⟨n, odd, TT, rfl, h2, h6, hT, k⟩ := h
    obtain ⟨b1, b2, ho⟩ := hT.small h6
    refine ⟨_, (pss_cons (ps_expr (pe_cal C_check_total hr rfl pass0 (pa_cons (pv 0) pa_nil)))
      (pss_cons (ps_asg (pe_cal C_split_twos hr rfl pass0 (pa_cons (pv 0) pa_nil)) (pg_tup rfl (pgs_cons (pg_name (i := 1) sc_ending.nd rfl (Or.inl rfl)) (pgs_cons (pg_name (i := 2) sc_ending.nd rfl (Or.inl rfl)) pgs_nil))))
      (pss_one (ps_ret (pe_lc (own := [("steps", 3), ("share", 4)]) (g := gTup K 2 (gCons (gName 3) (gCons (gName 4) (gNil)))) (by rfl) sc_ending.nd (pi_enum (by rfl) T.enumerate (pa_cons (pe_cal C_even_shares hr rfl pass0 (pa_cons (pv 2) pa_nil)) pa_nil)) (blkOk_by (own := [("steps", 3), ("share", 4)]) (N := ["total", "_", "twos", "steps", "share"]) (sc := defScope s_ending) (by decide +kernel)) (fun _ _ _ _ _ => pg_tup (n := 2) rfl (pgs_cons (pg_name (i := 3) sc_ending.nd rfl (Or.inl rfl)) (pgs_cons (pg_name (i := 4) sc_ending.nd rfl (Or.inl rfl)) pgs_nil))) (fun _ _ _ _ _ => pts_one (pt_cmpR op_gt (pv 3) pe_int (nomark _))) (fun _ _ _ _ _ => (pe_tup (pa_cons (pv 3) (pa_cons (pv 4) pa_nil))))))))), ?_⟩
    refine ⟨_, rfl, n, rfl, h2, h6, ?_⟩
    refine ⟨_, rfl, n, odd, TT, rfl, by omega, hT.eq, ho, fun p H1 s1 hp hp1 => ?_⟩
    refine ⟨p, _, rfl, SqT.of hp1, rfl, _, _, rfl, _, _, rfl, rfl, ?_⟩
    refine ⟨_, rfl, TT, rfl, by omega, fun lp H2 s2 hlp hL => ?_⟩
    refine ⟨lp, _, rfl, SqL.of hL, fun D hD => ?_⟩
    have s12 := s1.trans s2
    refine lc_it (walk_enum (K := K) (a := lp) (xs := (List.range (TT + 1)).map fun t => V.int (sh t : Int))) (fun i H3 => ∃ ts : List Addr, H3 D = some (.lst (ts.map V.ref)) ∧ Same H2 H3 ∧ ts.length ≤ i ∧ PairsAt H3 ts ((((List.range i).filter fun t => decide (0 < t)).map fun t => (t, sh t)).map c2)) ⟨[], upd_same, Same.new hD, Nat.le_refl _, .nil⟩ (fun i H3 _ ⟨_, _, e, _⟩ => SqL.of (e _ _ hL)) ?_ ?_
    · rintro i x H3 H4 hi ⟨ts, hL3, s3, hlen, hPA⟩ ⟨TP, x1, x2, rfl, hTP, rfl, e1, e2⟩
      rw [List.length_map, List.length_range] at hi
      have e1' := Option.some.inj e1
      subst e1'
      dsimp only at e2
      rw [List.getElem?_map, List.getElem?_range hi] at e2
      have e2' := Option.some.inj e2
      subst e2'
      have s4 : Same H3 (upd H3 TP (.tup [.int (i : Nat), .int (sh i : Int)])) := Same.new hTP
      refine ⟨TP, _, rfl, SqT.of upd_same, rfl, _, _, rfl, _, _, rfl, rfl, rfl, _, rfl, _, _, rfl, rfl, _, rfl, ?_⟩
      rw [List.range_succ, List.filter_append, List.map_append, List.map_append]
      by_cases c : 0 < i
      · rw [decide_eq_true (show (0 : Int) < (i : Int) by omega)]
        refine iteT ⟨_, rfl, _, rfl, by show 2 ≤ sizeLine; decide, fun TQ hTQ => ?_⟩
        have s5 := s4.trans (Same.new (o := .tup [.int (i : Int), .int (sh i : Int)]) hTQ)
        have hq : (upd (upd H3 TP (.tup [.int (i : Nat), .int (sh i : Int)])) TQ (.tup [.int (i : Int), .int (sh i : Int)])) TQ = some (.tup [.int (i : Int), .int (sh i : Int)]) := upd_same
        generalize upd (upd H3 TP (.tup [.int (i : Nat), .int (sh i : Int)])) TQ (.tup [.int (i : Int), .int (sh i : Int)]) = H5 at s5 hq ⊢
        have hL5 := s5 _ _ hL3
        refine ⟨_, hL5, by rw [List.length_map, sizeLine_eq]; omega, ts ++ [TQ], by rw [upd_same, List.map_append]; rfl, same_upd (s3.trans s5) hD, by rw [List.length_append]; exact Nat.succ_le_succ hlen, ?_⟩
        rw [List.filter_cons, if_pos (decide_eq_true c)]
        exact PairsAt.at_ hL5 ((hPA.same s5).more hq)
      · rw [decide_eq_false (show ¬ (0 : Int) < (i : Int) by omega)]
        refine iteF ⟨ts, s4 _ _ hL3, s3.trans s4, by omega, ?_⟩
        rw [List.filter_cons, if_neg (by rw [decide_eq_false c]; decide)]
        show PairsAt _ ts (_ ++ [])
        rw [List.append_nil]
        exact hPA.same s4
    · rintro H3 ⟨ts, hL3, s3, hlen, hPA⟩
      rw [List.length_map, List.length_range] at hPA
      exact k D ts H3 (s12.trans s3) (s12.free hD) hL3 hPA
end
end Hd
set_option maxHeartbeats 4000000
namespace Hd
open PySem PySem.Spec PyProof.Rows L2
abbrev stdg (n x : Nat) : List Int := [(x : Int), ((n - x : Nat) : Int)]
/-- a standing of two heaps -/
structure Std (n x : Nat) : Prop where
  lo : 1 ≤ x
  hi : x < n
  n6 : n ≤ 10 ^ 6
theorem Std.sum {n x : Nat} (h : Std n x) : (stdg n x).sum = (n : Int) := by
  have := h.hi
  show (x : Int) + (((n - x : Nat) : Int) + 0) = n
  omega
theorem Std.good {n x : Nat} (h : Std n x) : hpsB (stdg n x) = true := by
  have h1 := h.lo
  have h2 := h.hi
  have h3 := h.n6
  have hs := h.sum
  unfold hpsB inR
  simp only [Bool.and_eq_true, decide_eq_true_eq, List.all_eq_true, List.mem_map]
  refine ⟨⟨by show 2 ≤ 2; decide, by show 2 ≤ 6; decide⟩, fun b ⟨y, hy, e⟩ => ?_, by omega⟩
  subst e
  simp only [id, Bool.and_eq_true, decide_eq_true_eq]
  rcases List.mem_cons.mp hy with e | hy
  · subst e
    omega
  · have e : y = ((n - x : Nat) : Int) := by simpa using hy
    subst e
    omega
theorem Std.odd {n x : Nat} (h : Std n x) : OddOf (stdg n x) (oP (cls n x)) (tP (cls n x)) := by
  have h1 := h.lo
  have h2 := h.hi
  obtain ⟨p1, p2⟩ := parts (cls_pos (show 0 < n by omega) x)
  refine ⟨?_, p2⟩
  have eg : gAll (stdg n x) = Nat.gcd x n := by
    show Nat.gcd (Nat.gcd 0 (x : Int).natAbs) (((n - x : Nat) : Int)).natAbs = _
    rw [Int.natAbs_natCast, Int.natAbs_natCast, Nat.gcd_zero_left]
    have : n = x + (n - x) := by omega
    rw (occs := [2]) [this]
    rw [Nat.gcd_self_add_right]
  rw [h.sum, eg, ← p1, ← Int.natCast_mul]
  congr 1
  exact (Nat.mul_div_cancel' (Nat.gcd_dvd_right x n)).symm
def spChk2 (K : PySem.W.Frag) : Sp := fun vs H Q _ => ∃ (t : Addr) (n x : Nat), vs = [.ref t] ∧ SqT K H t ((stdg n x).map V.int) ∧ Std n x ∧ ∀ H', Same H H' → Q .non H'
noncomputable def endv (n x : Nat) : V := if oP (cls n x) = 1 then .int (tP (cls n x) : Int) else .non
noncomputable def ringv (n x : Nat) : Nat := if oP (cls n x) = 1 then 0 else oR (oP (cls n x))
def spEnds (K : PySem.W.Frag) : Sp := fun vs H Q _ => ∃ (t : Addr) (n x : Nat), vs = [.ref t] ∧ SqT K H t ((stdg n x).map V.int) ∧ Std n x ∧ ∀ H', Same H H' → Q (endv n x) H'
def spTailR (K : PySem.W.Frag) : Sp := fun vs H Q _ => ∃ (t : Addr) (n x : Nat), vs = [.ref t] ∧ SqT K H t ((stdg n x).map V.int) ∧ Std n x ∧ ∀ (p : Addr) (H' : Hp), Same H H' → H' p = some (.tup (two (tP (cls n x)) (ringv n x))) → Q (.ref p) H'
section
variable {P : Program} {w : World} {K : PySem.W.Frag} {mg : Str → Option Value} {base : Heap}
abbrev s_check_two : Stmt := top 29
theorem sc_check_two : FnScope ["heaps"] ["heaps"] (defScope s_check_two) := ⟨rfl, rfl, rfl, by decide +kernel, rfl, by decide +kernel, by decide +kernel⟩
theorem ok_check_two {f : Addr} {fd : FuncData} (F : Fun K "check_two" "check_two" s_check_two f fd) (T : Tp K mg) (C_check_heaps : Cal P w K mg base CX0 3 "check_heaps" ["heaps"] (spChkHeaps K)) : FnOk P w K mg base CX0 4 f fd ["heaps"] (spChk2 K) := by
  refine F.ok sc_check_two (fun vs H Q E h => ?_) (fun cdv A outer s H vs Q E hr h => ?_)
  · obtain ⟨t, n, x, rfl, _⟩ := h
    rfl
  · obtain ⟨t, n, x, rfl, hS, hT, k⟩ := h
    refine ⟨_, (pss_cons (ps_expr (pe_cal C_check_heaps hr rfl pass0 (pa_cons (pv 0) pa_nil)))
      (pss_one (ps_if (pt_cmpR op_ne (pe_callB call_len_seq (by rfl) T.len PySem.boot_len (pa_cons (pv 0) pa_nil)) pe_int (nomark _)) (pss_one ps_never) pss_nil))), ?_⟩
    refine ⟨_, rfl, t, stdg n x, rfl, hS, hT.good, fun H1 s1 => ?_⟩
    exact ⟨_, rfl, t, _, rfl, .inr (Same.tup s1 hS), rfl, _, rfl, iteNS rfl (k _ s1)⟩
abbrev s_ends_after : Stmt := top 30
theorem sc_ends_after : FnScope ["heaps", "odd", "twos"] ["heaps"] (defScope s_ends_after) := ⟨rfl, rfl, rfl, by decide +kernel, rfl, by decide +kernel, by decide +kernel⟩
theorem ok_ends_after {f : Addr} {fd : FuncData} (F : Fun K "ends_after" "ends_after" s_ends_after f fd) (C_check_two : Cal P w K mg base CX0 4 "check_two" ["heaps"] (spChk2 K)) (C_reduced_parts : Cal P w K mg base CX0 2 "reduced_parts" ["numbers"] (spRed K)) : FnOk P w K mg base CX0 5 f fd ["heaps"] (spEnds K) := by
  refine F.ok sc_ends_after (fun vs H Q E h => ?_) (fun cdv A outer s H vs Q E hr h => ?_)
  · obtain ⟨t, n, x, rfl, _⟩ := h
    rfl
  · obtain ⟨t, n, x, rfl, hS, hT, k⟩ := h
    refine ⟨_, (pss_cons (ps_expr (pe_cal C_check_two hr rfl pass0 (pa_cons (pv 0) pa_nil)))
      (pss_cons (ps_asg (pe_cal C_reduced_parts hr rfl pass0 (pa_cons (pv 0) pa_nil)) (pg_tup rfl (pgs_cons (pg_name (i := 1) sc_ends_after.nd rfl (Or.inl rfl)) (pgs_cons (pg_name (i := 2) sc_ends_after.nd rfl (Or.inl rfl)) pgs_nil))))
      (pss_one (ps_ret (pe_ifExp (pt_cmpR op_eq (pv 1) pe_int (nomark _)) (pv 2) pe_non))))), ?_⟩
    refine ⟨_, rfl, t, n, x, rfl, hS, hT, fun H1 s1 => ?_⟩
    refine ⟨_, rfl, t, stdg n x, _, _, rfl, Same.tup s1 hS, hT.good, hT.odd, fun p H2 s2 hp hp2 => ?_⟩
    refine ⟨p, _, rfl, SqT.of hp2, rfl, _, _, rfl, _, _, rfl, rfl, ?_⟩
    refine ⟨_, rfl, rfl, _, rfl, ?_⟩
    rw [dec_int]
    have k' := k H2 (s1.trans s2)
    unfold endv at k'
    by_cases c : oP (cls n x) = 1
    · rw [if_pos c] at k'
      rw [decide_eq_true (show (oP (cls n x) : Int) = 1 by omega)]
      exact iteT ⟨_, rfl, k'⟩
    · rw [if_neg c] at k'
      rw [decide_eq_false (show ¬ (oP (cls n x) : Int) = 1 by omega)]
      exact iteF k'
abbrev s_tail_and_ring : Stmt := top 31
theorem sc_tail_and_ring : FnScope ["heaps", "odd", "twos"] ["heaps"] (defScope s_tail_and_ring) := ⟨rfl, rfl, rfl, by decide +kernel, rfl, by decide +kernel, by decide +kernel⟩
theorem ok_tail_and_ring {f : Addr} {fd : FuncData} (F : Fun K "tail_and_ring" "tail_and_ring" s_tail_and_ring f fd) (T : Tp K mg) (c_GS : ∃ t, mg "GREATEST_SUM" = some (.int (10 ^ 6) t)) (C_check_two : Cal P w K mg base CX0 4 "check_two" ["heaps"] (spChk2 K)) (C_reduced_parts : Cal P w K mg base CX0 2 "reduced_parts" ["numbers"] (spRed K)) (C_order_of_two : Cal P w K mg base CX0 1 "order_of_two" ["odd"] spOrd) : FnOk P w K mg base CX0 5 f fd ["heaps"] (spTailR K) := by
  refine F.ok sc_tail_and_ring (fun vs H Q E h => ?_) (fun cdv A outer s H vs Q E hr h => ?_)
  · obtain ⟨t, n, x, rfl, _⟩ := h
    rfl
  · obtain ⟨t, n, x, rfl, hS, hT, k⟩ := h
    refine ⟨_, (pss_cons (ps_expr (pe_cal C_check_two hr rfl pass0 (pa_cons (pv 0) pa_nil)))
      (pss_cons (ps_if (pt_cmpR op_gt (pe_callB (cr_sumT rfl) (by rfl) T.sum (by decide +kernel) (pa_cons (pv 0) pa_nil)) (pe_gint rfl c_GS) (nomark _)) (pss_one ps_never) pss_nil)
      (pss_cons (ps_asg (pe_cal C_reduced_parts hr rfl pass0 (pa_cons (pv 0) pa_nil)) (pg_tup rfl (pgs_cons (pg_name (i := 1) sc_tail_and_ring.nd rfl (Or.inl rfl)) (pgs_cons (pg_name (i := 2) sc_tail_and_ring.nd rfl (Or.inl rfl)) pgs_nil))))
      (pss_one (ps_ret (pe_tup (pa_cons (pv 2) (pa_cons (pe_ifExp (pt_cmpR op_eq (pv 1) pe_int (nomark _)) pe_int (pe_cal C_order_of_two hr rfl pass0 (pa_cons (pv 1) pa_nil))) pa_nil)))))))), ?_⟩
    refine ⟨_, rfl, t, n, x, rfl, hS, hT, fun H1 s1 => ?_⟩
    refine ⟨_, rfl, t, stdg n x, rfl, Same.tup s1 hS, _, _, rfl, rfl, _, rfl, ?_⟩
    have h6 := hT.n6
    rw [hT.sum, decide_eq_false (show ¬ ((10 : Int) ^ 6 < (n : Int)) by omega)]
    refine iteF ?_
    refine ⟨_, rfl, t, stdg n x, _, _, rfl, Same.tup s1 hS, hT.good, hT.odd, fun p H2 s2 hp hp2 => ?_⟩
    refine ⟨p, _, rfl, SqT.of hp2, rfl, _, _, rfl, _, _, rfl, rfl, ?_⟩
    have k' := k
    unfold ringv at k'
    refine ⟨_, rfl, _, rfl, rfl, _, rfl, ?_⟩
    rw [dec_int]
    have pd := (parts (cls_pos (show 0 < n by have := hT.hi; omega) x)).2
    by_cases c : oP (cls n x) = 1
    · rw [if_pos c] at k'
      rw [decide_eq_true (show (oP (cls n x) : Int) = 1 by omega)]
      refine iteT ⟨by show 2 ≤ sizeLine; decide, fun q hq => ?_⟩
      exact k' q _ ((s1.trans s2).trans (Same.new hq)) upd_same
    · rw [if_neg c] at k'
      rw [decide_eq_false (show ¬ (oP (cls n x) : Int) = 1 by omega)]
      refine iteF ⟨_, rfl, oP (cls n x), oR (oP (cls n x)), rfl, by omega, oR_ord pd, by show 2 ≤ sizeLine; decide, fun q hq => ?_⟩
      exact k' q _ ((s1.trans s2).trans (Same.new hq)) upd_same
end
end Hd
set_option maxHeartbeats 4000000
/-! A walk of two heaps, step by step, told by its first heap; lists of pairs sorted. -/
namespace Hd
open PySem PySem.Spec PyProof.Rows L2
/-- where the first heap is behind i steps -/
def wh (n x i : Nat) : Nat := (2 ^ i * x) % n
theorem wh_lt {n x i : Nat} (hn : 0 < n) : wh n x i < n := Nat.mod_lt _ hn
theorem wh_next {n x i : Nat} (hn : 0 < n) : wh n x (i + 1) = if 2 * wh n x i < n then 2 * wh n x i else 2 * wh n x i - n := by
  have hl := wh_lt (x := x) (i := i) hn
  have e : wh n x (i + 1) = (2 * wh n x i) % n := by
    unfold wh
    have e1 : 2 ^ (i + 1) * x = 2 * (2 ^ i * x) := by rw [Nat.pow_succ, Nat.mul_comm (2 ^ i), Nat.mul_assoc]
    rw [e1, Nat.mul_mod_mod]
  rw [e]
  split
  · rename_i h
    exact Nat.mod_eq_of_lt h
  · rename_i h
    rw [Nat.mod_eq_sub_mod (by omega), Nat.mod_eq_of_lt (by omega)]
theorem cls_par {n x : Nat} (h1 : 1 ≤ x) (h2 : x < n) : Par x (n - x) (oP (cls n x)) (tP (cls n x)) := by
  obtain ⟨p1, p2⟩ := parts (cls_pos (show 0 < n by omega) x)
  have en : x + (n - x) = n := by omega
  refine ⟨by omega, ?_, p2⟩
  have eg : Nat.gcd x (n - x) = Nat.gcd x n := by
    rw (occs := [2]) [← en]
    rw [Nat.gcd_self_add_right]
  rw [en, eg]
  exact p1
/-- the number of steps until it is 0, or where it was -/
noncomputable def wl (n x : Nat) : Nat := if oP (cls n x) = 1 then tP (cls n x) else tP (cls n x) + oR (oP (cls n x))
section
variable {n x : Nat}
theorem wh_zero (h1 : 1 ≤ x) (h2 : x < n) (i : Nat) : wh n x i = 0 ↔ oP (cls n x) = 1 ∧ tP (cls n x) ≤ i := by
  have := (cls_par h1 h2).zero i
  rw [show x + (n - x) = n by omega] at this
  exact this
theorem wh_same (h1 : 1 ≤ x) (h2 : x < n) {i j : Nat} (h : j < i) : wh n x i = wh n x j ↔ tP (cls n x) ≤ j ∧ oP (cls n x) ∣ 2 ^ (i - j) - 1 := by
  have en : x + (n - x) = n := by omega
  have := (cls_par h1 h2).again (x := wh n x j) (d := i - j) (by omega) j (by unfold wh; rw [en])
  rw [en, show j + (i - j) = i by omega] at this
  exact this
/-- it goes on -/
theorem wh_on (h1 : 1 ≤ x) (h2 : x < n) {i : Nat} (h : i < wl n x) : wh n x i ≠ 0 ∧ ∀ j, j < i → wh n x i ≠ wh n x j := by
  have od := (cls_par h1 h2).odd
  unfold wl at h
  refine ⟨fun z => ?_, fun j hj z => ?_⟩
  · obtain ⟨a, b⟩ := (wh_zero h1 h2 i).mp z
    rw [if_pos a] at h
    omega
  · obtain ⟨a, b⟩ := (wh_same h1 h2 hj).mp z
    by_cases c : oP (cls n x) = 1
    · rw [if_pos c] at h
      omega
    · rw [if_neg c] at h
      exact (oR_ord od).no (i - j) (by omega) (by omega) b
theorem wh_end (h1 : 1 ≤ x) (h2 : x < n) : (oP (cls n x) = 1 → wh n x (wl n x) = 0) ∧ (oP (cls n x) ≠ 1 → wh n x (wl n x) ≠ 0 ∧ wh n x (wl n x) = wh n x (tP (cls n x)) ∧ tP (cls n x) < wl n x ∧ ∀ m, m < tP (cls n x) → wh n x m ≠ wh n x (wl n x)) := by
  have od := (cls_par h1 h2).odd
  refine ⟨fun c => ?_, fun c => ?_⟩
  · unfold wl
    rw [if_pos c]
    exact (wh_zero h1 h2 _).mpr ⟨c, Nat.le_refl _⟩
  · have O := oR_ord od
    have ew : wl n x = tP (cls n x) + oR (oP (cls n x)) := if_neg c
    have lt : tP (cls n x) < wl n x := by
      rw [ew]
      have := O.pos
      omega
    refine ⟨fun z => c ((wh_zero h1 h2 _).mp z).1, (wh_same h1 h2 lt).mpr ⟨Nat.le_refl _, ?_⟩, lt, fun m hm z => ?_⟩
    · rw [ew, Nat.add_sub_cancel_left]
      exact O.yes
    · have := ((wh_same h1 h2 (show m < wl n x by omega)).mp z.symm).1
      omega
theorem wl_le (h1 : 1 ≤ x) (h2 : x < n) : wl n x ≤ 2 * n := by
  have od := (cls_par h1 h2).odd
  have c1 := Nat.le_of_dvd (by omega) (cls_dvd n x)
  obtain ⟨p1, p2⟩ := parts (cls_pos (show 0 < n by omega) x)
  have a1 : oP (cls n x) ≤ cls n x := by
    rw (occs := [2]) [p1]
    exact Nat.le_mul_of_pos_right _ (Nat.pow_pos (by decide))
  have a2 : tP (cls n x) < cls n x := by
    have l1 : tP (cls n x) < 2 ^ tP (cls n x) := Nat.lt_two_pow_self
    have l2 : 2 ^ tP (cls n x) ≤ cls n x := by
      rw (occs := [2]) [p1]
      exact Nat.le_mul_of_pos_left _ (by omega)
    omega
  have a3 := oR_le od
  unfold wl
  split <;> omega
end
/-! ### ints within a list -/
def ni (i : Nat) : V := V.int (i : Int)
theorem eqV_ni (a b : Nat) : eqV (ni a) (ni b) = decide (a = b) := by
  show ((a : Int) == (b : Int)) = _
  rw [Bool.eq_iff_iff, beq_iff_eq, decide_eq_true_eq]
  omega
theorem inV_ni (b : Nat) (l : List Nat) : inV (ni b) (l.map ni) = decide (b ∈ l) := by
  unfold inV
  rw [List.any_map, Bool.eq_iff_iff, List.any_eq_true, decide_eq_true_eq]
  constructor
  · rintro ⟨a, ha, e⟩
    have e' : eqV (ni a) (ni b) = true := e
    rw [eqV_ni, decide_eq_true_eq] at e'
    rw [← e']
    exact ha
  · intro h
    refine ⟨b, h, ?_⟩
    show eqV (ni b) (ni b) = true
    rw [eqV_ni]
    exact decide_eq_true rfl
theorem flat_ni (l : List Nat) : (l.map ni).all flatV = true := List.all_eq_true.mpr fun v hv => by
  obtain ⟨n, _, rfl⟩ := List.mem_map.mp hv
  rfl
/-! ### a list of pairs, sorted -/
def rdP (H : Hp) (v : V) : Int × Int := match v with
  | .ref a => match H a with
    | some (.tup [.int i, .int j]) => (i, j)
    | _ => (0, 0)
  | _ => (0, 0)
theorem rdP_at {H : Hp} {a : Addr} {q : Int × Int} (h : H a = some (.tup [.int q.1, .int q.2])) : rdP H (.ref a) = q := by
  unfold rdP
  simp only [h]
theorem PairsAt.read {H : Hp} {ts : List Addr} {qs : List (Int × Int)} (h : PairsAt H ts qs) : qs = ts.map (fun a => rdP H (.ref a)) ∧ ∀ a ∈ ts, H a = some (.tup [.int (rdP H (.ref a)).1, .int (rdP H (.ref a)).2]) := by
  unfold PairsAt at h
  induction h with
  | nil => exact ⟨rfl, fun a ha => nomatch ha⟩
  | @cons t q ts qs a _ ih =>
    have e := rdP_at a
    refine ⟨by rw [List.map_cons, ← ih.1, e], fun b hb => ?_⟩
    rcases List.mem_cons.mp hb with z | hb
    · subst z
      rw [e]
      exact a
    · exact ih.2 b hb
def rSortPairs (K : PySem.W.Frag) : List V → Hp → VK → Prop := fun vs H Q => ∃ (a : Addr) (ts : List Addr) (ps : List (Int × Int)), vs = [V.ref a] ∧ SqL K H a (ts.map V.ref) ∧ PairsAt H ts ps ∧
  ∀ (p : Addr) (us : List Addr) (qs : List (Int × Int)), qs.Perm ps → SrtQ qs → PairsAt H us qs → H p = none → Q (.ref p) (upd H p (.lst (us.map V.ref)))
theorem cr_sortPairs {X : Cx} : CallR X (.builtin "sorted") (rSortPairs X.K) := by
  intro pins s σ H vs us Q I r h
  obtain ⟨a, ts, ps, rfl, hs, hP, q⟩ := h
  obtain ⟨e1, e2⟩ := hP.read
  refine cr_sortedPO pins s σ H _ us Q I r ⟨a, ts.map V.ref, rdP H, rfl, hs, fun x hx => ?_, fun ys p h1 h2 hp => ?_⟩
  · obtain ⟨b, hb, rfl⟩ := List.mem_map.mp hx
    exact ⟨b, rfl, e2 b hb⟩
  · obtain ⟨us', eu, pu⟩ := perm_back V.ref h2.perm ts rfl
    subst eu
    refine q p us' (us'.map fun a => rdP H (.ref a)) ?_ ?_ ?_ hp
    · rw [e1]
      exact pu.map _
    · have h1' := h1
      unfold SrtQ
      rw [List.pairwise_map]
      exact List.pairwise_map.mp h1'
    · have : Paired (fun (t : Addr) (q : Int × Int) => H t = some (.tup [.int q.1, .int q.2])) (us'.map id) (us'.map fun a => rdP H (.ref a)) := paired_map id _ fun b hb => e2 b (pu.mem_iff.mp hb)
      rw [List.map_id] at this
      exact this
theorem pairs_of_items {H : Hp} {ts : List Addr} {ps : List (Nat × Nat)} (h : Paired (fun (t : Addr) (q : L2.Key × V) => H t = some (.tup [kV q.1, q.2])) ts (ps.map nRow)) : PairsAt H ts (ps.map c2) := by
  induction ps generalizing ts with
  | nil =>
    cases h
    exact .nil
  | cons p ps ih =>
    cases h with
    | cons a t => exact .cons a (ih t)
end Hd
set_option maxHeartbeats 4000000
namespace Hd
open PySem PySem.Spec PyProof.Rows L2
/-- a list of pairs at its address -/
structure PL (H : Hp) (a : Addr) (qs : List (Int × Int)) : Prop where
  ex : ∃ ts : List Addr, H a = some (.lst (ts.map V.ref)) ∧ PairsAt H ts qs
theorem PL.same {H H' : Hp} {a : Addr} {qs : List (Int × Int)} (e : Same H H') (h : PL H a qs) : PL H' a qs := by
  obtain ⟨ts, h1, h2⟩ := h.ex
  exact ⟨ts, e _ _ h1, h2.same e⟩
/-- the law's row of rings -/
noncomputable def rowR (n : Nat) (ks : List Nat) : List (Nat × Nat) := ks.map fun k => (k, wsum (evs (evR n) (n - 1)) k / k)
structure WkOut (H : Hp) (p : Addr) (n odd T : Nat) : Prop where
  ex : ∃ (a b c : Addr) (ks : List Nat) (psR : List (Nat × Nat)), H p = some (.lst [.ref a, .ref b, .ref c]) ∧ PL H a ((rowR n ks).map c2) ∧ Dic psR (evs (evR n) (n - 1)) ∧ ks.Perm (psR.map (·.1)) ∧ ks.Pairwise (· ≤ ·) ∧ PL H b ((pT odd T).map c2) ∧ PL H c ((pE T).map c2)
def spWalks : Sp := fun vs H Q _ => ∃ n odd T : Nat, vs = [.int (n : Int)] ∧ 2 ≤ n ∧ n ≤ 301 ∧ Tot n odd T ∧ ∀ (p : Addr) (H' : Hp), Same H H' → WkOut H' p n odd T → Q (.ref p) H'
/-- the three dicts that count -/
structure Cnt (H : Hp) (dR dT dE : Addr) (n i : Nat) : Prop where
  ex : ∃ psR psT psE : List (Nat × Nat), H dR = some (.dK (psR.map nRow)) ∧ H dT = some (.dK (psT.map nRow)) ∧ H dE = some (.dK (psE.map nRow)) ∧ Dic psR (evs (evR n) i) ∧ Dic psT (evs (evT n) i) ∧ Dic psE (evs (evE n) i)
theorem Cnt.same {H H' : Hp} {dR dT dE : Addr} {n i : Nat} (e : Same H H') (h : Cnt H dR dT dE n i) : Cnt H' dR dT dE n i := by
  obtain ⟨a, b, c, h1, h2, h3, h4, h5, h6⟩ := h.ex
  exact ⟨a, b, c, e _ _ h1, e _ _ h2, e _ _ h3, h4, h5, h6⟩
theorem ev_len (ev : Nat → List (Nat × Nat)) (h : ∀ x, (ev x).length ≤ 1) : ∀ i, (evs ev i).length ≤ i
  | 0 => Nat.le_refl _
  | i + 1 => by
    rw [evs_succ, List.length_append]
    have := ev_len ev h i
    have := h (1 + i)
    omega
theorem evR_len (n x : Nat) : (evR n x).length ≤ 1 := by
  unfold evR
  split
  · exact Nat.le_refl _
  · exact Nat.zero_le _
theorem evT_len (n x : Nat) : (evT n x).length ≤ 1 := by
  unfold evT
  split
  · exact Nat.le_refl _
  · exact Nat.zero_le _
theorem evE_len (n x : Nat) : (evE n x).length ≤ 1 := by
  unfold evE
  split
  · exact Nat.le_refl _
  · exact Nat.zero_le _
section
variable {P : Program} {w : World} {K : PySem.W.Frag} {mg : Str → Option Value} {base : Heap}
abbrev s_l_walks : Stmt := top 35
theorem sc_l_walks : FnScope ["_law_total", "_law_rings_of", "_law_tails_of", "_law_ends_of", "_law_one", "_law_here", "_law_seen", "_law_tail", "_law_row", "_law_size"] ["_law_total"] (defScope s_l_walks) := ⟨rfl, rfl, rfl, by decide +kernel, rfl, by decide +kernel, by decide +kernel⟩
theorem ok_l_walks {f : Addr} {fd : FuncData} (F : Fun K "_law_walks" "_law_walks" s_l_walks f fd) (T : Tq K mg) : FnOk P w K mg base CX0 1 f fd ["_law_total"] spWalks := by
  refine F.ok sc_l_walks (fun vs H Q E h => ?_) (fun cdv A outer s H vs Q E hr h => ?_)
  · obtain ⟨n, odd, TT, rfl, _⟩ := h
    rfl
  · obtain ⟨n, odd, TT, rfl, h2, h3, hT, k⟩ := h
    have hu := hu_of hr
    refine ⟨_, (pss_cons (ps_asg (pe_tup (pa_cons pe_dnewK (pa_cons pe_dnewK (pa_cons pe_dnewK pa_nil)))) (pg_tup rfl (pgs_cons (pg_name (i := 1) sc_l_walks.nd rfl (Or.inr rfl)) (pgs_cons (pg_name (i := 2) sc_l_walks.nd rfl (Or.inl rfl)) (pgs_cons (pg_name (i := 3) sc_l_walks.nd rfl (Or.inl rfl)) pgs_nil)))))
      (pss_cons (ps_for PassesOwn.never rfl (pi_range2 rfl T.range (pa_cons pe_int (pa_cons (pv 0) pa_nil))) (pg_name (i := 4) sc_l_walks.nd rfl (Or.inl rfl))
      (pss_cons (ps_par (i := 5) (j := 6) (by rfl) sc_l_walks.nd rfl rfl (by decide) rfl rfl (pa_cons (pv 4) (pa_cons (pe_lst pa_nil) pa_nil)) (by rfl))
      (pss_cons (ps_while PassesOwn.never (PW.pt (pw_and (pt_cmpR op_ne (pv 5) pe_int (nomark _)) (pw_and1 (pt_cmpR op_notIn_seq (pv 5) (pv 6) (by rfl))))) (pss_cons (ps_expr (pe_bm PySem.F.plainAttrs_list PySem.F.slot_list_append PySem.F.type_list_append mt_append (pv 6) (pa_cons (pv 5) pa_nil)))
      (pss_one (ps_set (i := 5) sc_l_walks.nd rfl (Or.inl rfl) (pe_ifExp (pt_cmpR op_lt (pe_op op_mul pe_int (pv 5)) (pv 0) (nomark _)) (pe_op op_mul pe_int (pv 5)) (pe_op op_sub (pe_op op_mul pe_int (pv 5)) (pv 0)))))))
      (pss_one (ps_if (pt_cmpR op_eq (pv 5) pe_int (nomark _)) (pss_one (ps_dput hu (pv 3) (pe_callB call_len_seq (by rfl) T.len PySem.boot_len (pa_cons (pv 6) pa_nil)) (pe_op op_add (pe_dget2 hu (pv 3) (pe_callB call_len_seq (by rfl) T.len PySem.boot_len (pa_cons (pv 6) pa_nil)) pe_int ⟨by rfl, by rfl, by rfl, by rfl⟩) pe_int) rfl)) (pss_cons (ps_set (i := 7) sc_l_walks.nd rfl (Or.inl rfl) (pe_bm PySem.F.plainAttrs_list PySem.F.slot_list_index PySem.F.type_list_index mt_index (pv 6) (pa_cons (pv 5) pa_nil)))
      (pss_cons (ps_dput hu (pv 2) (pv 7) (pe_op op_add (pe_dget2 hu (pv 2) (pv 7) pe_int ⟨by rfl, by rfl, by rfl, by rfl⟩) pe_int) rfl)
      (pss_one (ps_if (pt_cmpR op_eq (pv 7) pe_int (nomark _)) (pss_one (ps_dput hu (pv 1) (pe_callB call_len_seq (by rfl) T.len PySem.boot_len (pa_cons (pv 6) pa_nil)) (pe_op op_add (pe_dget2 hu (pv 1) (pe_callB call_len_seq (by rfl) T.len PySem.boot_len (pa_cons (pv 6) pa_nil)) pe_int ⟨by rfl, by rfl, by rfl, by rfl⟩) pe_int) rfl)) pss_nil)))))))))
      (pss_cons (ps_setLc (i := 8) (own := [("_law_size", 9)]) (g := gName 9) (by rfl) sc_l_walks.nd rfl rfl (sw_true rfl rfl rfl (by decide +kernel)) (pi_list (pe_callB cr_sortedI (by rfl) T.sorted (by decide +kernel) (pa_cons (pe_callTy (call_list_dK rfl) (by rfl) T.list (by decide +kernel) (pa_cons (pv 1) pa_nil)) pa_nil))) (blkOk_by (own := [("_law_size", 9)]) (N := ["_law_total", "_law_rings_of", "_law_tails_of", "_law_ends_of", "_law_one", "_law_here", "_law_seen", "_law_tail", "_law_row", "_law_size"]) (sc := defScope s_l_walks) (by decide +kernel)) (fun _ _ _ _ _ => pg_name (i := 9) sc_l_walks.nd rfl (Or.inl rfl)) (fun _ _ _ _ _ => pts_nil) (fun _ _ _ _ _ => (pe_tup (pa_cons (pv 9) (pa_cons (pe_op op_fdiv (pe_dget hu (pv 1) (pv 9) (fun _ _ => rfl)) (pv 9)) pa_nil)))))
      (pss_one (ps_ret (pe_lst (pa_cons (pv 8) (pa_cons (pe_callB cr_sortPairs (by rfl) T.sorted (by decide +kernel) (pa_cons (LiI.pe_listItems rfl (pv 2) (by rfl) T.list (by decide +kernel)) pa_nil)) (pa_cons (pe_callB cr_sortPairs (by rfl) T.sorted (by decide +kernel) (pa_cons (LiI.pe_listItems rfl (pv 3) (by rfl) T.list (by decide +kernel)) pa_nil)) pa_nil))))))))), ?_⟩
    intro dR hR dT hTd dE hE
    have nRT : dR ≠ dT := ne_of_none upd_same hTd
    have nTE : dT ≠ dE := ne_of_none upd_same hE
    have nRE : dR ≠ dE := by
      refine ne_of_none (o := .dK []) ?_ hE
      rw [upd_ne nRT]
      exact upd_same
    have hTd0 : H dT = none := by
      rw [upd_ne (Ne.symm nRT)] at hTd
      exact hTd
    have hE0 : H dE = none := by
      rw [upd_ne (Ne.symm nTE), upd_ne (Ne.symm nRE)] at hE
      exact hE
    have s0 : Same H (upd (upd (upd H dR (.dK [])) dT (.dK [])) dE (.dK [])) := same_upd (same_upd (Same.new hR) hTd0) hE0
    have c0 : Cnt (upd (upd (upd H dR (.dK [])) dT (.dK [])) dE (.dK [])) dR dT dE n 0 := ⟨[], [], [], by rw [upd_ne nRE, upd_ne nRT, upd_same]; rfl, by rw [upd_ne nTE, upd_same]; rfl, by rw [upd_same]; rfl, Dic.nil, Dic.nil, Dic.nil⟩
    generalize upd (upd (upd H dR (.dK [])) dT (.dK [])) dE (.dK []) = H0 at s0 c0 ⊢
    refine ⟨by show 3 ≤ sizeLine; decide, fun tp htp => ⟨tp, _, rfl, SqT.of upd_same, rfl, _, _, rfl, _, _, rfl, _, _, rfl, rfl, ?_⟩⟩
    have s1 : Same H (upd H0 tp (.tup [.ref dR, .ref dT, .ref dE])) := s0.trans (Same.new htp)
    have c1 := c0.same (Same.new (o := .tup [.ref dR, .ref dT, .ref dE]) htp)
    generalize upd H0 tp (.tup [.ref dR, .ref dT, .ref dE]) = H1 at s1 c1 ⊢
    refine ⟨_, rfl, 1, n, rfl, by omega, ?_⟩
    rw [show ((n : Int) - 1).toNat = n - 1 by omega]
    refine for_range (lo := 1) (n := n - 1) (fun i σ H2 => ∃ v4 v5 v6 v7 : Option V, σ = [some (.int (n : Int)), some (.ref dR), some (.ref dT), some (.ref dE), v4, v5, v6, v7, none, none] ∧ Same H H2 ∧ Cnt H2 dR dT dE n i) ⟨none, none, none, none, rfl, s1, c1⟩ ?_ ?_
    · rintro i σ H2 hi ⟨v4, v5, v6, v7, rfl, s2, c2⟩
      obtain ⟨x, hx⟩ : ∃ x, x = 1 + i := ⟨_, rfl⟩
      have x1 : 1 ≤ x := by omega
      have x2 : x < n := by omega
      have ex : (1 : Int) + (i : Int) = (x : Int) := by omega
      rw [ex]
      -- _law_here, _law_seen
      refine ⟨_, rfl, by show 0 ≤ sizeLine; decide, fun sl hsl => ⟨_, _, rfl, ?_⟩⟩
      have hsl0 := s2.free hsl
      have c3 := c2.same (Same.new (o := .lst []) hsl)
      have w0 : wh n x 0 = x := by
        unfold wh
        rw [Nat.pow_zero, Nat.one_mul, Nat.mod_eq_of_lt x2]
      have wll := wl_le x1 x2
      refine ⟨fun mm σ H3 => ∃ j : Nat, σ = [some (.int (n : Int)), some (.ref dR), some (.ref dT), some (.ref dE), some (.int (x : Int)), some (.int (wh n x j : Int)), some (.ref sl), v7, none, none] ∧ H3 = upd H2 sl (.lst (((List.range j).map (wh n x)).map ni)) ∧ j ≤ wl n x ∧ wl n x - j = mm,
        ⟨_, 0, by rw [w0]; rfl, rfl, Nat.zero_le _, rfl⟩, ?_⟩
      rintro mm σ H3 ⟨j, rfl, rfl, hj, rfl⟩
      refine ⟨_, rfl, rfl, _, rfl, ?_⟩
      rw [dec_int]
      have hn0 : 0 < n := by omega
      have hsd : ∀ (d : Addr) (ps : List (Nat × Nat)), H2 d = some (.dK (ps.map nRow)) → d ≠ sl := fun d ps h => ne_of_none h hsl
      by_cases hjl : j < wl n x
      · -- it goes on
        obtain ⟨g1, g2⟩ := wh_on x1 x2 hjl
        rw [decide_eq_false (show ¬ ((wh n x j : Int) = 0) by omega)]
        refine iteT ⟨_, rfl, _, rfl, sl, _, rfl, .inl (SqL.of upd_same), rfl, flat_ni _, _, rfl, ?_⟩
        have hin : inV (V.int (wh n x j : Int)) (((List.range j).map (wh n x)).map ni) = false := by
          rw [show V.int (wh n x j : Int) = ni (wh n x j) from rfl, inV_ni]
          refine decide_eq_false fun z => ?_
          obtain ⟨m, hm, e⟩ := List.mem_map.mp z
          exact g2 m (List.mem_range.mp hm) e.symm
        rw [hin]
        refine iteT ⟨fun σ' H' => ∃ j' : Nat, σ' = [some (.int (n : Int)), some (.ref dR), some (.ref dT), some (.ref dE), some (.int (x : Int)), some (.int (wh n x j' : Int)), some (.ref sl), v7, none, none] ∧ H' = upd H2 sl (.lst (((List.range j').map (wh n x)).map ni)) ∧ j' ≤ wl n x ∧ wl n x - j' < wl n x - j,
          fun σ' H' ⟨j', e1, e2, e3, e4⟩ => ⟨_, e4, j', e1, e2, e3, rfl⟩, ?_⟩
        refine ⟨_, rfl, .inl ⟨rfl, _, SqL.of upd_same⟩, _, rfl, sl, _, _, rfl, rfl, upd_same, by rw [List.length_map, List.length_map, List.length_range, sizeLine_eq]; omega, ?_⟩
        rw [upd_upd]
        have hH : (upd H2 sl (.lst ((((List.range j).map (wh n x)).map ni) ++ [V.int (wh n x j : Int)]))) = upd H2 sl (.lst (((List.range (j + 1)).map (wh n x)).map ni)) := by
          rw [List.range_succ, List.map_append, List.map_append]
          rfl
        rw [hH]
        have hw := wh_next (x := x) (i := j) hn0
        have hlt := wh_lt (x := x) (i := j) hn0
        refine ⟨_, rfl, _, _, rfl, rfl, .inl ⟨by decide, by decide⟩, _, rfl, _, _, rfl, rfl, _, rfl, ?_⟩
        by_cases hc : 2 * wh n x j < n
        · rw [if_pos hc] at hw
          rw [decide_eq_true (show (2 : Int) * (wh n x j : Int) < (n : Int) by omega)]
          refine iteT ⟨_, rfl, _, _, rfl, rfl, .inl ⟨by decide, by decide⟩, j + 1, ?_, rfl, hjl, by omega⟩
          rw [hw]
          rfl
        · rw [if_neg hc] at hw
          rw [decide_eq_false (show ¬ (2 : Int) * (wh n x j : Int) < (n : Int) by omega)]
          refine iteF ⟨_, rfl, _, _, rfl, rfl, .inl ⟨by decide, by decide⟩, _, rfl, _, _, rfl, rfl, j + 1, ?_, rfl, hjl, by omega⟩
          rw [hw, show (((2 * wh n x j - n : Nat)) : Int) = (2 : Int) * (wh n x j : Int) - (n : Int) by omega]
          rfl
      · -- where it stops
        have ej : j = wl n x := by omega
        obtain ⟨z1, z2⟩ := wh_end x1 x2
        rw [← ej] at z1 z2
        obtain ⟨psR, psT, psE, d1, d2, d3, d4, d5, d6⟩ := c2.ex
        have kR := hsd _ _ d1
        have kT := hsd _ _ d2
        have kE := hsd _ _ d3
        have lenR : psR.length ≤ 1000 := by have := d4.len; have := ev_len _ (evR_len n) i; omega
        have lenT : psT.length ≤ 1000 := by have := d5.len; have := ev_len _ (evT_len n) i; omega
        have lenE : psE.length ≤ 1000 := by have := d6.len; have := ev_len _ (evE_len n) i; omega
        have exi : 1 + i = x := hx.symm
        have lsl : (((List.range j).map (wh n x)).map ni).length = j := by rw [List.length_map, List.length_map, List.length_range]
        by_cases c : oP (cls n x) = 1
        · have hz := z1 c
          rw [decide_eq_true (show (wh n x j : Int) = 0 by omega)]
          refine iteF ⟨_, rfl, rfl, _, rfl, ?_⟩
          rw [dec_int, decide_eq_true (show (wh n x j : Int) = 0 by omega)]
          have eE : (upd H2 sl (.lst (((List.range j).map (wh n x)).map ni))) dE = some (.dK (psE.map nRow)) := by rw [upd_ne kE]; exact d3
          refine iteT ⟨_, rfl, dE, rfl, .inl ⟨_, .inl eE⟩, _, rfl, sl, _, rfl, .inl (SqL.of upd_same), _, DGet.k (k := Sum.inl ((((List.range j).map (wh n x)).map ni).length : Int)) eE, _, _, d6.val _, rfl, _, rfl, _, rfl, sl, _, rfl, .inl (SqL.of upd_same), dE, _, rfl, DPut.k (k := Sum.inl ((((List.range j).map (wh n x)).map ni).length : Int)) eE (by rw [List.length_map, sizeLine_eq]; omega), ?_⟩
          refine ⟨_, _, _, _, rfl, ?_, psR, psT, bump psE j (wsum (evs (evE n) i) j + 1), ?_, ?_, ?_, ?_, ?_, ?_⟩
          · exact same_upd (same_upd s2 hsl0) hE0
          · rw [upd_ne nRE, upd_ne kR]; exact d1
          · rw [upd_ne nTE, upd_ne kT]; exact d2
          · rw [upd_same, ← bump_map, lsl]
            rfl
          · have e0 : evR n x = [] := if_neg fun z => z.1 c
            rw [evs_succ, exi, e0, List.append_nil]; exact d4
          · have e0 : evT n x = [] := if_neg fun z => z c
            rw [evs_succ, exi, e0, List.append_nil]; exact d5
          · have ew : wl n x = tP (cls n x) := if_pos c
            have e0 : evE n x = [(j, 1)] := by
              rw [ej, ew]
              exact if_pos c
            rw [evs_succ, exi, e0]
            exact d6.put j 1
        · obtain ⟨y1, y2, y3, y4⟩ := z2 c
          rw [decide_eq_false (show ¬ ((wh n x j : Int) = 0) by omega)]
          refine iteT ⟨_, rfl, _, rfl, sl, _, rfl, .inl (SqL.of upd_same), rfl, flat_ni _, _, rfl, ?_⟩
          have hin : inV (V.int (wh n x j : Int)) (((List.range j).map (wh n x)).map ni) = true := by
            rw [show V.int (wh n x j : Int) = ni (wh n x j) from rfl, inV_ni]
            exact decide_eq_true (List.mem_map.mpr ⟨_, List.mem_range.mpr y3, y2.symm⟩)
          rw [hin]
          refine iteF ⟨_, rfl, rfl, _, rfl, ?_⟩
          rw [dec_int, decide_eq_false (show ¬ ((wh n x j : Int) = 0) by omega)]
          obtain ⟨t, ht⟩ : ∃ t, t = tP (cls n x) := ⟨_, rfl⟩
          rw [← ht] at y2 y3 y4
          have at_m : ∀ m, m < j → (((List.range j).map (wh n x)).map ni)[m]? = some (ni (wh n x m)) := fun m hm => by
            rw [List.getElem?_map, List.getElem?_map, List.getElem?_range hm]
            rfl
          have eT : (upd H2 sl (.lst (((List.range j).map (wh n x)).map ni))) dT = some (.dK (psT.map nRow)) := by rw [upd_ne kT]; exact d2
          refine iteF ⟨_, rfl, .inl ⟨rfl, _, SqL.of upd_same⟩, _, rfl, sl, _, ni (wh n x j), t, ni (wh n x t), rfl, rfl, SqL.of upd_same, rfl, flat_ni _, at_m t y3, ?_, fun m z' hm hz' => ?_, ?_⟩
          · rw [eqV_ni]
            exact decide_eq_true y2.symm
          · rw [at_m m (by omega)] at hz'
            have ez := Option.some.inj hz'
            subst ez
            rw [eqV_ni]
            exact decide_eq_false (y4 m hm)
          refine ⟨_, rfl, dT, rfl, .inl ⟨_, .inl eT⟩, _, rfl, _, DGet.k (k := Sum.inl (t : Int)) eT, _, _, d5.val _, rfl, _, rfl, _, rfl, dT, _, rfl, DPut.k (k := Sum.inl (t : Int)) eT (by rw [List.length_map, sizeLine_eq]; omega), ?_⟩
          have e0T : evT n x = [(t, 1)] := by
            rw [ht]
            exact if_pos c
          have e0E : evE n x = [] := if_neg c
          have sT : Same H (upd (upd H2 sl (.lst (((List.range j).map (wh n x)).map ni))) dT (.dK (putK (psT.map nRow) (Sum.inl (t : Int)) (V.int ((wsum (evs (evT n) i) t : Int) + 1))))) := same_upd (same_upd s2 hsl0) hTd0
          have fR : (upd (upd H2 sl (.lst (((List.range j).map (wh n x)).map ni))) dT (.dK (putK (psT.map nRow) (Sum.inl (t : Int)) (V.int ((wsum (evs (evT n) i) t : Int) + 1))))) dR = some (.dK (psR.map nRow)) := by rw [upd_ne nRT, upd_ne kR]; exact d1
          have fT : (upd (upd H2 sl (.lst (((List.range j).map (wh n x)).map ni))) dT (.dK (putK (psT.map nRow) (Sum.inl (t : Int)) (V.int ((wsum (evs (evT n) i) t : Int) + 1))))) dT = some (.dK ((bump psT t (wsum (evs (evT n) i) t + 1)).map nRow)) := by rw [upd_same, ← bump_map]; rfl
          have fE : (upd (upd H2 sl (.lst (((List.range j).map (wh n x)).map ni))) dT (.dK (putK (psT.map nRow) (Sum.inl (t : Int)) (V.int ((wsum (evs (evT n) i) t : Int) + 1))))) dE = some (.dK (psE.map nRow)) := by rw [upd_ne (Ne.symm nTE), upd_ne kE]; exact d3
          have fS : (upd (upd H2 sl (.lst (((List.range j).map (wh n x)).map ni))) dT (.dK (putK (psT.map nRow) (Sum.inl (t : Int)) (V.int ((wsum (evs (evT n) i) t : Int) + 1))))) sl = some (.lst (((List.range j).map (wh n x)).map ni)) := by rw [upd_ne (Ne.symm kT), upd_same]
          generalize (upd (upd H2 sl (.lst (((List.range j).map (wh n x)).map ni))) dT (.dK (putK (psT.map nRow) (Sum.inl (t : Int)) (V.int ((wsum (evs (evT n) i) t : Int) + 1))))) = H4 at sT fR fT fE fS ⊢
          have cT := d5.put t 1
          -- if _law_tail == 0
          refine ⟨_, rfl, rfl, _, rfl, ?_⟩
          rw [dec_int]
          by_cases ct : t = 0
          · rw [decide_eq_true (show (t : Int) = 0 by omega)]
            refine iteT ⟨_, rfl, dR, rfl, .inl ⟨_, .inl fR⟩, _, rfl, sl, _, rfl, .inl (SqL.of fS), _, DGet.k (k := Sum.inl ((((List.range j).map (wh n x)).map ni).length : Int)) fR, _, _, d4.val _, rfl, _, rfl, _, rfl, sl, _, rfl, .inl (SqL.of fS), dR, _, rfl, DPut.k (k := Sum.inl ((((List.range j).map (wh n x)).map ni).length : Int)) fR (by rw [List.length_map, sizeLine_eq]; omega), ?_⟩
            refine ⟨_, _, _, _, rfl, same_upd sT hR, bump psR j (wsum (evs (evR n) i) j + 1), bump psT t (wsum (evs (evT n) i) t + 1), psE, ?_, ?_, ?_, ?_, ?_, ?_⟩
            · rw [upd_same, ← bump_map, lsl]
              rfl
            · rw [upd_ne (Ne.symm nRT)]; exact fT
            · rw [upd_ne (Ne.symm nRE)]; exact fE
            · have ew : wl n x = tP (cls n x) + oR (oP (cls n x)) := if_neg c
              have e0R : evR n x = [(j, 1)] := by
                rw [ej, ew, ← ht, ct, Nat.zero_add]
                exact if_pos ⟨c, by rw [← ht]; exact ct⟩
              rw [evs_succ, exi, e0R]
              exact d4.put j 1
            · rw [evs_succ, exi, e0T]; exact cT
            · rw [evs_succ, exi, e0E, List.append_nil]; exact d6
          · rw [decide_eq_false (show ¬ (t : Int) = 0 by omega)]
            refine iteF ⟨_, _, _, _, rfl, sT, psR, bump psT t (wsum (evs (evT n) i) t + 1), psE, fR, fT, fE, ?_, ?_, ?_⟩
            · have e0R : evR n x = [] := if_neg fun z => ct (by rw [ht]; exact z.2)
              rw [evs_succ, exi, e0R, List.append_nil]; exact d4
            · rw [evs_succ, exi, e0T]; exact cT
            · rw [evs_succ, exi, e0E, List.append_nil]; exact d6
    · rintro σ H2 ⟨v4, v5, v6, v7, rfl, s2, cZ⟩
      obtain ⟨psR, psT, psE, d1, d2, d3, d4, d5, d6⟩ := cZ.ex
      -- _law_row
      refine ⟨_, rfl, dR, _, rfl, d1, fun q hq => ?_⟩
      have ekeys : ((psR.map nRow).map fun kv => kV kv.1) = (psR.map fun p => (p.1 : Int)).map V.int := by
        rw [List.map_map, List.map_map]
        rfl
      rw [ekeys]
      have sq : Same H2 (upd H2 q (.lst ((psR.map fun p => (p.1 : Int)).map V.int))) := Same.new hq
      have eq : (upd H2 q (.lst ((psR.map fun p => (p.1 : Int)).map V.int))) q = some (.lst ((psR.map fun p => (p.1 : Int)).map V.int)) := upd_same
      generalize upd H2 q (.lst ((psR.map fun p => (p.1 : Int)).map V.int)) = H3 at sq eq ⊢
      refine ⟨q, _, rfl, SqL.of eq, fun ns' p hperm hsrt hp => ⟨p, rfl, ⟨_, SqL.of upd_same⟩, fun D hD => ?_⟩⟩
      have sp : Same H3 (upd H3 p (.lst (ns'.map V.int))) := Same.new hp
      have ep : (upd H3 p (.lst (ns'.map V.int))) p = some (.lst (ns'.map V.int)) := upd_same
      generalize upd H3 p (.lst (ns'.map V.int)) = H4 at sp ep hD ⊢
      obtain ⟨ks, rfl, hks⟩ := perm_back (fun k : Nat => (k : Int)) hperm (psR.map (·.1)) (by rw [List.map_map]; rfl)
      have s24 : Same H2 H4 := sq.trans sp
      have keyOk : ∀ k ∈ ks, k ∈ psR.map (·.1) ∧ 0 < k ∧ k ≤ 301 := fun k hk => by
        have h1 := hks.mem_iff.mp hk
        obtain ⟨pr, hpr, rfl⟩ := List.mem_map.mp h1
        have h2' := ((d4.mem pr.1 pr.2).mp hpr).1
        obtain ⟨dv, hdv, e⟩ := (ring_keys hT pr.1).mp h2'
        have o1 := oR_pos hT.odd hdv
        have o2 := oR_le (divs_odd hT.odd hdv).1
        have hle := Nat.le_of_dvd hT.pos (Nat.dvd_trans ((mem_divs hT.odd).mp hdv).1 hT.od)
        rw [e] at o1 o2
        exact ⟨h1, o1.1, by omega⟩
      refine lc_list (K := K) (a := p) (xs := (ks.map fun k : Nat => (k : Int)).map V.int) (fun i H5 => ∃ ts : List Addr, H5 D = some (.lst (ts.map V.ref)) ∧ Same H4 H5 ∧ ts.length = i ∧ PairsAt H5 ts (((ks.take i).map fun k => (k, wsum (evs (evR n) (n - 1)) k / k)).map c2)) ⟨[], upd_same, Same.new hD, rfl, .nil⟩ (fun i H5 _ ⟨_, _, e, _⟩ => SqL.of (e _ _ ep)) ?_ ?_
      · rintro i v H5 hv ⟨ts, hL5, s5, hlen, hPA⟩
        rw [List.map_map, List.getElem?_map] at hv
        obtain ⟨kk, hkk, rfl⟩ := Option.map_eq_some_iff.mp hv
        obtain ⟨o1, o2, o3⟩ := keyOk kk (List.mem_of_getElem? hkk)
        have hil := (List.getElem?_eq_some_iff.mp hkk).1
        have hksl : ks.length ≤ 1000 := by
          rw [hks.length_eq, List.length_map]
          have := d4.len
          have := ev_len _ (evR_len n) (n - 1)
          omega
        have dR5 : H5 dR = some (.dK (psR.map nRow)) := (s24.trans s5) _ _ d1
        refine ⟨rfl, _, rfl, _, rfl, _, rfl, dR, .int (wsum (evs (evR n) (n - 1)) kk : Int), rfl, ?_, _, rfl, _, _, rfl, rfl, ⟨by show (0 : Int) < (kk : Int); omega, by show (kk : Int) < 1073741824; omega⟩, by show 2 ≤ sizeLine; decide, fun TQ hTQ => ?_⟩
        · have z := DGet.k (k := Sum.inl (kk : Int)) dR5
          rw [d4.has o1] at z
          exact z
        have s6 : Same H5 (upd H5 TQ (.tup [.int (kk : Int), .int ((wsum (evs (evR n) (n - 1)) kk : Int) / (kk : Int))])) := Same.new hTQ
        have hq6 : (upd H5 TQ (.tup [.int (kk : Int), .int ((wsum (evs (evR n) (n - 1)) kk : Int) / (kk : Int))])) TQ = some (.tup [.int (kk : Int), .int ((wsum (evs (evR n) (n - 1)) kk : Int) / (kk : Int))]) := upd_same
        have hL6 := s6 _ _ hL5
        refine ⟨_, hL6, by rw [List.length_map, sizeLine_eq]; omega, ts ++ [TQ], by rw [upd_same, List.map_append]; rfl, same_upd (s5.trans s6) hD, by rw [List.length_append, hlen]; rfl, ?_⟩
        rw [List.take_add_one, hkk, List.map_append, List.map_append]
        refine PairsAt.at_ hL6 ((hPA.same s6).more ?_)
        show _ = some (HO.tup [V.int (kk : Int), V.int ((wsum (evs (evR n) (n - 1)) kk / kk : Nat) : Int)])
        rw [Int.natCast_ediv]
        exact hq6
      · rintro H5 ⟨ts, hL5, s5, hlen, hPA⟩
        rw [List.length_map, List.length_map, List.take_length] at hPA
        have s25 := s24.trans s5
        refine ⟨_, rfl, _, rfl, dT, _, rfl, s25 _ _ d2, fun H6 p6 t6 keep6 hp6 hts6 hpn6 hL6 hpr6 => ?_⟩
        have s6 : Same H5 H6 := keep6
        refine ⟨p6, t6, psT.map c2, rfl, SqL.of hL6, pairs_of_items hpr6, fun p7 u7 q7 perm7 srt7 pa7 hp7 => ?_⟩
        have s7 : Same H6 (upd H6 p7 (.lst (u7.map V.ref))) := Same.new hp7
        have PT : PL (upd H6 p7 (.lst (u7.map V.ref))) p7 ((pT odd TT).map c2) := by
          rw [← tails_one hT d5 srt7 perm7]
          exact ⟨u7, upd_same, pa7.same s7⟩
        generalize upd H6 p7 (.lst (u7.map V.ref)) = H7 at s7 PT ⊢
        refine ⟨_, rfl, dE, _, rfl, ((s25.trans s6).trans s7) _ _ d3, fun H8 p8 t8 keep8 hp8 hts8 hpn8 hL8 hpr8 => ?_⟩
        have s8 : Same H7 H8 := keep8
        refine ⟨p8, t8, psE.map c2, rfl, SqL.of hL8, pairs_of_items hpr8, fun p9 u9 q9 perm9 srt9 pa9 hp9 => ?_⟩
        have s9 : Same H8 (upd H8 p9 (.lst (u9.map V.ref))) := Same.new hp9
        have PE' : PL (upd H8 p9 (.lst (u9.map V.ref))) p9 ((pE TT).map c2) := by
          rw [← ends_one hT d6 srt9 perm9]
          exact ⟨u9, upd_same, pa9.same s9⟩
        generalize upd H8 p9 (.lst (u9.map V.ref)) = H9 at s9 PE' ⊢
        refine ⟨by show 3 ≤ sizeLine; decide, fun l hl => ?_⟩
        have s59 := ((s6.trans s7).trans s8).trans s9
        have sl : Same H9 (upd H9 l (.lst [.ref D, .ref p7, .ref p9])) := Same.new hl
        have PR : PL H9 D ((rowR n ks).map c2) := ⟨ts, s59 _ _ hL5, hPA.same s59⟩
        refine k l _ (((s2.trans s25).trans s59).trans sl) ⟨D, p7, p9, ks, psR, upd_same, PR.same sl, d4, hks, ?_, ((PT.same s8).same s9).same sl, PE'.same sl⟩
        refine List.Pairwise.imp (fun {a b} h => ?_) (List.pairwise_map.mp hsrt)
        omega
end
end Hd
set_option maxHeartbeats 4000000
namespace Hd
open PySem PySem.Spec PyProof.Rows L2
/-! ### sums -/
theorem sumT (odd T : Nat) : ((pT odd T).map (·.2)).sum = (odd - 1) * 2 ^ T := by
  unfold pT
  by_cases c : odd = 1
  · rw [if_pos c, c]
    simp
  · rw [if_neg c, List.map_map, ← sh_sum T]
    have : ∀ l : List Nat, (l.map ((fun p : Nat × Nat => p.2) ∘ fun t => (t, (odd - 1) * sh t))).sum = (odd - 1) * (l.map sh).sum := fun l => by
      induction l with
      | nil => rfl
      | cons x l ih =>
        rw [List.map_cons, List.map_cons, List.sum_cons, List.sum_cons, ih, Nat.mul_add]
        rfl
    exact this _
theorem sumE (T : Nat) : ((pE T).map (·.2)).sum + 1 = 2 ^ T := by
  have e : (List.range (T + 1)).filter (fun t => decide (0 < t)) = (List.range T).map (· + 1) := by
    rw [List.range_succ_eq_map, List.filter_cons, if_neg (by decide)]
    refine List.filter_eq_self.mpr fun x hx => ?_
    obtain ⟨y, _, rfl⟩ := List.mem_map.mp hx
    exact decide_eq_true (Nat.succ_pos y)
  have h := sh_sum T
  rw [List.range_succ_eq_map, List.map_cons, List.sum_cons, List.map_map] at h
  unfold pE
  rw [e, List.map_map, List.map_map, ← h, Nat.add_comm]
  rfl
theorem sum_in (odd T : Nat) : (((pT odd T).filter fun p => decide (p.1 = 0)).map (·.2)).sum = odd - 1 := by
  unfold pT
  by_cases c : odd = 1
  · rw [if_pos c, c]
    rfl
  · rw [if_neg c, List.range_succ_eq_map, List.map_cons, List.filter_cons, if_pos (by rfl), List.map_cons, List.sum_cons]
    have : (((List.map Nat.succ (List.range T)).map fun t => (t, (odd - 1) * sh t)).filter fun p => decide (p.1 = 0)) = [] := by
      refine List.filter_eq_nil_iff.mpr fun p hp => ?_
      obtain ⟨t, ht, rfl⟩ := List.mem_map.mp hp
      obtain ⟨u, _, rfl⟩ := List.mem_map.mp ht
      simp
    rw [this]
    show (odd - 1) * 1 + 0 = _
    omega
theorem perm_sumI {l m : List Int} (h : l.Perm m) : l.sum = m.sum := by
  induction h with
  | nil => rfl
  | cons x _ ih => rw [List.sum_cons, List.sum_cons, ih]
  | swap x y l =>
    simp only [List.sum_cons]
    omega
  | trans _ _ a b => rw [a, b]
theorem c2_snd (l : List (Nat × Nat)) : ((l.map c2).map (·.2)).sum = (((l.map (·.2)).sum : Nat) : Int) := by
  rw [List.map_map, ← sum_cast, List.map_map]
  rfl
theorem c2_prod (l : List (Nat × Nat)) : ((l.map c2).map fun q => q.1 * q.2).sum = (((l.map fun p => p.1 * p.2).sum : Nat) : Int) := by
  rw [List.map_map, ← sum_cast, List.map_map]
  refine congrArg List.sum (List.map_congr_left fun p _ => ?_)
  exact (Int.natCast_mul p.1 p.2).symm
theorem pick4 {x0 x1 x2 x3 : Int} {n : Int} (h0 : 0 ≤ n) (h5 : n < 4) : ∃ z, atI [V.int x0, V.int x1, V.int x2, V.int x3] n = some (V.int z) ∧ z ∈ [x0, x1, x2, x3] := by
  have : n = 0 ∨ n = 1 ∨ n = 2 ∨ n = 3 := by omega
  rcases this with e | e | e | e <;> subst e
  · exact ⟨x0, rfl, by simp⟩
  · exact ⟨x1, rfl, by simp⟩
  · exact ⟨x2, rfl, by simp⟩
  · exact ⟨x3, rfl, by simp⟩
/-! ### data -/
def pdI (q : Int × Int) : PyData := .tuple [.int q.1, .int q.2]
theorem pdI_lay : ∀ qs : List (Int × Int), PyData.canLayAll0 (qs.map pdI) = true
  | [] => by simp [PyData.canLayAll0]
  | q :: qs => by
    have e : (pdI q).canLay0 = true := by simp [pdI, PyData.canLay0, PyData.canLayAll0]
    simp [PyData.canLayAll0, e, pdI_lay qs]
theorem pdI_deep : ∀ qs : List (Int × Int), PyData.depthAll (qs.map pdI) ≤ 1
  | [] => by simp [PyData.depthAll]
  | q :: qs => by
    have e : (pdI q).depth = 1 := by simp [pdI, PyData.depth, PyData.depthAll]
    have := pdI_deep qs
    simp only [List.map_cons, PyData.depthAll]
    omega
theorem shaped_mk {d : PyData} (h1 : d.canLay0 = true) (h2 : d.depth ≤ 64) : SeqAt.shaped d = true := by
  unfold SeqAt.shaped
  rw [h1, decide_eq_true h2]
  rfl
theorem three_shaped (a b c : List (Int × Int)) : SeqAt.shaped (.list [.list (a.map pdI), .list (b.map pdI), .list (c.map pdI)]) = true := by
  have := pdI_deep a
  have := pdI_deep b
  have := pdI_deep c
  refine shaped_mk ?_ ?_
  · simp [PyData.canLay0, PyData.canLayAll0, pdI_lay]
  · simp only [PyData.depth, PyData.depthAll]
    omega
theorem three_refl (a b c : List (Int × Int)) : PyData.eqv (.list [.list (a.map pdI), .list (b.map pdI), .list (c.map pdI)]) (.list [.list (a.map pdI), .list (b.map pdI), .list (c.map pdI)]) = true := by
  refine PySem.SeqAt.eqv_refl _ ?_
  simp [PyData.canLay0, PyData.canLayAll0, pdI_lay]
theorem one_shaped (a : List (Int × Int)) : SeqAt.shaped (.list (a.map pdI)) = true := by
  have := pdI_deep a
  refine shaped_mk ?_ ?_
  · simp [PyData.canLay0, pdI_lay]
  · simp only [PyData.depth]
    omega
theorem eqv_nil (qs : List (Int × Int)) : PyData.eqv (.list (qs.map pdI)) (.list []) = qs.isEmpty := by
  cases qs with
  | nil => simp [PyData.eqv, PyData.eqvAll]
  | cons q qs => simp [PyData.eqv, PyData.eqvAll]
theorem PL.dp {K : PySem.W.Frag} {H : Hp} {a : Addr} {qs : List (Int × Int)} (h : PL H a qs) : Dp K H (.ref a) (.list (qs.map pdI)) := by
  obtain ⟨ts, h1, h2⟩ := h.ex
  refine .lst (SqL.of h1) ?_
  unfold PairsAt at h2
  clear h h1
  induction h2 with
  | nil => exact .nil
  | cons a _ ih => exact .cons (.tup (SqT.of a) (.cons (.int _) (.cons (.int _) .nil))) ih
theorem PL.kept {H H' : Hp} {h c a : Addr} {qs : List (Int × Int)} (e : Kept h c H H') (d : DrawAt H h c) (n1 : a ≠ h) (n2 : a ≠ c) (x : PL H a qs) : PL H' a qs := by
  obtain ⟨ts, h1, h2⟩ := x.ex
  refine ⟨ts, e _ _ h1 n1 n2, ?_⟩
  obtain ⟨⟨st, ix, cells, d1, d2, d3⟩, ne⟩ := d
  unfold PairsAt at h2 ⊢
  clear x h1
  induction h2 with
  | nil => exact .nil
  | cons a _ ih => exact .cons (e _ _ a (ne_of a d1 (by intro z; cases z)) (ne_of a d2 (by intro z; cases z))) ih
/-! ### reading a list of pairs -/
theorem lc_pl {K : PySem.W.Frag} {te : TE} {tt : TT} {vs : List Nat} {σ : L2.St} {H : Hp} {a D : Addr} {qs : List (Int × Int)} {Qd : Hp → Prop} (p : Int × Int → Bool) (f : Int × Int → Int) (h : PL H a qs) (hD : H D = none) (hlen : qs.length < sizeLine) (hw : ∀ v, wipe ((wipe σ vs).set 12 (some v)) vs = wipe σ vs)
    (htt : ∀ (q : Int × Int) (t : Addr) (H5 : Hp) (R : Bool → Hp → Prop), q ∈ qs → H5 t = some (.tup [.int q.1, .int q.2]) → R (p q) H5 → tt ((wipe σ vs).set 12 (some (.ref t))) H5 R)
    (hte : ∀ (q : Int × Int) (t : Addr) (H5 : Hp) (Q' : VK), q ∈ qs → H5 t = some (.tup [.int q.1, .int q.2]) → Q' (.int (f q)) H5 → te ((wipe σ vs).set 12 (some (.ref t))) H5 Q')
    (k : ∀ H', Same H H' → H' D = some (.lst (((qs.filter p).map f).map V.int)) → Qd H') :
    ∃ W : Nat → Nat → Hp → Prop, (∃ m, W 0 m (upd H D (.lst []))) ∧ ∀ i m H, W i m H →
      ((Itl K a).stop i H ∧ Qd H) ∨ ((Itl K a).go i H ∧ ∃ Nx : Hp → Prop, (∀ H', Nx H' → ∃ m', m' < m ∧ W (i + 1) m' H') ∧ ∀ x H', (Itl K a).yld i H x H' → gName 12 x (wipe σ vs) H' fun σ2 H2 => wipe σ2 vs = wipe σ vs ∧ tt σ2 H2 fun b H3 =>
        if b = true then te σ2 H3 fun y H4 => ∃ acc, H4 D = some (.lst acc) ∧ acc.length < sizeLine ∧ Nx (upd H4 D (.lst (acc ++ [y]))) else Nx H3) := by
  obtain ⟨ts, h1, h2⟩ := h.ex
  obtain ⟨r1, r2⟩ := h2.read
  refine lc_list (K := K) (a := a) (xs := ts.map V.ref) (fun i H5 => Same H H5 ∧ H5 D = some (.lst ((((qs.take i).filter p).map f).map V.int))) ⟨Same.new hD, upd_same⟩ (fun i H5 _ ⟨e, _⟩ => SqL.of (e _ _ h1)) ?_ ?_
  · rintro i x H5 hx ⟨e5, d5⟩
    rw [List.getElem?_map] at hx
    obtain ⟨t, ht, rfl⟩ := Option.map_eq_some_iff.mp hx
    have hq := e5 _ _ (r2 t (List.mem_of_getElem? ht))
    have hqi : qs[i]? = some (rdP H (.ref t)) := by
      rw [r1, List.getElem?_map, ht]
      rfl
    have hmem := List.mem_of_getElem? hqi
    have htk : qs.take (i + 1) = qs.take i ++ [rdP H (.ref t)] := by
      rw [List.take_add_one, hqi]
      rfl
    refine ⟨hw _, htt _ t H5 _ hmem hq ?_⟩
    by_cases c : p (rdP H (.ref t)) = true
    · rw [c]
      refine iteT (hte _ t H5 _ hmem hq ⟨_, d5, ?_, same_upd e5 hD, ?_⟩)
      · rw [List.length_map, List.length_map]
        have := List.length_filter_le p (qs.take i)
        rw [List.length_take] at this
        omega
      · rw [upd_same, htk, List.filter_append, List.filter_cons, if_pos c, List.map_append, List.map_append]
        rfl
    · rw [Bool.eq_false_iff.mpr c]
      refine iteF ⟨e5, ?_⟩
      rw [d5, htk, List.filter_append, List.filter_cons, if_neg c, List.filter_nil, List.append_nil]
  · rintro H5 ⟨e5, d5⟩
    refine k H5 e5 ?_
    rw [d5, List.take_of_length_le (by rw [r1, List.length_map, List.length_map]; exact Nat.le_refl _)]
theorem filt_all {α : Type} (l : List α) : l.filter (fun _ => true) = l := List.filter_eq_self.mpr fun _ _ => rfl
theorem manyI {n odd T : Nat} (h : Tot n odd T) : (((pT odd T).map c2).map (·.2)).sum + (((pE T).map c2).map (·.2)).sum = (n : Int) - 1 := by
  rw [c2_snd, c2_snd, sumT]
  have h1 := sumE T
  have h2 : (odd - 1) * 2 ^ T = odd * 2 ^ T - 1 * 2 ^ T := Nat.sub_mul _ _ _
  have h3 : 1 * 2 ^ T ≤ odd * 2 ^ T := Nat.mul_le_mul_right _ (by have := h.odd; omega)
  have h4 := h.eq
  rw [Nat.one_mul] at h2 h3
  rw [h2, h4]
  generalize odd * 2 ^ T = A at *
  generalize 2 ^ T = B at *
  omega
theorem insideI (odd T : Nat) : ((((pT odd T).map c2).filter fun q => decide (q.1 = 0)).map (·.2)).sum = ((odd - 1 : Nat) : Int) := by
  rw [List.filter_map, c2_snd, ← sum_in odd T]
  have : ((fun q : Int × Int => decide (q.1 = 0)) ∘ c2) = fun p : Nat × Nat => decide (p.1 = 0) := by
    funext p
    show decide ((p.1 : Int) = 0) = decide (p.1 = 0)
    exact decide_eq_decide.mpr (by omega)
  rw [this]
theorem wholeI {odd : Nat} {psP : List (Nat × Nat)} {qs : List (Int × Int)} (ho : odd % 2 = 1) (DP : Dic psP (esP odd)) (hp : qs.Perm (psP.map c2)) : (qs.map fun q => q.1 * q.2).sum = ((odd - 1 : Nat) : Int) := by
  rw [perm_sumI (hp.map _), c2_prod, DP.whole, esP_whole ho]
theorem inI {a : Int} {ns : List Int} (h : a ∈ ns) : inV (.int a) (ns.map V.int) = true := by
  unfold inV
  rw [List.any_map, List.any_eq_true]
  refine ⟨a, h, ?_⟩
  show (a == a) = true
  exact beq_self_eq_true a
theorem flatI (ns : List Int) : (ns.map V.int).all flatV = true := List.all_eq_true.mpr fun v hv => by
  obtain ⟨n, _, rfl⟩ := List.mem_map.mp hv
  rfl
theorem pE_in {n odd T x : Nat} (h : Tot n odd T) (h1 : 1 ≤ x) (h2 : x < n) (c : oP (cls n x) = 1) : (tP (cls n x) : Int) ∈ ((pE T).map c2).map (·.1) := by
  obtain ⟨a1, a2, a3, a4⟩ := h.cls x
  have a5 : 0 < tP (cls n x) := by
    rcases Nat.eq_zero_or_pos (tP (cls n x)) with z | z
    · rw [c, z] at a4
      have := Nat.le_of_dvd (show 0 < x by omega) (cls_one (n := n) (x := x) (show 0 < n by omega) (by simpa using a4))
      omega
    · exact z
  refine List.mem_map.mpr ⟨c2 (tP (cls n x), sh (tP (cls n x))), List.mem_map.mpr ⟨_, ?_, rfl⟩, rfl⟩
  exact List.mem_map.mpr ⟨_, List.mem_filter.mpr ⟨List.mem_range.mpr (by omega), decide_eq_true a5⟩, rfl⟩
theorem odd_ne {n odd T x : Nat} (h : Tot n odd T) (c : oP (cls n x) ≠ 1) : odd ≠ 1 := fun z => c (by
  obtain ⟨a1, a2, a3, a4⟩ := h.cls x
  rw [z] at a1
  exact Nat.dvd_one.mp a1)
theorem pT_in {n odd T x : Nat} (h : Tot n odd T) (c : oP (cls n x) ≠ 1) : (tP (cls n x) : Int) ∈ ((pT odd T).map c2).map (·.1) := by
  obtain ⟨a1, a2, a3, a4⟩ := h.cls x
  unfold pT
  rw [if_neg (odd_ne h c)]
  refine List.mem_map.mpr ⟨c2 (tP (cls n x), (odd - 1) * sh (tP (cls n x))), List.mem_map.mpr ⟨_, ?_, rfl⟩, rfl⟩
  exact List.mem_map.mpr ⟨_, List.mem_range.mpr (by omega), rfl⟩
theorem pT_some {odd : Nat} (T : Nat) (c : odd ≠ 1) : ((pT odd T).map c2).isEmpty = false := by
  unfold pT
  rw [if_neg c, List.range_succ_eq_map]
  rfl
theorem ring_in {n odd T x : Nat} {psP : List (Nat × Nat)} {qs : List (Int × Int)} (h : Tot n odd T) (c : oP (cls n x) ≠ 1) (DP : Dic psP (esP odd)) (hp : qs.Perm (psP.map c2)) : (ringv n x : Int) ∈ qs.map (·.1) := by
  obtain ⟨a1, a2, a3, a4⟩ := h.cls x
  have hk : ∃ d ∈ divs odd, oR d = oR (oP (cls n x)) := ⟨_, (mem_divs h.odd).mpr ⟨a1, by omega⟩, rfl⟩
  have hm := (DP.mem (oR (oP (cls n x))) _).mpr ⟨(esP_keys odd _).mpr hk, rfl⟩
  unfold ringv
  rw [if_neg c]
  exact List.mem_map.mpr ⟨c2 (oR (oP (cls n x)), _), hp.mem_iff.mpr (List.mem_map.mpr ⟨_, hm, rfl⟩), rfl⟩
theorem ring_len {odd : Nat} {psP : List (Nat × Nat)} {qs : List (Int × Int)} (ho : odd % 2 = 1) (h6 : odd ≤ 10 ^ 6) (DP : Dic psP (esP odd)) (hp : qs.Perm (psP.map c2)) : qs.length ≤ 10 ^ 6 ∧ ∀ q ∈ qs, 0 ≤ q.1 ∧ q.1 ≤ 10 ^ 6 := by
  constructor
  · rw [hp.length_eq, List.length_map]
    have h1 := DP.len
    have h2 : (esP odd).length ≤ odd := by
      unfold esP divs
      rw [List.length_map]
      refine Nat.le_trans (List.length_filter_le _ _) ?_
      simp
      omega
    omega
  · intro q hq
    obtain ⟨p, hp', rfl⟩ := List.mem_map.mp (hp.mem_iff.mp hq)
    obtain ⟨d, hd, e⟩ := (esP_keys odd p.1).mp ((DP.mem p.1 p.2).mp hp').1
    have o2 := oR_le (divs_odd ho hd).1
    have o3 := Nat.le_of_dvd (by omega) ((mem_divs ho).mp hd).1
    show 0 ≤ (p.1 : Int) ∧ (p.1 : Int) ≤ 10 ^ 6
    omega
def spLaw (K : PySem.W.Frag) : Sp := fun vs H Q _ => ∃ (a : Addr) (ns : List Int), vs = [.ref a] ∧ SqL K H a (ns.map V.int) ∧ ns.length ≤ 63 ∧ ∀ H', Q (.bl true) H'
section
variable {P : Program} {w : World} {K : PySem.W.Frag} {mg : Str → Option Value} {base : Heap}
abbrev s_law : Stmt := top 36
theorem sc_law : FnScope ["_law_script", "_law_h", "_law_total", "_law_row", "_law_away", "_law_last", "_law_many", "_law_inside", "_law_one", "_law_ends", "_law_tail", "_law_ring", "_law_pair"] ["_law_script"] (defScope s_law) := ⟨rfl, rfl, rfl, by decide +kernel, rfl, by decide +kernel, by decide +kernel⟩
theorem ok_law {f : Addr} {fd : FuncData} (F : Fun K "law" "law" s_law f fd) (T : Tq K mg) (C_l_mix : Cal P w K mg base CX0 1 "_law_mix" ["_law_script", "_law_seed"] (spMix K)) (C_l_next : Cal P w K mg base CX0 1 "_law_next" ["_law_h", "_law_bound"] spNext) (C_rings : Cal P w K mg base CX0 3 "rings" ["total"] spRings)
    (C_tails : Cal P w K mg base CX0 3 "tails" ["total"] spTails) (C_ending : Cal P w K mg base CX0 3 "ending" ["total"] spEnding) (C_l_walks : Cal P w K mg base CX0 1 "_law_walks" ["_law_total"] spWalks)
    (C_ends_after : Cal P w K mg base CX0 5 "ends_after" ["heaps"] (spEnds K)) (C_tail_and_ring : Cal P w K mg base CX0 5 "tail_and_ring" ["heaps"] (spTailR K)) : FnOk P w K mg base CX0 6 f fd ["_law_script"] (spLaw K) := by
  refine F.ok sc_law (fun vs H Q E h => ?_) (fun cdv A outer s H vs Q E hr h => ?_)
  · obtain ⟨a, ns, rfl, _⟩ := h
    rfl
  · obtain ⟨a, zs, rfl, hS, hlen, k⟩ := h
    refine ⟨_, (pss_cons (ps_set (i := 1) sc_law.nd rfl (Or.inl rfl) (pe_cal C_l_mix hr rfl pass0 (pa_cons (pv 0) (pa_cons pe_int pa_nil))))
      (pss_cons (ps_set (i := 2) sc_law.nd rfl (Or.inl rfl) (pe_op op_add pe_int (pe_cal C_l_next hr rfl pass0 (pa_cons (pv 1) (pa_cons (pe_ix ix_list (pe_lst (pa_cons pe_int (pa_cons pe_int (pa_cons pe_int (pa_cons pe_int (pa_cons pe_int pa_nil)))))) (pe_cal C_l_next hr rfl pass0 (pa_cons (pv 1) (pa_cons pe_int pa_nil))) (fun _ _ => rfl)) pa_nil)))))
      (pss_cons (ps_if (pt_cmpR (op_neD hr.units) (pe_lst (pa_cons (pe_cal C_rings hr rfl pass0 (pa_cons (pv 2) pa_nil)) (pa_cons (pe_cal C_tails hr rfl pass0 (pa_cons (pv 2) pa_nil)) (pa_cons (pe_cal C_ending hr rfl pass0 (pa_cons (pv 2) pa_nil)) pa_nil)))) (pe_cal C_l_walks hr rfl pass0 (pa_cons (pv 2) pa_nil)) (nomark _)) (pss_one (ps_ret pe_bl)) pss_nil)
      (pss_cons (ps_set (i := 2) sc_law.nd rfl (Or.inl rfl) (pe_op op_mul (pe_ix ix_list (pe_lst (pa_cons pe_int (pa_cons pe_int (pa_cons pe_int (pa_cons pe_int pa_nil))))) (pe_cal C_l_next hr rfl pass0 (pa_cons (pv 1) (pa_cons pe_int pa_nil))) (fun _ _ => rfl)) pe_int))
      (pss_cutM (ps_if (pt_cmpR op_eq (pe_cal C_l_next hr rfl pass0 (pa_cons (pv 1) (pa_cons pe_int pa_nil))) pe_int (nomark _)) (pss_one (ps_set (i := 2) sc_law.nd rfl (Or.inl rfl) (pe_op op_add pe_int (pe_cal C_l_next hr rfl pass0 (pa_cons (pv 1) (pa_cons (pe_op op_sub (pe_op op_pow pe_int pe_int) pe_int) pa_nil)))))) pss_nil)
      (pss_cons (ps_par3 (i := 3) (j := 4) (l := 5) (by rfl) sc_law.nd rfl rfl rfl (by decide) (by decide) (by decide) rfl rfl rfl (pa_cons (pe_cal C_rings hr rfl pass0 (pa_cons (pv 2) pa_nil)) (pa_cons (pe_cal C_tails hr rfl pass0 (pa_cons (pv 2) pa_nil)) (pa_cons (pe_cal C_ending hr rfl pass0 (pa_cons (pv 2) pa_nil)) pa_nil))) (by rfl))
      (pss_cons (ps_set (i := 6) sc_law.nd rfl (Or.inl rfl) (pe_op op_add (pe_callB (cr_sum rfl) (by rfl) T.sum (by decide +kernel) (pa_cons (pe_lc (own := [("_law_pair", 12)]) (g := gName 12) (by rfl) sc_law.nd (pi_list (pv 4)) (blkOk_by (own := [("_law_pair", 12)]) (N := ["_law_script", "_law_h", "_law_total", "_law_row", "_law_away", "_law_last", "_law_many", "_law_inside", "_law_one", "_law_ends", "_law_tail", "_law_ring", "_law_pair"]) (sc := defScope s_law) (by decide +kernel)) (fun _ _ _ _ _ => pg_name (i := 12) sc_law.nd rfl (Or.inl rfl)) (fun _ _ _ _ _ => pts_nil) (fun _ _ _ _ _ => (pe_ix (show IxR _ (rIxT K) from ix_tup) (pv 12) pe_int (fun _ _ => rfl)))) pa_nil)) (pe_callB (cr_sum rfl) (by rfl) T.sum (by decide +kernel) (pa_cons (pe_lc (own := [("_law_pair", 12)]) (g := gName 12) (by rfl) sc_law.nd (pi_list (pv 5)) (blkOk_by (own := [("_law_pair", 12)]) (N := ["_law_script", "_law_h", "_law_total", "_law_row", "_law_away", "_law_last", "_law_many", "_law_inside", "_law_one", "_law_ends", "_law_tail", "_law_ring", "_law_pair"]) (sc := defScope s_law) (by decide +kernel)) (fun _ _ _ _ _ => pg_name (i := 12) sc_law.nd rfl (Or.inl rfl)) (fun _ _ _ _ _ => pts_nil) (fun _ _ _ _ _ => (pe_ix (show IxR _ (rIxT K) from ix_tup) (pv 12) pe_int (fun _ _ => rfl)))) pa_nil))))
      (pss_cons (ps_if (pt_cmpR op_ne (pv 6) (pe_op op_sub (pv 2) pe_int) (nomark _)) (pss_one (ps_ret pe_bl)) pss_nil)
      (pss_cons (ps_set (i := 7) sc_law.nd rfl (Or.inl rfl) (pe_callB (cr_sum rfl) (by rfl) T.sum (by decide +kernel) (pa_cons (pe_lc (own := [("_law_pair", 12)]) (g := gName 12) (by rfl) sc_law.nd (pi_list (pv 4)) (blkOk_by (own := [("_law_pair", 12)]) (N := ["_law_script", "_law_h", "_law_total", "_law_row", "_law_away", "_law_last", "_law_many", "_law_inside", "_law_one", "_law_ends", "_law_tail", "_law_ring", "_law_pair"]) (sc := defScope s_law) (by decide +kernel)) (fun _ _ _ _ _ => pg_name (i := 12) sc_law.nd rfl (Or.inl rfl)) (fun _ _ _ _ _ => pts_one (pt_cmpR op_eq (pe_ix (show IxR _ (rIxT K) from ix_tup) (pv 12) pe_int (fun _ _ => rfl)) pe_int (nomark _))) (fun _ _ _ _ _ => (pe_ix (show IxR _ (rIxT K) from ix_tup) (pv 12) pe_int (fun _ _ => rfl)))) pa_nil)))
      (pss_cons (ps_if (pt_cmpR op_ne (pe_callB (cr_sum rfl) (by rfl) T.sum (by decide +kernel) (pa_cons (pe_lc (own := [("_law_pair", 12)]) (g := gName 12) (by rfl) sc_law.nd (pi_list (pv 3)) (blkOk_by (own := [("_law_pair", 12)]) (N := ["_law_script", "_law_h", "_law_total", "_law_row", "_law_away", "_law_last", "_law_many", "_law_inside", "_law_one", "_law_ends", "_law_tail", "_law_ring", "_law_pair"]) (sc := defScope s_law) (by decide +kernel)) (fun _ _ _ _ _ => pg_name (i := 12) sc_law.nd rfl (Or.inl rfl)) (fun _ _ _ _ _ => pts_nil) (fun _ _ _ _ _ => (pe_op op_mul (pe_ix (show IxR _ (rIxT K) from ix_tup) (pv 12) pe_int (fun _ _ => rfl)) (pe_ix (show IxR _ (rIxT K) from ix_tup) (pv 12) pe_int (fun _ _ => rfl))))) pa_nil)) (pv 7) (nomark _)) (pss_one (ps_ret pe_bl)) pss_nil)
      (pss_cons (ps_set (i := 8) sc_law.nd rfl (Or.inl rfl) (pe_op op_add pe_int (pe_cal C_l_next hr rfl pass0 (pa_cons (pv 1) (pa_cons (pe_op op_sub (pv 2) pe_int) pa_nil)))))
      (pss_cons (ps_set (i := 9) sc_law.nd rfl (Or.inl rfl) (pe_cal C_ends_after hr rfl pass0 (pa_cons (pe_tup (pa_cons (pv 8) (pa_cons (pe_op op_sub (pv 2) (pv 8)) pa_nil))) pa_nil)))
      (pss_cons (ps_if (pt_cmpR op_notN (pv 9) pe_non (nomark _)) (pss_one (ps_ret (pe_cmpR op_in_seq (pv 9) (pe_lc (own := [("_law_pair", 12)]) (g := gName 12) (by rfl) sc_law.nd (pi_list (pv 5)) (blkOk_by (own := [("_law_pair", 12)]) (N := ["_law_script", "_law_h", "_law_total", "_law_row", "_law_away", "_law_last", "_law_many", "_law_inside", "_law_one", "_law_ends", "_law_tail", "_law_ring", "_law_pair"]) (sc := defScope s_law) (by decide +kernel)) (fun _ _ _ _ _ => pg_name (i := 12) sc_law.nd rfl (Or.inl rfl)) (fun _ _ _ _ _ => pts_nil) (fun _ _ _ _ _ => (pe_ix (show IxR _ (rIxT K) from ix_tup) (pv 12) pe_int (fun _ _ => rfl)))) (by rfl)))) pss_nil)
      (pss_cons (ps_if (PW.pt (pw_and (pt_cmpR op_gt (pv 2) pe_int (nomark _)) (pw_and1 (pt_cmpR op_gt (pe_cal C_l_next hr rfl pass0 (pa_cons (pv 1) (pa_cons pe_int pa_nil))) pe_int (nomark _))))) (pss_one (ps_ret (pe_cmpR (op_neD hr.units) (pv 4) (pe_lst pa_nil) (nomark _)))) pss_nil)
      (pss_cons (ps_asg (pe_cal C_tail_and_ring hr rfl pass0 (pa_cons (pe_tup (pa_cons (pv 8) (pa_cons (pe_op op_sub (pv 2) (pv 8)) pa_nil))) pa_nil)) (pg_tup rfl (pgs_cons (pg_name (i := 10) sc_law.nd rfl (Or.inl rfl)) (pgs_cons (pg_name (i := 11) sc_law.nd rfl (Or.inl rfl)) pgs_nil))))
      (pss_cons (ps_if (pt_cmpR op_notIn_seq (pv 10) (pe_lc (own := [("_law_pair", 12)]) (g := gName 12) (by rfl) sc_law.nd (pi_list (pv 4)) (blkOk_by (own := [("_law_pair", 12)]) (N := ["_law_script", "_law_h", "_law_total", "_law_row", "_law_away", "_law_last", "_law_many", "_law_inside", "_law_one", "_law_ends", "_law_tail", "_law_ring", "_law_pair"]) (sc := defScope s_law) (by decide +kernel)) (fun _ _ _ _ _ => pg_name (i := 12) sc_law.nd rfl (Or.inl rfl)) (fun _ _ _ _ _ => pts_nil) (fun _ _ _ _ _ => (pe_ix (show IxR _ (rIxT K) from ix_tup) (pv 12) pe_int (fun _ _ => rfl)))) (by rfl)) (pss_one (ps_ret pe_bl)) pss_nil)
      (pss_one (ps_ret (pe_cmpR op_in_seq (pv 11) (pe_lc (own := [("_law_pair", 12)]) (g := gName 12) (by rfl) sc_law.nd (pi_list (pv 3)) (blkOk_by (own := [("_law_pair", 12)]) (N := ["_law_script", "_law_h", "_law_total", "_law_row", "_law_away", "_law_last", "_law_many", "_law_inside", "_law_one", "_law_ends", "_law_tail", "_law_ring", "_law_pair"]) (sc := defScope s_law) (by decide +kernel)) (fun _ _ _ _ _ => pg_name (i := 12) sc_law.nd rfl (Or.inl rfl)) (fun _ _ _ _ _ => pts_nil) (fun _ _ _ _ _ => (pe_ix (show IxR _ (rIxT K) from ix_tup) (pv 12) pe_int (fun _ _ => rfl)))) (by rfl)))))))))))))))))))), ?_⟩
    refine ⟨_, rfl, a, zs, 13, rfl, hS, hlen, fun h c H1 _ _ s1 D1 => ?_⟩
    -- _law_total
    refine ⟨_, rfl, by show 5 ≤ sizeLine; decide, fun p hp => ?_⟩
    obtain ⟨np1, np2⟩ := D1.nots hp
    refine ⟨_, rfl, h, c, 5, rfl, D1.new hp, by decide, by decide, fun n1 H2 l1 u1 D2 k2 => ?_⟩
    obtain ⟨far, e2, far_in⟩ := pick5 (x0 := 30) (x1 := 199) (x2 := 30) (x3 := 199) (x4 := 300) l1 u1
    refine ⟨p, _, _, _, rfl, rfl, SqL.of (k2 p _ upd_same np1 np2), e2, ?_⟩
    have hfar : 0 < far ∧ far ≤ 300 := by
      simp only [List.mem_cons, List.mem_nil_iff, or_false] at far_in
      rcases far_in with e | e | e | e | e <;> subst e <;> decide
    refine ⟨h, c, far, rfl, D2, hfar.1, by omega, fun n2 H3 l2 u2 D3 k3 => ⟨_, _, rfl, rfl, ?_⟩⟩
    obtain ⟨n2, rfl⟩ := Int.eq_ofNat_of_zero_le l2
    obtain ⟨n, hn⟩ : ∃ n, n = 2 + n2 := ⟨_, rfl⟩
    have en : (2 : Int) + (n2 : Int) = (n : Int) := by omega
    have hn2 : 2 ≤ n := by omega
    have hn3 : n ≤ 301 := by omega
    obtain ⟨odd, TT, hT⟩ := tot_some (show 0 < n by omega)
    show gName 2 (.int ((2 : Int) + (n2 : Int))) _ _ _
    rw [en]
    refine ⟨_, rfl, n, odd, TT, rfl, hn2, by omega, hT, fun p1 ts1 psP qs1 H4 s4 f4 hp4 hPA4 hDic hSrt hPerm => ?_⟩
    refine ⟨_, rfl, n, odd, TT, rfl, hn2, by omega, hT, fun p2 ts2 H5 s5 f5 hp5 hPA5 => ?_⟩
    refine ⟨_, rfl, n, odd, TT, rfl, hn2, by omega, hT, fun p3 ts3 H6 s6 f6 hp6 hPA6 => ?_⟩
    have L1 : PL H6 p1 qs1 := (PL.mk ⟨ts1, hp4, hPA4⟩ : PL H4 p1 qs1).same (s5.trans s6)
    have L2' : PL H6 p2 ((pT odd TT).map c2) := (PL.mk ⟨ts2, hp5, hPA5⟩ : PL H5 p2 _).same s6
    have L3 : PL H6 p3 ((pE TT).map c2) := ⟨ts3, hp6, hPA6⟩
    refine ⟨by show 3 ≤ sizeLine; decide, fun l1 hl1 => ?_⟩
    have s7 : Same H6 (upd H6 l1 (.lst [.ref p1, .ref p2, .ref p3])) := Same.new hl1
    have hl7 : (upd H6 l1 (.lst [.ref p1, .ref p2, .ref p3])) l1 = some (.lst [.ref p1, .ref p2, .ref p3]) := upd_same
    have D7 : DrawAt (upd H6 l1 (.lst [.ref p1, .ref p2, .ref p3])) h c := ((D3.same s4).same (s5.trans s6)).same s7
    generalize upd H6 l1 (.lst [.ref p1, .ref p2, .ref p3]) = H7 at s7 hl7 D7 ⊢
    refine ⟨_, rfl, n, odd, TT, rfl, hn2, hn3, hT, fun p4 H8 s8 O8 => ?_⟩
    obtain ⟨a8, b8, c8, ks, psR, w1, w2, w3, w4, w5, w6, w7⟩ := O8.ex
    have e8 := rings_one hT w3 hDic hSrt hPerm w4 w5
    have D8 := D7.same s8
    have M1 := (L1.same (s7.trans s8)).dp (K := K)
    have M2 := (L2'.same (s7.trans s8)).dp (K := K)
    have M3 := (L3.same (s7.trans s8)).dp (K := K)
    rw [e8] at M1
    refine ⟨.list [.list (((rowR n ks).map c2).map pdI), .list (((pT odd TT).map c2).map pdI), .list (((pE TT).map c2).map pdI)], .list [.list (((rowR n ks).map c2).map pdI), .list (((pT odd TT).map c2).map pdI), .list (((pE TT).map c2).map pdI)], .lst (SqL.of (s8 _ _ hl7)) (.cons M1 (.cons M2 (.cons M3 .nil))), .lst (SqL.of w1) (.cons w2.dp (.cons w6.dp (.cons w7.dp .nil))), three_shaped _ _ _, three_shaped _ _ _, ?_⟩
    rw [three_refl]
    refine ⟨_, rfl, iteF ?_⟩
    -- the second total
    have U7 : DrawAt H8 h c := D8
    clear e8 M1 M2 M3 w1 w2 w3 w4 w5 w6 w7 L1 L2' L3 hDic hSrt hPerm O8
    clear hp4 hPA4 hp5 hPA5 hp6 hPA6
    refine ⟨by show 4 ≤ sizeLine; decide, fun p hp => ?_⟩
    obtain ⟨np1, np2⟩ := U7.nots hp
    refine ⟨_, rfl, h, c, 4, rfl, U7.new hp, by decide, by decide, fun m1 H9 l3 u3 D9 k9 => ?_⟩
    obtain ⟨fac, e9, fac_in⟩ := pick4 (x0 := 2) (x1 := 3) (x2 := 96) (x3 := 1025) l3 u3
    refine ⟨p, _, _, _, rfl, rfl, SqL.of (k9 p _ upd_same np1 np2), e9, ?_⟩
    have hfac : 2 ≤ fac ∧ fac ≤ 1025 := by
      simp only [List.mem_cons, List.mem_nil_iff, or_false] at fac_in
      rcases fac_in with e | e | e | e <;> subst e <;> decide
    refine ⟨_, _, rfl, rfl, .inr ⟨by decide, by decide⟩, ?_⟩
    refine ⟨fun σ H' => ∃ N : Nat, σ = [some (.ref a), some (.ref h), some (.int (N : Int)), none, none, none, none, none, none, none, none, none, none] ∧ 2 ≤ N ∧ N ≤ 10 ^ 6 ∧ DrawAt H' h c, ?_, ?_⟩
    · refine ⟨_, rfl, h, c, 2, rfl, D9, by decide, by decide, fun m2 H10 l4 u4 D10 k10 => ⟨rfl, _, rfl, ?_⟩⟩
      rw [dec_int]
      by_cases cz : m2 = 0
      · rw [decide_eq_true cz]
        refine iteT ⟨_, rfl, _, _, rfl, rfl, ⟨by decide, by decide, by decide⟩, _, _, rfl, rfl, h, c, _, rfl, D10, by decide, by decide, fun m3 H11 l5 u5 D11 k11 => ⟨_, _, rfl, rfl, ?_⟩⟩
        obtain ⟨m3, rfl⟩ := Int.eq_ofNat_of_zero_le l5
        have u5' : (m3 : Int) < 999999 := u5
        refine ⟨2 + m3, ?_, by omega, by omega, D11⟩
        rw [show (((2 + m3 : Nat)) : Int) = 2 + (m3 : Int) by omega]
        rfl
      · rw [decide_eq_false cz]
        refine iteF ⟨(fac * 960).toNat, ?_, by omega, by omega, D10⟩
        rw [show (((fac * 960).toNat : Nat) : Int) = fac * 960 by omega]
        rfl
    · clear hfac fac_in e9 D9 k9 l3 u3 hp np1 np2
      rintro σ' H' ⟨N, rfl, hN2, hN6, DN⟩
      obtain ⟨od, tw, hTN⟩ := tot_some (show 0 < N by omega)
      obtain ⟨od6, tw20, od2⟩ := hTN.small hN6
      refine ⟨_, rfl, N, od, tw, rfl, hN2, hN6, hTN, fun q1 us1 psQ rs Hr sr fr hpr hPAr hDic hSrt hPerm => ?_⟩
      refine ⟨_, rfl, N, od, tw, rfl, hN2, hN6, hTN, fun q2 us2 Hs ss fs hps hPAs => ?_⟩
      refine ⟨_, rfl, N, od, tw, rfl, hN2, hN6, hTN, fun q3 us3 Ht st ft hpt hPAt => ?_⟩
      have PR : PL Ht q1 rs := (PL.mk ⟨us1, hpr, hPAr⟩ : PL Hr q1 rs).same (ss.trans st)
      have PT : PL Ht q2 ((pT od tw).map c2) := (PL.mk ⟨us2, hps, hPAs⟩ : PL Hs q2 _).same st
      have PEn : PL Ht q3 ((pE tw).map c2) := ⟨us3, hpt, hPAt⟩
      have DT : DrawAt Ht h c := (DN.same sr).same (ss.trans st)
      have dq1 := DT.nots (p := q1)
      refine ⟨_, _, _, rfl, ?_⟩
      obtain ⟨rl, rb⟩ := ring_len od2 od6 hDic hPerm
      have lenT : ((pT od tw).map c2).length < sizeLine := by
        rw [List.length_map, sizeLine_eq]
        unfold pT
        split
        · show 0 < _
          decide
        · rw [List.length_map, List.length_range]
          omega
      have lenE : ((pE tw).map c2).length < sizeLine := by
        rw [List.length_map, sizeLine_eq]
        unfold pE
        rw [List.length_map]
        have := List.length_filter_le (fun t => decide (0 < t)) (List.range (tw + 1))
        rw [List.length_range] at this
        omega
      have lenR : rs.length < sizeLine := by
        rw [sizeLine_eq]
        omega
      -- _law_many
      refine ⟨_, rfl, q2, rfl, ⟨_, SqL.of PT.ex.choose_spec.1⟩, fun D hD => lc_pl (fun _ => true) (·.2) PT hD lenT (fun _ => rfl) ?_ ?_ fun Hu su du => ?_⟩
      · exact fun q t H5 R _ _ r => r
      · exact fun q t H5 Q' _ e r => ⟨_, rfl, t, _, 1, _, rfl, rfl, SqT.of e, rfl, r⟩
      refine ⟨D, _, rfl, SqL.of du, ?_⟩
      have PE1 := PEn.same su
      refine ⟨_, rfl, q3, rfl, ⟨_, SqL.of PE1.ex.choose_spec.1⟩, fun D' hD' => lc_pl (fun _ => true) (·.2) PE1 hD' lenE (fun _ => rfl) ?_ ?_ fun Hv sv dv => ?_⟩
      · exact fun q t H5 R _ _ r => r
      · exact fun q t H5 Q' _ e r => ⟨_, rfl, t, _, 1, _, rfl, rfl, SqT.of e, rfl, r⟩
      refine ⟨D', _, rfl, SqL.of dv, _, _, rfl, rfl, ?_⟩
      rw [filt_all, filt_all]
      refine ⟨_, rfl, _, rfl, _, _, rfl, rfl, rfl, _, rfl, ?_⟩
      rw [dec_int, decide_eq_true (manyI hTN)]
      refine iteF ?_
      -- _law_inside
      have s1v := su.trans sv
      have PT2 := PT.same s1v
      refine ⟨_, rfl, q2, rfl, ⟨_, SqL.of PT2.ex.choose_spec.1⟩, fun D2 hD2 => lc_pl (fun q => decide (q.1 = 0)) (·.2) PT2 hD2 lenT (fun _ => rfl) ?_ ?_ fun Hw sw dw => ?_⟩
      · exact fun q t H5 R _ e r => ⟨_, rfl, t, _, 0, _, rfl, rfl, SqT.of e, rfl, rfl, _, rfl, by rw [dec_int]; exact r⟩
      · exact fun q t H5 Q' _ e r => ⟨_, rfl, t, _, 1, _, rfl, rfl, SqT.of e, rfl, r⟩
      refine ⟨D2, _, rfl, SqL.of dw, ?_⟩
      have PR3 := PR.same (s1v.trans sw)
      refine ⟨_, rfl, q1, rfl, ⟨_, SqL.of PR3.ex.choose_spec.1⟩, fun D3 hD3 => lc_pl (fun _ => true) (fun q => q.1 * q.2) PR3 hD3 lenR (fun _ => rfl) ?_ ?_ fun Hx sx dx => ?_⟩
      · exact fun q t H5 R _ _ r => r
      · intro q t H5 Q' hm e r
        obtain ⟨r1, r2⟩ := rb q hm
        exact ⟨_, rfl, t, _, 0, _, rfl, rfl, SqT.of e, rfl, _, rfl, t, _, 1, _, rfl, rfl, SqT.of e, rfl, _, _, rfl, rfl, .inl ⟨by omega, by omega⟩, r⟩
      refine ⟨D3, _, rfl, SqL.of dx, _, rfl, rfl, _, rfl, ?_⟩
      rw [filt_all, dec_int, decide_eq_true ((wholeI od2 hDic hPerm).trans (insideI od tw).symm)]
      refine iteF ?_
      -- _law_one
      have s1x := (s1v.trans sw).trans sx
      have Dx := DT.same s1x
      refine ⟨_, rfl, _, rfl, _, _, rfl, rfl, h, c, _, rfl, Dx, by omega, ?_, fun z Hy lz uz Dy ky => ⟨_, _, rfl, rfl, ?_⟩⟩
      · have : (1000001 : Int) < 2 ^ 200 := by decide
        omega
      obtain ⟨z, rfl⟩ := Int.eq_ofNat_of_zero_le lz
      obtain ⟨x, hx⟩ : ∃ x, x = 1 + z := ⟨_, rfl⟩
      have ex : (1 : Int) + (z : Int) = (x : Int) := by omega
      have STD : Std N x := ⟨by omega, by omega, hN6⟩
      show gName 8 (.int ((1 : Int) + (z : Int))) _ _ _
      rw [ex]
      obtain ⟨a1, b1⟩ := DN.nots fr
      obtain ⟨a2, b2⟩ := (DN.same sr).nots fs
      obtain ⟨a3, b3⟩ := ((DN.same sr).same ss).nots ft
      have PRy := (PR.same s1x).kept ky Dx a1 b1
      have PTy := (PT.same s1x).kept ky Dx a2 b2
      have PEy := (PEn.same s1x).kept ky Dx a3 b3
      -- _law_ends
      have etp : (HO.tup [V.int (x : Int), V.int ((N : Int) - (x : Int))]) = .tup ((stdg N x).map V.int) := by
        have := STD.hi
        rw [show (N : Int) - (x : Int) = ((N - x : Nat) : Int) by omega]
        rfl
      refine ⟨_, rfl, _, rfl, _, rfl, _, _, rfl, rfl, by show 2 ≤ sizeLine; decide, fun tp htp => ⟨tp, N, x, rfl, SqT.of (by rw [upd_same]; exact congrArg some etp), STD, fun Hz sz => ?_⟩⟩
      have syz : Same Hy Hz := (Same.new htp).trans sz
      have Dz := Dy.same syz
      have PRz := PRy.same syz
      have PTz := PTy.same syz
      have PEz := PEy.same syz
      by_cases cc : oP (cls N x) = 1
      · rw [show endv N x = .int (tP (cls N x) : Int) from if_pos cc]
        refine ⟨_, rfl, rfl, _, rfl, iteT ?_⟩
        refine ⟨_, rfl, _, rfl, q3, rfl, ⟨_, SqL.of PEz.ex.choose_spec.1⟩, fun D4 hD4 => lc_pl (fun _ => true) (·.1) PEz hD4 lenE (fun _ => rfl) ?_ ?_ fun Hq sq dq => ?_⟩
        · exact fun q t H5 R _ _ r => r
        · exact fun q t H5 Q' _ e r => ⟨_, rfl, t, _, 0, _, rfl, rfl, SqT.of e, rfl, r⟩
        rw [filt_all] at dq
        refine ⟨D4, _, rfl, .inl (SqL.of dq), rfl, flatI _, ?_⟩
        rw [inI (pE_in hTN STD.lo STD.hi cc)]
        exact k _
      · rw [show endv N x = .non from if_neg cc]
        refine ⟨_, rfl, rfl, _, rfl, iteF ?_⟩
        have odn := odd_ne hTN cc
        refine ⟨_, rfl, _, _, rfl, rfl, _, rfl, ?_⟩
        by_cases big : (3000 : Int) < (N : Int)
        · rw [decide_eq_true big]
          refine iteT ⟨_, rfl, h, c, 8, rfl, Dz, by decide, by decide, fun z8 Hk l8 u8 Dk k8 => ⟨_, _, rfl, rfl, _, rfl, ?_⟩⟩
          have PTk := PTz.kept k8 Dz a2 b2
          have PRk := PRz.kept k8 Dz a1 b1
          by_cases p8 : 0 < z8
          · rw [decide_eq_true p8]
            refine iteT ⟨_, rfl, by show 0 ≤ sizeLine; decide, fun l9 hl9 => ⟨_, .list [], (PTk.same (Same.new hl9)).dp, .lst (SqL.of upd_same) .nil, one_shaped _, one_shaped [], ?_⟩⟩
            rw [eqv_nil, pT_some _ odn]
            exact k _
          · rw [decide_eq_false p8]
            refine iteF ?_
            refine ⟨_, rfl, _, rfl, _, rfl, _, _, rfl, rfl, by show 2 ≤ sizeLine; decide, fun tq htq => ⟨tq, N, x, rfl, SqT.of (by rw [upd_same]; exact congrArg some etp), STD, fun pq Hn sn hn => ?_⟩⟩
            have sHn : Same Hk Hn := (Same.new htq).trans sn
            have PTn := PTk.same sHn
            have PRn := PRk.same sHn
            refine ⟨pq, _, rfl, SqT.of hn, rfl, _, _, rfl, _, _, rfl, rfl, ?_⟩
            refine ⟨_, rfl, _, rfl, q2, rfl, ⟨_, SqL.of PTn.ex.choose_spec.1⟩, fun D5 hD5 => lc_pl (fun _ => true) (·.1) PTn hD5 lenT (fun _ => rfl) ?_ ?_ fun Ho so d5 => ?_⟩
            · exact fun q t H5 R _ _ r => r
            · exact fun q t H5 Q' _ e r => ⟨_, rfl, t, _, 0, _, rfl, rfl, SqT.of e, rfl, r⟩
            rw [filt_all] at d5
            refine ⟨D5, _, rfl, .inl (SqL.of d5), rfl, flatI _, _, rfl, ?_⟩
            rw [inI (pT_in hTN cc)]
            refine iteF ?_
            have PRo := PRn.same so
            refine ⟨_, rfl, _, rfl, q1, rfl, ⟨_, SqL.of PRo.ex.choose_spec.1⟩, fun D6 hD6 => lc_pl (fun _ => true) (·.1) PRo hD6 lenR (fun _ => rfl) ?_ ?_ fun Hq sq d6 => ?_⟩
            · exact fun q t H5 R _ _ r => r
            · exact fun q t H5 Q' _ e r => ⟨_, rfl, t, _, 0, _, rfl, rfl, SqT.of e, rfl, r⟩
            rw [filt_all] at d6
            refine ⟨D6, _, rfl, .inl (SqL.of d6), rfl, flatI _, ?_⟩
            rw [inI (ring_in hTN cc hDic hPerm)]
            exact k _
        · rw [decide_eq_false big]
          refine iteF (iteF ?_)
          refine ⟨_, rfl, _, rfl, _, rfl, _, _, rfl, rfl, by show 2 ≤ sizeLine; decide, fun tq htq => ⟨tq, N, x, rfl, SqT.of (by rw [upd_same]; exact congrArg some etp), STD, fun pq Hn sn hn => ?_⟩⟩
          have sHn : Same Hz Hn := (Same.new htq).trans sn
          have PTn := PTz.same sHn
          have PRn := PRz.same sHn
          refine ⟨pq, _, rfl, SqT.of hn, rfl, _, _, rfl, _, _, rfl, rfl, ?_⟩
          refine ⟨_, rfl, _, rfl, q2, rfl, ⟨_, SqL.of PTn.ex.choose_spec.1⟩, fun D5 hD5 => lc_pl (fun _ => true) (·.1) PTn hD5 lenT (fun _ => rfl) ?_ ?_ fun Ho so d5 => ?_⟩
          · exact fun q t H5 R _ _ r => r
          · exact fun q t H5 Q' _ e r => ⟨_, rfl, t, _, 0, _, rfl, rfl, SqT.of e, rfl, r⟩
          rw [filt_all] at d5
          refine ⟨D5, _, rfl, .inl (SqL.of d5), rfl, flatI _, _, rfl, ?_⟩
          rw [inI (pT_in hTN cc)]
          refine iteF ?_
          have PRo := PRn.same so
          refine ⟨_, rfl, _, rfl, q1, rfl, ⟨_, SqL.of PRo.ex.choose_spec.1⟩, fun D6 hD6 => lc_pl (fun _ => true) (·.1) PRo hD6 lenR (fun _ => rfl) ?_ ?_ fun Hq sq d6 => ?_⟩
          · exact fun q t H5 R _ _ r => r
          · exact fun q t H5 Q' _ e r => ⟨_, rfl, t, _, 0, _, rfl, rfl, SqT.of e, rfl, r⟩
          rw [filt_all] at d6
          refine ⟨D6, _, rfl, .inl (SqL.of d6), rfl, flatI _, ?_⟩
          rw [inI (ring_in hTN cc hDic hPerm)]
          exact k _
end
end Hd
set_option maxHeartbeats 8000000
namespace Hd
open PySem PySem.Spec PyProof.Rows L2
theorem all_mk {l : PySem.W.OpenLaw} {w : World} {K : PySem.W.Frag} {h : Heap} {mg : Str → Option Value} {fa : Addr} (X : K.In h) (G : h.Ns mainGlobals mg) (hfa : mg "law" = some (.ref fa))
    {od_is_integer an_is_integer : Option Addr} {sl_is_integer : Array (Option Value)} {oc_is_integer kV_is_integer dc_is_integer pm_is_integer cd_is_integer ct_is_integer : Value} {f_is_integer : Addr}
    (a_is_integer : PySem.W.nsIn K mainGlobals "is_integer" = some (some (.ref f_is_integer)))
    (l_is_integer : K.lookup f_is_integer = some ⟨oc_is_integer, od_is_integer, .func (PySem.W.fnOf "is_integer" "is_integer" (defArgs s_is_integer) (defBody s_is_integer) (defScope s_is_integer) .none kV_is_integer dc_is_integer pm_is_integer an_is_integer cd_is_integer ct_is_integer), sl_is_integer⟩)
    (c_is_integer : PySem.W.codeIn K cd_is_integer "is_integer" = true) (k_is_integer : PySem.W.keepIn K (.ref f_is_integer) = true)
    {od_is_heaps an_is_heaps : Option Addr} {sl_is_heaps : Array (Option Value)} {oc_is_heaps kV_is_heaps dc_is_heaps pm_is_heaps cd_is_heaps ct_is_heaps : Value} {f_is_heaps : Addr}
    (a_is_heaps : PySem.W.nsIn K mainGlobals "is_heaps" = some (some (.ref f_is_heaps)))
    (l_is_heaps : K.lookup f_is_heaps = some ⟨oc_is_heaps, od_is_heaps, .func (PySem.W.fnOf "is_heaps" "is_heaps" (defArgs s_is_heaps) (defBody s_is_heaps) (defScope s_is_heaps) .none kV_is_heaps dc_is_heaps pm_is_heaps an_is_heaps cd_is_heaps ct_is_heaps), sl_is_heaps⟩)
    (c_is_heaps : PySem.W.codeIn K cd_is_heaps "is_heaps" = true) (k_is_heaps : PySem.W.keepIn K (.ref f_is_heaps) = true)
    {od_check_heaps an_check_heaps : Option Addr} {sl_check_heaps : Array (Option Value)} {oc_check_heaps kV_check_heaps dc_check_heaps pm_check_heaps cd_check_heaps ct_check_heaps : Value} {f_check_heaps : Addr}
    (a_check_heaps : PySem.W.nsIn K mainGlobals "check_heaps" = some (some (.ref f_check_heaps)))
    (l_check_heaps : K.lookup f_check_heaps = some ⟨oc_check_heaps, od_check_heaps, .func (PySem.W.fnOf "check_heaps" "check_heaps" (defArgs s_check_heaps) (defBody s_check_heaps) (defScope s_check_heaps) .none kV_check_heaps dc_check_heaps pm_check_heaps an_check_heaps cd_check_heaps ct_check_heaps), sl_check_heaps⟩)
    (c_check_heaps : PySem.W.codeIn K cd_check_heaps "check_heaps" = true) (k_check_heaps : PySem.W.keepIn K (.ref f_check_heaps) = true)
    {od_split_twos an_split_twos : Option Addr} {sl_split_twos : Array (Option Value)} {oc_split_twos kV_split_twos dc_split_twos pm_split_twos cd_split_twos ct_split_twos : Value} {f_split_twos : Addr}
    (a_split_twos : PySem.W.nsIn K mainGlobals "split_twos" = some (some (.ref f_split_twos)))
    (l_split_twos : K.lookup f_split_twos = some ⟨oc_split_twos, od_split_twos, .func (PySem.W.fnOf "split_twos" "split_twos" (defArgs s_split_twos) (defBody s_split_twos) (defScope s_split_twos) .none kV_split_twos dc_split_twos pm_split_twos an_split_twos cd_split_twos ct_split_twos), sl_split_twos⟩)
    (c_split_twos : PySem.W.codeIn K cd_split_twos "split_twos" = true) (k_split_twos : PySem.W.keepIn K (.ref f_split_twos) = true)
    {od_reduced_parts an_reduced_parts : Option Addr} {sl_reduced_parts : Array (Option Value)} {oc_reduced_parts kV_reduced_parts dc_reduced_parts pm_reduced_parts cd_reduced_parts ct_reduced_parts : Value} {f_reduced_parts : Addr}
    (a_reduced_parts : PySem.W.nsIn K mainGlobals "reduced_parts" = some (some (.ref f_reduced_parts)))
    (l_reduced_parts : K.lookup f_reduced_parts = some ⟨oc_reduced_parts, od_reduced_parts, .func (PySem.W.fnOf "reduced_parts" "reduced_parts" (defArgs s_reduced_parts) (defBody s_reduced_parts) (defScope s_reduced_parts) .none kV_reduced_parts dc_reduced_parts pm_reduced_parts an_reduced_parts cd_reduced_parts ct_reduced_parts), sl_reduced_parts⟩)
    (c_reduced_parts : PySem.W.codeIn K cd_reduced_parts "reduced_parts" = true) (k_reduced_parts : PySem.W.keepIn K (.ref f_reduced_parts) = true)
    {od_order_of_two an_order_of_two : Option Addr} {sl_order_of_two : Array (Option Value)} {oc_order_of_two kV_order_of_two dc_order_of_two pm_order_of_two cd_order_of_two ct_order_of_two : Value} {f_order_of_two : Addr}
    (a_order_of_two : PySem.W.nsIn K mainGlobals "order_of_two" = some (some (.ref f_order_of_two)))
    (l_order_of_two : K.lookup f_order_of_two = some ⟨oc_order_of_two, od_order_of_two, .func (PySem.W.fnOf "order_of_two" "order_of_two" (defArgs s_order_of_two) (defBody s_order_of_two) (defScope s_order_of_two) .none kV_order_of_two dc_order_of_two pm_order_of_two an_order_of_two cd_order_of_two ct_order_of_two), sl_order_of_two⟩)
    (c_order_of_two : PySem.W.codeIn K cd_order_of_two "order_of_two" = true) (k_order_of_two : PySem.W.keepIn K (.ref f_order_of_two) = true)
    {od_odd_divisors an_odd_divisors : Option Addr} {sl_odd_divisors : Array (Option Value)} {oc_odd_divisors kV_odd_divisors dc_odd_divisors pm_odd_divisors cd_odd_divisors ct_odd_divisors : Value} {f_odd_divisors : Addr}
    (a_odd_divisors : PySem.W.nsIn K mainGlobals "odd_divisors" = some (some (.ref f_odd_divisors)))
    (l_odd_divisors : K.lookup f_odd_divisors = some ⟨oc_odd_divisors, od_odd_divisors, .func (PySem.W.fnOf "odd_divisors" "odd_divisors" (defArgs s_odd_divisors) (defBody s_odd_divisors) (defScope s_odd_divisors) .none kV_odd_divisors dc_odd_divisors pm_odd_divisors an_odd_divisors cd_odd_divisors ct_odd_divisors), sl_odd_divisors⟩)
    (c_odd_divisors : PySem.W.codeIn K cd_odd_divisors "odd_divisors" = true) (k_odd_divisors : PySem.W.keepIn K (.ref f_odd_divisors) = true)
    {od_totient an_totient : Option Addr} {sl_totient : Array (Option Value)} {oc_totient kV_totient dc_totient pm_totient cd_totient ct_totient : Value} {f_totient : Addr}
    (a_totient : PySem.W.nsIn K mainGlobals "totient" = some (some (.ref f_totient)))
    (l_totient : K.lookup f_totient = some ⟨oc_totient, od_totient, .func (PySem.W.fnOf "totient" "totient" (defArgs s_totient) (defBody s_totient) (defScope s_totient) .none kV_totient dc_totient pm_totient an_totient cd_totient ct_totient), sl_totient⟩)
    (c_totient : PySem.W.codeIn K cd_totient "totient" = true) (k_totient : PySem.W.keepIn K (.ref f_totient) = true)
    {od_even_shares an_even_shares : Option Addr} {sl_even_shares : Array (Option Value)} {oc_even_shares kV_even_shares dc_even_shares pm_even_shares cd_even_shares ct_even_shares : Value} {f_even_shares : Addr}
    (a_even_shares : PySem.W.nsIn K mainGlobals "even_shares" = some (some (.ref f_even_shares)))
    (l_even_shares : K.lookup f_even_shares = some ⟨oc_even_shares, od_even_shares, .func (PySem.W.fnOf "even_shares" "even_shares" (defArgs s_even_shares) (defBody s_even_shares) (defScope s_even_shares) .none kV_even_shares dc_even_shares pm_even_shares an_even_shares cd_even_shares ct_even_shares), sl_even_shares⟩)
    (c_even_shares : PySem.W.codeIn K cd_even_shares "even_shares" = true) (k_even_shares : PySem.W.keepIn K (.ref f_even_shares) = true)
    {od_check_total an_check_total : Option Addr} {sl_check_total : Array (Option Value)} {oc_check_total kV_check_total dc_check_total pm_check_total cd_check_total ct_check_total : Value} {f_check_total : Addr}
    (a_check_total : PySem.W.nsIn K mainGlobals "check_total" = some (some (.ref f_check_total)))
    (l_check_total : K.lookup f_check_total = some ⟨oc_check_total, od_check_total, .func (PySem.W.fnOf "check_total" "check_total" (defArgs s_check_total) (defBody s_check_total) (defScope s_check_total) .none kV_check_total dc_check_total pm_check_total an_check_total cd_check_total ct_check_total), sl_check_total⟩)
    (c_check_total : PySem.W.codeIn K cd_check_total "check_total" = true) (k_check_total : PySem.W.keepIn K (.ref f_check_total) = true)
    {od_rings an_rings : Option Addr} {sl_rings : Array (Option Value)} {oc_rings kV_rings dc_rings pm_rings cd_rings ct_rings : Value} {f_rings : Addr}
    (a_rings : PySem.W.nsIn K mainGlobals "rings" = some (some (.ref f_rings)))
    (l_rings : K.lookup f_rings = some ⟨oc_rings, od_rings, .func (PySem.W.fnOf "rings" "rings" (defArgs s_rings) (defBody s_rings) (defScope s_rings) .none kV_rings dc_rings pm_rings an_rings cd_rings ct_rings), sl_rings⟩)
    (c_rings : PySem.W.codeIn K cd_rings "rings" = true) (k_rings : PySem.W.keepIn K (.ref f_rings) = true)
    {od_tails an_tails : Option Addr} {sl_tails : Array (Option Value)} {oc_tails kV_tails dc_tails pm_tails cd_tails ct_tails : Value} {f_tails : Addr}
    (a_tails : PySem.W.nsIn K mainGlobals "tails" = some (some (.ref f_tails)))
    (l_tails : K.lookup f_tails = some ⟨oc_tails, od_tails, .func (PySem.W.fnOf "tails" "tails" (defArgs s_tails) (defBody s_tails) (defScope s_tails) .none kV_tails dc_tails pm_tails an_tails cd_tails ct_tails), sl_tails⟩)
    (c_tails : PySem.W.codeIn K cd_tails "tails" = true) (k_tails : PySem.W.keepIn K (.ref f_tails) = true)
    {od_ending an_ending : Option Addr} {sl_ending : Array (Option Value)} {oc_ending kV_ending dc_ending pm_ending cd_ending ct_ending : Value} {f_ending : Addr}
    (a_ending : PySem.W.nsIn K mainGlobals "ending" = some (some (.ref f_ending)))
    (l_ending : K.lookup f_ending = some ⟨oc_ending, od_ending, .func (PySem.W.fnOf "ending" "ending" (defArgs s_ending) (defBody s_ending) (defScope s_ending) .none kV_ending dc_ending pm_ending an_ending cd_ending ct_ending), sl_ending⟩)
    (c_ending : PySem.W.codeIn K cd_ending "ending" = true) (k_ending : PySem.W.keepIn K (.ref f_ending) = true)
    {od_check_two an_check_two : Option Addr} {sl_check_two : Array (Option Value)} {oc_check_two kV_check_two dc_check_two pm_check_two cd_check_two ct_check_two : Value} {f_check_two : Addr}
    (a_check_two : PySem.W.nsIn K mainGlobals "check_two" = some (some (.ref f_check_two)))
    (l_check_two : K.lookup f_check_two = some ⟨oc_check_two, od_check_two, .func (PySem.W.fnOf "check_two" "check_two" (defArgs s_check_two) (defBody s_check_two) (defScope s_check_two) .none kV_check_two dc_check_two pm_check_two an_check_two cd_check_two ct_check_two), sl_check_two⟩)
    (c_check_two : PySem.W.codeIn K cd_check_two "check_two" = true) (k_check_two : PySem.W.keepIn K (.ref f_check_two) = true)
    {od_ends_after an_ends_after : Option Addr} {sl_ends_after : Array (Option Value)} {oc_ends_after kV_ends_after dc_ends_after pm_ends_after cd_ends_after ct_ends_after : Value} {f_ends_after : Addr}
    (a_ends_after : PySem.W.nsIn K mainGlobals "ends_after" = some (some (.ref f_ends_after)))
    (l_ends_after : K.lookup f_ends_after = some ⟨oc_ends_after, od_ends_after, .func (PySem.W.fnOf "ends_after" "ends_after" (defArgs s_ends_after) (defBody s_ends_after) (defScope s_ends_after) .none kV_ends_after dc_ends_after pm_ends_after an_ends_after cd_ends_after ct_ends_after), sl_ends_after⟩)
    (c_ends_after : PySem.W.codeIn K cd_ends_after "ends_after" = true) (k_ends_after : PySem.W.keepIn K (.ref f_ends_after) = true)
    {od_tail_and_ring an_tail_and_ring : Option Addr} {sl_tail_and_ring : Array (Option Value)} {oc_tail_and_ring kV_tail_and_ring dc_tail_and_ring pm_tail_and_ring cd_tail_and_ring ct_tail_and_ring : Value} {f_tail_and_ring : Addr}
    (a_tail_and_ring : PySem.W.nsIn K mainGlobals "tail_and_ring" = some (some (.ref f_tail_and_ring)))
    (l_tail_and_ring : K.lookup f_tail_and_ring = some ⟨oc_tail_and_ring, od_tail_and_ring, .func (PySem.W.fnOf "tail_and_ring" "tail_and_ring" (defArgs s_tail_and_ring) (defBody s_tail_and_ring) (defScope s_tail_and_ring) .none kV_tail_and_ring dc_tail_and_ring pm_tail_and_ring an_tail_and_ring cd_tail_and_ring ct_tail_and_ring), sl_tail_and_ring⟩)
    (c_tail_and_ring : PySem.W.codeIn K cd_tail_and_ring "tail_and_ring" = true) (k_tail_and_ring : PySem.W.keepIn K (.ref f_tail_and_ring) = true)
    {od_l_mix an_l_mix : Option Addr} {sl_l_mix : Array (Option Value)} {oc_l_mix kV_l_mix dc_l_mix pm_l_mix cd_l_mix ct_l_mix : Value} {f_l_mix : Addr}
    (a_l_mix : PySem.W.nsIn K mainGlobals "_law_mix" = some (some (.ref f_l_mix)))
    (l_l_mix : K.lookup f_l_mix = some ⟨oc_l_mix, od_l_mix, .func (PySem.W.fnOf "_law_mix" "_law_mix" (defArgs s_l_mix) (defBody s_l_mix) (defScope s_l_mix) .none kV_l_mix dc_l_mix pm_l_mix an_l_mix cd_l_mix ct_l_mix), sl_l_mix⟩)
    (c_l_mix : PySem.W.codeIn K cd_l_mix "_law_mix" = true) (k_l_mix : PySem.W.keepIn K (.ref f_l_mix) = true)
    {od_l_next an_l_next : Option Addr} {sl_l_next : Array (Option Value)} {oc_l_next kV_l_next dc_l_next pm_l_next cd_l_next ct_l_next : Value} {f_l_next : Addr}
    (a_l_next : PySem.W.nsIn K mainGlobals "_law_next" = some (some (.ref f_l_next)))
    (l_l_next : K.lookup f_l_next = some ⟨oc_l_next, od_l_next, .func (PySem.W.fnOf "_law_next" "_law_next" (defArgs s_l_next) (defBody s_l_next) (defScope s_l_next) .none kV_l_next dc_l_next pm_l_next an_l_next cd_l_next ct_l_next), sl_l_next⟩)
    (c_l_next : PySem.W.codeIn K cd_l_next "_law_next" = true) (k_l_next : PySem.W.keepIn K (.ref f_l_next) = true)
    {od_l_walks an_l_walks : Option Addr} {sl_l_walks : Array (Option Value)} {oc_l_walks kV_l_walks dc_l_walks pm_l_walks cd_l_walks ct_l_walks : Value} {f_l_walks : Addr}
    (a_l_walks : PySem.W.nsIn K mainGlobals "_law_walks" = some (some (.ref f_l_walks)))
    (l_l_walks : K.lookup f_l_walks = some ⟨oc_l_walks, od_l_walks, .func (PySem.W.fnOf "_law_walks" "_law_walks" (defArgs s_l_walks) (defBody s_l_walks) (defScope s_l_walks) .none kV_l_walks dc_l_walks pm_l_walks an_l_walks cd_l_walks ct_l_walks), sl_l_walks⟩)
    (c_l_walks : PySem.W.codeIn K cd_l_walks "_law_walks" = true) (k_l_walks : PySem.W.keepIn K (.ref f_l_walks) = true)
    {od_law an_law : Option Addr} {sl_law : Array (Option Value)} {oc_law kV_law dc_law pm_law cd_law ct_law : Value} {f_law : Addr}
    (a_law : PySem.W.nsIn K mainGlobals "law" = some (some (.ref f_law)))
    (l_law : K.lookup f_law = some ⟨oc_law, od_law, .func (PySem.W.fnOf "law" "law" (defArgs s_law) (defBody s_law) (defScope s_law) .none kV_law dc_law pm_law an_law cd_law ct_law), sl_law⟩)
    (c_law : PySem.W.codeIn K cd_law "law" = true) (k_law : PySem.W.keepIn K (.ref f_law) = true)
    (z_int : PySem.W.nsIn K mainGlobals "int" = some none)
    (z_bool : PySem.W.nsIn K mainGlobals "bool" = some none)
    (z_list : PySem.W.nsIn K mainGlobals "list" = some none)
    (z_len : PySem.W.nsIn K mainGlobals "len" = some none)
    (z_tuple : PySem.W.nsIn K mainGlobals "tuple" = some none)
    (z_isinstance : PySem.W.nsIn K mainGlobals "isinstance" = some none)
    (z_all : PySem.W.nsIn K mainGlobals "all" = some none)
    (z_sum : PySem.W.nsIn K mainGlobals "sum" = some none)
    (z_enumerate : PySem.W.nsIn K mainGlobals "enumerate" = some none)
    (z_range : PySem.W.nsIn K mainGlobals "range" = some none)
    (z_max : PySem.W.nsIn K mainGlobals "max" = some none)
    (z_sorted : PySem.W.nsIn K mainGlobals "sorted" = some none)
    {tk_FEWEST_HEAPS : Tok} (w_FEWEST_HEAPS : PySem.W.nsIn K mainGlobals "FEWEST_HEAPS" = some (some (.int 2 tk_FEWEST_HEAPS)))
    {tk_MOST_HEAPS : Tok} (w_MOST_HEAPS : PySem.W.nsIn K mainGlobals "MOST_HEAPS" = some (some (.int 6 tk_MOST_HEAPS)))
    {tk_GREATEST : Tok} (w_GREATEST : PySem.W.nsIn K mainGlobals "GREATEST" = some (some (.int 1000000000000000000000000000000 tk_GREATEST)))
    {tk_LEAST_TOTAL : Tok} (w_LEAST_TOTAL : PySem.W.nsIn K mainGlobals "LEAST_TOTAL" = some (some (.int 2 tk_LEAST_TOTAL)))
    {tk_GREATEST_TOTAL : Tok} (w_GREATEST_TOTAL : PySem.W.nsIn K mainGlobals "GREATEST_TOTAL" = some (some (.int 1000000 tk_GREATEST_TOTAL)))
    {tk_GREATEST_SUM : Tok} (w_GREATEST_SUM : PySem.W.nsIn K mainGlobals "GREATEST_SUM" = some (some (.int 1000000 tk_GREATEST_SUM)))
    (gG : PySem.W.nsIn K mainGlobals "gcd" = some (some (.builtin "math.gcd")))
    : ∃ fd : FuncData, (∀ (s : Shared) (v : Value), BindsTo s fd ⟨[v], []⟩ [("_law_script", v)]) ∧ ∀ base : Heap, K.In base → base.Ns mainGlobals mg → FnOk l.prog w K mg base CX0 6 fa fd ["_law_script"] (spLaw K) := by
  have e := hfa.symm.trans (PySem.W.mg_of X G a_law)
  cases e
  have F_is_integer := fun_mk (st := s_is_integer) l_is_integer c_is_integer k_is_integer
  have b_is_integer := F_is_integer.binds (ps := ["value", "least", "greatest"]) fun _ _ _ _ _ _ us hl => match us, hl with | [_, _, _], _ => rfl
  have F_is_heaps := fun_mk (st := s_is_heaps) l_is_heaps c_is_heaps k_is_heaps
  have b_is_heaps := F_is_heaps.binds (ps := ["value"]) fun _ _ _ _ _ _ us hl => match us, hl with | [_], _ => rfl
  have F_check_heaps := fun_mk (st := s_check_heaps) l_check_heaps c_check_heaps k_check_heaps
  have b_check_heaps := F_check_heaps.binds (ps := ["heaps"]) fun _ _ _ _ _ _ us hl => match us, hl with | [_], _ => rfl
  have F_split_twos := fun_mk (st := s_split_twos) l_split_twos c_split_twos k_split_twos
  have b_split_twos := F_split_twos.binds (ps := ["number"]) fun _ _ _ _ _ _ us hl => match us, hl with | [_], _ => rfl
  have F_reduced_parts := fun_mk (st := s_reduced_parts) l_reduced_parts c_reduced_parts k_reduced_parts
  have b_reduced_parts := F_reduced_parts.binds (ps := ["numbers"]) fun _ _ _ _ _ _ us hl => match us, hl with | [_], _ => rfl
  have F_order_of_two := fun_mk (st := s_order_of_two) l_order_of_two c_order_of_two k_order_of_two
  have b_order_of_two := F_order_of_two.binds (ps := ["odd"]) fun _ _ _ _ _ _ us hl => match us, hl with | [_], _ => rfl
  have F_odd_divisors := fun_mk (st := s_odd_divisors) l_odd_divisors c_odd_divisors k_odd_divisors
  have b_odd_divisors := F_odd_divisors.binds (ps := ["odd"]) fun _ _ _ _ _ _ us hl => match us, hl with | [_], _ => rfl
  have F_totient := fun_mk (st := s_totient) l_totient c_totient k_totient
  have b_totient := F_totient.binds (ps := ["number"]) fun _ _ _ _ _ _ us hl => match us, hl with | [_], _ => rfl
  have F_even_shares := fun_mk (st := s_even_shares) l_even_shares c_even_shares k_even_shares
  have b_even_shares := F_even_shares.binds (ps := ["twos"]) fun _ _ _ _ _ _ us hl => match us, hl with | [_], _ => rfl
  have F_check_total := fun_mk (st := s_check_total) l_check_total c_check_total k_check_total
  have b_check_total := F_check_total.binds (ps := ["total"]) fun _ _ _ _ _ _ us hl => match us, hl with | [_], _ => rfl
  have F_rings := fun_mk (st := s_rings) l_rings c_rings k_rings
  have b_rings := F_rings.binds (ps := ["total"]) fun _ _ _ _ _ _ us hl => match us, hl with | [_], _ => rfl
  have F_tails := fun_mk (st := s_tails) l_tails c_tails k_tails
  have b_tails := F_tails.binds (ps := ["total"]) fun _ _ _ _ _ _ us hl => match us, hl with | [_], _ => rfl
  have F_ending := fun_mk (st := s_ending) l_ending c_ending k_ending
  have b_ending := F_ending.binds (ps := ["total"]) fun _ _ _ _ _ _ us hl => match us, hl with | [_], _ => rfl
  have F_check_two := fun_mk (st := s_check_two) l_check_two c_check_two k_check_two
  have b_check_two := F_check_two.binds (ps := ["heaps"]) fun _ _ _ _ _ _ us hl => match us, hl with | [_], _ => rfl
  have F_ends_after := fun_mk (st := s_ends_after) l_ends_after c_ends_after k_ends_after
  have b_ends_after := F_ends_after.binds (ps := ["heaps"]) fun _ _ _ _ _ _ us hl => match us, hl with | [_], _ => rfl
  have F_tail_and_ring := fun_mk (st := s_tail_and_ring) l_tail_and_ring c_tail_and_ring k_tail_and_ring
  have b_tail_and_ring := F_tail_and_ring.binds (ps := ["heaps"]) fun _ _ _ _ _ _ us hl => match us, hl with | [_], _ => rfl
  have F_l_mix := fun_mk (st := s_l_mix) l_l_mix c_l_mix k_l_mix
  have b_l_mix := F_l_mix.binds (ps := ["_law_script", "_law_seed"]) fun _ _ _ _ _ _ us hl => match us, hl with | [_, _], _ => rfl
  have F_l_next := fun_mk (st := s_l_next) l_l_next c_l_next k_l_next
  have b_l_next := F_l_next.binds (ps := ["_law_h", "_law_bound"]) fun _ _ _ _ _ _ us hl => match us, hl with | [_, _], _ => rfl
  have F_l_walks := fun_mk (st := s_l_walks) l_l_walks c_l_walks k_l_walks
  have b_l_walks := F_l_walks.binds (ps := ["_law_total"]) fun _ _ _ _ _ _ us hl => match us, hl with | [_], _ => rfl
  have F_law := fun_mk (st := s_law) l_law c_law k_law
  have b_law := F_law.binds (ps := ["_law_script"]) fun _ _ _ _ _ _ us hl => match us, hl with | [_], _ => rfl
  have T : Tp K mg := ⟨PySem.W.mg_none_of X G z_int, PySem.W.mg_none_of X G z_bool, PySem.W.mg_none_of X G z_list, PySem.W.mg_none_of X G z_len, PySem.W.mg_none_of X G z_tuple, PySem.W.mg_none_of X G z_isinstance, PySem.W.mg_none_of X G z_all, PySem.W.mg_none_of X G z_sum, PySem.W.mg_none_of X G z_enumerate, PySem.W.mg_none_of X G z_range, ⟨_, PySem.W.mg_of X G w_FEWEST_HEAPS⟩, ⟨_, PySem.W.mg_of X G w_MOST_HEAPS⟩, ⟨_, PySem.W.mg_of X G w_GREATEST⟩⟩
  have U : Tx K mg := ⟨PySem.W.mg_none_of X G z_int, PySem.W.mg_none_of X G z_list, PySem.W.mg_none_of X G z_max, PySem.W.mg_none_of X G z_len, PySem.W.mg_none_of X G z_tuple, PySem.W.mg_none_of X G z_range⟩
  have TQ : Tq K mg := ⟨T, PySem.W.mg_none_of X G z_sorted⟩
  refine ⟨PySem.W.fnOf "law" "law" (defArgs s_law) (defBody s_law) (defScope s_law) .none kV_law dc_law pm_law an_law cd_law ct_law, fun s v => .of_eq rfl, fun base KB GB => ?_⟩
  have C_is_integer : Cal l.prog w K mg base CX0 1 "is_integer" ["value", "least", "greatest"] (spIsInt) := ⟨_, _, PySem.W.mg_of X G a_is_integer, k_is_integer, b_is_integer, ok_is_integer F_is_integer T⟩
  have C_is_heaps : Cal l.prog w K mg base CX0 2 "is_heaps" ["value"] (spIsHeaps K) := ⟨_, _, PySem.W.mg_of X G a_is_heaps, k_is_heaps, b_is_heaps, ok_is_heaps F_is_heaps T C_is_integer⟩
  have C_check_heaps : Cal l.prog w K mg base CX0 3 "check_heaps" ["heaps"] (spChkHeaps K) := ⟨_, _, PySem.W.mg_of X G a_check_heaps, k_check_heaps, b_check_heaps, ok_check_heaps F_check_heaps T C_is_heaps⟩
  have C_split_twos : Cal l.prog w K mg base CX0 1 "split_twos" ["number"] (spSplit) := ⟨_, _, PySem.W.mg_of X G a_split_twos, k_split_twos, b_split_twos, ok_split_twos F_split_twos⟩
  have C_reduced_parts : Cal l.prog w K mg base CX0 2 "reduced_parts" ["numbers"] (spRed K) := ⟨_, _, PySem.W.mg_of X G a_reduced_parts, k_reduced_parts, b_reduced_parts, ok_reduced_parts F_reduced_parts T (PySem.W.mg_of X G gG) C_split_twos⟩
  have C_order_of_two : Cal l.prog w K mg base CX0 1 "order_of_two" ["odd"] (spOrd) := ⟨_, _, PySem.W.mg_of X G a_order_of_two, k_order_of_two, b_order_of_two, ok_order_of_two F_order_of_two⟩
  have C_odd_divisors : Cal l.prog w K mg base CX0 1 "odd_divisors" ["odd"] (spDivs) := ⟨_, _, PySem.W.mg_of X G a_odd_divisors, k_odd_divisors, b_odd_divisors, ok_odd_divisors F_odd_divisors T⟩
  have C_totient : Cal l.prog w K mg base CX0 1 "totient" ["number"] (spTot) := ⟨_, _, PySem.W.mg_of X G a_totient, k_totient, b_totient, ok_totient F_totient⟩
  have C_even_shares : Cal l.prog w K mg base CX0 1 "even_shares" ["twos"] (spShares) := ⟨_, _, PySem.W.mg_of X G a_even_shares, k_even_shares, b_even_shares, ok_even_shares F_even_shares T⟩
  have C_check_total : Cal l.prog w K mg base CX0 2 "check_total" ["total"] (spChkTot) := ⟨_, _, PySem.W.mg_of X G a_check_total, k_check_total, b_check_total, ok_check_total F_check_total T ⟨_, PySem.W.mg_of X G w_LEAST_TOTAL⟩ ⟨_, PySem.W.mg_of X G w_GREATEST_TOTAL⟩ C_is_integer⟩
  have C_rings : Cal l.prog w K mg base CX0 3 "rings" ["total"] (spRings) := ⟨_, _, PySem.W.mg_of X G a_rings, k_rings, b_rings, ok_rings F_rings TQ C_check_total C_split_twos C_odd_divisors C_order_of_two C_totient⟩
  have C_tails : Cal l.prog w K mg base CX0 3 "tails" ["total"] (spTails) := ⟨_, _, PySem.W.mg_of X G a_tails, k_tails, b_tails, ok_tails F_tails TQ C_check_total C_split_twos C_even_shares⟩
  have C_ending : Cal l.prog w K mg base CX0 3 "ending" ["total"] (spEnding) := ⟨_, _, PySem.W.mg_of X G a_ending, k_ending, b_ending, ok_ending F_ending TQ C_check_total C_split_twos C_even_shares⟩
  have C_check_two : Cal l.prog w K mg base CX0 4 "check_two" ["heaps"] (spChk2 K) := ⟨_, _, PySem.W.mg_of X G a_check_two, k_check_two, b_check_two, ok_check_two F_check_two T C_check_heaps⟩
  have C_ends_after : Cal l.prog w K mg base CX0 5 "ends_after" ["heaps"] (spEnds K) := ⟨_, _, PySem.W.mg_of X G a_ends_after, k_ends_after, b_ends_after, ok_ends_after F_ends_after C_check_two C_reduced_parts⟩
  have C_tail_and_ring : Cal l.prog w K mg base CX0 5 "tail_and_ring" ["heaps"] (spTailR K) := ⟨_, _, PySem.W.mg_of X G a_tail_and_ring, k_tail_and_ring, b_tail_and_ring, ok_tail_and_ring F_tail_and_ring T ⟨_, PySem.W.mg_of X G w_GREATEST_SUM⟩ C_check_two C_reduced_parts C_order_of_two⟩
  have C_l_mix : Cal l.prog w K mg base CX0 1 "_law_mix" ["_law_script", "_law_seed"] (spMix K) := ⟨_, _, PySem.W.mg_of X G a_l_mix, k_l_mix, b_l_mix, ok_mix F_l_mix U⟩
  have C_l_next : Cal l.prog w K mg base CX0 1 "_law_next" ["_law_h", "_law_bound"] (spNext) := ⟨_, _, PySem.W.mg_of X G a_l_next, k_l_next, b_l_next, ok_next F_l_next U⟩
  have C_l_walks : Cal l.prog w K mg base CX0 1 "_law_walks" ["_law_total"] (spWalks) := ⟨_, _, PySem.W.mg_of X G a_l_walks, k_l_walks, b_l_walks, ok_l_walks F_l_walks TQ⟩
  exact ok_law F_law TQ C_l_mix C_l_next C_rings C_tails C_ending C_l_walks C_ends_after C_tail_and_ring
theorem walk {l : PySem.W.OpenLaw} {q : Program} {loose : List Str} {XP : (Str → Option Value) → Heap → Prop} {YP : World → Heap → Prop} {d : DefRec} {K : Params → PySem.W.Frag} (hn : l.most = some 63) (hdf : d.params.defaults = [])
    (hY : ∀ (w : World) (h : Heap), YP w h → (K w.params).In h)
    (F : ∀ (w : World) (mg : Str → Option Value) (fa : Addr) (h : Heap), (K w.params).In h → h.Ns mainGlobals mg → mg d.name = some (.ref fa) →
      ∃ fd : FuncData, (∀ (s : Shared) (u : Value), BindsTo s fd ⟨[u], []⟩ [("_law_script", u)]) ∧ ∀ base : Heap, (K w.params).In base → base.Ns mainGlobals mg → FnOk l.prog w (K w.params) mg base CX0 6 fa fd ["_law_script"] (spLaw (K w.params))) :
    PySem.W.WalkO q loose XP YP l.row.toRowW d [] (fun f vs => PySem.call f vs) :=
  L2.walk_of (n := 63) (k := 6) (x := "_law_script") (CX := fun _ => CX0) (sp := fun w => spLaw (K w.params)) hn (by decide) hdf ⟨rfl, by decide, by decide⟩ hY F (fun _ _ a ns hl _ hS => ⟨a, ns, rfl, hS, hl, fun _ => rfl⟩) fun _ _ _ _ _ z => z
end Hd
open PySem PySem.W PyProof.Rows
set_option maxRecDepth 100000 in
set_option maxHeartbeats 0 in
theorem PySem.Challenge.cw_heapsdouble_k13_whole_rings_of_two_holds : PySem.Challenge.rw_heapsdouble_k13_whole_rings_of_two.Holds := by
  w_on; o_law; k_head; (case hw => w_witness2)
  k_fill
  refine Hd.walk (l := PySem.Challenge.rw_heapsdouble_k13_whole_rings_of_two) rfl rfl (fun w h Y => PySem.W.kIn_of Y) ?F
  case F =>
    intro w mg fa h KX G hmg
    refine' Hd.all_mk KX G hmg ?a_is_integer ?l_is_integer ?c_is_integer ?k_is_integer ?a_is_heaps ?l_is_heaps ?c_is_heaps ?k_is_heaps ?a_check_heaps ?l_check_heaps ?c_check_heaps ?k_check_heaps ?a_split_twos ?l_split_twos ?c_split_twos ?k_split_twos ?a_reduced_parts ?l_reduced_parts ?c_reduced_parts ?k_reduced_parts ?a_order_of_two ?l_order_of_two ?c_order_of_two ?k_order_of_two ?a_odd_divisors ?l_odd_divisors ?c_odd_divisors ?k_odd_divisors ?a_totient ?l_totient ?c_totient ?k_totient ?a_even_shares ?l_even_shares ?c_even_shares ?k_even_shares ?a_check_total ?l_check_total ?c_check_total ?k_check_total ?a_rings ?l_rings ?c_rings ?k_rings ?a_tails ?l_tails ?c_tails ?k_tails ?a_ending ?l_ending ?c_ending ?k_ending ?a_check_two ?l_check_two ?c_check_two ?k_check_two ?a_ends_after ?l_ends_after ?c_ends_after ?k_ends_after ?a_tail_and_ring ?l_tail_and_ring ?c_tail_and_ring ?k_tail_and_ring ?a_l_mix ?l_l_mix ?c_l_mix ?k_l_mix ?a_l_next ?l_l_next ?c_l_next ?k_l_next ?a_l_walks ?l_l_walks ?c_l_walks ?k_l_walks ?a_law ?l_law ?c_law ?k_law ?z_int ?z_bool ?z_list ?z_len ?z_tuple ?z_isinstance ?z_all ?z_sum ?z_enumerate ?z_range ?z_max ?z_sorted ?w_FEWEST_HEAPS ?w_MOST_HEAPS ?w_GREATEST ?w_LEAST_TOTAL ?w_GREATEST_TOTAL ?w_GREATEST_SUM ?gG
    (case a_is_integer => k_is)
    (case l_is_integer => k_is)
    (case c_is_integer => k_is)
    (case k_is_integer => k_is)
    (case a_is_heaps => k_is)
    (case l_is_heaps => k_is)
    (case c_is_heaps => k_is)
    (case k_is_heaps => k_is)
    (case a_check_heaps => k_is)
    (case l_check_heaps => k_is)
    (case c_check_heaps => k_is)
    (case k_check_heaps => k_is)
    (case a_split_twos => k_is)
    (case l_split_twos => k_is)
    (case c_split_twos => k_is)
    (case k_split_twos => k_is)
    (case a_reduced_parts => k_is)
    (case l_reduced_parts => k_is)
    (case c_reduced_parts => k_is)
    (case k_reduced_parts => k_is)
    (case a_order_of_two => k_is)
    (case l_order_of_two => k_is)
    (case c_order_of_two => k_is)
    (case k_order_of_two => k_is)
    (case a_odd_divisors => k_is)
    (case l_odd_divisors => k_is)
    (case c_odd_divisors => k_is)
    (case k_odd_divisors => k_is)
    (case a_totient => k_is)
    (case l_totient => k_is)
    (case c_totient => k_is)
    (case k_totient => k_is)
    (case a_even_shares => k_is)
    (case l_even_shares => k_is)
    (case c_even_shares => k_is)
    (case k_even_shares => k_is)
    (case a_check_total => k_is)
    (case l_check_total => k_is)
    (case c_check_total => k_is)
    (case k_check_total => k_is)
    (case a_rings => k_is)
    (case l_rings => k_is)
    (case c_rings => k_is)
    (case k_rings => k_is)
    (case a_tails => k_is)
    (case l_tails => k_is)
    (case c_tails => k_is)
    (case k_tails => k_is)
    (case a_ending => k_is)
    (case l_ending => k_is)
    (case c_ending => k_is)
    (case k_ending => k_is)
    (case a_check_two => k_is)
    (case l_check_two => k_is)
    (case c_check_two => k_is)
    (case k_check_two => k_is)
    (case a_ends_after => k_is)
    (case l_ends_after => k_is)
    (case c_ends_after => k_is)
    (case k_ends_after => k_is)
    (case a_tail_and_ring => k_is)
    (case l_tail_and_ring => k_is)
    (case c_tail_and_ring => k_is)
    (case k_tail_and_ring => k_is)
    (case a_l_mix => k_is)
    (case l_l_mix => k_is)
    (case c_l_mix => k_is)
    (case k_l_mix => k_is)
    (case a_l_next => k_is)
    (case l_l_next => k_is)
    (case c_l_next => k_is)
    (case k_l_next => k_is)
    (case a_l_walks => k_is)
    (case l_l_walks => k_is)
    (case c_l_walks => k_is)
    (case k_l_walks => k_is)
    (case a_law => k_is)
    (case l_law => k_is)
    (case c_law => k_is)
    (case k_law => k_is)
    (case z_int => k_is)
    (case z_bool => k_is)
    (case z_list => k_is)
    (case z_len => k_is)
    (case z_tuple => k_is)
    (case z_isinstance => k_is)
    (case z_all => k_is)
    (case z_sum => k_is)
    (case z_enumerate => k_is)
    (case z_range => k_is)
    (case z_max => k_is)
    (case z_sorted => k_is)
    (case w_FEWEST_HEAPS => k_is)
    (case w_MOST_HEAPS => k_is)
    (case w_GREATEST => k_is)
    (case w_LEAST_TOTAL => k_is)
    (case w_GREATEST_TOTAL => k_is)
    (case w_GREATEST_SUM => k_is)
    (case gG => k_is)
