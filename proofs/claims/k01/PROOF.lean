import PyProof.Rows.All
import Wide.All
import OpenK.AllK
import Wide.FinOn
import HandS.ForMost
import HandS.Exc
import HandS.TryOnly
import HandS.ExcOwn
import HandS.WordsExc
import HandS.ExcInit
import HandS.ExcField
import HandS.IsInst
import HandS.Deep
import HandS.Walk
import HandS.Wide
import HandS.Style
import KE.KTupSum
import KE.GoesEnum
import KE.DataMinMax
import KE.KExcSuper
import KE.KSuper
import HandS.TupSets
import KE.KDictKeyed
import KE.KeyNested
import KE.SortData
import KE.KExcLine
import PySem.Challenge.RW_heapsdouble_k01_whole_steps
set_option Elab.async false
set_option linter.all false
set_option maxRecDepth 100000
set_option maxHeartbeats 2000000
/-! Rules of our own: xs[i] read for op=, sum of a tuple, enumerate of a tuple. -/
namespace Hd
open PySem PySem.Spec PyProof.Rows L2

theorem Same.tup {K : PySem.W.Frag} {H H' : Hp} {a : Addr} {xs : List V} (e : Same H H') (h : SqT K H a xs) : SqT K H' a xs := by
  rcases h with (h | ⟨o, h⟩) | h
  · exact .inl (.inl (e _ _ h))
  · exact .inl (.inr ⟨o, e _ _ h⟩)
  · exact .inr h
theorem Same.new {H : Hp} {p : Addr} {o : HO} (h : H p = none) : Same H (upd H p o) := fun a u e => by
  rw [upd_ne (ne_of_none e h)]
  exact e
theorem same_upd {H H' : Hp} {p : Addr} {o : HO} (e : Same H H') (h : H p = none) : Same H (upd H' p o) := fun a u ha => by
  rw [upd_ne (ne_of_none ha h)]
  exact e a u ha

/-- a def of one's own by its name: what a caller needs -/
structure Cal (P : Program) (w : World) (K : PySem.W.Frag) (mg : Str → Option Value) (base : Heap) (CX : CXT) (k : Nat) (x : Str) (ps : List Str) (sp : Sp) : Prop where
  ex : ∃ (f : Addr) (fd : FuncData), mg x = some (.ref f) ∧ PySem.W.keepIn K (.ref f) = true ∧ Binds K fd ps [] ∧ FnOk P w K mg base CX k f fd ps sp
def tCal (sp : Sp) (E : XK) (t : TA) : TE := fun σ H Q => t σ H fun vs H1 => sp vs H1 Q E
section
variable {X : Cx}
theorem pe_cal {CX : CXT} {j k : Nat} {x : Str} {ps : List Str} {sp : Sp} {E : XK} {e : Expr} {es : List Expr} {t : TA} {p pos : Pos} (C : Cal X.prog X.w X.K X.mg X.base CX j x ps sp) (hr : Room k X.A) (hg : Gl X x) (hx : Passes CX X E)
    (ha : PA X (e :: es) t) (hk : j ≤ k := by decide) (hdb : (x == ("__debug__" : Str)) = false := by decide) (he : starEach (e :: es) X.env = (false, eval e X.env) :: starEach es X.env := by rfl) (hpl : (backTo pos (starEach es X.env)).any (·.1) = false := by rfl) :
    PE X (.Call (.Name x p) (e :: es) [] pos) (tCal sp E t) := by
  obtain ⟨f, fd, hm, kp, hb, F⟩ := C.ex
  refine ⟨fun pins s σ H Q I h => (pe_call (dvs := []) F (hr.mono hk) hg hm kp hb .nil hx ha hdb he hpl).run pins s σ H Q I ?_⟩
  have e1 : (tCall sp [] E t) = tCal sp E t := by
    funext σ H Q
    unfold tCall tCal
    congr 1
    funext vs H1
    rw [List.append_nil]
  rw [e1]
  exact h
end

/-- a block cut behind its first statement: R is what every way through it brings -/
def tCutM (t u : TS) : TS := fun D σ H => ∃ R : L2.St → Hp → Prop, t { D with nx := R } σ H ∧ ∀ σ' H', R σ' H' → u D σ' H'
theorem pss_cutM {X : Cx} {st : Stmt} {rest : List Stmt} {t u : TS} (a : PS X st t) (b : PSs X rest u) : PSs X (st :: rest) (tCutM t u) := by
  refine ⟨fun pins s σ H D I hh => ?_⟩
  obtain ⟨R, hR, go⟩ := hh
  refine wpAny_execs_cons (thn (a.run pins s σ H { D with nx := R } I hR) fun f s1 q => ?_)
  cases f with
  | next =>
    obtain ⟨σ1, H1, I1, q1⟩ := q
    exact b.run pins s1 σ1 H1 D I1 (go σ1 H1 q1)
  | ret _ => exact q
  | brk => exact q
  | cont => exact q
section
variable {X : Cx}
/-- xs[k], 0 ≤ k, read for xs[k] op= e -/
def rGetL (K : PySem.W.Frag) : V → V → Hp → VK → Prop := fun o i H Q => ∃ p xs k v, o = .ref p ∧ i = .int k ∧ SqL K H p xs ∧ 0 ≤ k ∧ xs[k.toNat]? = some v ∧ Q v H
theorem pget_list : PGet X (rGetL X.K) := by
  intro pins s σ H o i ov iv Q I ro ri h
  obtain ⟨p, xs, k, v, rfl, rfl, hq, h0, he, q⟩ := h
  cases ro
  obtain ⟨t, rfl⟩ := ri
  obtain ⟨its, r, pl, hz⟩ := I.list hq
  obtain ⟨w, ew, rw'⟩ := r.get he
  have hl := r.length
  have hlt : k.toNat < its.length := (List.getElem?_eq_some_iff.mp ew).1
  have hb : k < 2 ^ 63 := by
    rw [sizeLine_eq] at hz
    omega
  exact wpAny_getItem_list pl.isList h0 hb (by simpa using ew) ⟨v, H, I, rw', q⟩

/-- sum(t) of a tuple of ints -/
def rSumT (K : PySem.W.Frag) : List V → Hp → VK → Prop := fun vs H Q => ∃ (a : Addr) (ns : List Int), vs = [V.ref a] ∧ SqT K H a (ns.map V.int) ∧ Q (.int ns.sum) H
theorem cr_sumT (hc : X.calm = true) : CallR X (.builtin "sum") (rSumT X.K) := by
  intro pins s σ H vs us Q I r h
  obtain ⟨a, ns, rfl, hs, q⟩ := h
  obtain ⟨its, rv, hl, _⟩ := I.tuple hs
  rw [Vals.ref1 r]
  have hi := rv.ints
  obtain ⟨xs, e⟩ := hi.allInts.items
  have hn : numsOf (intItems xs).toList = ns := by rw [← e]; exact hi.numsOf
  rw [nums_intItems] at hn
  rw [e] at hl
  refine PySem.W.ktm_sumG (I.ok.hd hc) hl fun h' tk t' hk => ?_
  rw [PySem.preSum_eq, List.take_of_length_le (by simp), hn]
  exact ⟨.int _, H, I.kept hk, ⟨_, rfl⟩, q⟩
end
end Hd
set_option maxHeartbeats 4000000
/-! enumerate of a tuple. -/
namespace Hd
open PySem PySem.Spec PyProof.Rows L2
open AutoSeq1 (wpAny_loadPart')
theorem enumNewT (q : Addr) (zs : Array Value) (m : Nat) (od : Option Addr) (so : Array (Option Value)) :
    Meets (Builtin.«enumerate.__new__» ⟨[.type "enumerate", .ref q], []⟩) (fun _ R s =>
      s.heap.get? q = some { cls := .type "tuple", dict := od, data := .seq zs m, slots := so } ∧
      R (.ok (.ret (.ref (s.heap.push { cls := .type "tuple_iterator", data := .fields #[.ref q, .int 0 0] }).objs.size)))
        ⟨(s.heap.push { cls := .type "tuple_iterator", data := .fields #[.ref q, .int 0 0] }).push
              { cls := .type "enumerate", data := .fields #[.none, .bool false, .ref s.heap.objs.size, rawInt 0, .none, .none] }, s.gens, s.drawn, s.toks, s.os⟩) :=
  .of_wp fun P0 w0 A0 R0 s0 k0 => by
    obtain ⟨h0, g0, d0, t0, o0⟩ := s0
    obtain ⟨hq, k0⟩ := k0
    have subE := sub_enumerate
    have isT : Heap.IsTuple (Shared.heap ⟨h0, g0, d0, t0, o0⟩) q zs := ⟨_, hq, rfl, m, rfl⟩
    wp_walk using wpAny_loadPart' hq
    refine wpAny_stack_any fun _ => wpAny_pure ?_
    split
    · rename_i c _ _ _ _ _
      cases (c == Value.type "enumerate") <;> (wp_walk using wpAny_loadPart' hq, wpAny_pyIter_tuple isT; exact ⟨_, rfl, k0⟩)
    · wp_walk using wpAny_loadPart' hq, wpAny_pyIter_tuple isT
      exact ⟨_, rfl, k0⟩
theorem enumCallT {prog : Program} {w : World} {A : Around} {E : Value → Shared → Prop} {s : Shared} {q : Addr} {zs : Array Value} {Q : Value → Shared → Prop} (isT : s.heap.IsTuple q zs)
    (k : ∀ h', IsEnum h' (s.heap.objs.size + 1) s.heap.objs.size 0 .none → h'.IsTupleIter s.heap.objs.size q 0 → (∀ b o, s.heap.get? b = some o → h'.get? b = some o) → Q (.ref (s.heap.objs.size + 1)) { s with heap := h' }) :
    wpAny (model prog w) A (call (.type "enumerate") [.ref q]) Q E s := by
  obtain ⟨⟨oc, od, dt, so⟩, hq, hc, m, hd⟩ := isT
  replace hc : oc = .type "tuple" := hc
  replace hd : dt = .seq zs m := hd
  subst hc hd
  refine callType_new F.called_enumerate (by decide) (F.typeCall_enumerate_1 _) (F.newCall_enumerate_1 _)
    (fun obj => F.args_object_init_2 obj _) F.entry_enumerate_new (enumNewT q zs m od so) ⟨hq, ?_⟩
  have hz : (s.heap.push { cls := .type "tuple_iterator", data := .fields #[.ref q, .int 0 0] }).objs.size = s.heap.objs.size + 1 := Heap.size_push ..
  show _ ∧ _
  rw [hz]
  have he : IsEnum ((s.heap.push { cls := .type "tuple_iterator", data := .fields #[.ref q, .int 0 0] }).push
      { cls := .type "enumerate", data := .fields #[.none, .bool false, .ref s.heap.objs.size, rawInt 0, .none, .none] })
      (s.heap.objs.size + 1) s.heap.objs.size 0 .none := by
    have := Heap.get?_push_size (s.heap.push { cls := .type "tuple_iterator", data := .fields #[.ref q, .int 0 0] })
      (o := { cls := .type "enumerate", data := .fields #[.none, .bool false, .ref s.heap.objs.size, rawInt 0, .none, .none] }) rfl
    rw [hz] at this
    exact this
  exact ⟨⟨_, he, rfl⟩, k _ he ⟨({ cls := .type "tuple_iterator", data := .fields #[.ref q, .int 0 0] } : Obj), Heap.get?_push_of_some _ (Heap.get?_push_size _ rfl), rfl, rfl⟩
    fun b o x => Heap.get?_push_of_some _ (Heap.get?_push_of_some _ x)⟩
/-- the tuple at a, each item in a new pair -/
def IteT (K : PySem.W.Frag) (a : Addr) : It where
  go := fun i H => ∃ (xs : List V) (x : V), SqT K H a xs ∧ xs[i]? = some x
  yld := fun i H v H' => ∃ T x, v = .ref T ∧ H T = none ∧ H' = upd H T (.tup [.int (i : Nat), x]) ∧ ∀ xs, SqT K H a xs → xs[i]? = some x
  stop := fun i H => ∃ xs : List V, SqT K H a xs ∧ xs.length = i
theorem tupNe {h : Heap} {a it : Addr} {zs : Array Value} {i : Nat} (t : h.IsTuple a zs) (j : h.IsTupleIter it a i) : a ≠ it := fun z => by
  obtain ⟨o, h1, h2, _⟩ := t
  obtain ⟨o', h3, h4, _⟩ := j
  rw [z, h3] at h1
  cases h1
  rw [h2] at h4
  injection h4 with h5
  exact absurd h5 (by decide)
theorem enumNe {h : Heap} {a e it : Addr} {zs : Array Value} {c : Int} {v : Value} (t : h.IsTuple a zs) (j : IsEnum h e it c v) : e ≠ a := fun z => by
  obtain ⟨o, h1, h2, _⟩ := t
  have j' : h.get? e = some _ := j
  rw [z, h1] at j'
  have j2 := Option.some.inj j'
  rw [j2] at h2
  injection h2 with h5
  exact absurd h5 (by decide)
theorem turn_enumT {P : Program} {w : World} {K : PySem.W.Frag} {elts : List Expr} {kk : Nat} {tpos : Pos} (a e it : Addr) :
    Turn P w K (.Tuple elts kk tpos) (IteT K a) [e, it] e (fun i h => (∃ old, IsEnum h e it ((i : Nat) : Int) old) ∧ h.IsTupleIter it a i ∧ e ≠ it) where
  mem := List.mem_cons_self
  obj := fun i h st b hb => by
    obtain ⟨⟨old, he⟩, ⟨o, ho, hc, hd⟩, _⟩ := st
    rcases (show b = e ∨ b = it by simpa using hb) with z | z
    · subst z
      exact ⟨_, he, fun v q => nomatch q⟩
    · subst z
      exact ⟨o, ho, fun v q => by rw [hd] at q; cases q⟩
  keep := fun i h h' st k => by
    obtain ⟨⟨old, he⟩, hi, hne⟩ := st
    exact ⟨⟨old, k e (by simp) _ he⟩, hi.at fun o q => k it (by simp) o q, hne⟩
  item := by
    intro X hP hw hK hc i pins s σ H E I hf st hg
    subst hP hw hK
    obtain ⟨⟨old, he⟩, hit, hne⟩ := st
    obtain ⟨xs, x, hq, hx⟩ := hg
    obtain ⟨its, rv, p, hz⟩ := I.tuple hq
    have isT : s.heap.IsTuple a its.toArray := p
    have hel : e < s.heap.objs.size := Heap.lt_size he
    have hil : it < s.heap.objs.size := by
      obtain ⟨_, q, _⟩ := hit
      exact Heap.lt_size q
    have hai := tupNe isT hit
    have hea := enumNe isT he
    have hlt : i < its.toArray.size := by
      have z := (List.getElem?_eq_some_iff.mp hx).1
      have l := rv.length
      simp
      omega
    have D := Draws.tuple (prog := X.prog) (w := X.w) (A := X.A.in1) (I.ok.hd hc) it a hai its.toArray
    refine wpAny_pyNext_enum_itemC D he ⟨hit, isT⟩ hlt hne (by simp [hne, hea]) fun u h' tk hu ho st' hT hsz hk => ?_
    refine ⟨_, rfl, wpAny_letOwnedTupleGo_enum (s := { s with heap := h', toks := tk + 1 }) ho fun h'' he' sb => ?_⟩
    obtain ⟨u', hu', ru⟩ := rv.get hx
    have euu : u' = u := by
      have z : its[i]? = some u := by simpa using hu
      rw [hu'] at z
      exact Option.some.inj z
    subst euu
    have hT2 : h''.get? s.heap.objs.size = some { cls := .type "tuple", data := .seq #[.int i tk, u'] } := (sb.2 _ (Nat.ne_of_gt hel)).trans hT
    have new : ObjOk X.prog X.w (upd H s.heap.objs.size (.tup [.int (i : Nat), x])) h'' s.heap.objs.size (.tup [.int (i : Nat), x]) :=
      ⟨by show 2 ≤ sizeLine; decide, [.int i tk, u'], .cons ⟨_, rfl⟩ (.cons ru .nil), ⟨_, hT2, rfl, _, rfl⟩⟩
    have J : Inv X pins σ (upd H s.heap.objs.size (.tup [.int (i : Nat), x])) { s with heap := h'', toks := tk + 1 } :=
      I.turnedNew (ch := [e, it]) (fun b ob hb q => (sb.2 b fun z => hb (by simp [z])).trans (hk b ob (fun z => hb (by simp [z])) (fun z => hb (by simp [z])) q)) hf (Nat.le_refl _) new
    refine ⟨.ref s.heap.objs.size, _, J, rfl, ⟨_, x, rfl, I.hok.fresh (Nat.le_refl _), rfl, fun ys hy => by rw [I.tuple_inj hy hq]; exact hx⟩,
      ⟨⟨u', ?_⟩, st'.1.at fun o q => (sb.2 it (Ne.symm hne)).trans q, hne⟩, fun b hb => ?_⟩
    · have e1 : ((i + 1 : Nat) : Int) = (i : Int) + 1 := by omega
      rw [e1]
      exact he'
    · have hb' : b < s.heap.objs.size := by
        rcases (show b = e ∨ b = it by simpa using hb) with z | z
        · rw [z]
          exact hel
        · rw [z]
          exact hil
      rw [upd_ne (Nat.ne_of_lt hb')]
      exact (hf b hb).1
  done := by
    intro X hP hw hK hc i pins s σ H E I hf st hg
    subst hP hw hK
    obtain ⟨⟨old, he⟩, hit, hne⟩ := st
    obtain ⟨xs, hq, hx⟩ := hg
    obtain ⟨its, rv, p, hz⟩ := I.tuple hq
    have isT : s.heap.IsTuple a its.toArray := p
    have hai := tupNe isT hit
    obtain ⟨f0, f1, f2, f3, f4, f5⟩ := hf it (by simp)
    have D := Draws.tuple (prog := X.prog) (w := X.w) (A := X.A.in1) (I.ok.hd hc) it a hai its.toArray
    have ei : its.toArray.size = i := by
      have l := rv.length
      simp
      omega
    refine wpAny_pyNext_enum_endD D he ⟨by rw [ei]; exact hit, isT⟩ fun h' eb => ⟨rfl, ?_⟩
    exact I.turned (t' := s.toks) (fun b o hb q => eb b o hb q) f0 f1 f3 f4 f5
  self := fun A i s Q E st k => by
    obtain ⟨⟨_, he⟩, _⟩ := st
    exact wpAny_pyIter_enum he k
def iEnumT (K : PySem.W.Frag) (ta : TA) : TI := fun σ H R => ta σ H fun vs H1 => ∃ a xs, vs = [.ref a] ∧ SqT K H1 a xs ∧ R (IteT K a) H1
theorem pi_enumT {X : Cx} {e : Expr} {ta : TA} {p pos tpos : Pos} {elts : List Expr} {kk : Nat} (hg : Gl X "enumerate") (hm : X.mg "enumerate" = none) (ha : PA X [e] ta)
    (hs : starEach [e] X.env = [(false, eval e X.env)] := by rfl) : PI X (.Tuple elts kk tpos) (.Call (.Name "enumerate" p) [e] [] pos) (iEnumT X.K ta) := by
  refine ⟨fun pins s σ H R I h => ?_⟩
  refine Call_ (ld_blt I hg hm boot_enumerate (PyProof.Rows.callWith_type1 (thn (ha.run pos pins s σ H _ I h) fun us s1 hh => ?_) hs rfl))
  obtain ⟨vs, H1, I1, r1, a, xs, ex, hq, q⟩ := hh
  subst ex
  rw [Vals.ref1 r1]
  obtain ⟨its, rv, p', hz⟩ := I1.tuple hq
  refine enumCallT (show s1.heap.IsTuple a its.toArray from p') fun h' he hit hk => wpAny_pyIter_enum he ?_
  have I2 : Inv X pins σ H1 { s1 with heap := h' } := I1.kept (t' := s1.toks) hk
  refine ⟨s1.heap.objs.size + 1, [s1.heap.objs.size + 1, s1.heap.objs.size], _, _, H1, rfl, I2, turn_enumT a (s1.heap.objs.size + 1) s1.heap.objs.size,
    ⟨⟨.none, he⟩, hit, Nat.succ_ne_self _⟩, fun b hb => ?_, q⟩
  have hle : s1.heap.objs.size ≤ b := by
    rcases (show b = s1.heap.objs.size + 1 ∨ b = s1.heap.objs.size by simpa using hb) with z | z
    · rw [z]
      exact Nat.le_add_right _ _
    · rw [z]
      exact Nat.le_refl _
  exact I1.fpOk hle (I1.hok.fresh hle)
theorem walk_enumT {K : PySem.W.Frag} {a : Addr} {xs : List V} : Walk (IteT K a) xs.length (fun H => SqT K H a xs) (YPair (fun i => some (.int (i : Nat))) (fun i => xs[i]?)) := by
  refine ⟨fun i _ hi q => ⟨xs, xs[i], q, by simp [hi]⟩, fun _ q => ⟨xs, q, rfl⟩, fun i H v H' _ q y => ?_⟩
  obtain ⟨T, x, h1, h2, h3, h4⟩ := y
  exact ⟨T, .int (i : Nat), x, h1, h2, h3, rfl, h4 xs q⟩
end Hd
set_option maxHeartbeats 4000000
/-! min and max of a tuple of ints. -/
namespace Hd
open PySem PySem.Spec PyProof.Rows L2
theorem reads_ints {h : Heap} : ∀ {us : List Value} {ns : List Int}, IntsAre us ns → ReadsAll h us (ns.map PyData.int) []
  | _, _, .nil => .nil
  | _, _, .cons n t r => ReadsAll.cons (as := []) (bs := []) (.int n t) (reads_ints r)
theorem deep_ints : ∀ ns : List Int, PyData.depthAll (ns.map PyData.int) = 0
  | [] => by simp [PyData.depthAll]
  | n :: ns => by
    have := deep_ints ns
    simp only [List.map_cons, PyData.depthAll, PyData.depth]
    omega
theorem alike_ints (ns : List Int) : PySem.W.AlikeAll (ns.map PyData.int) := by
  refine ⟨fun x hx y hy => ?_, fun x hx => ?_⟩
  · obtain ⟨n, _, rfl⟩ := List.mem_map.mp hx
    obtain ⟨m, _, rfl⟩ := List.mem_map.mp hy
    first | rfl | simp [PySem.W.alike]
  · obtain ⟨n, _, rfl⟩ := List.mem_map.mp hx
    intro z
    cases z
section
variable {X : Cx}
def rMinT (K : PySem.W.Frag) : List V → Hp → VK → Prop := fun vs H Q => ∃ (a : Addr) (n : Int) (ns : List Int), vs = [V.ref a] ∧ SqT K H a ((n :: ns).map V.int) ∧ Q (.int (ns.foldl min n)) H
def rMaxT (K : PySem.W.Frag) : List V → Hp → VK → Prop := fun vs H Q => ∃ (a : Addr) (n : Int) (ns : List Int), vs = [V.ref a] ∧ SqT K H a ((n :: ns).map V.int) ∧ Q (.int (ns.foldl max n)) H
theorem cr_minT (hc : X.calm = true) (hu : X.A.units + 64 < cLine) : CallR X (.builtin "min") (rMinT X.K) := by
  intro pins s σ H vs us Q I r h
  obtain ⟨a, n, ns, rfl, hs, q⟩ := h
  obtain ⟨its, rv, hl, _⟩ := I.tuple hs
  rw [Vals.ref1 r]
  refine PySem.W.min_tuple_data (x := .int n) (xs := ns.map PyData.int) (I.ok.hd hc) (show s.heap.IsTuple a its.toArray from hl) (by simpa using reads_ints (h := s.heap) rv.ints) (alike_ints (n :: ns)) ?_ fun i v h' tk bs hv hr hk => ?_
  · have := deep_ints (n :: ns)
    rw [List.map_cons] at this
    omega
  · rw [PySem.W.minD_ints] at hr
    cases hr with
    | int _ t => exact ⟨.int _, H, I.kept hk, ⟨t, rfl⟩, q⟩
theorem cr_maxT (hc : X.calm = true) (hu : X.A.units + 64 < cLine) : CallR X (.builtin "max") (rMaxT X.K) := by
  intro pins s σ H vs us Q I r h
  obtain ⟨a, n, ns, rfl, hs, q⟩ := h
  obtain ⟨its, rv, hl, _⟩ := I.tuple hs
  rw [Vals.ref1 r]
  refine PySem.W.max_tuple_data (x := .int n) (xs := ns.map PyData.int) (I.ok.hd hc) (show s.heap.IsTuple a its.toArray from hl) (by simpa using reads_ints (h := s.heap) rv.ints) (alike_ints (n :: ns)) ?_ fun i v h' tk bs hv hr hk => ?_
  · have := deep_ints (n :: ns)
    rw [List.map_cons] at this
    omega
  · rw [PySem.W.maxD_ints] at hr
    cases hr with
    | int _ t => exact ⟨.int _, H, I.kept hk, ⟨t, rfl⟩, q⟩
end
end Hd
set_option maxHeartbeats 4000000
/-! raise X() of an own class whose base's __init__ says super().__init__(). -/
namespace Hd
open PySem PySem.W PySem.Calls PyProof.Rows
/-- the scope of def __init__(self): super().__init__() -/
def hiScope : Scope := { kind := .function, names := [(PySem.Str.ofString "self", .local), (PySem.Str.ofString "__class__", .free), (PySem.Str.ofString "super", .globalImplicit)], isGenerator := false, isCoroutine := false, more := [] }
/-- the base's __init__ as the top leaves it: a def that closes over its class -/
structure SupDef (prog : Program) (K : Frag) (fI D : Addr) : Prop where
  ex : ∃ (oc : Value) (od an : Option Addr) (params : Arguments) (qual : Str) (dV kV doc pm ct : Value) (cc cda : Addr) (osl : Array (Option Value)) (p0 p1 ap cp ep : Pos) (ar : Arg)
      (ccl cl : Value) (cdd cld : Option Addr) (vs : Array Value) (ccs csl : Array (Option Value)) (file : Str) (tf : Tok) (cdD : ClassData),
    K.lookup fI = some ⟨oc, od, .func (fnX "__init__" qual params [.Expr (.Call (.Attribute (.Call (.Name "super" p0) [] [] p1) "__init__" ap) [] [] cp) ep] hiScope [("__class__", cc)] dV kV doc pm an (.ref cda) ct), osl⟩ ∧
    codeIn K (.ref cda) qual = true ∧ (params.posonlyargs ++ params.args).head? = some ar ∧ ar.arg = "self" ∧
    (∀ v : Value, bindArgs (fnX "__init__" qual params [.Expr (.Call (.Attribute (.Call (.Name "super" p0) [] [] p1) "__init__" ap) [] [] cp) ep] hiScope [("__class__", cc)] dV kV doc pm an (.ref cda) ct) ⟨[v], []⟩ = pure [(("self" : Str), v)]) ∧
    (∀ L : Addr, ∃ pl : Sem Bool, eval (.Call (.Attribute (.Call (.Name "super" p0) [] [] p1) "__init__" ap) [] [] cp) (callEnv (fnX "__init__" qual params [.Expr (.Call (.Attribute (.Call (.Name "super" p0) [] [] p1) "__init__" ap) [] [] cp) ep] hiScope [("__class__", cc)] dV kV doc pm an (.ref cda) ct) L fI) = (do
      let ov ← attributeBase (.Call (.Name "super" p0) [] [] p1) "__init__" (callEnv (fnX "__init__" qual params [.Expr (.Call (.Attribute (.Call (.Name "super" p0) [] [] p1) "__init__" ap) [] [] cp) ep] hiScope [("__class__", cc)] dV kV doc pm an (.ref cda) ct) L fI) (eval (.Call (.Name "super" p0) [] [] p1) (callEnv (fnX "__init__" qual params [.Expr (.Call (.Attribute (.Call (.Name "super" p0) [] [] p1) "__init__" ap) [] [] cp) ep] hiScope [("__class__", cc)] dV kV doc pm an (.ref cda) ct) L fI))
      standAt ap.atName
      let (f, first) ← holding [ov] (getMethod ov "__init__" pl)
      callWith cp f first (backTo cp (starEach [] (callEnv (fnX "__init__" qual params [.Expr (.Call (.Attribute (.Call (.Name "super" p0) [] [] p1) "__init__" ap) [] [] cp) ep] hiScope [("__class__", cc)] dV kV doc pm an (.ref cda) ct) L fI))) [])) ∧
    K.lookup cda = some ⟨ccl, cdd, .fields vs, ccs⟩ ∧ vs[2]? = some (.str file tf) ∧ ((prog.main.file : Str) == file) = true ∧
    K.lookup cc = some ⟨cl, cld, .cell (some (.ref D)), csl⟩ ∧ clsIn K D = some cdD
  tI : typeIn K (.ref fI) = some (.type "function")
  sup : nsIn K mainGlobals "super" = some none
  thr : nsIn K cStatics "thirdparty.any" = some none
  top : (prog.main.scope.names.lookup ("super" : Str)).isSome = false
/-- an own class under it -/
structure NilC (K : Frag) (C D fI : Addr) : Prop where
  cls : ∃ nm q N bs bm sn sub ab col dd k0 k1 k2 k3 k5, K.lookup C = some (excClassObj nm q C N bs bm true sn sub ab col dd k0 k1 k2 k3 k5 "ValueError.__new__") ∧ PySem.HandSPX.refsVE bm = true
  ini : findIn K (.ref C) "__init__" = some (some (.ref fI))
  sup : ks_superIn K C D "__init__" = some (some (.builtin "ValueError.__init__"))
  sub : mroIn K C (.ref D) = some true
  ve : subIn K (.ref C) (.type "ValueError") = some true
  xin : excInitIn K C [.type "ValueError", .type "Exception", .type "BaseException", .type "object"] "ValueError.__new__" = true
theorem boot_super : bootBuiltins "super" = some (.type "super") := by first | boot_by_name | decide +kernel | rfl
section
variable {prog : Program} {w : World} {A : Around} {R : Result → Shared → Prop} {s : Shared} {K : Frag} {mg mb : Str → Option Value} {C D fI : Addr}
/-- the call of the __init__ on an exception at x that is being made -/
theorem nil_init (S : SupDef prog K fI D) (T : NilC K C D fI) {x t0 : Addr} (X : K.In s.heap) (hxK : K.lookup x = none) (G : s.heap.Ns mainGlobals mg) (Bn : s.heap.Ns builtinsNs mb) (hbb : ∀ z : Str, z ≠ "__name__" → mb z = bootBuiltins z)
    (hlim : s.heap.NoLimit) (hx : s.heap.get? x = some (excObj C t0 none .none)) (hroom : A.depth < recursionLimit)
    (hq : ∀ h' tk t1, (∀ b o, b ≠ x → s.heap.get? b = some o → h'.get? b = some o) → h'.get? x = some (excObj C t1 none .none) → R (.ok (.ret .none)) ⟨h', s.gens, s.drawn, tk, s.os⟩) :
    codeAny (model prog w) A (.call (.ref fI) ⟨[.ref x], []⟩) R s := by
  obtain ⟨oc, od, an, params, qual, dV, kV, doc, pm, ct, cc, cda, osl, p0, p1, ap, cp, ep, ar, ccl, cl, cdd, cld, vs, ccs, csl, file, tf, cdD, lf, hcd, hp, har, hb, hev, lc, hvs, hfile, lcell, hD⟩ := S.ex
  obtain ⟨nm, q, N, bs, bm, sn, sub, ab, col, dd, k0', k1, k2, k3, k5, hC, hbm⟩ := T.cls
  have hsu : hiScope.names.lookup ("super" : Str) = some .globalImplicit := by decide +kernel
  have hcl : hiScope.names.lookup ("__class__" : Str) = some .free := by decide +kernel
  have hse : hiScope.names.lookup ("self" : Str) = some .local := by decide +kernel
  have hnc : ∀ y ∈ hiScope.names, y.2 ≠ .cell := by decide +kernel
  have hk : hiScope.kind = .function := rfl
  have hmg : mg "super" = none := mg_none_of X G S.sup
  obtain ⟨hp0, g, d, tk, os⟩ := s
  have k0 : ∀ b o, (hideAll hp0 [x]).get? b = some o → hp0.get? b = some o := fun b o e => of_hideAll _ e
  have hxn : (hideAll hp0 [x]).get? x = none := hideAll_none _ (by simp)
  have hle : (hideAll hp0 [x]).objs.size = hp0.objs.size := hideAll_size _ _
  have X₀ : K.In (hideAll hp0 [x]) := fun b o e => hideAll_get _ (X b o e) (by
    intro z
    have z' : b = x := by simpa using z
    rw [z', hxK] at e
    cases e)
  refine ks_codeAny_call_defAt (fd := fnX "__init__" qual params [.Expr (.Call (.Attribute (.Call (.Name "super" p0) [] [] p1) "__init__" ap) [] [] cp) ep] hiScope [("__class__", cc)] dV kV doc pm an (.ref cda) ct)
    (binds := [("self", .ref x)]) hroom (X _ _ lf) rfl hlim (codeRec_of X hcd) rfl (.of_eq (hb _)) hnc (fun y hy => ?_) (fun h₁ hns kk => ?_) rfl rfl rfl
  · have e : y = (("self" : Str), Value.ref x) := by simpa using hy
    subst e
    exact hse
  have X1 : K.In h₁ := X.keeps kk
  have hx1 : h₁.get? x = some (excObj C t0 none .none) := kk _ _ hx
  have Lne : hp0.objs.size ≠ x := Nat.ne_of_gt (Heap.lt_size hx)
  obtain ⟨pl, he⟩ := hev hp0.objs.size
  refine ks_wpAt_execs_cons (ks_wpAt_Expr_any (ks_wpAt_MethodCall (pl := pl) ?_ he) (by show interactive _ = false; simp [interactive, callEnv, newEnv, hk]))
  refine ks_wpAt_super_base hsu hcl (by decide) rfl (X1 _ _ lf) rfl hp rfl (X1 _ _ lc) rfl hvs hfile S.top ?_
  have X1' := X1
  refine ks_loadName_global hk hsu (loadGlobal_builtin (G.keeps kk) hmg (Bn.keeps kk) ((hbb _ (by decide)).trans boot_super) ⟨rfl, ?_⟩)
  refine wpAny_loadName_free hk hcl rfl ⟨_, X1 _ _ lcell, rfl⟩ ?_
  refine wpAny_loadName_local hk (by rw [har]; exact hse) hns (by rw [har]; rfl) ?_
  obtain ⟨oD, hD1, hD2⟩ : ∃ oD, h₁.get? D = some oD ∧ oD.data = .cls cdD := by
    unfold clsIn at hD
    split at hD
    · rename_i c d cd' sl ho
      cases hD
      exact ⟨_, X1 _ _ ho, rfl⟩
    · cases hD
  refine ks_wpAny_isType_cls hD1 hD2 ⟨rfl, ?_⟩
  refine ks_wpAny_call_super hD1 hD2 hx1 rfl (fun c e => nomatch e) (looks_mroIn X1 T.sub) (fun h2 e2 kk2 => ?_)
  have X2 : K.In h2 := X1.keeps kk2
  have hx2 := kk2 _ _ hx1
  have I2 : InstAt h2 x (excObj C t0 none .none) C none := ⟨hx2, rfl, rfl, trivial⟩
  have hsup := T.sup
  cases hc : clsIn K C with
  | none =>
    unfold ks_superIn at hsup
    rw [hc] at hsup
    cases hsup
  | some cd =>
    unfold ks_superIn at hsup
    rw [hc] at hsup
    refine kxs_getMethod kxs_ValueError e2 (looks_opaque X2 S.thr) (l₀ := cd.mro) (fun A Q E s k q => wpAny_bind ((looks_clsIn X2 hc) A _ E s k (wpAny_pure q))) rfl X2 hsup
      (I2.type.andThen (looks_subIn X2 T.ve)) (ks_ne X2 I2 hc) (by decide) ?_
    have hu : (h2.push (kxs_mw "ValueError.__init__" x)).get? h2.objs.size = some (kxs_mw "ValueError.__init__" x) := Heap.get?_push_at rfl rfl
    have kk3 : ∀ b o, h2.get? b = some o → (h2.push (kxs_mw "ValueError.__init__" x)).get? b = some o := fun b o e => Heap.get?_push_of_some _ e
    have hx3 := kk3 _ _ hx2
    refine kxs_callWith (i := "ValueError.__init__") (x := x) rfl (evalArgs_empty ⟨hu, ?_⟩)
    show wpAny _ _ (call (.ref h2.objs.size) []) _ _ _
    have ns3 := (hns.keeps kk2).keeps kk3
    have lt2 : x < h2.objs.size := Heap.lt_size hx2
    have L1 : hp0.objs.size < h2.objs.size := by
      obtain ⟨oL, _, _, hL, _⟩ := hns
      exact Heap.lt_size (kk2 _ _ hL)
    have none0 : ∀ b, (hideAll hp0 [x]).objs.size ≤ b → (hideAll hp0 [x]).get? b = none := fun b hb => Heap.get?_none_of_le hb
    have FR : Fr (hideAll hp0 [x]) hp0.objs.size (h2.push (kxs_mw "ValueError.__init__" x)) (fun y => [(("self" : Str), Value.ref x)].reverse.lookup y) :=
      ⟨ns3, fun b o e => kk3 _ _ (kk2 _ _ (kk _ _ (k0 b o e))), Nat.le_of_eq hle⟩
    have NW : News (hideAll hp0 [x]) hp0.objs.size (h2.push (kxs_mw "ValueError.__init__" x)) [(h2.objs.size, kxs_mw "ValueError.__init__" x), (x, excObj C t0 none .none)] := fun p hp => by
      rcases List.mem_cons.mp hp with e | hp
      · subst e
        exact ⟨hu, Nat.ne_of_gt L1, none0 _ (by omega)⟩
      · have e : p = (x, excObj C t0 none .none) := by simpa using hp
        subst e
        exact ⟨hx3, Lne.symm, hxn⟩
    refine kxs_call (s := ⟨h2.push (kxs_mw "ValueError.__init__" x), g, d, _, os⟩) FR X₀ NW F.excBase_ValueError T.xin List.mem_cons_self (.tail (Nat.ne_of_gt lt2) (.head fun p hp => (nomatch hp))) (by show 0 ≤ sizeLine; decide) fun t1 h4 F4 N4 l4 => ?_
    refine wpAt_of_wpAny (wpAny_execs_nil ?_)
    refine hq h4 _ t1 (fun b o hb e => F4.keep b o (hideAll_get _ e (by simpa using hb))) (N4 (x, excObj C t1 none .none) (by simp)).1
/-- X() -/
theorem nil_made (S : SupDef prog K fI D) (T : NilC K C D fI) (X : K.In s.heap) (G : s.heap.Ns mainGlobals mg) (Bn : s.heap.Ns builtinsNs mb) (hbb : ∀ z : Str, z ≠ "__name__" → mb z = bootBuiltins z)
    (hlim : s.heap.NoLimit) (hroom : A.depth + 1 < recursionLimit)
    (hq : ∀ h' tk e t1, (∀ b o, s.heap.get? b = some o → h'.get? b = some o) → s.heap.objs.size ≤ e → h'.get? e = some (excObj C t1 none .none) → R (.ok (.ret (.ref e))) ⟨h', s.gens, s.drawn, tk, s.os⟩) :
    codeAny (model prog w) A (.call (.ref C) ⟨[], []⟩) R s := by
  obtain ⟨nm, q, N, bs, bm, sn, sub, ab, col, dd, k0, k1, k2, k3, k5, hC, hbm⟩ := T.cls
  obtain ⟨h0, g, d, tk, os⟩ := s
  have up : ∀ b o, h0.get? b = some o → ((h0.push (kdv_tup [])).push (PySem.HandSPX.excO C h0.objs.size)).get? b = some o := fun b o e => Heap.get?_push_of_some _ (Heap.get?_push_of_some _ e)
  have at1 : ((h0.push (kdv_tup [])).push (PySem.HandSPX.excO C h0.objs.size)).get? (h0.objs.size + 1) = some (PySem.HandSPX.excO C h0.objs.size) := by heap_get
  have new1 : K.lookup (h0.objs.size + 1) = none := by
    cases e : K.lookup (h0.objs.size + 1) with
    | none => rfl
    | some o => exact absurd (Nat.lt_of_succ_lt (Heap.lt_size (show h0.get? (h0.objs.size + 1) = some o from X _ _ e))) (Nat.lt_irrefl _)
  refine PySem.HandSPX.call_own F.excBase_ValueError (fun Y => PySem.HandSPX.refsVE_contains Y bm hbm) (X _ _ hC) (looks_findIn X T.ini) (fun self => bind_fn X self S.tI) (by show 0 ≤ sizeLine; decide) ?_
  refine nil_init (s := ⟨(h0.push (kdv_tup [])).push (PySem.HandSPX.excO C h0.objs.size), g, d, tk, os⟩) (x := h0.objs.size + 1) S T (X.keeps up) new1 (G.keeps up) (Bn.keeps up) hbb (hlim.keeps up) at1 (by show A.depth + 1 < recursionLimit; exact hroom) fun h2 tk2 t1 k2 e2 => ?_
  refine ⟨rfl, hq h2 tk2 (h0.objs.size + 1) t1 (fun b o e => k2 b o (Nat.ne_of_lt (Nat.lt_succ_of_lt (Heap.lt_size e))) (up b o e)) (Nat.le_succ _) e2⟩
end
open L2 in
/-- what the top has of an own error without arguments -/
structure NilX (prog : Program) (K : Frag) (mg : Str → Option Value) (x : Str) (C : Addr) : Prop where
  gC : mg x = some (.ref C)
  kC : keepIn K (.ref C) = true
  exC : subIn K (.ref C) (.type "BaseException") = some true
  tyC : typeIn K (.ref C) = some (.type "type")
  sd : ∃ D fI, SupDef prog K fI D ∧ NilC K C D fI
open L2 in
def tNil0 (C : Addr) : L2.St → Hp → XK → Prop := fun _ H Q => Q (.ref C) none H
open L2 in
theorem pmk_nil {X : Cx} {x : Str} {C : Addr} {k : Nat} {p pos : Pos} (T : NilX X.prog X.K X.mg x C) (hr : Room k X.A) (hg : Gl X x) (hd : (x == ("__debug__" : Str)) = false := by decide) : PMk X (.Call (.Name x p) [] [] pos) (tNil0 C) := by
  obtain ⟨D, fI, S, N⟩ := T.sd
  intro pins s σ H Q I h
  refine wpAny_Call_Name_kw (ld_glob I hg T.gC ?_ hd)
  refine callWith_K0 I.kIn T.kC ?_
  show wpAny _ _ (call (.ref C) []) _ _ _
  obtain ⟨mb, b1, b2⟩ := I.mod.blt
  refine wpAny_call (nil_made S N I.kIn (I.mod.glob.keeps I.bk) (b1.keeps I.bk) b2 I.nolimit (by have := hr.dp; omega) fun h' tk e t1 kk le he => ?_)
  have nw : s.heap.get? e = none := Heap.get?_none_of_le le
  exact ⟨e, _, _, s, H, .ref C, none, rfl, I, kk, nw, he, ⟨rfl, rfl⟩, rfl, rfl, I.hok.fresh le, rfl, I.bare, raises_own T.exC T.tyC, h⟩
end Hd
set_option maxHeartbeats 4000000
namespace Hd
open PySem PySem.Spec PyProof.Rows L2
def top (i : Nat) : Stmt := PySem.Challenge.pw_heapsdouble_k01_whole_steps.main.body.getD i (.Pass ⟨0, 0, 0, 0⟩)
/-! ### the draws -/
structure Tx (K : PySem.W.Frag) (mg : Str → Option Value) : Prop where
  int : mg "int" = none
  list : mg "list" = none
  max : mg "max" = none
  len : mg "len" = none
  tuple : mg "tuple" = none
  range : mg "range" = none
/-- the source of draws at h: [state, cells, index], the cells at c -/
structure DrawAt (H : Hp) (h c : Addr) : Prop where
  ex : ∃ (st ix : Int) (cells : List Int), H h = some (.lst [.int st, .ref c, .int ix]) ∧ H c = some (.lst (cells.map V.int)) ∧ cells.length ≤ 63
  ne : h ≠ c
/-- all but the source stands as it stood -/
def Kept (h c : Addr) (H H' : Hp) : Prop := ∀ a o, H a = some o → a ≠ h → a ≠ c → H' a = some o
theorem Kept.refl {h c : Addr} {H : Hp} : Kept h c H H := fun _ _ e _ _ => e
theorem Kept.of {h c : Addr} {H H' : Hp} (e : Same H H') : Kept h c H H' := fun a o q _ _ => e a o q
theorem Kept.trans {h c : Addr} {H H1 H2 : Hp} (a : Kept h c H H1) (b : Kept h c H1 H2) : Kept h c H H2 := fun x o e n m => b x o (a x o e n m) n m
theorem Kept.new {h c : Addr} {H H1 : Hp} {p : Addr} {o : HO} (a : Kept h c H H1) (hp : H p = none) : Kept h c H (upd H1 p o) := fun x u e n m => by
  rw [upd_ne (ne_of_none e hp)]
  exact a x u e n m
theorem Kept.at_h {h c : Addr} {H H1 : Hp} {o : HO} (a : Kept h c H H1) : Kept h c H (upd H1 h o) := fun x u e n m => by
  rw [upd_ne n]
  exact a x u e n m
theorem Kept.at_c {h c : Addr} {H H1 : Hp} {o : HO} (a : Kept h c H H1) : Kept h c H (upd H1 c o) := fun x u e n m => by
  rw [upd_ne m]
  exact a x u e n m
theorem DrawAt.new {H : Hp} {h c p : Addr} {o : HO} (d : DrawAt H h c) (hp : H p = none) : DrawAt (upd H p o) h c := by
  obtain ⟨⟨st, ix, cells, h1, h2, h3⟩, ne⟩ := d
  exact ⟨⟨st, ix, cells, by rw [upd_ne (ne_of_none h1 hp)]; exact h1, by rw [upd_ne (ne_of_none h2 hp)]; exact h2, h3⟩, ne⟩
theorem DrawAt.upd {H : Hp} {h c p : Addr} {o : HO} (d : DrawAt H h c) (hh : p ≠ h) (hc : p ≠ c) : DrawAt (upd H p o) h c := by
  obtain ⟨⟨st, ix, cells, h1, h2, h3⟩, ne⟩ := d
  exact ⟨⟨st, ix, cells, by rw [upd_ne (Ne.symm hh)]; exact h1, by rw [upd_ne (Ne.symm hc)]; exact h2, h3⟩, ne⟩
theorem DrawAt.same {H H' : Hp} {h c : Addr} (d : DrawAt H h c) (e : Same H H') : DrawAt H' h c := by
  obtain ⟨⟨st, ix, cells, h1, h2, h3⟩, ne⟩ := d
  exact ⟨⟨st, ix, cells, e _ _ h1, e _ _ h2, h3⟩, ne⟩
theorem DrawAt.nots {H : Hp} {h c p : Addr} (d : DrawAt H h c) (hp : H p = none) : p ≠ h ∧ p ≠ c := by
  obtain ⟨⟨st, ix, cells, h1, h2, h3⟩, ne⟩ := d
  exact ⟨(ne_of_none h1 hp).symm, (ne_of_none h2 hp).symm⟩
theorem Kept.free {h c p : Addr} {H H' : Hp} (k : Kept h c H H') (d : DrawAt H' h c) (hp : H' p = none) : H p = none := by
  obtain ⟨n1, n2⟩ := d.nots hp
  cases e : H p with
  | none => rfl
  | some o =>
    rw [k p o e n1 n2] at hp
    cases hp
theorem Kept.tup {K : PySem.W.Frag} {h c a : Addr} {H H' : Hp} {xs : List V} (k : Kept h c H H') (d : DrawAt H h c) (q : SqT K H a xs) : SqT K H' a xs := by
  obtain ⟨⟨st, ix, cells, h1, h2, h3⟩, ne⟩ := d
  rcases q with (q | ⟨o, q⟩) | q
  · exact .inl (.inl (k _ _ q (ne_of q h1 (by intro z; cases z)) (ne_of q h2 (by intro z; cases z))))
  · exact .inl (.inr ⟨o, k _ _ q (ne_of q h1 (by intro z; cases z)) (ne_of q h2 (by intro z; cases z))⟩)
  · exact .inr q
def spMix (K : PySem.W.Frag) : Sp := fun vs H Q _ => ∃ (a : Addr) (ns : List Int) (seed : Int), vs = [.ref a, .int seed] ∧ SqL K H a (ns.map V.int) ∧ ns.length ≤ 63 ∧
  ∀ (h c : Addr) (H' : Hp), H h = none → H c = none → Same H H' → DrawAt H' h c → Q (.ref h) H'
def spNext : Sp := fun vs H Q _ => ∃ (h c : Addr) (b : Int), vs = [.ref h, .int b] ∧ DrawAt H h c ∧ 0 < b ∧ b < 2 ^ 200 ∧
  ∀ (n : Int) (H' : Hp), 0 ≤ n → n < b → DrawAt H' h c → Kept h c H H' → Q (.int n) H'
/-- the place of the drawn cell -/
theorem draw_ix (cells : List Int) (ix : Int) : ∃ (j : Nat) (z : Int), ix % (if (cells.length : Int) > 1 then (cells.length : Int) else 1) = (j : Int) ∧ (cells.map V.int ++ [V.int 0])[j]? = some (.int z) ∧ (cells = [] → z = 0) ∧ (cells ≠ [] → j < cells.length ∧ (if (cells.length : Int) > 1 then (cells.length : Int) else 1) = (cells.length : Int)) := by
  have hm : 0 < (if (cells.length : Int) > 1 then (cells.length : Int) else 1) := by split <;> omega
  have h0 := Int.emod_nonneg ix (Int.ne_of_gt hm)
  have h1 := Int.emod_lt_of_pos ix hm
  obtain ⟨j, hj⟩ := Int.eq_ofNat_of_zero_le h0
  rw [hj] at h1
  cases cells with
  | nil =>
    refine ⟨j, 0, hj, ?_, fun _ => rfl, fun h => absurd rfl h⟩
    simp at h1
    have : j = 0 := by omega
    subst this
    rfl
  | cons x r =>
    have hm2 : (if (((x :: r).length : Nat) : Int) > 1 then (((x :: r).length : Nat) : Int) else 1) = (((x :: r).length : Nat) : Int) := by
      split
      · rfl
      · have : (((x :: r).length : Nat) : Int) ≥ 1 := by rw [List.length_cons]; omega
        omega
    rw [hm2] at h1
    have hlt : j < (x :: r).length := by omega
    refine ⟨j, (x :: r)[j], hj, ?_, fun h => (nomatch h), fun _ => ⟨hlt, hm2⟩⟩
    rw [List.getElem?_append_left (by rw [List.length_map]; exact hlt), List.getElem?_map, List.getElem?_eq_getElem hlt]
    rfl
theorem int_at {ns : List Int} {i : Nat} {y : V} (hi : (ns.map V.int)[i]? = some y) : ∃ z, ns[i]? = some z ∧ y = V.int z := by
  rw [List.getElem?_map] at hi
  cases e : ns[i]? with
  | none =>
    rw [e] at hi
    cases hi
  | some z =>
    rw [e] at hi
    exact ⟨z, rfl, (Option.some.inj hi).symm⟩
section
variable {P : Program} {w : World} {K : PySem.W.Frag} {mg : Str → Option Value} {base : Heap}
abbrev s_l_mix : Stmt := top 27
theorem sc_l_mix : FnScope ["_law_script", "_law_seed", "_law_state", "_law_cell"] ["_law_script", "_law_seed"] (defScope s_l_mix) := ⟨rfl, rfl, rfl, by decide +kernel, rfl, by decide +kernel, by decide +kernel⟩
theorem ok_mix {f : Addr} {fd : FuncData} (F : Fun K "_law_mix" "_law_mix" s_l_mix f fd) (T : Tx K mg) : FnOk P w K mg base CX0 1 f fd ["_law_script", "_law_seed"] (spMix K) := by
  refine F.ok sc_l_mix (fun vs H Q E h => ?_) (fun cdv A outer s H vs Q E hr h => ?_)
  · obtain ⟨a, ns, seed, rfl, _⟩ := h
    rfl
  · obtain ⟨a, ns, seed, rfl, hS, hlen, k⟩ := h
    refine ⟨_, (pss_cons (ps_set (i := 2) sc_l_mix.nd rfl (Or.inl rfl) (pv 1))
      (pss_cons (ps_for PassesOwn.never rfl (pi_list (pv 0)) (pg_name (i := 3) sc_l_mix.nd rfl (Or.inl rfl))
      (pss_one (ps_set (i := 2) sc_l_mix.nd rfl (Or.inl rfl) (pe_op op_mod (pe_callTy call_int1 (by rfl) T.int (by decide +kernel) (pa_cons (pe_op op_add (pe_op op_add (pe_op op_mul (pv 2) pe_int) (pe_op op_mod (pe_callTy call_int1 (by rfl) T.int (by decide +kernel) (pa_cons (pv 3) pa_nil)) pe_int)) pe_int) pa_nil)) pe_int))))
      (pss_one (ps_ret (pe_lst (pa_cons (pv 2) (pa_cons (pe_callTy call_list_of (by rfl) T.list (by decide +kernel) (pa_cons (pv 0) pa_nil)) (pa_cons pe_int pa_nil)))))))), ?_⟩
    refine ⟨_, rfl, _, rfl, a, rfl, ⟨_, hS⟩, for_list (K := K) (a := a) (xs := ns.map V.int) (fun i σ H2 => ∃ (st : Int) (v : Option V), σ = [some (.ref a), some (.int seed), some (.int st), v] ∧ H2 = H)
      ⟨seed, none, rfl, rfl⟩ (fun i σ H2 _ ⟨_, _, _, e⟩ => by rw [e]; exact hS) ?_ ?_⟩
    · rintro i y σ H2 hi ⟨st, v, rfl, rfl⟩
      obtain ⟨z, _, rfl⟩ := int_at hi
      refine ⟨_, rfl, _, _, rfl, rfl, .inr ⟨by decide, by decide⟩, _, rfl, .inl ⟨_, rfl, _, _, rfl, rfl, (by show (0 : Int) < 2147483629; decide), _, _, rfl, rfl, _, _, rfl, rfl, .inl ⟨_, rfl, _, _, rfl, rfl, (by show (0 : Int) < 2147483647; decide), ?_⟩⟩⟩
      exact ⟨_, _, rfl, rfl⟩
    · rintro σ H2 ⟨st, v, rfl, rfl⟩
      refine ⟨_, rfl, _, rfl, a, _, rfl, .inl hS, fun c hc => ⟨by show 3 ≤ sizeLine; decide, fun h hh => ?_⟩⟩
      have hch : h ≠ c := fun e => by
        rw [e, upd_same] at hh
        cases hh
      have hh0 : H2 h = none := by
        rw [upd_ne hch] at hh
        exact hh
      refine k h c _ hh0 hc (same_upd (same_upd (Same.refl _) hc) hh0) ⟨⟨st, 0, ns, upd_same, by rw [upd_ne hch.symm, upd_same], hlen⟩, hch⟩
abbrev s_l_next : Stmt := top 28
theorem sc_l_next : FnScope ["_law_h", "_law_bound", "_law_cell", "_law_cells"] ["_law_h", "_law_bound"] (defScope s_l_next) := ⟨rfl, rfl, rfl, by decide +kernel, rfl, by decide +kernel, by decide +kernel⟩
theorem ok_next {f : Addr} {fd : FuncData} (F : Fun K "_law_next" "_law_next" s_l_next f fd) (T : Tx K mg) : FnOk P w K mg base CX0 1 f fd ["_law_h", "_law_bound"] spNext := by
  refine F.ok sc_l_next (fun vs H Q E h => ?_) (fun cdv A outer s H vs Q E hr h => ?_)
  · obtain ⟨a, c, b, rfl, _⟩ := h
    rfl
  · obtain ⟨h, c, b, rfl, D, hb, hb2, k⟩ := h
    obtain ⟨⟨st, ix, cells, hh, hc, hl⟩, hne0⟩ := id D
    refine ⟨_, (pss_cons (ps_set (i := 2) sc_l_next.nd rfl (Or.inl rfl) (pe_ix ix_list (pe_op op_cat (pe_ix ix_list (pv 0) pe_int (fun _ _ => rfl)) (pe_lst (pa_cons pe_int pa_nil))) (pe_op op_mod (pe_callTy call_int1 (by rfl) T.int (by decide +kernel) (pa_cons (pe_ix ix_list (pv 0) pe_int (fun _ _ => rfl)) pa_nil)) (pe_callB (call_max2 rfl) (by rfl) T.max (by decide +kernel) (pa_cons pe_int (pa_cons (pe_callB call_len_seq (by rfl) T.len PySem.boot_len (pa_cons (pe_ix ix_list (pv 0) pe_int (fun _ _ => rfl)) pa_nil)) pa_nil)))) (fun _ _ => rfl)))
      (pss_cons (ps_if (pt_cmpR op_ge (pv 2) (pe_op op_pow pe_int pe_int) (nomark _)) (pss_cons (ps_set (i := 3) sc_l_next.nd rfl (Or.inl rfl) (pe_ix ix_list (pv 0) pe_int (fun _ _ => rfl)))
      (pss_cons (ps_asg (pe_op op_fdivW (pv 2) (pv 1)) (pg_sub (pv 3) (pe_op op_mod (pe_callTy call_int1 (by rfl) T.int (by decide +kernel) (pa_cons (pe_ix ix_list (pv 0) pe_int (fun _ _ => rfl)) pa_nil)) (pe_callB call_len_seq (by rfl) T.len PySem.boot_len (pa_cons (pv 3) pa_nil))) set_list))
      (pss_one (ps_ret (pe_op op_mod (pe_callTy call_int1 (by rfl) T.int (by decide +kernel) (pa_cons (pv 2) pa_nil)) (pv 1)))))) pss_nil)
      (pss_cons (ps_asg (pe_op op_mod (pe_callTy call_int1 (by rfl) T.int (by decide +kernel) (pa_cons (pe_op op_add (pe_op op_add (pe_op op_mul (pe_ix ix_list (pv 0) pe_int (fun _ _ => rfl)) pe_int) (pe_op op_mul (pv 2) pe_int)) pe_int) pa_nil)) pe_int) (pg_sub (pv 0) pe_int set_list))
      (pss_cons (ps_asg (pe_op op_add (pe_ix ix_list (pv 0) pe_int (fun _ _ => rfl)) pe_int) (pg_sub (pv 0) pe_int set_list))
      (pss_one (ps_ret (pe_op op_mod (pe_callTy call_int1 (by rfl) T.int (by decide +kernel) (pa_cons (pe_op op_fdiv (pe_ix ix_list (pv 0) pe_int (fun _ _ => rfl)) pe_int) pa_nil)) (pv 1)))))))), ?_⟩
    obtain ⟨j, z, ej, ez, e0, e1⟩ := draw_ix cells ix
    -- _law_cell
    refine ⟨_, rfl, h, _, _, _, rfl, rfl, SqL.of hh, rfl, by show 1 ≤ sizeLine; decide, fun p hp => ?_⟩
    have nph : h ≠ p := ne_of_none hh hp
    have npc : c ≠ p := ne_of_none hc hp
    refine ⟨c, p, _, _, rfl, rfl, by rw [upd_ne npc]; exact hc, upd_same, ?_, fun q hq => ?_⟩
    · rw [List.length_map, sizeLine_eq]
      show cells.length + 1 ≤ _
      omega
    have nqp : p ≠ q := ne_of_none upd_same hq
    have hq' : H q = none := by
      rw [upd_ne nqp.symm] at hq
      exact hq
    have nqh : h ≠ q := ne_of_none hh hq'
    have nqc : c ≠ q := ne_of_none hc hq'
    have hh2 : (upd (upd H p (.lst [.int 0])) q (.lst (cells.map V.int ++ [.int 0]))) h = some (.lst [.int st, .ref c, .int ix]) := by rw [upd_ne nqh, upd_ne nph]; exact hh
    have hc2 : (upd (upd H p (.lst [.int 0])) q (.lst (cells.map V.int ++ [.int 0]))) c = some (.lst (cells.map V.int)) := by rw [upd_ne nqc, upd_ne npc]; exact hc
    have hq2 : (upd (upd H p (.lst [.int 0])) q (.lst (cells.map V.int ++ [.int 0]))) q = some (.lst (cells.map V.int ++ [.int 0])) := upd_same
    have kk : Kept h c H (upd (upd H p (.lst [.int 0])) q (.lst (cells.map V.int ++ [.int 0]))) := (Kept.refl.new hp).new hq'
    generalize upd (upd H p (.lst [.int 0])) q (.lst (cells.map V.int ++ [.int 0])) = H2 at hh2 hc2 hq2 kk ⊢
    refine ⟨_, rfl, h, _, _, _, rfl, rfl, SqL.of hh2, rfl, .inl ⟨_, rfl, _, rfl, h, _, _, _, rfl, rfl, SqL.of hh2, rfl, c, _, rfl, .inl (SqL.of hc2), _, _, rfl, ?_⟩⟩
    rw [List.length_map]
    refine ⟨_, _, rfl, rfl, (by split <;> omega), q, _, _, _, rfl, rfl, SqL.of hq2, at_of ej ez, ?_⟩
    -- if _law_cell >= 10 ** 18
    refine ⟨_, rfl, _, _, rfl, rfl, ⟨by decide, by decide, by decide⟩, _, _, rfl, rfl, _, rfl, ?_⟩
    refine ite2 (fun hge => ?_) (fun _ => ?_)
    · have hz : (10 : Int) ^ 18 ≤ z := of_decide_eq_true hge
      have hz0 : z ≠ 0 := by omega
      have hne : cells ≠ [] := fun e => hz0 (e0 e)
      obtain ⟨hj, em⟩ := e1 hne
      rw [em] at ej
      refine ⟨_, rfl, h, _, _, _, rfl, rfl, SqL.of hh2, rfl, _, rfl, _, rfl, _, _, rfl, rfl, wide_div hb (b := 200) ?_ (by decide) (by decide), ?_⟩
      · omega
      refine ⟨_, rfl, _, rfl, h, _, _, _, rfl, rfl, SqL.of hh2, rfl, .inl ⟨_, rfl, _, rfl, c, _, rfl, .inl (SqL.of hc2), _, _, rfl, rfl, ?_, ?_⟩⟩
      · rw [List.length_map]
        omega
      refine ⟨c, _, _, j, rfl, rfl, hc2, ?_, ?_⟩
      · rw [List.length_map, ej]
        unfold ixN
        rw [if_pos (by omega), if_pos (by omega)]
        simp
      refine ⟨_, rfl, .inl ⟨_, rfl, _, rfl, _, _, rfl, rfl, hb, ?_⟩⟩
      refine k _ _ (Int.emod_nonneg _ (by omega)) (Int.emod_lt_of_pos _ hb) ⟨⟨st, ix, cells.set j (z / b), ?_, ?_, by rw [List.length_set]; exact hl⟩, hne0⟩ kk.at_c
      · rw [upd_ne hne0]
        exact hh2
      · rw [upd_same, List.map_set]
    · -- _law_h[0] = ..
      refine ⟨_, rfl, h, _, _, _, rfl, rfl, SqL.of hh2, rfl, _, _, rfl, rfl, .inr ⟨by decide, by decide⟩, _, rfl, _, _, rfl, rfl, .inr ⟨by decide, by decide⟩, _, _, rfl, rfl, _, _, rfl, rfl, .inl ⟨_, rfl, _, _, rfl, rfl, (by show (0 : Int) < 2147483647; decide), ?_⟩⟩
      refine ⟨_, rfl, h, _, _, 0, rfl, rfl, hh2, rfl, ?_⟩
      -- _law_h[2] = _law_h[2] + 1
      refine ⟨_, rfl, h, _, _, _, rfl, rfl, SqL.of upd_same, rfl, _, _, rfl, rfl, _, rfl, h, _, _, 2, rfl, rfl, upd_same, rfl, ?_⟩
      refine ⟨_, rfl, h, _, _, _, rfl, rfl, SqL.of upd_same, rfl, _, _, rfl, rfl, ⟨by decide, by decide⟩, .inl ⟨_, rfl, _, rfl, _, _, rfl, rfl, hb, ?_⟩⟩
      refine k _ _ (Int.emod_nonneg _ (by omega)) (Int.emod_lt_of_pos _ hb) ⟨⟨_, _, cells, upd_same, ?_, hl⟩, hne0⟩ kk.at_h.at_h
      rw [upd_ne hne0.symm, upd_ne hne0.symm]
      exact hc2
/-- heaps are drawn: so many, none below 0, not all empty -/
structure HeapsOk (least most : Nat) (ns : List Int) : Prop where
  lo : least ≤ ns.length
  hi : ns.length ≤ most
  ge : ∀ n ∈ ns, 0 ≤ n
  le : ∀ n ∈ ns, n ≤ 10 ^ 30
  pos : ∃ n ∈ ns, 0 < n
def spHeaps : Sp := fun vs H Q _ => ∃ (h c : Addr) (least most : Nat), vs = [.ref h, .int (least : Int), .int (most : Int)] ∧ DrawAt H h c ∧ 1 ≤ least ∧ least ≤ most ∧ most ≤ 6 ∧
  ∀ (t : Addr) (ns : List Int) (H' : Hp), HeapsOk least most ns → H t = none → H' t = some (.tup (ns.map V.int)) → DrawAt H' h c → Kept h c H H' → Q (.ref t) H'
theorem pick5 {x0 x1 x2 x3 x4 : Int} {n : Int} (h0 : 0 ≤ n) (h5 : n < 5) : ∃ z, atI [V.int x0, V.int x1, V.int x2, V.int x3, V.int x4] n = some (V.int z) ∧ z ∈ [x0, x1, x2, x3, x4] := by
  have : n = 0 ∨ n = 1 ∨ n = 2 ∨ n = 3 ∨ n = 4 := by omega
  rcases this with e | e | e | e | e <;> subst e <;> exact ⟨_, rfl, by simp⟩
abbrev s_l_heaps : Stmt := top 29
theorem sc_l_heaps : FnScope ["_law_h", "_law_least", "_law_most", "_law_size", "_law_far", "_law_part", "_law_found", "_law_k"] ["_law_h", "_law_least", "_law_most"] (defScope s_l_heaps) := ⟨rfl, rfl, rfl, by decide +kernel, rfl, by decide +kernel, by decide +kernel⟩
theorem ok_heaps {f : Addr} {fd : FuncData} (F : Fun K "_law_heaps" "_law_heaps" s_l_heaps f fd) (T : Tx K mg) (C_l_next : Cal P w K mg base CX0 1 "_law_next" ["_law_h", "_law_bound"] spNext) : FnOk P w K mg base CX0 2 f fd ["_law_h", "_law_least", "_law_most"] spHeaps := by
  refine F.ok sc_l_heaps (fun vs H Q E h => ?_) (fun cdv A outer s H vs Q E hr h => ?_)
  · obtain ⟨a, c, l, m, rfl, _⟩ := h
    rfl
  · obtain ⟨h, c, least, most, rfl, D, h1, h2, h3, k⟩ := h
    refine ⟨_, (pss_cons (ps_set (i := 3) sc_l_heaps.nd rfl (Or.inl rfl) (pe_op op_add (pv 1) (pe_cal C_l_next hr rfl pass0 (pa_cons (pv 0) (pa_cons (pe_op op_add (pe_op op_sub (pv 2) (pv 1)) pe_int) pa_nil)))))
      (pss_cons (ps_set (i := 4) sc_l_heaps.nd rfl (Or.inr rfl) (pe_ix ix_list (pe_lst (pa_cons pe_int (pa_cons pe_int (pa_cons pe_int (pa_cons (pe_op op_pow pe_int pe_int) (pa_cons (pe_op op_pow pe_int pe_int) pa_nil)))))) (pe_cal C_l_next hr rfl pass0 (pa_cons (pv 0) (pa_cons pe_int pa_nil))) (fun _ _ => rfl)))
      (pss_cons (ps_set (i := 5) sc_l_heaps.nd rfl (Or.inr rfl) (pe_ix ix_list (pe_lst (pa_cons pe_int (pa_cons pe_int (pa_cons pe_int (pa_cons pe_int (pa_cons pe_int pa_nil)))))) (pe_cal C_l_next hr rfl pass0 (pa_cons (pv 0) (pa_cons pe_int pa_nil))) (fun _ _ => rfl)))
      (pss_cons (ps_setLc (i := 6) (own := [("_law_k", 7)]) (g := gName 7) (by rfl) sc_l_heaps.nd rfl rfl (sw_true rfl rfl rfl (by decide +kernel)) (pi_range1 rfl T.range (pa_cons (pv 3) pa_nil)) (blkOk_by (own := [("_law_k", 7)]) (N := ["_law_h", "_law_least", "_law_most", "_law_size", "_law_far", "_law_part", "_law_found", "_law_k"]) (sc := defScope s_l_heaps) (by decide +kernel)) (fun _ _ _ _ _ => pg_name (i := 7) sc_l_heaps.nd rfl (Or.inl rfl)) (fun _ _ _ _ _ => pts_nil) (fun _ _ _ _ _ => (pe_op op_mul (pv 5) (pe_cal C_l_next hr rfl pass0 (pa_cons (pv 0) (pa_cons (pv 4) pa_nil))))))
      (pss_cons (ps_if (pt_cmpR op_eq (pe_callB (cr_max rfl) (by rfl) T.max (by decide +kernel) (pa_cons (pv 6) pa_nil)) pe_int (nomark _)) (pss_one (ps_asg (pv 5) (pg_sub (pv 6) (pe_cal C_l_next hr rfl pass0 (pa_cons (pv 0) (pa_cons (pv 3) pa_nil))) set_list))) pss_nil)
      (pss_one (ps_ret (pe_callTy call_tuple_of (by rfl) T.tuple (by decide +kernel) (pa_cons (pv 6) pa_nil))))))))), ?_⟩
    -- _law_size
    refine ⟨_, rfl, _, rfl, _, rfl, _, rfl, _, _, rfl, rfl, _, _, rfl, rfl, h, c, _, rfl, D, by omega, by omega, fun n1 H1 l1 u1 D1 k1 => ⟨_, _, rfl, rfl, ?_⟩⟩
    obtain ⟨n1, rfl⟩ := Int.eq_ofNat_of_zero_le l1
    -- _law_far
    refine ⟨_, _, rfl, rfl, ⟨by decide, by decide, by decide⟩, _, _, rfl, rfl, ⟨by decide, by decide, by decide⟩, by show 5 ≤ sizeLine; decide, fun p hp => ?_⟩
    refine ⟨_, rfl, h, c, _, rfl, D1.new hp, by omega, by omega, fun n2 H2 l2 u2 D2 k2 => ?_⟩
    obtain ⟨np1, np2⟩ := D1.nots hp
    obtain ⟨far, e2, far_in⟩ := pick5 (x0 := 4) (x1 := 9) (x2 := 60) (x3 := 10 ^ (15 : Int).toNat) (x4 := 10 ^ (29 : Int).toNat) l2 u2
    refine ⟨p, _, _, _, rfl, rfl, SqL.of (k2 p _ upd_same np1 np2), e2, ?_⟩
    have hfar : 0 < far ∧ far ≤ 10 ^ 29 := by
      simp only [List.mem_cons, List.mem_nil_iff, or_false] at far_in
      rcases far_in with e | e | e | e | e <;> subst e <;> decide
    have k2' : Kept h c H H2 := (k1.new (k1.free D1 hp)).trans k2
    -- _law_part
    refine ⟨by show 5 ≤ sizeLine; decide, fun p3 hp3 => ?_⟩
    refine ⟨_, rfl, h, c, _, rfl, D2.new hp3, by omega, by omega, fun n3 H3 l3 u3 D3 k3 => ?_⟩
    obtain ⟨mp1, mp2⟩ := D2.nots hp3
    obtain ⟨part, e3, part_in⟩ := pick5 (x0 := 1) (x1 := 1) (x2 := 2) (x3 := 3) (x4 := 8) l3 u3
    refine ⟨p3, _, _, _, rfl, rfl, SqL.of (k3 p3 _ upd_same mp1 mp2), e3, ?_⟩
    have hpart : 1 ≤ part ∧ part ≤ 8 := by
      simp only [List.mem_cons, List.mem_nil_iff, or_false] at part_in
      rcases part_in with e | e | e | e | e <;> subst e <;> decide
    have k3' : Kept h c H H3 := (k2'.new (k2'.free D2 hp3)).trans k3
    -- _law_found
    refine ⟨_, rfl, _, rfl, by omega, by omega, ?_⟩
    have esz : ((least : Int) + (n1 : Int)).toNat = least + n1 := by omega
    rw [esz]
    intro DD hDD
    obtain ⟨dd1, dd2⟩ := D3.nots hDD
    refine lc_range (lo := 0) (n := least + n1) (fun i H4 => ∃ ms : List Int, H4 DD = some (.lst (ms.map V.int)) ∧ ms.length = i ∧ (∀ m ∈ ms, 0 ≤ m ∧ m ≤ 8 * 10 ^ 29) ∧ DrawAt H4 h c ∧ Kept h c H H4) ?_ ?_ ?_
    · exact ⟨[], upd_same, rfl, fun m hm => (nomatch hm), D3.new hDD, k3'.new (k3'.free D3 hDD)⟩
    · rintro i H4 hi ⟨ms, hms, hlen, hb, D4, k4⟩
      refine ⟨rfl, _, rfl, _, rfl, _, rfl, h, c, far, rfl, D4, hfar.1, by omega, fun n H5 l5 u5 D5 k5 => ⟨_, _, rfl, rfl, .inl ⟨by omega, by omega⟩, ms.map V.int, k5 DD _ hms dd1 dd2, ?_, ?_⟩⟩
      · rw [List.length_map, sizeLine_eq]
        omega
      refine ⟨ms ++ [part * n], by rw [upd_same, List.map_append]; rfl, by rw [List.length_append, hlen]; rfl, fun m hm => ?_, D5.upd dd1 dd2, (k4.trans k5).new (k3'.free D3 hDD)⟩
      rcases List.mem_append.mp hm with hm | hm
      · exact hb m hm
      · have em : m = part * n := by simpa using hm
        subst em
        refine ⟨Int.mul_nonneg (by omega) l5, ?_⟩
        have q := Int.mul_le_mul (a := part) (b := n) (c := 8) (d := 10 ^ 29) hpart.2 (by omega) l5 (by omega)
        exact q
    · rintro H4 ⟨ms, hms, hlen, hb, D4, k4⟩
      have hlen' : ms.length ≤ most := by omega
      have hpos : 0 < ms.length := by omega
      refine ⟨_, rfl, DD, ms, rfl, SqL.of hms, hpos, fun m hm hle => ⟨rfl, _, rfl, ?_⟩⟩
      refine ite2 (fun hz => ?_) (fun hz => ?_)
      · refine ⟨_, rfl, _, rfl, _, rfl, _, rfl, h, c, _, rfl, D4, by omega, by omega, fun n H5 l5 u5 D5 k5 => ?_⟩
        obtain ⟨n, rfl⟩ := Int.eq_ofNat_of_zero_le l5
        have hn : n < ms.length := by omega
        refine ⟨DD, _, _, n, rfl, rfl, k5 DD _ hms dd1 dd2, ?_, ?_⟩
        · rw [List.length_map]
          unfold ixN
          rw [if_pos (by omega), if_pos (by omega)]
          simp
        refine ⟨_, rfl, DD, _, rfl, .inl ⟨SqL.of upd_same, fun t ht => ?_⟩⟩
        have htD : t ≠ DD := fun e => by
          rw [e, upd_same] at ht
          cases ht
        have D6 := D5.upd (o := .lst ((ms.map V.int).set n (.int part))) dd1 dd2
        have k6 : Kept h c H (upd H5 DD (.lst ((ms.map V.int).set n (.int part)))) := (k4.trans k5).new (k3'.free D3 hDD)
        refine k t (ms.set n part) _ ⟨by rw [List.length_set]; omega, by rw [List.length_set]; omega, fun y hy => ?_, fun y hy => ?_, ⟨part, ?_, by omega⟩⟩ (k6.free D6 ht) (by rw [upd_same, List.map_set]) (D6.new ht) (k6.new (k6.free D6 ht))
        · rcases List.mem_or_eq_of_mem_set hy with hy | hy
          · exact (hb y hy).1
          · omega
        · rcases List.mem_or_eq_of_mem_set hy with hy | hy
          · have := (hb y hy).2
            omega
          · omega
        · exact List.mem_iff_getElem?.mpr ⟨n, by rw [List.getElem?_set_self hn]⟩
      · refine ⟨_, rfl, DD, _, rfl, .inl ⟨SqL.of hms, fun t ht => ?_⟩⟩
        have hm0 : m ≠ 0 := fun e => hz (decide_eq_true (by rw [e]))
        have := (hb m hm).1
        refine k t ms _ ⟨by omega, hlen', fun y hy => (hb y hy).1, fun y hy => ?_, ⟨m, hm, by omega⟩⟩ (k4.free D4 ht) upd_same (D4.new ht) (k4.new (k4.free D4 ht))
        have := (hb y hy).2
        omega
end
end Hd
set_option maxHeartbeats 4000000
namespace Hd
open PySem PySem.Spec PyProof.Rows L2
theorem pe_gint {X : Cx} {x : Str} {v : Int} {pos : Pos} (hg : Gl X x) (hm : ∃ t, X.mg x = some (.int v t)) (hd : (x == ("__debug__" : Str)) = false := by decide) : PE X (.Name x pos) (tC (.int v)) := by
  obtain ⟨t, hm⟩ := hm
  exact pe_glob hg hm ⟨t, rfl⟩ hd
theorem tyx_tup {K : PySem.W.Frag} {H : Hp} {a : Addr} {xs : List V} (h : SqT K H a xs) : TyX K H (.ref a) (.type "tuple") := by
  rcases h with (h | ⟨o, h⟩) | ⟨o, its, n, hk, hc, _⟩
  · exact .base (.tup h)
  · exact .fTuple h
  · exact .kTuple hk hc
/-- what the program's top gives its defs -/
structure Tp (K : PySem.W.Frag) (mg : Str → Option Value) : Prop where
  int : mg "int" = none
  bool : mg "bool" = none
  list : mg "list" = none
  len : mg "len" = none
  tuple : mg "tuple" = none
  isinstance : mg "isinstance" = none
  all : mg "all" = none
  sum : mg "sum" = none
  enumerate : mg "enumerate" = none
  range : mg "range" = none
  c_FEWEST_HEAPS : ∃ t, mg "FEWEST_HEAPS" = some (.int 2 t)
  c_MOST_HEAPS : ∃ t, mg "MOST_HEAPS" = some (.int 6 t)
  c_GREATEST : ∃ t, mg "GREATEST" = some (.int (10 ^ 30) t)
/-! ### the mirror -/
def inR (l g v : Int) : Bool := decide (l ≤ v) && decide (v ≤ g)
def hpsB (ns : List Int) : Bool := (decide (2 ≤ ns.length) && decide (ns.length ≤ 6)) && ((ns.map (inR 0 (10 ^ 30))).all id && decide (0 < ns.sum))
theorem getD_at {ns : List Int} {i : Nat} (h : i < ns.length) : (ns.map V.int)[i]? = some (.int (ns.getD i 0)) := by
  rw [List.getElem?_map, List.getElem?_eq_getElem h]
  show some (V.int ns[i]) = _
  congr 2
  rw [List.getD_eq_getElem?_getD, List.getElem?_eq_getElem h]
  rfl
theorem ixN_nat {n i : Nat} (h : i < n) : ixN n (i : Int) = some i := by
  unfold ixN
  rw [if_pos (by omega), if_pos (by omega)]
  simp
/-! ### the promises -/
def spIsInt : Sp := fun vs H Q _ => ∃ v l g : Int, vs = [.int v, .int l, .int g] ∧ Q (.bl (inR l g v)) H
def spIsHeaps (K : PySem.W.Frag) : Sp := fun vs H Q _ => ∃ (t : Addr) (ns : List Int), vs = [.ref t] ∧ SqT K H t (ns.map V.int) ∧ ns.length ≤ 1000 ∧ ∀ H', Same H H' → Q (.bl (hpsB ns)) H'
def spChkHeaps (K : PySem.W.Frag) : Sp := fun vs H Q _ => ∃ (t : Addr) (ns : List Int), vs = [.ref t] ∧ SqT K H t (ns.map V.int) ∧ hpsB ns = true ∧ ∀ H', Same H H' → Q .non H'
section
variable {P : Program} {w : World} {K : PySem.W.Frag} {mg : Str → Option Value} {base : Heap}
abbrev s_is_integer : Stmt := top 16
theorem sc_is_integer : FnScope ["value", "least", "greatest"] ["value", "least", "greatest"] (defScope s_is_integer) := ⟨rfl, rfl, rfl, by decide +kernel, rfl, by decide +kernel, by decide +kernel⟩
theorem ok_is_integer {f : Addr} {fd : FuncData} (F : Fun K "is_integer" "is_integer" s_is_integer f fd) (T : Tp K mg) : FnOk P w K mg base CX0 1 f fd ["value", "least", "greatest"] spIsInt := by
  refine F.ok sc_is_integer (fun vs H Q E h => ?_) (fun cdv A outer s H vs Q E hr h => ?_)
  · obtain ⟨v, l, g, rfl, _⟩ := h
    rfl
  · obtain ⟨v, l, g, rfl, k⟩ := h
    refine ⟨_, (pss_cons (ps_if (PW.pt (pw_or (pt_val (pe_callB call_isi (by rfl) T.isinstance (by decide +kernel) (pa_cons (pv 0) (pa_cons (pe_bltn (v := .ty "bool") (u := .type "bool") (by rfl) T.bool (by decide +kernel) rfl) pa_nil)))) (pw_or1 (pt_not (pt_val (pe_callB call_isi (by rfl) T.isinstance (by decide +kernel) (pa_cons (pv 0) (pa_cons (pe_bltn (v := .ty "int") (u := .type "int") (by rfl) T.int (by decide +kernel) rfl) pa_nil)))))))) (pss_one (ps_ret pe_bl)) pss_nil)
      (pss_one (ps_ret (pe_chain op_le op_le (pv 1) (pv 0) (pv 2))))), ?_⟩
    refine ⟨_, rfl, _, _, _, _, false, rfl, ClsV.ty _, .base (.int _), kit_ty (by decide +kernel), _, rfl, ?_⟩
    refine iteF ⟨_, rfl, _, _, _, _, true, rfl, ClsV.ty _, .base (.int _), kit_ty (by decide +kernel), _, rfl, ?_⟩
    refine iteF ?_
    refine ⟨_, rfl, _, rfl, _, _, rfl, rfl, _, rfl, ?_⟩
    unfold inR at k
    cases hd : decide (l ≤ v) with
    | false =>
      rw [hd] at k
      exact iteF k
    | true =>
      rw [hd] at k
      exact iteT ⟨_, rfl, _, _, rfl, rfl, k⟩
abbrev s_is_heaps : Stmt := top 17
theorem sc_is_heaps : FnScope ["value", "heap"] ["value"] (defScope s_is_heaps) := ⟨rfl, rfl, rfl, by decide +kernel, rfl, by decide +kernel, by decide +kernel⟩
theorem ok_is_heaps {f : Addr} {fd : FuncData} (F : Fun K "is_heaps" "is_heaps" s_is_heaps f fd) (T : Tp K mg) (C_is_integer : Cal P w K mg base CX0 1 "is_integer" ["value", "least", "greatest"] spIsInt) : FnOk P w K mg base CX0 2 f fd ["value"] (spIsHeaps K) := by
  refine F.ok sc_is_heaps (fun vs H Q E h => ?_) (fun cdv A outer s H vs Q E hr h => ?_)
  · obtain ⟨t, ns, rfl, _⟩ := h
    rfl
  · obtain ⟨t, ns, rfl, hS, hl, k⟩ := h
    refine ⟨_, (pss_cons (ps_if (PW.pt (pw_or (pt_not (pt_val (pe_callB call_isi (by rfl) T.isinstance (by decide +kernel) (pa_cons (pv 0) (pa_cons (pe_bltn (v := .ty "tuple") (u := .type "tuple") (by rfl) T.tuple (by decide +kernel) rfl) pa_nil))))) (pw_or1 (pt_not (pt_chain op_le op_le (pe_gint rfl T.c_FEWEST_HEAPS) (pe_callB call_len_seq (by rfl) T.len PySem.boot_len (pa_cons (pv 0) pa_nil)) (pe_gint rfl T.c_MOST_HEAPS)))))) (pss_one (ps_ret pe_bl)) pss_nil)
      (pss_one (ps_ret (pe_and (pe_callB (cr_all rfl) (by rfl) T.all (by decide +kernel) (pa_cons (pe_lc (own := [("heap", 1)]) (g := gName 1) (by rfl) sc_is_heaps.nd (pi_tup (pv 0)) (blkOk_by (own := [("heap", 1)]) (N := ["value", "heap"]) (sc := defScope s_is_heaps) (by decide +kernel)) (fun _ _ _ _ _ => pg_name (i := 1) sc_is_heaps.nd rfl (Or.inl rfl)) (fun _ _ _ _ _ => pts_nil) (fun _ _ _ _ _ => (pe_cal C_is_integer hr rfl pass0 (pa_cons (pv 1) (pa_cons pe_int (pa_cons (pe_gint rfl T.c_GREATEST) pa_nil)))))) pa_nil)) (pe_one (pe_cmpR op_gt (pe_callB (cr_sumT rfl) (by rfl) T.sum (by decide +kernel) (pa_cons (pv 0) pa_nil)) pe_int (nomark _))))))), ?_⟩
    refine ⟨_, rfl, _, _, _, _, true, rfl, ClsV.ty _, tyx_tup hS, kit_ty (by decide +kernel), _, rfl, ?_⟩
    refine iteF ?_
    refine ⟨_, rfl, t, _, rfl, .inr hS, _, _, rfl, rfl, _, rfl, ?_⟩
    unfold hpsB at k
    rw [List.length_map]
    cases h2 : decide (2 ≤ ns.length) with
    | false =>
      have z : decide ((2 : Int) ≤ (ns.length : Int)) = false := decide_eq_false fun z => (of_decide_eq_false h2) (by omega)
      rw [z]
      refine iteF ⟨_, rfl, iteT ?_⟩
      rw [h2] at k
      exact k H (Same.refl _)
    | true =>
      have z : decide ((2 : Int) ≤ (ns.length : Int)) = true := decide_eq_true (by have := of_decide_eq_true h2; omega)
      rw [z]
      refine iteT ⟨_, _, rfl, rfl, _, rfl, ?_⟩
      cases h6 : decide (ns.length ≤ 6) with
      | false =>
        have z : decide ((ns.length : Int) ≤ 6) = false := decide_eq_false fun z => (of_decide_eq_false h6) (by omega)
        rw [z]
        refine iteT ?_
        rw [h2, h6] at k
        exact k H (Same.refl _)
      | true =>
        have z : decide ((ns.length : Int) ≤ 6) = true := decide_eq_true (by have := of_decide_eq_true h6; omega)
        rw [z]
        refine iteF ?_
        rw [h2, h6] at k
        refine ⟨_, rfl, t, rfl, ⟨_, hS⟩, fun D hD => lc_tup (K := K) (a := t) (xs := ns.map V.int) (fun i H1 => H1 D = some (.lst (((ns.take i).map (inR 0 (10 ^ 30))).map V.bl)) ∧ Same H H1) ⟨upd_same, Same.new hD⟩ (fun i H1 _ q => Same.tup q.2 hS) ?_ ?_⟩
        · rintro i x H1 hi ⟨hL, s1⟩
          obtain ⟨z, hz, rfl⟩ := int_at hi
          refine ⟨rfl, _, rfl, z, 0, 10 ^ 30, rfl, _, hL, ?_, ?_⟩
          · rw [List.length_map, List.length_map, List.length_take, sizeLine_eq]
            omega
          · refine ⟨?_, same_upd s1 hD⟩
            rw [upd_same, List.take_add_one, hz]
            simp
        · rintro H1 ⟨hL, s1⟩
          rw [List.length_map, List.take_length] at hL
          refine ⟨D, _, rfl, SqL.of hL, _, rfl, ?_⟩
          cases ha : (ns.map (inR 0 (10 ^ 30))).all id with
          | false =>
            rw [ha] at k
            exact iteF (k _ s1)
          | true =>
            rw [ha] at k
            exact iteT ⟨_, rfl, t, _, rfl, Same.tup s1 hS, _, _, rfl, rfl, k _ s1⟩
abbrev s_check_heaps : Stmt := top 19
theorem sc_check_heaps : FnScope ["heaps"] ["heaps"] (defScope s_check_heaps) := ⟨rfl, rfl, rfl, by decide +kernel, rfl, by decide +kernel, by decide +kernel⟩
theorem ok_check_heaps {f : Addr} {fd : FuncData} (F : Fun K "check_heaps" "check_heaps" s_check_heaps f fd) (T : Tp K mg) (C_is_heaps : Cal P w K mg base CX0 2 "is_heaps" ["value"] (spIsHeaps K)) : FnOk P w K mg base CX0 3 f fd ["heaps"] (spChkHeaps K) := by
  refine F.ok sc_check_heaps (fun vs H Q E h => ?_) (fun cdv A outer s H vs Q E hr h => ?_)
  · obtain ⟨t, ns, rfl, _⟩ := h
    rfl
  · obtain ⟨t, ns, rfl, hS, hg, k⟩ := h
    refine ⟨_, (pss_one (ps_if (pt_not (pt_val (pe_cal C_is_heaps hr rfl pass0 (pa_cons (pv 0) pa_nil)))) (pss_one ps_never) pss_nil)), ?_⟩
    refine ⟨_, rfl, t, ns, rfl, hS, ?_, fun H1 s1 => ⟨_, rfl, ?_⟩⟩
    · unfold hpsB at hg
      simp only [Bool.and_eq_true, decide_eq_true_eq] at hg
      omega
    rw [hg]
    exact iteF (k _ s1)
end
end Hd
set_option maxHeartbeats 4000000
namespace Hd
open PySem PySem.Spec PyProof.Rows L2
def can (ns : List Int) (i j : Nat) : Bool := decide (0 < ns.getD j 0) && decide (ns.getD j 0 ≤ ns.getD i 0)
def shf (ns : List Int) (i j : Nat) (m : Int) : List Int := (ns.set i (ns.getD i 0 - m)).set j (ns.getD j 0 + m)
def mv (ns : List Int) (i j : Nat) : List Int := shf ns i j (ns.getD j 0)
/-- a plan at t: each step's tuple, its two numbers -/
structure PlanAt (K : PySem.W.Frag) (H : Hp) (t : Addr) (n : Nat) (ps : List (Addr × Nat × Nat)) : Prop where
  tp : SqT K H t (ps.map fun p => V.ref p.1)
  st : ∀ p ∈ ps, SqT K H p.1 [.int (p.2.1 : Int), .int (p.2.2 : Int)] ∧ p.2.1 < n ∧ p.2.2 < n ∧ p.2.1 ≠ p.2.2
theorem PlanAt.same {K : PySem.W.Frag} {H H' : Hp} {t : Addr} {n : Nat} {ps : List (Addr × Nat × Nat)} (e : Same H H') (h : PlanAt K H t n ps) : PlanAt K H' t n ps :=
  ⟨Same.tup e h.tp, fun p hp => let ⟨a, b⟩ := h.st p hp; ⟨Same.tup e a, b⟩⟩
/-- the first step that can't be made, and the heaps ahead of it (behind all) -/
def jd : List Int → List (Nat × Nat) → Nat → Option Nat × List Int
  | ns, [], _ => (none, ns)
  | ns, s :: r, k => if can ns s.1 s.2 = true then jd (mv ns s.1 s.2) r (k + 1) else (some k, ns)
theorem jd_app : ∀ (ps : List (Nat × Nat)) (ns : List Int) (k : Nat) (s : Nat × Nat), jd ns (ps ++ [s]) k = (match jd ns ps k with
    | (none, m) => if can m s.1 s.2 = true then (none, mv m s.1 s.2) else (some (k + ps.length), m)
    | (some b, m) => (some b, m))
  | [], ns, k, s => by
    show (if can ns s.1 s.2 = true then jd (mv ns s.1 s.2) [] (k + 1) else (some k, ns)) = _
    rfl
  | p :: r, ns, k, s => by
    show (if can ns p.1 p.2 = true then jd (mv ns p.1 p.2) (r ++ [s]) (k + 1) else (some k, ns)) = _
    by_cases h : can ns p.1 p.2 = true
    · rw [if_pos h, jd_app r _ (k + 1) s]
      have e : jd ns (p :: r) k = jd (mv ns p.1 p.2) r (k + 1) := if_pos h
      rw [e]
      have e2 : k + 1 + r.length = k + (p :: r).length := by
        rw [List.length_cons]
        omega
      rw [e2]
    · rw [if_neg h]
      have e : jd ns (p :: r) k = (some k, ns) := if_neg h
      rw [e]
theorem len_mv (ns : List Int) (i j : Nat) : (mv ns i j).length = ns.length := by
  unfold mv shf
  rw [List.length_set, List.length_set]
theorem len_jd : ∀ (ps : List (Nat × Nat)) (ns : List Int) (k : Nat), (jd ns ps k).2.length = ns.length
  | [], _, _ => rfl
  | p :: r, ns, k => by
    show (if can ns p.1 p.2 = true then jd (mv ns p.1 p.2) r (k + 1) else (some k, ns)).2.length = _
    split
    · rw [len_jd r, len_mv]
    · rfl
def spIsPair (K : PySem.W.Frag) : Sp := fun vs H Q _ => ∃ (t : Addr) (n a b : Int), vs = [.int n, .ref t] ∧ SqT K H t [.int a, .int b] ∧ Q (.bl (inR 0 (n - 1) a && (inR 0 (n - 1) b && !decide (a = b)))) H
def spChkPlan (K : PySem.W.Frag) : Sp := fun vs H Q _ => ∃ (t : Addr) (n : Nat) (ps : List (Addr × Nat × Nat)), vs = [.int (n : Int), .ref t] ∧ PlanAt K H t n ps ∧ ps.length ≤ 20000 ∧ ∀ H', Same H H' → Q .non H'
def spCan (K : PySem.W.Frag) : Sp := fun vs H Q _ => ∃ (t u : Addr) (ns : List Int) (i j : Nat), vs = [.ref t, .ref u] ∧ SqT K H t (ns.map V.int) ∧ SqT K H u [.int (i : Int), .int (j : Int)] ∧ i < ns.length ∧ j < ns.length ∧ Q (.bl (can ns i j)) H
def spShifted (K : PySem.W.Frag) : Sp := fun vs H Q _ => ∃ (t u : Addr) (ns : List Int) (i j : Nat) (m : Int), vs = [.ref t, .ref u, .int m] ∧ SqT K H t (ns.map V.int) ∧ SqT K H u [.int (i : Int), .int (j : Int)] ∧ i < ns.length ∧ j < ns.length ∧ i ≠ j ∧
  ∀ (p : Addr) (H' : Hp), Same H H' → H p = none → H' p = some (.tup ((shf ns i j m).map V.int)) → Q (.ref p) H'
def spBehind (K : PySem.W.Frag) : Sp := fun vs H Q _ => ∃ (t u : Addr) (ns : List Int) (i j : Nat), vs = [.ref t, .ref u] ∧ SqT K H t (ns.map V.int) ∧ SqT K H u [.int (i : Int), .int (j : Int)] ∧ i < ns.length ∧ j < ns.length ∧ i ≠ j ∧
  ∀ (p : Addr) (H' : Hp), Same H H' → H p = none → H' p = some (.tup ((mv ns i j).map V.int)) → Q (.ref p) H'
section
variable {P : Program} {w : World} {K : PySem.W.Frag} {mg : Str → Option Value} {base : Heap}
abbrev s_is_pair_of : Stmt := top 18
theorem sc_is_pair_of : FnScope ["many", "value", "one", "other"] ["many", "value"] (defScope s_is_pair_of) := ⟨rfl, rfl, rfl, by decide +kernel, rfl, by decide +kernel, by decide +kernel⟩
theorem ok_is_pair_of {f : Addr} {fd : FuncData} (F : Fun K "is_pair_of" "is_pair_of" s_is_pair_of f fd) (T : Tp K mg) (C_is_integer : Cal P w K mg base CX0 1 "is_integer" ["value", "least", "greatest"] spIsInt) : FnOk P w K mg base CX0 2 f fd ["many", "value"] (spIsPair K) := by
  refine F.ok sc_is_pair_of (fun vs H Q E h => ?_) (fun cdv A outer s H vs Q E hr h => ?_)
  · obtain ⟨t, n, a, b, rfl, _⟩ := h
    rfl
  · obtain ⟨t, n, a, b, rfl, hS, k⟩ := h
    refine ⟨_, (pss_cons (ps_if (PW.pt (pw_or (pt_not (pt_val (pe_callB call_isi (by rfl) T.isinstance (by decide +kernel) (pa_cons (pv 1) (pa_cons (pe_bltn (v := .ty "tuple") (u := .type "tuple") (by rfl) T.tuple (by decide +kernel) rfl) pa_nil))))) (pw_or1 (pt_cmpR op_ne (pe_callB call_len_seq (by rfl) T.len PySem.boot_len (pa_cons (pv 1) pa_nil)) pe_int (nomark _))))) (pss_one (ps_ret pe_bl)) pss_nil)
      (pss_cons (ps_asg (pv 1) (pg_tup rfl (pgs_cons (pg_name (i := 2) sc_is_pair_of.nd rfl (Or.inl rfl)) (pgs_cons (pg_name (i := 3) sc_is_pair_of.nd rfl (Or.inl rfl)) pgs_nil))))
      (pss_one (ps_ret (pe_and (pe_cal C_is_integer hr rfl pass0 (pa_cons (pv 2) (pa_cons pe_int (pa_cons (pe_op op_sub (pv 0) pe_int) pa_nil)))) (pe_and (pe_cal C_is_integer hr rfl pass0 (pa_cons (pv 3) (pa_cons pe_int (pa_cons (pe_op op_sub (pv 0) pe_int) pa_nil)))) (pe_one (pe_cmpR op_ne (pv 2) (pv 3) (nomark _))))))))), ?_⟩
    refine ⟨_, rfl, _, _, _, _, true, rfl, ClsV.ty _, tyx_tup hS, kit_ty (by decide +kernel), _, rfl, ?_⟩
    refine iteF ?_
    refine ⟨_, rfl, t, _, rfl, .inr hS, rfl, _, rfl, iteNS rfl ?_⟩
    refine ⟨_, rfl, t, _, rfl, hS, rfl, _, _, rfl, _, _, rfl, rfl, ?_⟩
    refine ⟨_, rfl, _, rfl, _, _, rfl, rfl, _, _, _, rfl, _, rfl, ?_⟩
    cases ha : inR 0 (n - 1) a with
    | false =>
      rw [ha] at k
      exact iteF k
    | true =>
      rw [ha] at k
      refine iteT ⟨_, rfl, _, rfl, _, _, rfl, rfl, _, _, _, rfl, _, rfl, ?_⟩
      cases hb : inR 0 (n - 1) b with
      | false =>
        rw [hb] at k
        exact iteF k
      | true =>
        rw [hb] at k
        refine iteT ⟨_, rfl, _, rfl, rfl, ?_⟩
        have e : decide (V.int a = V.int b) = decide (a = b) := by
          by_cases z : a = b
          · subst z
            rw [decide_eq_true rfl, decide_eq_true rfl]
          · rw [decide_eq_false z, decide_eq_false fun q => z (V.int.inj q)]
        rw [e]
        exact k
abbrev s_can_be_made : Stmt := top 6
theorem sc_can_be_made : FnScope ["heaps", "step", "one", "other"] ["heaps", "step"] (defScope s_can_be_made) := ⟨rfl, rfl, rfl, by decide +kernel, rfl, by decide +kernel, by decide +kernel⟩
theorem ok_can_be_made {f : Addr} {fd : FuncData} (F : Fun K "can_be_made" "can_be_made" s_can_be_made f fd) : FnOk P w K mg base CX0 1 f fd ["heaps", "step"] (spCan K) := by
  refine F.ok sc_can_be_made (fun vs H Q E h => ?_) (fun cdv A outer s H vs Q E hr h => ?_)
  · obtain ⟨t, u, ns, i, j, rfl, _⟩ := h
    rfl
  · obtain ⟨t, u, ns, i, j, rfl, hS, hU, hi, hj, k⟩ := h
    refine ⟨_, (pss_cons (ps_asg (pv 1) (pg_tup rfl (pgs_cons (pg_name (i := 2) sc_can_be_made.nd rfl (Or.inl rfl)) (pgs_cons (pg_name (i := 3) sc_can_be_made.nd rfl (Or.inl rfl)) pgs_nil))))
      (pss_one (ps_ret (pe_chain op_lt op_le pe_int (pe_ix ix_tup (pv 0) (pv 3) (fun _ _ => rfl)) (pe_ix ix_tup (pv 0) (pv 2) (fun _ _ => rfl)))))), ?_⟩
    refine ⟨_, rfl, u, _, rfl, hU, rfl, _, _, rfl, _, _, rfl, rfl, ?_⟩
    refine ⟨_, rfl, _, rfl, t, _, _, _, rfl, rfl, hS, at_of rfl (getD_at hj), _, _, rfl, rfl, _, rfl, ?_⟩
    unfold can at k
    cases hd : decide (0 < ns.getD j 0) with
    | false =>
      rw [hd] at k
      exact iteF k
    | true =>
      rw [hd] at k
      exact iteT ⟨_, rfl, _, rfl, t, _, _, _, rfl, rfl, hS, at_of rfl (getD_at hi), _, _, rfl, rfl, k⟩
abbrev s_shifted : Stmt := top 8
theorem sc_shifted : FnScope ["heaps", "step", "many", "one", "other", "stand"] ["heaps", "step", "many"] (defScope s_shifted) := ⟨rfl, rfl, rfl, by decide +kernel, rfl, by decide +kernel, by decide +kernel⟩
theorem ok_shifted {f : Addr} {fd : FuncData} (F : Fun K "shifted" "shifted" s_shifted f fd) (T : Tp K mg) : FnOk P w K mg base CX0 1 f fd ["heaps", "step", "many"] (spShifted K) := by
  refine F.ok sc_shifted (fun vs H Q E h => ?_) (fun cdv A outer s H vs Q E hr h => ?_)
  · obtain ⟨t, u, ns, i, j, m, rfl, _⟩ := h
    rfl
  · obtain ⟨t, u, ns, i, j, m, rfl, hS, hU, hi, hj, hij, k⟩ := h
    refine ⟨_, (pss_cons (ps_asg (pv 1) (pg_tup rfl (pgs_cons (pg_name (i := 3) sc_shifted.nd rfl (Or.inl rfl)) (pgs_cons (pg_name (i := 4) sc_shifted.nd rfl (Or.inl rfl)) pgs_nil))))
      (pss_cons (ps_set (i := 5) sc_shifted.nd rfl (Or.inl rfl) (pe_callTy call_list_of (by rfl) T.list (by decide +kernel) (pa_cons (pv 0) pa_nil)))
      (pss_cons (ps_augS (pv 5) (pv 3) pget_list (pv 2) ip_sub set_list)
      (pss_cons (ps_augS (pv 5) (pv 4) pget_list (pv 2) ip_add set_list)
      (pss_one (ps_ret (pe_callTy call_tuple_of (by rfl) T.tuple (by decide +kernel) (pa_cons (pv 5) pa_nil)))))))), ?_⟩
    refine ⟨_, rfl, u, _, rfl, hU, rfl, _, _, rfl, _, _, rfl, rfl, ?_⟩
    refine ⟨_, rfl, t, _, rfl, .inr hS, fun l hl => ?_⟩
    refine ⟨_, rfl, _, rfl, l, _, _, _, rfl, rfl, SqL.of upd_same, by omega, (by rw [Int.toNat_natCast]; exact getD_at hi), _, rfl, _, _, rfl, rfl, l, _, _, i, rfl, rfl, upd_same, (by rw [List.length_map]; exact ixN_nat hi), ?_⟩
    rw [upd_upd]
    refine ⟨_, rfl, _, rfl, l, _, _, _, rfl, rfl, SqL.of upd_same, by omega, (by rw [Int.toNat_natCast, List.getElem?_set_ne hij]; exact getD_at hj), _, rfl, _, _, rfl, rfl, l, _, _, j, rfl, rfl, upd_same, (by rw [List.length_set, List.length_map]; exact ixN_nat hj), ?_⟩
    rw [upd_upd]
    refine ⟨_, rfl, l, _, rfl, .inl ⟨SqL.of upd_same, fun p hp => ?_⟩⟩
    have hpl : p ≠ l := fun e => by
      rw [e, upd_same] at hp
      cases hp
    have hp0 : H p = none := by
      rw [upd_ne hpl] at hp
      exact hp
    refine k p _ (same_upd (Same.new hl) hp0) hp0 ?_
    rw [upd_same]
    unfold shf
    rw [List.map_set, List.map_set]
abbrev s_behind : Stmt := top 9
theorem sc_behind : FnScope ["heaps", "step"] ["heaps", "step"] (defScope s_behind) := ⟨rfl, rfl, rfl, by decide +kernel, rfl, by decide +kernel, by decide +kernel⟩
theorem ok_behind {f : Addr} {fd : FuncData} (F : Fun K "behind" "behind" s_behind f fd) (C_shifted : Cal P w K mg base CX0 1 "shifted" ["heaps", "step", "many"] (spShifted K)) : FnOk P w K mg base CX0 2 f fd ["heaps", "step"] (spBehind K) := by
  refine F.ok sc_behind (fun vs H Q E h => ?_) (fun cdv A outer s H vs Q E hr h => ?_)
  · obtain ⟨t, u, ns, i, j, rfl, _⟩ := h
    rfl
  · obtain ⟨t, u, ns, i, j, rfl, hS, hU, hi, hj, hij, k⟩ := h
    refine ⟨_, (pss_one (ps_ret (pe_cal C_shifted hr rfl pass0 (pa_cons (pv 0) (pa_cons (pv 1) (pa_cons (pe_ix ix_tup (pv 0) (pe_ix ix_tup (pv 1) pe_int (fun _ _ => rfl)) (fun _ _ => rfl)) pa_nil)))))), ?_⟩
    exact ⟨_, rfl, _, rfl, _, rfl, _, rfl, u, _, _, _, rfl, rfl, hU, rfl, t, _, _, _, rfl, rfl, hS, at_of rfl (getD_at hj), t, u, ns, i, j, _, rfl, hS, hU, hi, hj, hij, k⟩
end
end Hd
set_option maxHeartbeats 4000000
/-! A set whose items, tuples of any depth, are all unlike: how it is looked through, filled, laid anew. -/
namespace Hd
open PySem PySem.Spec PyProof.Rows L2
section
variable {P : Program} {w : World} {K : Type} [DecidableEq K] {κ : HeapKind P w K} {A : Around} {E : Value → Shared → Prop} {s : Shared}
/-- what a set asks of its tuples beyond hash and == -/
structure SetKind (κ : HeapKind P w K) : Prop where
  stay : κ.Stays
  noCls : ∀ {A : Around} {E : Value → Shared → Prop} {s : Shared} {k : K} {b : Addr} {Q : Bool → Shared → Prop}, κ.is s.heap k b → Q false s → wpAny (model P w) A (ofAClassStatement 8 (.ref b)) Q E s
  byVal : ∀ {A : Around} {E : Value → Shared → Prop} {s : Shared} {k : K} {b : Addr} {Q : Bool → Shared → Prop}, κ.is s.heap k b → Q true s → wpAny (model P w) A (hashByValue 8 (.ref b)) Q E s
theorem keeps_of {κ : HeapKind P w K} (Z : SetKind κ) {h h' : Heap} {k : K} {b : Addr} (f : ∀ c o, h.get? c = some o → h'.get? c = some o) (x : κ.is h k b) : κ.is h' k b := Z.stay.stays (fun c o _ _ e _ => f c o e) x
theorem keeps_but {κ : HeapKind P w K} (Z : SetKind κ) {h h' : Heap} {k : K} {a b : Addr} {o : Obj} {es : Array (Int × Value)} {ep : Nat} {t : SetTable} (e : h.get? a = some o) (ed : o.data = .set es ep t) (f : Heap.SameBut a h h') (x : κ.is h k b) : κ.is h' k b :=
  Z.stay.stays (fun c oc vs n ec dc => by
    refine (f.2 c fun z => ?_).trans ec
    rw [z, e] at ec
    rw [← Option.some.inj ec, ed] at dc
    exact nomatch dc) x
theorem unseen {κ : HeapKind P w K} (Z : SetKind κ) {k : K} {b : Addr} (hk : κ.is s.heap k b) {ys : List Value} (hy : ∀ y ∈ ys, ∃ k' c, y = Value.ref c ∧ κ.is s.heap k' c) {Q : Bool → Shared → Prop} (q : Q false s) : wpAny (model P w) A (searchCouldBeSeen (.ref b) ys) Q E s := by
  unfold searchCouldBeSeen
  refine wpAny_bind (wpAny_forIn_list _ (fun left acc s2 => acc.1 = none ∧ s2 = s ∧ ∀ y ∈ left, ∃ k' c, y = Value.ref c ∧ κ.is s.heap k' c) _ ?_ ?_ _ _ ⟨rfl, rfl, hy⟩)
  · rintro y left acc s2 ⟨ha, rfl, hl⟩
    obtain ⟨k2, c, rfl, hc⟩ := hl y List.mem_cons_self
    have tl : ∀ y ∈ left, ∃ k' c, y = Value.ref c ∧ κ.is s2.heap k' c := fun z hz => hl z (List.mem_cons_of_mem _ hz)
    dsimp only
    by_cases hv : (b == c || (carriedByValue (.ref b) && carriedByValue (.ref c))) = true
    · exact wp_if_pos hv (wpAny_pure ⟨rfl, rfl, tl⟩)
    · refine wp_if_neg hv (wpAny_bind (κ.quiet hk ?_))
      simp only [if_false, Bool.not_true, Bool.false_eq_true]
      refine wpAny_bind (κ.quiet hc ?_)
      simp only [if_false, Bool.not_true, Bool.false_eq_true]
      refine wpAny_bind (Z.noCls hk ?_)
      simp only [if_false, Bool.false_eq_true]
      refine wpAny_bind (Z.noCls hc ?_)
      simp only [if_false, Bool.false_eq_true]
      exact wpAny_pure ⟨rfl, rfl, tl⟩
  · rintro ⟨x1, x2⟩ s2 ⟨ha, rfl, _⟩
    have ha' : x1 = none := ha
    subst ha'
    exact wpAny_pure q
/-- an item's hash and the item -/
def cell (κ : HeapKind P w K) (p : Addr × K) : Int × Value := (κ.hash p.2, .ref p.1)
/-- the set at a: the items in their slots' order -/
structure KSet (κ : HeapKind P w K) (h : Heap) (a : Addr) (L : List (Addr × K)) (es : Array (Int × Value)) (ep : Nat) (t : SetTable) : Prop where
  obj : ∃ o, h.get? a = some o ∧ o.ExactSet ∧ o.data = .set es ep t
  cells : es.toList = L.map (cell κ)
  tab : TabOk t (L.map fun p => κ.hash p.2)
  keys : (L.map (·.2)).Nodup
  objs : ∀ p ∈ L, κ.is h p.2 p.1
  plainT : t.plain = true
  led : w.params.followText "set-order" = true ∨ t.led = true
  space : L.length * 5 < t.mask * 3
  few : L.length < 64
variable {a : Addr} {L : List (Addr × K)} {es : Array (Int × Value)} {ep : Nat} {t : SetTable}
theorem KSet.count (S : KSet κ s.heap a L es ep t) : es.size = L.length := by
  have := congrArg List.length S.cells
  rwa [Array.length_toList, List.length_map] at this
theorem KSet.fits (S : KSet κ s.heap a L es ep t) : t.fits es.size = true := by
  have e1 := S.tab.sz
  have e2 := S.count
  have e3 := S.space
  rw [List.length_map] at e1
  show (t.place.size == es.size && decide (t.fill ≤ t.mask)) = true
  have e4 : t.fill = t.place.size + 0 := by
    show t.place.size + t.dummies.size = _
    rw [S.tab.dm]
    rfl
  rw [e4, Bool.and_eq_true, beq_iff_eq, decide_eq_true_eq]
  omega
theorem KSet.at_ (S : KSet κ s.heap a L es ep t) {i : Nat} {p : Addr × K} (e : L[i]? = some p) : es[i]? = some (cell κ p) := by
  rw [← Array.getElem?_toList, S.cells, List.getElem?_map, e]
  rfl
theorem KSet.stands (S : KSet κ s.heap a L es ep t) : ¬ t.gaveWay = true := by
  show ¬ _
  unfold SetTable.gaveWay
  rw [mask_odd S.tab.mok]
  decide
/-- the c-th slot that a search for the hash h looks at -/
abbrev pr (m : Nat) (h : Int) (c : Nat) : SetTable.Probe := nth m (runAt m (SetTable.bits h % (m + 1)) (SetTable.bits h)) c
theorem pr_add (m : Nat) (h : Int) (c d : Nat) : nth m (pr m h c) d = pr m h (c + d) := (nth_add m c _ d).symm
theorem nth_dummy (m : Nat) : ∀ (c : Nat) (p : SetTable.Probe), p.dummy = none → (nth m p c).dummy = none
  | 0, _, e => e
  | c + 1, p, e => nth_dummy m c (adv m p) (by
    unfold adv
    split <;> exact e)
/-- what is not there is not found -/
theorem not_found (Z : SetKind κ) (S : KSet κ s.heap a L es ep t) {x : Addr} {k : K} (hx : κ.is s.heap k x) (hn : k ∉ L.map (·.2)) (hr : κ.room A) {N : Nat} (hN : N < 10 * SetTable.turns t.mask) (free : way t.mask (κ.hash k) N ∉ t.place.toList)
    (full : ∀ c, c < N → way t.mask (κ.hash k) c ∈ t.place.toList) {Q : SetFound → Shared → Prop} (q : Q (.free (way t.mask (κ.hash k) N) false) s) :
    ∀ (f c : Nat) (st : Option SetTable.Probe), st.getD (t.probeStart (κ.hash k)) = pr t.mask (κ.hash k) c → c ≤ N → N - c < f → wpAny (model P w) A (setSearchFrom a (.ref x) (κ.hash k) true f st) Q E s
  | 0, _, _, _, _, z => absurd z (Nat.not_lt_zero _)
  | f + 1, c, st, est, hc, hf => by
    obtain ⟨ob, hob, exa, hda⟩ := S.obj
    rw [setSearchFrom_succ]
    refine wpAny_bind (wpAny_setState_of hob hda S.fits ?_)
    dsimp only
    refine wp_if_neg S.stands ?_
    try refine wpAny_bind (wpAny_pure ?_)
    have slot : ∀ j, (nth t.mask (pr t.mask (κ.hash k) c) j).j = way t.mask (κ.hash k) (c + j) := fun j => congrArg SetTable.Probe.j (pr_add t.mask (κ.hash k) c j)
    have end_ : c + (N - c) = N := by omega
    have sp := go_spec t S.tab.ris S.tab.dm (fun i => (es[i]?.map (·.1)).getD 0) (κ.hash k) (10 * SetTable.turns t.mask) (N - c) (pr t.mask (κ.hash k) c) (nth_dummy _ _ _ rfl) (by omega)
      (fun j hj => by rw [slot]; exact full _ (by omega)) (by rw [slot, end_]; exact free)
    rcases sp with ⟨j, i, hj, hi, _, _, go⟩ | ⟨_, go⟩
    · rw [slot] at hi
      rw [slot, pr_add] at go
      have go' : t.probe (fun i => (es[i]?.map (·.1)).getD 0) (κ.hash k) (st.getD (t.probeStart (κ.hash k))) = some (.candidate (way t.mask (κ.hash k) (c + j)) i (pr t.mask (κ.hash k) (c + (j + 1)))) := by
        rw [est]
        exact go
      rw [go']
      dsimp only
      have hil : i < L.length := by
        have z1 := (List.getElem?_eq_some_iff.mp hi).1
        have z2 := S.tab.sz
        rw [List.length_map] at z2
        rw [Array.length_toList] at z1
        omega
      obtain ⟨p, ep0⟩ : ∃ p, L[i]? = some p := ⟨_, List.getElem?_eq_getElem hil⟩
      have pin : p ∈ L := List.mem_of_getElem? ep0
      have unlike : ¬ p.2 = k := fun z => hn (List.mem_map.mpr ⟨p, pin, z⟩)
      have ent : es[i]? = some (κ.hash p.2, .ref p.1) := S.at_ ep0
      have onward : wpAny (model P w) A (searchRest a (.ref x) (κ.hash k) true f es t (way t.mask (κ.hash k) (c + j)) i (pr t.mask (κ.hash k) (c + (j + 1)))) Q E s := by
        unfold searchRest
        rw [ent]
        dsimp only
        refine wpAny_bind (wpAny_holding (κ.eqBool hr (S.objs p pin) hx ?_))
        refine wpAny_bind (wpAny_setState_of hob hda S.fits ?_)
        dsimp only
        refine wp_if_neg (by simp [unlike]) ?_
        try refine wpAny_bind (wpAny_pure ?_)
        rw [sameMem]
        dsimp only
        simp only [if_true, slot_live S.tab.ris hi, ent]
        refine wpAny_bind (wpAny_isSame_ref_self (wpAny_bind (wpAny_pure ?_)))
        simp only [if_true]
        refine wp_if_neg (by simp [unlike]) ?_
        exact not_found Z S hx hn hr hN free full q f (c + (j + 1)) _ rfl (by omega) (by omega)
      by_cases hl : t.led = true
      · refine wp_if_neg (by simp [hl]) ?_
        try refine wpAny_bind (wpAny_pure ?_)
        exact onward
      · refine wp_if_pos (by simp [hl]) (wpAny_bind (unseen Z hx (fun y hy => ?_) ?_))
        · obtain ⟨e, he, rfl⟩ := List.mem_map.mp hy
          have he1 : e ∈ es := by
            have : e ∈ es ∧ e.1 = κ.hash k := by simpa using he
            exact this.1
          have he2 : e ∈ es.toList := by simpa using he1
          rw [S.cells] at he2
          obtain ⟨p2, hp2, rfl⟩ := List.mem_map.mp he2
          exact ⟨p2.2, p2.1, rfl, S.objs p2 hp2⟩
        · refine wp_if_neg (by decide) ?_
          try refine wpAny_bind (wpAny_pure ?_)
          exact onward
    · rw [slot, end_] at go
      have go' : t.probe (fun i => (es[i]?.map (·.1)).getD 0) (κ.hash k) (st.getD (t.probeStart (κ.hash k))) = some (.empty (way t.mask (κ.hash k) N) none) := by
        rw [est]
        exact go
      rw [go']
      exact wpAny_pure q
theorem look_for (Z : SetKind κ) (S : KSet κ s.heap a L es ep t) {x : Addr} {k : K} (hx : κ.is s.heap k x) (hn : k ∉ L.map (·.2)) (hr : κ.room A) {Q : SetFound → Shared → Prop}
    (q : ∀ N, way t.mask (κ.hash k) N ∉ t.place.toList → (∀ c, c < N → way t.mask (κ.hash k) c ∈ t.place.toList) → Q (.free (way t.mask (κ.hash k) N) false) s) : wpAny (model P w) A (setSearch a (.ref x) (κ.hash k) true) Q E s := by
  have sp := S.space
  obtain ⟨N, h1, h2, h3⟩ := S.tab.first (by rw [List.length_map]; omega) (κ.hash k)
  have small : 10 * SetTable.turns t.mask ≤ 1420 := by
    unfold SetTable.turns
    rcases S.tab.mok with e | e | e <;> omega
  unfold setSearch
  exact not_found Z S hx hn hr h1 h2 h3 (q N h2 h3) 100000 0 none rfl (Nat.zero_le _) (by omega)
end
end Hd
set_option maxHeartbeats 4000000
namespace Hd
open PySem PySem.Spec PyProof.Rows L2
theorem pick_all {α : Type} : ∀ l : List α, (List.range l.length).filterMap (fun i => l[i]?) = l
  | [] => rfl
  | x :: l => by
    rw [List.length_cons, List.range_succ_eq_map, List.filterMap_cons_some (show (x :: l)[0]? = some x from rfl), List.filterMap_map]
    congr 1
    exact pick_all l
theorem picked {α : Type} (l : List α) (g : α → Int × Value) (es : Array (Int × Value)) (he : ∀ i : Nat, es[i]? = (l[i]?).map g) : ∀ js : List Nat, (∀ j ∈ js, j < l.length) →
    js.filterMap (fun j => es[j]?) = (js.filterMap (fun j => l[j]?)).map g ∧ ((js.filterMap (fun j => l[j]?)).map fun p => (g p).1) = js.map fun j => (es.map (·.1)).getD j 0
  | [], _ => ⟨rfl, rfl⟩
  | j :: js, hb => by
    obtain ⟨i1, i2⟩ := picked l g es he js fun i hi => hb i (List.mem_cons_of_mem _ hi)
    have hj := hb j List.mem_cons_self
    have e1 : l[j]? = some l[j] := List.getElem?_eq_getElem hj
    have e2 : es[j]? = some (g l[j]) := by rw [he, e1]; rfl
    rw [List.filterMap_cons_some e1, List.filterMap_cons_some e2, i1, List.map_cons, List.map_cons, List.map_cons, i2]
    refine ⟨rfl, ?_⟩
    have e3 : (es.map (·.1))[j]? = some (g l[j]).1 := by rw [Array.getElem?_map, e2]; rfl
    have e4 : (es.map (·.1)).getD j 0 = (g l[j]).1 := by simp [Array.getD_eq_getD_getElem?, e3]
    rw [e4]
section
variable {P : Program} {w : World} {K : Type} [DecidableEq K] {κ : HeapKind P w K} {A : Around} {E : Value → Shared → Prop} {s : Shared}
variable {a : Addr} {L : List (Addr × K)} {es : Array (Int × Value)} {ep : Nat} {t : SetTable}
/-- the items in another table's order -/
theorem reordered {order : Array Nat} (hc : es.toList = L.map (cell κ)) (pm : order.toList.Perm (List.range L.length)) :
    ∃ M : List (Addr × K), (order.filterMap (es[·]?)).toList = M.map (cell κ) ∧ M.Perm L ∧ (M.map fun p => κ.hash p.2) = order.toList.map fun i => (es.map (·.1)).getD i 0 := by
  have he : ∀ i : Nat, es[i]? = (L[i]?).map (cell κ) := fun i => by rw [← Array.getElem?_toList, hc, List.getElem?_map]
  obtain ⟨e1, e2⟩ := picked L (cell κ) es he order.toList fun j hj => List.mem_range.mp (pm.mem_iff.mp hj)
  refine ⟨order.toList.filterMap (fun j => L[j]?), ?_, ?_, e2⟩
  · rw [← e1]
    first | rfl | simp
  · have := pm.filterMap fun j => L[j]?
    rwa [pick_all] at this
/-- the table laid anew, larger -/
theorem laid_anew (Z : SetKind κ) {ob : Obj} (hob : s.heap.get? a = some ob) (exa : ob.ExactSet) (hda : ob.data = .set es ep t) (hc : es.toList = L.map (cell κ)) (hp : t.place.size = es.size) (hm : t.dummies = #[]) (hl : es.size ≤ t.mask)
    (nd : (L.map (·.2)).Nodup) (objs : ∀ p ∈ L, κ.is s.heap p.2 p.1) (pl : t.plain = true) (ld : w.params.followText "set-order" = true ∨ t.led = true) (few : L.length < 64) {want M : Nat}
    (e0 : SetTable.sizeAbove want - 1 = M) (ok : MaskOk M) (le : SetTable.sizeAbove want ≤ 128) (sp : L.length * 5 < M * 3) {Q : Unit → Shared → Prop}
    (q : ∀ h' L' es' ep' t', Heap.SameBut a s.heap h' → KSet κ h' a L' es' ep' t' → L'.Perm L → Q () { s with heap := h' }) : wpAny (model P w) A (setRelay a want) Q E s := by
  have cnt : es.size = L.length := by
    have := congrArg List.length hc
    rwa [Array.length_toList, List.length_map] at this
  have fit : t.fits es.size = true := by
    show (t.place.size == es.size && decide (t.fill ≤ t.mask)) = true
    have e4 : t.fill = t.place.size + 0 := by
      show t.place.size + t.dummies.size = _
      rw [hm]
      rfl
    rw [e4, Bool.and_eq_true, beq_iff_eq, decide_eq_true_eq]
    omega
  obtain ⟨t2, order, e, pm, T, em, el, e5, _⟩ := relaid_ok t (hs := es.map (·.1)) (wanted := want) e0 ok (by rw [Array.size_map, cnt]; omega)
  rw [Array.size_map, cnt] at pm
  obtain ⟨M2, r1, r2, r3⟩ := reordered (κ := κ) hc pm
  rw [← r3] at T
  have cnt2 : (order.filterMap (es[·]?)).size = es.size := by
    have := congrArg List.length r1
    rw [Array.length_toList, List.length_map, r2.length_eq] at this
    rw [this, cnt]
  rw [setRelay_eq]
  refine wpAny_bind (wpAny_setState_of hob hda fit ?_)
  dsimp only
  refine wp_if_neg (by rw [sizeLine_eq]; omega) ?_
  try refine wpAny_bind (wpAny_pure ?_)
  rw [e]
  dsimp only
  refine wpAny_bind (wp_if_neg (by rw [cnt2]; simp) ?_)
  try refine wpAny_bind (wpAny_pure ?_)
  refine wpAny_pure ?_
  dsimp only
  refine wpAny_storeSet_of hob hda ?_ (by rw [cnt2, cnt, sizeLine_eq]; omega)
  have sb : Heap.SameBut a s.heap (s.heap.update a (Obj.putSet (order.filterMap (es[·]?)) t2)) := Heap.SameBut.update ..
  refine q _ M2 _ (ep + 1) t2 sb ⟨⟨_, store_at hob hda, ⟨exa.1, exa.2.1, exa.2.2⟩, rfl⟩, r1, T, (r2.map (·.2)).nodup_iff.mpr nd, fun p hp => keeps_but Z hob hda sb (objs p (r2.mem_iff.mp hp)), by rw [e5]; exact pl, by rw [el]; exact ld, ?_, by rw [r2.length_eq]; exact few⟩ r2
  rw [r2.length_eq, em]
  exact sp
/-- another item, unlike all -/
theorem put_new (Z : SetKind κ) (S : KSet κ s.heap a L es ep t) {x : Addr} {k : K} (hx : κ.is s.heap k x) (hn : k ∉ L.map (·.2)) (hr : κ.room A) (few : L.length + 1 < 64) {Q : Bool → Shared → Prop}
    (q : ∀ b h' L' es' ep' t', Heap.SameBut a s.heap h' → KSet κ h' a L' es' ep' t' → L'.Perm ((x, k) :: L) → Q b { s with heap := h' }) : wpAny (model P w) A (setAddHashed a (.ref x) (κ.hash k)) Q E s := by
  obtain ⟨ob, hob, exa, hda⟩ := S.obj
  have cnt := S.count
  have space := S.space
  unfold setAddHashed
  refine wpAny_holding ?_
  rw [show (100000 : Nat) = 99999 + 1 from rfl]
  rw [setAddHashedIn_succ]
  refine wpAny_bind (wpAny_setState_of hob hda S.fits ?_)
  dsimp only
  refine wp_if_neg (by simp [byScan, Value.scannable]) ?_
  try refine wpAny_bind (wpAny_pure ?_)
  refine wpAny_bind (look_for Z S hx hn hr fun N free full => ?_)
  dsimp only
  refine wpAny_bind (wpAny_setState_of hob hda S.fits ?_)
  dsimp only
  obtain ⟨j1, j2, j3, j4, j5, j6, j7, j8, j9⟩ := S.tab.put free full
  have pl : (t.put (way t.mask (κ.hash k) N)).1.plain = true := j6.trans S.plainT
  generalize ept : t.put (way t.mask (κ.hash k) N) = two at j1 j3 j4 j5 j6 j7 j8 j9 pl ⊢
  obtain ⟨t1, i⟩ := two
  dsimp only at j1 j3 j4 j5 j6 j7 j8 j9 pl ⊢
  subst j1
  first
    | exact wpAny_bind (wp_if_pos pl (Z.byVal hx ?_))
    | (refine wpAny_bind ?_; refine wp_if_pos pl ?_; refine Z.byVal hx ?_)
    | (refine wp_if_pos pl ?_; refine wpAny_bind (Z.byVal hx ?_))
  simp only [if_true]
  generalize SetTable.below t.place (way t.mask (κ.hash k) N) = i at j2 j3 ⊢
  have rows : (SetTable.insertAt es i (κ.hash k, Value.ref x)).toList = (L.take i ++ (x, k) :: L.drop i).map (cell κ) := by
    rw [SetTable.toList_insertAt, S.cells, List.map_append, List.map_cons, List.map_take, List.map_drop]
    rfl
  have pm := put_perm L i (x, k)
  have len : (L.take i ++ (x, k) :: L.drop i).length = L.length + 1 := pm.length_eq
  have tab : TabOk t1 ((L.take i ++ (x, k) :: L.drop i).map fun p => κ.hash p.2) := by
    rw [List.map_append, List.map_cons, List.map_take, List.map_drop]
    exact j3
  have nd : ((L.take i ++ (x, k) :: L.drop i).map (·.2)).Nodup := (pm.map (·.2)).nodup_iff.mpr (List.nodup_cons.mpr ⟨hn, S.keys⟩)
  generalize SetTable.insertAt es i (κ.hash k, Value.ref x) = e1 at rows ⊢
  generalize L.take i ++ (x, k) :: L.drop i = L1 at pm len tab nd rows
  have cnt1 : e1.size = L.length + 1 := by
    have := congrArg List.length rows
    rwa [Array.length_toList, List.length_map, len] at this
  refine wpAny_bind (wpAny_storeSet_of hob hda ?_ (by rw [cnt1, sizeLine_eq]; omega))
  have sb : Heap.SameBut a s.heap (s.heap.update a (Obj.putSet e1 t1)) := Heap.SameBut.update ..
  have hob1 := store_at (es' := e1) (t' := t1) hob hda
  generalize s.heap.update a (Obj.putSet e1 t1) = h1 at sb hob1 ⊢
  have objs : ∀ p ∈ L1, κ.is h1 p.2 p.1 := fun p hp => by
    rcases List.mem_cons.mp (pm.mem_iff.mp hp) with z | z
    · rw [z]
      exact keeps_but Z hob hda sb hx
    · exact keeps_but Z hob hda sb (S.objs p z)
  have ld : w.params.followText "set-order" = true ∨ t1.led = true := by
    rw [j5]
    exact S.led
  by_cases full1 : t1.tooFull = true
  · have ge : (L.length + 1) * 5 ≥ t1.mask * 3 := by
      have z := full1
      unfold SetTable.tooFull at z
      rw [decide_eq_true_eq, j9, List.length_map] at z
      exact z
    have which : (t.mask = 7 ∧ L.length = 4) ∨ (t.mask = 31 ∧ L.length = 18) := by
      rw [j4] at ge
      rcases S.tab.mok with e | e | e
      · exact .inl ⟨e, by omega⟩
      · exact .inr ⟨e, by omega⟩
      · omega
    have sz1 : t1.place.size = e1.size := by
      have z := tab.sz
      rw [List.length_map, len] at z
      rw [z, cnt1]
    have anew : ∀ M, SetTable.sizeAbove (SetTable.grown (L.length + 1)) - 1 = M → MaskOk M → SetTable.sizeAbove (SetTable.grown (L.length + 1)) ≤ 128 → (L.length + 1) * 5 < M * 3 →
        wpAny (model P w) A (setRelay a (SetTable.grown (L.length + 1))) (fun _ s2 => wpAny (model P w) A (pure true) Q E s2) E { s with heap := h1 } := fun M g1 g2 g3 g4 => by
      refine laid_anew (s := { s with heap := h1 }) Z hob1 ⟨exa.1, exa.2.1, exa.2.2⟩ rfl rows sz1 tab.dm (by rw [cnt1, j4]; rcases which with ⟨z1, z2⟩ | ⟨z1, z2⟩ <;> omega) nd objs pl ld (by rw [len]; exact few) g1 g2 g3 (by rw [len]; exact g4) ?_
      exact fun h2 L2 es2 ep2 t2 sb2 S2 pm2 => wpAny_pure (q true h2 L2 es2 ep2 t2 (sb.trans sb2) S2 (pm2.trans pm))
    rw [cnt]
    first
      | (refine wpAny_bind ?_; refine wp_if_pos (by simp [full1]) ?_)
      | (refine wp_if_pos (by simp [full1]) ?_; refine wpAny_bind ?_)
    rcases which with ⟨_, z2⟩ | ⟨_, z2⟩
    · exact anew 31 (by rw [z2, size_20]) (.inr (.inl rfl)) (by rw [z2, size_20]; decide) (by omega)
    · exact anew 127 (by rw [z2, size_76]) (.inr (.inr rfl)) (by rw [z2, size_76]; decide) (by omega)
  · have lt : (L.length + 1) * 5 < t1.mask * 3 := by
      have z := full1
      unfold SetTable.tooFull at z
      rw [decide_eq_true_eq, j9, List.length_map] at z
      omega
    first
      | refine wp_if_neg (by simp [full1]) ?_
      | (refine wpAny_bind ?_; refine wp_if_neg (by simp [full1]) ?_; refine wpAny_pure ?_)
    exact wpAny_pure (q true h1 L1 e1 (ep + 1) t1 sb ⟨⟨_, hob1, ⟨exa.1, exa.2.1, exa.2.2⟩, rfl⟩, rows, tab, nd, objs, pl, ld, by rw [len]; exact lt, by rw [len]; exact few⟩ pm)
end
end Hd
set_option maxHeartbeats 8000000
namespace Hd
open PySem PySem.Spec PyProof.Rows L2
section
variable {P : Program} {w : World} {K : Type} [DecidableEq K] {κ : HeapKind P w K} {A : Around} {E : Value → Shared → Prop} {s : Shared}
theorem KSet.moved {h h' : Heap} {a : Addr} {L : List (Addr × K)} {es : Array (Int × Value)} {ep : Nat} {t : SetTable} (S : KSet κ h a L es ep t) (ha : ∀ o, h.get? a = some o → h'.get? a = some o) (ob : ∀ p ∈ L, κ.is h' p.2 p.1) : KSet κ h' a L es ep t := by
  obtain ⟨o, e, r⟩ := S.obj
  exact ⟨⟨o, ha o e, r⟩, S.cells, S.tab, S.keys, ob, S.plainT, S.led, S.space, S.few⟩
/-- the object that set() begins with -/
abbrev newSet (w : World) : Obj := { cls := Value.type "set", dict := none, data := Data.set #[] 0 (SetTable.fresh 0 0 (!w.params.followText "set-order")) }
theorem KSet.empty {h : Heap} {a : Addr} (e : h.get? a = some (newSet w)) : KSet κ h a [] #[] 0 (.fresh 0 0 (!w.params.followText "set-order")) := by
  refine ⟨⟨_, e, ⟨rfl, rfl, rfl⟩, rfl⟩, rfl, ⟨List.Pairwise.nil, rfl, rfl, .inl rfl, (fun _ z => nomatch z), fun i _ _ z => ?_⟩, List.nodup_nil, (fun _ z => nomatch z), rfl, ?_, by show 0 * 5 < 7 * 3; decide, by show 0 < 64; decide⟩
  · exact absurd z (by simp)
  · show _ ∨ (!w.params.followText "set-order") = true
    cases w.params.followText "set-order"
    · exact .inr rfl
    · exact .inl rfl
/-- the items go in, one by one -/
theorem filling (Z : SetKind κ) {I : Addr} {fp wr : List Addr} {G : Array GenState → Array GenState → Prop} {n : Nat} {Pv : Nat → Value → Prop} {St : Nat → Shared → Prop} {R : Result → Shared → Prop} (W : WalksS P w A.in1 I fp wr G n Pv St) (S : Addr) (Sf : S ∉ fp)
    (ks : List (Addr × K)) (hn : n = ks.length) (few : ks.length < 64) (un : (ks.map (·.2)).Nodup) (val : ∀ i v, Pv i v → ∃ p, ks[i]? = some p ∧ v = .ref p.1) (h0 : Heap) (k0 : ∀ p ∈ ks, κ.is h0 p.2 p.1) (S0 : h0.get? S = none) (wr0 : ∀ b ∈ wr, h0.get? b = none)
    (hr : κ.room A.in1) : ∀ (m i : Nat) (s : Shared), n - i = m → i ≤ n → St i s → (∀ b o, h0.get? b = some o → s.heap.get? b = some o) → (∃ L es ep t, KSet κ s.heap S L es ep t ∧ L.Perm (ks.take i)) →
      (∀ s' L es ep t, Moved (S :: wr) G s s' → KSet κ s'.heap S L es ep t → L.Perm ks → (∀ b o, h0.get? b = some o → s'.heap.get? b = some o) → R (.ok (.ret .none)) s') → codeAny (model P w) A (.builtin "set.update.loop" ⟨[.ref S, .ref I], []⟩) R s := by
  have Sw : S ∉ wr := fun z => Sf (W.sub _ z)
  have wide : ∀ b ∈ wr, b ∈ S :: wr := fun b z => List.mem_cons_of_mem _ z
  have old : ∀ {s1 s2 : Shared}, Moved wr G s1 s2 → (∀ b o, h0.get? b = some o → s1.heap.get? b = some o) → ∀ b o, h0.get? b = some o → s2.heap.get? b = some o := fun mv f b o e => mv.heap b o (fun z => by
    rw [wr0 b z] at e
    exact nomatch e) (f b o e)
  intro m
  induction m with
  | zero =>
    intro i s hm hi st f ⟨L, es, ep, t, T, pm⟩ fin
    have e : i = n := by omega
    subst e
    refine codeAny_builtin F.entry_set_update_loop ?_
    rw [Around.under_plainId F.plain_set_update_loop _]
    show wpAny _ A.in1 (pyNext (.ref I) >>= _) _ _ s
    refine wpAny_bind (W.done s _ _ st fun s2 mv => ?_)
    show wpAny _ A.in1 (ret Value.none) _ _ s2
    have f2 := old mv f
    rw [List.take_of_length_le (by omega)] at pm
    exact wpAny_pure (fin s2 L es ep t (mv.mono wide) (T.moved (fun o e => mv.heap S o Sw e) fun p hp => keeps_of Z f2 (k0 p (pm.mem_iff.mp hp))) pm f2)
  | succ m ih =>
    intro i s hm hi st f ⟨L, es, ep, t, T, pm⟩ fin
    have lt : i < n := by omega
    refine codeAny_builtin F.entry_set_update_loop ?_
    rw [Around.under_plainId F.plain_set_update_loop _]
    show wpAny _ A.in1 (pyNext (.ref I) >>= _) _ _ s
    refine wpAny_bind (W.item i s _ _ lt st fun v s2 pv st2 mv => ?_)
    obtain ⟨p, hp, rfl⟩ := val i v pv
    have f2 := old mv f
    have sub : ∀ q ∈ L, q ∈ ks := fun q z => List.mem_of_mem_take (pm.mem_iff.mp z)
    have T2 : KSet κ s2.heap S L es ep t := T.moved (fun o e => mv.heap S o Sw e) fun q z => keeps_of Z f2 (k0 q (sub q z))
    have hx : κ.is s2.heap p.2 p.1 := keeps_of Z f2 (k0 p (List.mem_of_getElem? hp))
    have nxt : ks.take (i + 1) = ks.take i ++ [p] := by
      rw [List.take_add_one, hp]
      rfl
    have fresh : p.2 ∉ L.map (·.2) := fun z => by
      have u : ((ks.take (i + 1)).map (·.2)).Nodup := by
        rw [List.map_take]
        exact List.Nodup.sublist (List.take_sublist _ _) un
      rw [nxt, List.map_append] at u
      have z2 := (pm.map (·.2)).mem_iff.mp z
      exact (List.nodup_append.mp u).2.2 _ z2 _ (by simp) rfl
    have cnt : L.length ≤ i := by
      rw [pm.length_eq, List.length_take]
      omega
    show wpAny _ A.in1 (holding [Value.ref p.1] (setAdd S (.ref p.1)) >>= _) _ _ s2
    refine wpAny_bind (wpAny_holding ?_)
    unfold setAdd
    refine wpAny_holding (wpAny_bind (κ.pyHash hr hx ?_))
    refine put_new (s := { s2 with toks := s2.toks + κ.draws p.2 }) Z T2 hx fresh hr (by omega) fun b h' L' es' ep' t' sb T3 pm3 => ?_
    have f3 : ∀ b o, h0.get? b = some o → h'.get? b = some o := fun b o e => (sb.2 b (fun z => by
      rw [z, S0] at e
      exact nomatch e)).trans (f2 b o e)
    have pm4 : L'.Perm (ks.take (i + 1)) := by
      rw [nxt]
      exact (pm3.trans (pm.cons p)).trans (List.perm_append_singleton p (ks.take i)).symm
    refine wpAny_pure ⟨plainId_quiet F.plain_set_update_loop _, ih (i + 1) _ (by omega) lt (W.frame _ s2 _ _ st2 (Nat.le_add_right _ _) fun c hc o e => ?_) f3 ⟨L', es', ep', t', T3, pm4⟩ fun s3 L2 es2 ep2 t2 mv2 T4 pm5 f4 => ?_⟩
    · rw [sb.2 c (fun z => Sf (z ▸ hc))]
      exact e
    · refine fin s3 L2 es2 ep2 t2 (Moved.trans W.gtrans ((mv.mono wide).then_heap (Nat.le_add_right _ _) fun c o hc e => ?_) mv2) T4 pm5 f4
      rw [sb.2 c (fun z => hc (z ▸ List.mem_cons_self))]
      exact e
end
end Hd
set_option maxHeartbeats 8000000
namespace Hd
open PySem PySem.Spec PyProof.Rows L2
section
variable {P : Program} {w : World} {A : Around} {E : Value → Shared → Prop} {s : Shared}
theorem cls_tuple {n m : Nat} {b : Addr} {o : Obj} {vs : Array Value} {Q : Bool → Shared → Prop} (ho : s.heap.get? b = some o) (hc : o.cls = .type "tuple") (hd : o.data = .seq vs m)
    (each : ∀ v ∈ vs.toList, ∀ (A : Around) (E : Value → Shared → Prop) (Q : Bool → Shared → Prop), Q false s → wpAny (model P w) A (ofAClassStatement n v) Q E s) (q : Q false s) : wpAny (model P w) A (ofAClassStatement (n + 1) (.ref b)) Q E s := by
  have ty : s.TypeIs (.ref b) "tuple" := ⟨o, ho, hc⟩
  unfold ofAClassStatement
  refine wpAny_bind (wpAny_typeOf ty ?_)
  dsimp only
  have same : (("tuple" : String) == "tuple") = true := by decide
  simp only [same, Bool.not_true, if_true, if_false, Bool.false_eq_true]
  try refine wpAny_bind (wpAny_pure ?_)
  try simp only [if_false, Bool.not_true, Bool.false_eq_true]
  show wpAny _ _ (seqItems? (.ref b) >>= _) _ _ s
  refine wpAny_bind (wpAny_seqItems ho hd ?_)
  dsimp only
  refine wpAny_bind ?_
  show wpAny _ _ (forIn vs _ _) _ _ s
  rw [← Array.forIn_toList]
  refine wpAny_forIn_list _ (fun left acc s2 => acc.1 = none ∧ s2 = s ∧ ∀ v ∈ left, v ∈ vs.toList) _ ?_ ?_ _ _ ⟨rfl, rfl, fun v hv => hv⟩
  · rintro v left acc s2 ⟨ha, rfl, hl⟩
    refine wpAny_bind (each v (hl v List.mem_cons_self) _ _ _ ?_)
    simp only [if_false, Bool.false_eq_true]
    exact wpAny_pure ⟨rfl, rfl, fun u hu => hl u (List.mem_cons_of_mem _ hu)⟩
  · rintro ⟨x1, x2⟩ s2 ⟨ha, rfl, _⟩
    have ha' : x1 = none := ha
    subst ha'
    exact wpAny_pure q
theorem val_tuple {n m : Nat} {b : Addr} {o : Obj} {vs : Array Value} {Q : Bool → Shared → Prop} (ho : s.heap.get? b = some o) (hc : o.cls = .type "tuple") (hd : o.data = .seq vs m)
    (each : ∀ v ∈ vs.toList, ∀ (A : Around) (E : Value → Shared → Prop) (Q : Bool → Shared → Prop), Q true s → wpAny (model P w) A (hashByValue n v) Q E s) (q : Q true s) : wpAny (model P w) A (hashByValue (n + 1) (.ref b)) Q E s := by
  have ty : s.TypeIs (.ref b) "tuple" := ⟨o, ho, hc⟩
  unfold hashByValue
  refine wpAny_bind (wpAny_specialOf ty F.slot_tuple_hash.lookup ?_)
  show wpAny _ _ (seqItems? (.ref b) >>= _) _ _ s
  refine wpAny_bind (wpAny_seqItems ho hd ?_)
  refine wpAny_bind ?_
  show wpAny _ _ (forIn vs _ _) _ _ s
  rw [← Array.forIn_toList]
  refine wpAny_forIn_list _ (fun left acc s2 => acc.1 = none ∧ s2 = s ∧ ∀ v ∈ left, v ∈ vs.toList) _ ?_ ?_ _ _ ⟨rfl, rfl, fun v hv => hv⟩
  · rintro v left acc s2 ⟨ha, rfl, hl⟩
    refine wpAny_bind (each v (hl v List.mem_cons_self) _ _ _ ?_)
    simp only [if_false, Bool.not_true, Bool.false_eq_true]
    exact wpAny_pure ⟨rfl, rfl, fun u hu => hl u (List.mem_cons_of_mem _ hu)⟩
  · rintro ⟨x1, x2⟩ s2 ⟨ha, rfl, _⟩
    have ha' : x1 = none := ha
    subst ha'
    exact wpAny_pure q
/-- a tuple of tuples of ints, as a key -/
def kk (ls : List (List Int)) : NestedKey := .tup (ls.map fun l => .tup (l.map .num))
theorem flat_in {h : Heap} : ∀ (l : List Int) (vs : List Value), NestedAll h (l.map .num) vs → ∀ v ∈ vs, (∃ i t, v = Value.int i t) ∨ ∃ b, v = Value.bool b
  | [], _, x, v, hv => by
    cases x
    cases hv
  | i :: l, _, x, v, hv => by
    have x' : NestedAll h (NestedKey.num i :: l.map .num) _ := x
    cases x' with
    | cons x1 x2 =>
      rcases List.mem_cons.mp hv with e | hv
      · subst e
        cases x1 with
        | bool e => exact .inr ⟨_, rfl⟩
        | int i t => exact .inl ⟨_, _, rfl⟩
      · exact flat_in l _ x2 v hv
theorem nested_in {h : Heap} : ∀ (ls : List (List Int)) (vs : List Value), NestedAll h (ls.map fun l => NestedKey.tup (l.map .num)) vs → ∀ v ∈ vs, ∃ (b : Addr) (o : Obj) (us : Array Value) (m : Nat), v = .ref b ∧ h.get? b = some o ∧ o.cls = .type "tuple" ∧ o.data = .seq us m ∧
    ∀ u ∈ us.toList, (∃ i t, u = Value.int i t) ∨ ∃ b, u = Value.bool b
  | [], _, x, v, hv => by
    cases x
    cases hv
  | l :: ls, _, x, v, hv => by
    have x' : NestedAll h (NestedKey.tup (l.map .num) :: ls.map fun l => NestedKey.tup (l.map .num)) _ := x
    cases x' with
    | cons x1 x2 =>
      rcases List.mem_cons.mp hv with e | hv
      · subst e
        cases x1 with
        | tup h1 h2 h3 h4 => exact ⟨_, _, _, _, rfl, h1, h2, h3, flat_in l _ h4⟩
      · exact nested_in ls _ x2 v hv
/-- the kind of such keys -/
def pairKind (P : Program) (w : World) : HeapKind P w NestedKey where
  is := fun h k a => (nestedKind P w).is h k a ∧ ∃ ls, k = kk ls
  hash := (nestedKind P w).hash
  draws := (nestedKind P w).draws
  room := (nestedKind P w).room
  inj := fun x y => (nestedKind P w).inj x.1 y.1
  keeps := fun x e ed f => ⟨(nestedKind P w).keeps x.1 e ed f, x.2⟩
  pyHash := fun r x q => (nestedKind P w).pyHash r x.1 q
  eqBool := fun r x y q => (nestedKind P w).eqBool r x.1 y.1 q
  quiet := fun x q => (nestedKind P w).quiet x.1 q
theorem pair_parts {h : Heap} {k : NestedKey} {b : Addr} (x : (pairKind P w).is h k b) : ∃ (o : Obj) (vs : Array Value) (m : Nat), h.get? b = some o ∧ o.cls = .type "tuple" ∧ o.data = .seq vs m ∧
    ∀ v ∈ vs.toList, ∃ (b : Addr) (o : Obj) (us : Array Value) (m : Nat), v = .ref b ∧ h.get? b = some o ∧ o.cls = .type "tuple" ∧ o.data = .seq us m ∧ ∀ u ∈ us.toList, (∃ i t, u = Value.int i t) ∨ ∃ b, u = Value.bool b := by
  obtain ⟨⟨x, _⟩, ls, rfl⟩ := x
  have x' : NestedIs h (.tup (ls.map fun l => .tup (l.map .num))) (.ref b) := x
  cases x' with
  | tup h1 h2 h3 h4 => exact ⟨_, _, _, h1, h2, h3, nested_in ls _ h4⟩
theorem pairKind_set : SetKind (pairKind P w) where
  stay := ⟨fun f x => ⟨nestedKind_stays.stays f x.1, x.2⟩, fun x => nestedKind_stays.tuple x.1⟩
  noCls := fun {A E s k b Q} x q => by
    obtain ⟨o, vs, m, h1, h2, h3, h4⟩ := pair_parts x
    refine cls_tuple (n := 7) h1 h2 h3 (fun v hv A E Q q => ?_) q
    obtain ⟨c, o2, us, m2, rfl, g1, g2, g3, g4⟩ := h4 v hv
    refine cls_tuple (n := 6) g1 g2 g3 (fun u hu A E Q q => ?_) q
    rcases g4 u hu with ⟨i, t, rfl⟩ | ⟨z, rfl⟩
    · exact wpAny_pure q
    · exact wpAny_pure q
  byVal := fun {A E s k b Q} x q => by
    obtain ⟨o, vs, m, h1, h2, h3, h4⟩ := pair_parts x
    refine val_tuple (n := 7) h1 h2 h3 (fun v hv A E Q q => ?_) q
    obtain ⟨c, o2, us, m2, rfl, g1, g2, g3, g4⟩ := h4 v hv
    refine val_tuple (n := 6) g1 g2 g3 (fun u hu A E Q q => ?_) q
    rcases g4 u hu with ⟨i, t, rfl⟩ | ⟨z, rfl⟩
    · exact wpAny_pure q
    · exact wpAny_pure q
end
end Hd
set_option maxHeartbeats 8000000
namespace Hd
open PySem PySem.Spec PyProof.Rows L2
section
variable {P : Program} {w : World} {K : Type} [DecidableEq K] {κ : HeapKind P w K} {A : Around} {E : Value → Shared → Prop} {s : Shared}
set_option maxHeartbeats 16000000 in
/-- set(xs), the items all unlike -/
theorem set_made (Z : SetKind κ) {l : Addr} {items : Array Value} (ks : List (Addr × K)) {Q : Value → Shared → Prop} (calm : A.handled = none) (lst : s.heap.IsList l items) (refs : items.toList = ks.map fun p => Value.ref p.1)
    (hk : ∀ p ∈ ks, κ.is s.heap p.2 p.1) (few : ks.length < 64) (un : (ks.map (·.2)).Nodup) (hr : κ.room A.in1.in1.in1)
    (q : ∀ (h' : Heap) (tk : Nat) L es ep t, KSet κ h' s.heap.objs.size L es ep t → L.Perm ks → (∀ b o, s.heap.get? b = some o → h'.get? b = some o) → Q (.ref s.heap.objs.size) { s with heap := h', toks := tk }) :
    wpAny (model P w) A (call (.type "set") [.ref l]) Q E s := by
  have cnt : items.size = ks.length := by
    have := congrArg List.length refs
    rwa [Array.length_toList, List.length_map] at this
  obtain ⟨c, tl, hmro⟩ := F.called_set.mro
  have g1 := F.called_set.made
  have g2 := F.called_set.sub
  refine wpAny_call (codeAny_of_tree ?_)
  show wpAny _ _ (callAny (.type "set") _) _ _ _
  refine wpAny_pure ⟨Code.quiet_builtin _ (by decide +kernel), ?_⟩
  refine codeAny_builtin F.entry_type_call ?_
  rw [Around.under_plain (weight_type_call_type "set" [.ref l] []) rfl]
  have g3 := F.called_set.notType
  have g4 := F.called_set.canCreate
  have g5 := F.typeCall_set_1 (.ref l)
  repeat (any_goals (first | assumption | wp_step))
  refine codeAny_mono (code_set_led1 (.ref l) (E := E) (Q₁ := fun ob s1 => ob = .ref s.heap.objs.size ∧ s1 = { s with heap := s.heap.push (newSet w) }) ⟨rfl, rfl⟩) fun r s1 hr1 => ?_
  cases r with
  | error e => exact hr1
  | ok fl =>
    cases fl with
    | ret ob =>
      obtain ⟨rfl, rfl⟩ := hr1
      have atS : (s.heap.push (newSet w)).get? s.heap.objs.size = some (newSet w) := Heap.get?_push_size _ rfl
      have tyS : Shared.TypeIs { s with heap := s.heap.push (newSet w) } (.ref s.heap.objs.size) "set" := ⟨_, atS, rfl⟩
      have g6 := F.called_set.init.lookup
      have g7 := F.called_set.init.bind (.ref s.heap.objs.size)
      repeat (any_goals (first | assumption | wp_step))
      refine codeAny_mono (codeAny_call_builtin (R := wants (fun r s2 => r = .none ∧ ∃ h' tk L es ep t, s2 = { s with heap := h', toks := tk } ∧ KSet κ h' s.heap.objs.size L es ep t ∧ L.Perm ks ∧ (∀ b o, s.heap.get? b = some o → h'.get? b = some o)) E)
        F.called_set.init.plain F.entry_set_init (check_set_init_1 tyS ?_)) fun r2 s2 hr2 => ?_
      · obtain ⟨ol, hol, hcl, nl, hdl⟩ := lst
        obtain ⟨ocls, odict, odata, oslots⟩ := ol
        simp only at hcl hdl
        subst hcl hdl
        have hol2 : (s.heap.push (newSet w)).get? l = some { cls := .type "list", dict := odict, data := .seq items nl, slots := oslots } := Heap.get?_push_of_some _ hol
        have g8 := F.sub_list_set
        have g9 := F.sub_list_frozenset
        have ga : (Value.type "list" == Value.type "dict") = false := by decide
        have lst2 : (s.heap.push (newSet w)).IsList l items := ⟨_, hol2, rfl, nl, rfl⟩
        unfold Builtin.«set.__init__» noKeywords Builtin.Frozenset.updateFrom
        generalize ePI : pyIter = PI
        wp_walk
        subst ePI
        refine wpAny_pyIter_list lst2 ?_
        refine wpAny_bind (wpAny_runValue ?_)
        have ltl : l < s.heap.objs.size := Heap.lt_size hol
        have sz : (s.heap.push (newSet w)).objs.size = s.heap.objs.size + 1 := Heap.size_push ..
        have calm3 : A.in1.in1.in1.handled = none := by simp [calm]
        have none_at : ∀ b, s.heap.objs.size ≤ b → s.heap.get? b = none := fun b hb => Heap.get?_none_of_le hb
        have neI : l ≠ (s.heap.push (newSet w)).objs.size := by
          rw [sz]
          exact Nat.ne_of_lt (Nat.lt_succ_of_lt ltl)
        have apart : s.heap.objs.size ∉ [(s.heap.push (newSet w)).objs.size, l] := by
          rw [sz]
          simp only [List.mem_cons, List.not_mem_nil, or_false, not_or]
          exact ⟨Nat.ne_of_lt (Nat.lt_succ_self _), Nat.ne_of_gt ltl⟩
        have val : ∀ (i : Nat) (v : Value), items[i]? = some v → ∃ p, ks[i]? = some p ∧ v = .ref p.1 := fun i v hv => by
          rw [← Array.getElem?_toList, refs, List.getElem?_map] at hv
          obtain ⟨p, e1, e2⟩ := Option.map_eq_some_iff.mp hv
          exact ⟨p, e1, e2.symm⟩
        refine filling (κ := κ) Z ((Walks.list calm3 _ l neI items).toS) s.heap.objs.size apart ks cnt few un val s.heap hk (none_at _ (Nat.le_refl _)) (fun b hb => none_at b (by
            rw [List.mem_singleton.mp hb, sz]
            exact Nat.le_succ _)) hr (items.size - 0) 0 _ (by omega) (Nat.zero_le _) ⟨⟨_, Heap.get?_push_size _ rfl, rfl, rfl⟩, lst2.push _⟩ (fun b o e => Heap.get?_push_of_some _ (Heap.get?_push_of_some _ e)) ?start ?end_
        case start => exact ⟨[], #[], 0, _, KSet.empty (Heap.get?_push_of_some _ atS), List.Perm.refl _⟩
        case end_ =>
          rintro ⟨h', gs, dr, tk, os⟩ L es ep t mv T pm f
          have e1 : gs = s.gens := mv.gens
          have e2 : dr = s.drawn := mv.drawn
          have e3 : os = s.os := mv.os
          subst e1 e2 e3
          show wpAny _ _ _ _ _ _
          refine wpAny_pure ?_
          show wpAny _ _ (ret Value.none) _ _ _
          exact wpAny_pure ⟨rfl, h', tk, L, es, ep, t, rfl, T, pm, f⟩
      · cases r2 with
        | error e => exact hr2
        | ok fl2 =>
          cases fl2 with
          | ret r =>
            obtain ⟨rfl, h', tk, L, es, ep, t, rfl, T, pm, f⟩ := hr2
            repeat (any_goals (first | assumption | wp_step))
            exact q _ _ _ _ _ _ T pm f
          | _ => exact hr2.elim
    | _ => exact hr1.elim
end
end Hd
set_option maxHeartbeats 8000000
/-! Pairs of a tuple of ints and a step: sorted, in sets. -/
namespace Hd
open PySem PySem.Spec PyProof.Rows L2
/-- (heaps, step) at b: the heaps at c, the step at d -/
structure It where
  b : Addr
  c : Addr
  d : Addr
  ns : List Int
  i : Nat
  j : Nat
def It.At (K : PySem.W.Frag) (H : Hp) (x : It) : Prop := SqT K H x.b [.ref x.c, .ref x.d] ∧ SqT K H x.c (x.ns.map V.int) ∧ SqT K H x.d [.int (x.i : Int), .int (x.j : Int)]
def It.data (x : It) : PyData := .tuple [.tuple (x.ns.map .int), .tuple [.int (x.i : Int), .int (x.j : Int)]]
def It.key (x : It) : NestedKey := kk [x.ns, [(x.i : Int), (x.j : Int)]]
def It.row (x : It) : Addr × NestedKey := (x.b, x.key)
def itLe : It → It → Bool := PySem.W.dataLe false It.data
theorem It.At.same {K : PySem.W.Frag} {H H' : Hp} {x : It} (e : Same H H') (h : x.At K H) : x.At K H' := ⟨Same.tup e h.1, Same.tup e h.2.1, Same.tup e h.2.2⟩
theorem toks_ints : ∀ (xs ys : List Int) (r r' : List (Int ⊕ List Nat)), PySem.W.keyToksAll (xs.map .int) ++ r = PySem.W.keyToksAll (ys.map .int) ++ r' → xs = ys ∧ r = r'
  | [], [], r, r', e => by
    simp only [List.map_nil, PySem.W.keyToksAll, List.cons_append, List.nil_append, List.cons.injEq, true_and] at e
    exact ⟨rfl, e⟩
  | [], y :: ys, r, r', e => by
    simp [PySem.W.keyToksAll] at e
  | x :: xs, [], r, r', e => by
    simp [PySem.W.keyToksAll] at e
  | x :: xs, y :: ys, r, r', e => by
    simp only [List.map_cons, PySem.W.keyToksAll, PySem.W.keyToks, List.cons_append, List.nil_append, List.cons.injEq, true_and, Sum.inl.injEq] at e
    obtain ⟨i1, i2⟩ := toks_ints xs ys r r' e.2
    exact ⟨by rw [e.1, i1], i2⟩
theorem toks_it {x y : It} (e : PySem.W.keyToks x.data = PySem.W.keyToks y.data) : x.ns = y.ns ∧ x.i = y.i ∧ x.j = y.j := by
  unfold It.data at e
  simp only [PySem.W.keyToks, PySem.W.keyToksAll, List.cons.injEq, true_and] at e
  obtain ⟨e1, e2⟩ := toks_ints _ _ _ _ e
  simp at e2
  exact ⟨e1, by omega, by omega⟩
theorem itLe_total : PySem.W.TotalLe itLe := PySem.W.sortLe_total _ false _
theorem itLe_anti {x y : It} (h1 : itLe x y = true) (h2 : itLe y x = true) : x.ns = y.ns ∧ x.i = y.i ∧ x.j = y.j := by
  refine toks_it ((listOrd itemOrd).total _ _ ?_ ?_)
  · have : (!PySem.W.dataLt x.data y.data) = true := h2
    simpa [PySem.W.dataLt] using this
  · have : (!PySem.W.dataLt y.data x.data) = true := h1
    simpa [PySem.W.dataLt] using this
theorem sorted_one : ∀ {l m : List It}, l.Perm m → (∀ x ∈ l, ∀ y ∈ l, itLe x y = true → itLe y x = true → x = y) → l.Pairwise (fun x y => itLe x y = true) → m.Pairwise (fun x y => itLe x y = true) → l = m
  | [], m, p, _, _, _ => (List.Perm.nil_eq p)
  | x :: l, [], p, _, _, _ => absurd (List.Perm.length_eq p) (by simp)
  | x :: l, y :: m, p, an, s1, s2 => by
    obtain ⟨a1, a2⟩ := List.pairwise_cons.mp s1
    obtain ⟨b1, b2⟩ := List.pairwise_cons.mp s2
    have e : x = y := by
      have hx : x ∈ y :: m := p.mem_iff.mp List.mem_cons_self
      have hy : y ∈ x :: l := p.mem_iff.mpr List.mem_cons_self
      rcases List.mem_cons.mp hx with z | z
      · exact z
      · rcases List.mem_cons.mp hy with u | u
        · exact u.symm
        · exact an x List.mem_cons_self y (List.mem_cons_of_mem _ u) (a1 y u) (b1 x z)
    subst e
    rw [sorted_one (List.Perm.cons_inv p) (fun u hu v hv => an u (List.mem_cons_of_mem _ hu) v (List.mem_cons_of_mem _ hv)) a2 b2]
theorem sort_same {l m : List It} (p : l.Perm m) (an : ∀ x ∈ m, ∀ y ∈ m, itLe x y = true → itLe y x = true → x = y) : l.mergeSort itLe = m.mergeSort itLe := by
  have p1 := List.mergeSort_perm l itLe
  have p2 := List.mergeSort_perm m itLe
  refine sorted_one ((p1.trans p).trans p2.symm) (fun x hx y hy => an x (p.mem_iff.mp (p1.mem_iff.mp hx)) y (p.mem_iff.mp (p1.mem_iff.mp hy))) (PySem.W.sort_pairwise itLe_total l) (PySem.W.sort_pairwise itLe_total m)
theorem perm_back {α β : Type} (f : α → β) : ∀ {L M : List β}, L.Perm M → ∀ xs : List α, M = xs.map f → ∃ ys : List α, L = ys.map f ∧ ys.Perm xs := by
  intro L M p
  induction p with
  | nil => exact fun xs e => ⟨xs, e, List.Perm.refl _⟩
  | cons x p ih =>
    intro xs e
    obtain ⟨y, ys, rfl, e1, e2⟩ := List.map_eq_cons_iff.mp e.symm
    obtain ⟨zs, z1, z2⟩ := ih ys e2.symm
    exact ⟨y :: zs, by rw [List.map_cons, e1, z1], z2.cons y⟩
  | swap x y l =>
    intro xs e
    obtain ⟨u, us, rfl, e1, e2⟩ := List.map_eq_cons_iff.mp e.symm
    obtain ⟨v, vs, rfl, e3, e4⟩ := List.map_eq_cons_iff.mp e2
    exact ⟨v :: u :: vs, by rw [List.map_cons, List.map_cons, e1, e3, e4], List.Perm.swap _ _ _⟩
  | trans p q ih1 ih2 =>
    intro xs e
    obtain ⟨ys, y1, y2⟩ := ih2 xs e
    obtain ⟨zs, z1, z2⟩ := ih1 ys y1
    exact ⟨zs, z1, z2.trans y2⟩
end Hd
set_option maxHeartbeats 8000000
namespace Hd
open PySem PySem.Spec PyProof.Rows L2
theorem nums_all {h : Heap} : ∀ {us : List Value} {ns : List Int}, IntsAre us ns → NestedAll h (ns.map .num) us
  | _, _, .nil => .nil
  | _, _, .cons n t r => .cons (.int n t) (nums_all r)
theorem depth_nums : ∀ ns : List Int, NestedKey.depthAll (ns.map .num) = 0
  | [] => by simp [NestedKey.depthAll]
  | n :: ns => by
    have := depth_nums ns
    simp only [List.map_cons, NestedKey.depthAll, NestedKey.depth]
    omega
theorem it_depth (x : It) : x.data.depth = 2 := by
  have e1 := deep_ints x.ns
  unfold It.data
  simp only [PyData.depth, PyData.depthAll, e1]
  omega
theorem it_alike (x y : It) : PySem.W.alike x.data y.data = true := by
  unfold It.data
  have e1 := PySem.W.alike_ints x.ns y.ns
  simp [PySem.W.alike, PySem.W.alikeAll, e1]
section
variable {X : Cx} {pins : List (Addr × Obj)} {σ : L2.St} {H : Hp} {s : Shared}
/-- what stands at an item -/
theorem it_there (I : Inv X pins σ H s) {x : It} (h : x.At X.K H) : ∃ vs us : List Value, s.heap.IsTuple x.b #[.ref x.c, .ref x.d] ∧ s.heap.IsTuple x.c vs.toArray ∧ s.heap.IsTuple x.d us.toArray ∧ IntsAre vs x.ns ∧ IntsAre us [(x.i : Int), (x.j : Int)] := by
  obtain ⟨h1, h2, h3⟩ := h
  obtain ⟨a1, r1, t1, _⟩ := I.tuple h1
  obtain ⟨a2, r2, t2, _⟩ := I.tuple h2
  obtain ⟨a3, r3, t3, _⟩ := I.tuple (xs := [(x.i : Int), (x.j : Int)].map V.int) h3
  obtain ⟨u1, u2, rfl, e1, e2⟩ := vals2 r1
  cases e1
  cases e2
  exact ⟨a2, a3, t1, t2, t3, r2.ints, r3.ints⟩
theorem it_reads (I : Inv X pins σ H s) {x : It} (h : x.At X.K H) : Reads s.heap (.ref x.b) x.data [] := by
  obtain ⟨vs, us, ⟨o1, g1, c1, n1, d1⟩, ⟨o2, g2, c2, n2, d2⟩, ⟨o3, g3, c3, n3, d3⟩, r2, r3⟩ := it_there I h
  exact .tuple g1 c1 d1 (ReadsAll.cons (as := []) (bs := []) (.tuple g2 c2 d2 (by simpa using reads_ints (h := s.heap) r2)) (ReadsAll.cons (as := []) (bs := []) (.tuple g3 c3 d3 (by simpa using reads_ints (h := s.heap) r3)) .nil))
theorem it_is (I : Inv X pins σ H s) {x : It} (h : x.At X.K H) : (pairKind X.prog X.w).is s.heap x.key x.b := by
  obtain ⟨vs, us, ⟨o1, g1, c1, n1, d1⟩, ⟨o2, g2, c2, n2, d2⟩, ⟨o3, g3, c3, n3, d3⟩, r2, r3⟩ := it_there I h
  refine ⟨⟨?_, ?_⟩, _, rfl⟩
  · exact .tup g1 c1 d1 (.cons (.tup g2 c2 d2 (by simpa using nums_all (h := s.heap) r2)) (.cons (.tup g3 c3 d3 (by simpa using nums_all (h := s.heap) r3)) .nil))
  · have e1 := depth_nums x.ns
    have e2 := depth_nums [(x.i : Int), (x.j : Int)]
    show NestedKey.depth x.key ≤ 8
    unfold It.key kk
    simp only [List.map_cons, List.map_nil, NestedKey.depth, NestedKey.depthAll] at e2 ⊢
    rw [e1]
    omega
theorem refs_vals : ∀ (xs : List It), Vals (xs.map fun x => V.ref x.b) (xs.map fun x => Value.ref x.b)
  | [] => .nil
  | x :: xs => .cons rfl (refs_vals xs)
theorem refs_of : ∀ {xs : List It} {us : List Value}, Vals (xs.map fun x => V.ref x.b) us → us = xs.map fun x => Value.ref x.b
  | [], _, .nil => rfl
  | x :: xs, _, .cons r t => by
    cases r
    rw [refs_of t]
    rfl
theorem each_refs : ∀ (xs : List It) {R : Value → It → Prop}, (∀ x ∈ xs, R (.ref x.b) x) → PySem.W.EachIs R (xs.map fun x => Value.ref x.b) xs
  | [], _, _ => .nil
  | x :: xs, _, h => .cons (h x List.mem_cons_self) (each_refs xs fun y hy => h y (List.mem_cons_of_mem _ hy))
theorem refs_each : ∀ {us : List Value} {xs : List It}, PySem.W.EachIs (fun v x => v = Value.ref x.b) us xs → us = xs.map fun x => Value.ref x.b
  | _, _, .nil => rfl
  | _, _, .cons e t => by rw [e, refs_each t]; rfl
theorem its_sortable (xs : List It) : PySem.W.Sortable (xs.map It.data) := PySem.W.Sortable.tuples fun x => ⟨_, _, rfl⟩
theorem its_alike (xs : List It) : PySem.W.AllAlike (xs.map It.data) := PySem.W.AllAlike.of it_alike
/-- sorted(xs), a list of pairs -/
def rSortIts (K : PySem.W.Frag) : List V → Hp → VK → Prop := fun vs H Q => ∃ (l : Addr) (xs : List It), vs = [V.ref l] ∧ SqL K H l (xs.map fun x => V.ref x.b) ∧ (∀ x ∈ xs, x.At K H) ∧
  ∀ p, H p = none → Q (.ref p) (upd H p (.lst ((xs.mergeSort itLe).map fun x => V.ref x.b)))
theorem cr_sortIts (hu : X.A.units + 64 < cLine) : CallR X (.builtin "sorted") (rSortIts X.K) := by
  intro pins s σ H vs us Q I r h
  obtain ⟨l, xs, rfl, hl, hx, q⟩ := h
  rw [Vals.ref1 r]
  obtain ⟨its, rv, pl, hz⟩ := I.list hl
  have ev := refs_of rv
  subst ev
  have hlen : xs.length ≤ sizeLine := by rw [List.length_map] at hz; exact hz
  refine PySem.W.sorted_data (R := fun v x => v = Value.ref x.b) (enc := It.data) (bs := xs) pl.isList (each_refs xs fun _ _ => rfl) (each_refs xs fun x m => ⟨[], it_reads I (hx x m)⟩) (its_alike xs) (its_sortable xs) hlen (fun x m => by rw [it_depth]; omega) fun out hol e => ?_
  obtain ⟨n, hn⟩ := sortedAll_at s.heap (xs.map fun x => Value.ref x.b) out.toArray
  have eo := refs_each e
  refine ⟨.ref (s.heap.objs.size + 1), upd H (s.heap.objs.size + 1) (.lst ((xs.mergeSort itLe).map fun x => V.ref x.b)), I.laid (t' := s.toks) (fun b u e => sortedAll_old e) (Nat.le_succ _) ⟨?_, out, n, ?_, hn⟩, rfl, q _ (I.hok.fresh (Nat.le_succ _))⟩
  · rw [List.length_map, List.length_mergeSort]
    exact hlen
  · rw [eo]
    exact refs_vals _
/-- the set at a, the pairs in some order -/
structure SetN0 (P : Program) (w : World) (h : Heap) (a : Addr) (ys : List It) : Prop where
  ex : ∃ (es : Array (Int × Value)) (ep : Nat) (t : SetTable), SetAt h a es ep t ∧ t.fits es.size = true ∧ Ris t.place.toList ∧ (w.params.followText "set-order" = true ∨ t.led = true) ∧ (es.toList.map (·.2)).Perm (ys.map fun y => Value.ref y.b) ∧ es.size < 64
def SetN (P : Program) (w : World) (a : Addr) (ys : List It) : HO := .ext fun h => SetN0 P w h a ys
theorem setN_new {P : Program} {w : World} {H : Hp} {h : Heap} {a : Addr} {ys : List It} (R : SetN0 P w h a ys) : ObjOk P w H h a (SetN P w a ys) := by
  have ⟨es, ep, t, ⟨o, ho, r⟩, q⟩ := R.ex
  refine ⟨R, ⟨o, ho⟩, fun h1 h2 p k => ?_⟩
  have ⟨es', ep', t', ⟨o', ho', r'⟩, q'⟩ := SetN0.ex p
  exact ⟨⟨es', ep', t', ⟨o', k o' ho', r'⟩, q'⟩⟩
def rSetIts (K : PySem.W.Frag) (P : Program) (w : World) : List V → Hp → VK → Prop := fun vs H Q => ∃ (l : Addr) (xs : List It), vs = [V.ref l] ∧ SqL K H l (xs.map fun x => V.ref x.b) ∧ (∀ x ∈ xs, x.At K H) ∧ (xs.map It.key).Nodup ∧ xs.length < 64 ∧
  ∀ a, H a = none → Q (.ref a) (upd H a (SetN P w a xs))
theorem cr_setIts (hc : X.calm = true) (hu : X.A.units + 64 < cLine) : CallR X (.type "set") (rSetIts X.K X.prog X.w) := by
  intro pins s σ H vs us Q I r h
  obtain ⟨l, xs, rfl, hl, hx, un, few, q⟩ := h
  rw [Vals.ref1 r]
  obtain ⟨its, rv, pl, hz⟩ := I.list hl
  have ev := refs_of rv
  subst ev
  refine set_made (κ := pairKind X.prog X.w) pairKind_set (xs.map It.row) (I.ok.hd hc) pl.isList (by simp [It.row, Function.comp_def]) (fun p hp => ?_) (by rw [List.length_map]; exact few) (by rw [List.map_map]; exact un)
    (by show X.A.units + 1 + 1 + 1 + 8 < cLine; omega) fun h' tk L es ep t S pm k => ?_
  · obtain ⟨x, m, rfl⟩ := List.mem_map.mp hp
    exact it_is I (hx x m)
  · have pv : (es.toList.map (·.2)).Perm (xs.map fun y => Value.ref y.b) := by
      have e1 := pm.map fun p : Addr × NestedKey => Value.ref p.1
      rw [List.map_map] at e1
      rw [S.cells, List.map_map]
      exact e1
    obtain ⟨o, g1, g2, g3⟩ := S.obj
    have S0 : SetN0 X.prog X.w h' s.heap.objs.size xs := ⟨⟨es, ep, t, ⟨o, g1, g2.1, g3⟩, S.fits (s := { s with heap := h' }), S.tab.ris, S.led, pv, by rw [S.count (s := { s with heap := h' })]; exact S.few⟩⟩
    exact ⟨.ref s.heap.objs.size, upd H s.heap.objs.size (SetN X.prog X.w s.heap.objs.size xs), I.laid (t' := tk) k (Nat.le_refl _) (setN_new S0), rfl, q _ (I.hok.fresh (Nat.le_refl _))⟩
end
end Hd
set_option maxHeartbeats 8000000
namespace Hd
open PySem PySem.Spec PyProof.Rows L2
section
variable {X : Cx}
/-- sorted(a set of pairs) -/
def rSortSetIts (K : PySem.W.Frag) (P : Program) (w : World) : List V → Hp → VK → Prop := fun vs H Q => ∃ (a : Addr) (ys : List It), vs = [V.ref a] ∧ H a = some (SetN P w a ys) ∧ (∀ y ∈ ys, y.At K H) ∧
  ∀ (zs : List It) (p : Addr), zs.Perm ys → H p = none → Q (.ref p) (upd H p (.lst ((zs.mergeSort itLe).map fun x => V.ref x.b)))
theorem cr_sortSetIts (hc : X.calm = true) (hu : X.A.units + 64 < cLine) : CallR X (.builtin "sorted") (rSortSetIts X.K X.prog X.w) := by
  intro pins s σ H vs us Q I r h
  obtain ⟨a, ys, rfl, ha, hy, q⟩ := h
  rw [Vals.ref1 r]
  have S0 : SetN0 X.prog X.w s.heap a ys := (I.hok a _ ha).1
  obtain ⟨es, ep, t, at_, fit, ris, led, pv, few⟩ := S0.ex
  refine Calls.call_function_entry kind_sorted plain_sorted entry_sorted (args_sorted1 _) ?_
  unfold Builtin.«sorted»
  refine wpAny_bind (m := checkCount "sorted" 1 1 _) (wpAny_pure ?_)
  refine wpAny_bind (collect_set (A := X.A.in1) (I.ok.hd hc) at_ fit (by unfold scanBound; omega) ris led fun s1 out k1 hz g1 o1 pm => ?_)
  obtain ⟨zs, rfl, pz⟩ := perm_back (fun y : It => Value.ref y.b) (pm.trans pv) ys rfl
  have lenE : zs.length = es.size := by
    have := pm.length_eq
    rwa [List.length_map, List.length_map, Array.length_toList] at this
  have lenL : (zs.map fun y => Value.ref y.b).length ≤ sizeLine := by rw [List.length_map, sizeLine_eq]; omega
  refine wpAny_bind (wpAny_newList ?_ lenL)
  have atN : (s1.heap.push (seqObj "list" (zs.map fun y => Value.ref y.b).toArray 0)).get? s1.heap.objs.size = some (seqObj "list" (zs.map fun y => Value.ref y.b).toArray 0) := Heap.get?_push_size _ rfl
  have k2 : ∀ b o, s.heap.get? b = some o → (s1.heap.push (seqObj "list" (zs.map fun y => Value.ref y.b).toArray 0)).get? b = some o := fun b o e => Heap.get?_push_of_some _ (k1 b o e)
  refine wpAny_bind (wpAny_holding (PySem.W.list_sort_data (s := { s1 with heap := s1.heap.push (seqObj "list" (zs.map fun y => Value.ref y.b).toArray 0) }) (R := fun v x => v = Value.ref x.b) (enc := It.data) (bs := zs) atN (each_refs zs fun _ _ => rfl)
    (each_refs zs fun x m => ⟨[], PyProof.Rows.Reads.keeps k2 (it_reads I (hy x (pz.mem_iff.mp m))), fun z => nomatch z⟩) (its_alike zs) (its_sortable zs) (by rw [sizeLine_eq]; omega) (fun x m => by rw [it_depth]; show X.A.units + 1 + 1 + 2 < cLine; omega) fun out hol e => ?_))
  obtain ⟨n, hn⟩ := sortedHeap_at (vs := zs.map fun y => Value.ref y.b) (out := out.toArray) atN
  have eo := refs_each e
  have k3 : ∀ b o, s.heap.get? b = some o → (sortedHeap (s1.heap.push (seqObj "list" (zs.map fun y => Value.ref y.b).toArray 0)) s1.heap.objs.size (zs.map fun y => Value.ref y.b) out.toArray).get? b = some o := fun b o e => by
    have lt := Heap.lt_size (k1 b o e)
    rw [sortedHeap_old (Nat.ne_of_lt lt) (by rw [size_push']; exact Nat.lt_succ_of_lt lt)]
    exact k2 b o e
  have hp : H s1.heap.objs.size = none := I.hok.fresh hz
  have hlen : ((zs.mergeSort itLe).map fun x => V.ref x.b).length ≤ sizeLine := by
    rw [List.length_map, List.length_mergeSort, sizeLine_eq]
    omega
  refine wpAny_pure ⟨_, rfl, ?_⟩
  have J : Inv X pins σ (upd H s1.heap.objs.size (.lst ((zs.mergeSort itLe).map fun x => V.ref x.b))) { s with heap := sortedHeap (s1.heap.push (seqObj "list" (zs.map fun y => Value.ref y.b).toArray 0)) s1.heap.objs.size (zs.map fun y => Value.ref y.b) out.toArray, gens := s1.gens, drawn := s1.drawn, toks := s1.toks } :=
    I.call (ch := []) (Un.laid k3 hz hp) (I.hok.laid k3 hz ⟨hlen, out, n, by rw [eo]; exact refs_vals _, hn⟩) (by rw [g1]; exact I.bare) (fun _ z => nomatch z)
  refine ⟨.ref s1.heap.objs.size, _, ?_, rfl, q zs _ pz hp⟩
  have eos : ({ s1 with heap := sortedHeap (s1.heap.push (seqObj "list" (zs.map fun y => Value.ref y.b).toArray 0)) s1.heap.objs.size (zs.map fun y => Value.ref y.b) out.toArray } : Shared) = { s with heap := sortedHeap (s1.heap.push (seqObj "list" (zs.map fun y => Value.ref y.b).toArray 0)) s1.heap.objs.size (zs.map fun y => Value.ref y.b) out.toArray, gens := s1.gens, drawn := s1.drawn, toks := s1.toks } := by
    cases s1
    cases s
    cases o1
    rfl
  rw [eos]
  exact J
end
end Hd
set_option maxHeartbeats 4000000
namespace Hd
open PySem PySem.Spec PyProof.Rows L2
/-- a list at l of steps' tuples -/
structure PrL (K : PySem.W.Frag) (H : Hp) (l : Addr) (n : Nat) (ps : List (Addr × Nat × Nat)) : Prop where
  ls : H l = some (.lst (ps.map fun p => V.ref p.1))
  st : ∀ p ∈ ps, SqT K H p.1 [.int (p.2.1 : Int), .int (p.2.2 : Int)] ∧ p.2.1 < n ∧ p.2.2 < n ∧ p.2.1 ≠ p.2.2
theorem PrL.same {K : PySem.W.Frag} {H H' : Hp} {t : Addr} {n : Nat} {ps : List (Addr × Nat × Nat)} (e : Same H H') (h : PrL K H t n ps) : PrL K H' t n ps :=
  ⟨e _ _ h.ls, fun p hp => let ⟨a, b⟩ := h.st p hp; ⟨Same.tup e a, b⟩⟩
theorem PrL.kept {K : PySem.W.Frag} {H H' : Hp} {t h c : Addr} {n : Nat} {ps : List (Addr × Nat × Nat)} (e : Kept h c H H') (d : DrawAt H h c) (n1 : t ≠ h) (n2 : t ≠ c) (x : PrL K H t n ps) : PrL K H' t n ps :=
  ⟨e _ _ x.ls n1 n2, fun p hp => let ⟨a, b⟩ := x.st p hp; ⟨e.tup d a, b⟩⟩
/-- all pairs, in order -/
def row (n i : Nat) : List (Nat × Nat) := ((List.range n).filter fun j => decide (j ≠ i)).map fun j => (i, j)
def rowTo (i j : Nat) : List (Nat × Nat) := ((List.range j).filter fun j => decide (j ≠ i)).map fun j => (i, j)
def prsTo (n i : Nat) : List (Nat × Nat) := (List.range i).flatMap (row n)
def prs (n : Nat) : List (Nat × Nat) := prsTo n n
theorem prsTo_succ (n i : Nat) : prsTo n (i + 1) = prsTo n i ++ row n i := by
  unfold prsTo
  rw [List.range_succ, List.flatMap_append]
  simp
theorem rowTo_succ (i j : Nat) : rowTo i (j + 1) = rowTo i j ++ (if j = i then [] else [(i, j)]) := by
  unfold rowTo
  rw [List.range_succ, List.filter_append, List.map_append]
  by_cases h : j = i
  · subst h
    simp
  · simp [h]
theorem prs_len {n : Nat} (h2 : n ≤ 6) : (prs n).length = n * (n - 1) := by
  have : n = 0 ∨ n = 1 ∨ n = 2 ∨ n = 3 ∨ n = 4 ∨ n = 5 ∨ n = 6 := by omega
  rcases this with e | e | e | e | e | e | e <;> subst e <;> decide
theorem prsTo_short {n : Nat} (h2 : n ≤ 6) : ∀ i, i ≤ n → (prsTo n i).length ≤ 36 := by
  have : n = 0 ∨ n = 1 ∨ n = 2 ∨ n = 3 ∨ n = 4 ∨ n = 5 ∨ n = 6 := by omega
  rcases this with e | e | e | e | e | e | e <;> subst e <;> decide
def spPairs (K : PySem.W.Frag) : Sp := fun vs H Q _ => ∃ n : Nat, vs = [.int (n : Int)] ∧ n ≤ 6 ∧ ∀ (l : Addr) (qs : List (Addr × Nat × Nat)) (H' : Hp), Same H H' → H l = none → PrL K H' l n qs → qs.map (·.2) = prs n → Q (.ref l) H'
theorem dec_int (a b : Int) : decide (V.int a = V.int b) = decide (a = b) := by
  by_cases z : a = b
  · subst z
    rw [decide_eq_true rfl, decide_eq_true rfl]
  · rw [decide_eq_false z, decide_eq_false fun q => z (V.int.inj q)]
section
variable {P : Program} {w : World} {K : PySem.W.Frag} {mg : Str → Option Value} {base : Heap}
abbrev s_l_can : Stmt := top 30
theorem sc_l_can : FnScope ["_law_heaps_here", "_law_step"] ["_law_heaps_here", "_law_step"] (defScope s_l_can) := ⟨rfl, rfl, rfl, by decide +kernel, rfl, by decide +kernel, by decide +kernel⟩
theorem ok_l_can {f : Addr} {fd : FuncData} (F : Fun K "_law_can" "_law_can" s_l_can f fd) : FnOk P w K mg base CX0 1 f fd ["_law_heaps_here", "_law_step"] (spCan K) := by
  refine F.ok sc_l_can (fun vs H Q E h => ?_) (fun cdv A outer s H vs Q E hr h => ?_)
  · obtain ⟨t, u, ns, i, j, rfl, _⟩ := h
    rfl
  · obtain ⟨t, u, ns, i, j, rfl, hS, hU, hi, hj, k⟩ := h
    refine ⟨_, (pss_one (ps_ret (pe_chain op_lt op_le pe_int (pe_ix ix_tup (pv 0) (pe_ix ix_tup (pv 1) pe_int (fun _ _ => rfl)) (fun _ _ => rfl)) (pe_ix ix_tup (pv 0) (pe_ix ix_tup (pv 1) pe_int (fun _ _ => rfl)) (fun _ _ => rfl))))), ?_⟩
    refine ⟨_, rfl, _, rfl, u, _, _, _, rfl, rfl, hU, rfl, t, _, _, _, rfl, rfl, hS, at_of rfl (getD_at hj), _, _, rfl, rfl, _, rfl, ?_⟩
    unfold can at k
    cases hd : decide (0 < ns.getD j 0) with
    | false =>
      rw [hd] at k
      exact iteF k
    | true =>
      rw [hd] at k
      exact iteT ⟨_, rfl, _, rfl, u, _, _, _, rfl, rfl, hU, rfl, t, _, _, _, rfl, rfl, hS, at_of rfl (getD_at hi), _, _, rfl, rfl, k⟩
abbrev s_l_behind : Stmt := top 31
theorem sc_l_behind : FnScope ["_law_heaps_here", "_law_step", "_law_row"] ["_law_heaps_here", "_law_step"] (defScope s_l_behind) := ⟨rfl, rfl, rfl, by decide +kernel, rfl, by decide +kernel, by decide +kernel⟩
theorem ok_l_behind {f : Addr} {fd : FuncData} (F : Fun K "_law_behind" "_law_behind" s_l_behind f fd) (T : Tx K mg) : FnOk P w K mg base CX0 1 f fd ["_law_heaps_here", "_law_step"] (spBehind K) := by
  refine F.ok sc_l_behind (fun vs H Q E h => ?_) (fun cdv A outer s H vs Q E hr h => ?_)
  · obtain ⟨t, u, ns, i, j, rfl, _⟩ := h
    rfl
  · obtain ⟨t, u, ns, i, j, rfl, hS, hU, hi, hj, hij, k⟩ := h
    refine ⟨_, (pss_cons (ps_set (i := 2) sc_l_behind.nd rfl (Or.inl rfl) (pe_callTy call_list_of (by rfl) T.list (by decide +kernel) (pa_cons (pv 0) pa_nil)))
      (pss_cons (ps_asg (pe_op op_sub (pe_ix ix_list (pv 2) (pe_ix ix_tup (pv 1) pe_int (fun _ _ => rfl)) (fun _ _ => rfl)) (pe_ix ix_tup (pv 0) (pe_ix ix_tup (pv 1) pe_int (fun _ _ => rfl)) (fun _ _ => rfl))) (pg_sub (pv 2) (pe_ix ix_tup (pv 1) pe_int (fun _ _ => rfl)) set_list))
      (pss_cons (ps_asg (pe_op op_add (pe_ix ix_list (pv 2) (pe_ix ix_tup (pv 1) pe_int (fun _ _ => rfl)) (fun _ _ => rfl)) (pe_ix ix_tup (pv 0) (pe_ix ix_tup (pv 1) pe_int (fun _ _ => rfl)) (fun _ _ => rfl))) (pg_sub (pv 2) (pe_ix ix_tup (pv 1) pe_int (fun _ _ => rfl)) set_list))
      (pss_one (ps_ret (pe_callTy call_tuple_of (by rfl) T.tuple (by decide +kernel) (pa_cons (pv 2) pa_nil))))))), ?_⟩
    refine ⟨_, rfl, t, _, rfl, .inr hS, fun l hl => ?_⟩
    have s1 : Same H (upd H l (.lst (ns.map V.int))) := Same.new hl
    refine ⟨_, rfl, _, rfl, u, _, _, _, rfl, rfl, Same.tup s1 hU, rfl, l, _, _, _, rfl, rfl, SqL.of upd_same, at_of rfl (getD_at hi), _, rfl, _, rfl, u, _, _, _, rfl, rfl, Same.tup s1 hU, rfl, t, _, _, _, rfl, rfl, Same.tup s1 hS, at_of rfl (getD_at hj), _, _, rfl, rfl, ?_⟩
    refine ⟨_, rfl, _, rfl, u, _, _, _, rfl, rfl, Same.tup s1 hU, rfl, l, _, _, i, rfl, rfl, upd_same, (by rw [List.length_map]; exact ixN_nat hi), ?_⟩
    rw [upd_upd]
    have s2 : Same H (upd H l (.lst ((ns.map V.int).set i (.int (ns.getD i 0 - ns.getD j 0))))) := Same.new hl
    refine ⟨_, rfl, _, rfl, u, _, _, _, rfl, rfl, Same.tup s2 hU, rfl, l, _, _, _, rfl, rfl, SqL.of upd_same, at_of rfl (by rw [List.getElem?_set_ne hij]; exact getD_at hj), _, rfl, _, rfl, u, _, _, _, rfl, rfl, Same.tup s2 hU, rfl, t, _, _, _, rfl, rfl, Same.tup s2 hS, at_of rfl (getD_at hj), _, _, rfl, rfl, ?_⟩
    refine ⟨_, rfl, _, rfl, u, _, _, _, rfl, rfl, Same.tup s2 hU, rfl, l, _, _, j, rfl, rfl, upd_same, (by rw [List.length_set, List.length_map]; exact ixN_nat hj), ?_⟩
    rw [upd_upd]
    refine ⟨_, rfl, l, _, rfl, .inl ⟨SqL.of upd_same, fun p hp => ?_⟩⟩
    have hpl : p ≠ l := fun e => by
      rw [e, upd_same] at hp
      cases hp
    have hp0 : H p = none := by
      rw [upd_ne hpl] at hp
      exact hp
    refine k p _ (same_upd (Same.new hl) hp0) hp0 ?_
    rw [upd_same]
    unfold mv shf
    rw [List.map_set, List.map_set]
abbrev s_l_pairs : Stmt := top 32
theorem sc_l_pairs : FnScope ["_law_size", "_law_found", "_law_one", "_law_other"] ["_law_size"] (defScope s_l_pairs) := ⟨rfl, rfl, rfl, by decide +kernel, rfl, by decide +kernel, by decide +kernel⟩
theorem ok_l_pairs {f : Addr} {fd : FuncData} (F : Fun K "_law_pairs" "_law_pairs" s_l_pairs f fd) (T : Tx K mg) : FnOk P w K mg base CX0 1 f fd ["_law_size"] (spPairs K) := by
  refine F.ok sc_l_pairs (fun vs H Q E h => ?_) (fun cdv A outer s H vs Q E hr h => ?_)
  · obtain ⟨n, rfl, _⟩ := h
    rfl
  · obtain ⟨n, rfl, hn, k⟩ := h
    refine ⟨_, (pss_cons (ps_set (i := 1) sc_l_pairs.nd rfl (Or.inl rfl) (pe_lst pa_nil))
      (pss_cons (ps_for PassesOwn.never rfl (pi_range1 rfl T.range (pa_cons (pv 0) pa_nil)) (pg_name (i := 2) sc_l_pairs.nd rfl (Or.inr rfl))
      (pss_one (ps_set (i := 1) sc_l_pairs.nd rfl (Or.inl rfl) (pe_op op_cat (pv 1) (pe_lc (own := [("_law_other", 3)]) (g := gName 3) (by rfl) sc_l_pairs.nd (pi_range1 rfl T.range (pa_cons (pv 0) pa_nil)) (blkOk_by (own := [("_law_other", 3)]) (N := ["_law_size", "_law_found", "_law_one", "_law_other"]) (sc := defScope s_l_pairs) (by decide +kernel)) (fun _ _ _ _ _ => pg_name (i := 3) sc_l_pairs.nd rfl (Or.inl rfl)) (fun _ _ _ _ _ => pts_one (pt_cmpR op_ne (pv 3) (pv 2) (nomark _))) (fun _ _ _ _ _ => (pe_tup (pa_cons (pv 2) (pa_cons (pv 3) pa_nil)))))))))
      (pss_one (ps_ret (pv 1))))), ?_⟩
    refine ⟨by show 0 ≤ sizeLine; decide, fun l0 hl0 => ?_⟩
    refine ⟨_, rfl, _, rfl, by omega, by omega, ?_⟩
    rw [Int.toNat_natCast]
    refine for_range (lo := 0) (n := n) (fun i σ H1 => ∃ (l : Addr) (qs : List (Addr × Nat × Nat)) (v1 v2 : Option V), σ = [some (.int (n : Int)), some (.ref l), v1, v2] ∧ Same H H1 ∧ H l = none ∧ PrL K H1 l n qs ∧ qs.map (·.2) = prsTo n i) ⟨l0, [], none, none, rfl, Same.new hl0, hl0, ⟨upd_same, fun p hp => (nomatch hp)⟩, rfl⟩ ?_ ?_
    · rintro i σ H1 hi ⟨l, qs, v1, v2, rfl, s1, hl, hP, hq⟩
      rw [Int.zero_add]
      have hql : qs.length ≤ 36 := by
        have e := congrArg List.length hq
        rw [List.length_map] at e
        rw [e]
        exact prsTo_short hn i (by omega)
      refine ⟨_, rfl, _, rfl, _, rfl, by omega, by omega, ?_⟩
      rw [Int.toNat_natCast]
      intro D hD
      refine lc_range (lo := 0) (n := n) (fun j H2 => ∃ rs : List (Addr × Nat × Nat), Same H1 H2 ∧ PrL K H2 D n rs ∧ rs.map (·.2) = rowTo i j) ⟨[], Same.new hD, ⟨upd_same, fun p hp => (nomatch hp)⟩, rfl⟩ ?_ ?_
      · rintro j H2 hj ⟨rs, s2, hR, hr2⟩
        rw [Int.zero_add]
        refine ⟨rfl, _, rfl, _, rfl, rfl, _, rfl, ?_⟩
        rw [dec_int]
        have hrl : rs.length ≤ j := by
          have e := congrArg List.length hr2
          rw [List.length_map] at e
          rw [e]
          unfold rowTo
          rw [List.length_map]
          exact Nat.le_trans (List.length_filter_le _ _) (by rw [List.length_range]; exact Nat.le_refl _)
        by_cases hji : j = i
        · have z : decide ((j : Int) = (i : Int)) = true := decide_eq_true (by omega)
          rw [z]
          refine iteF ⟨rs, s2, hR, ?_⟩
          rw [rowTo_succ, if_pos hji, List.append_nil]
          exact hr2
        · have z : decide ((j : Int) = (i : Int)) = false := decide_eq_false (by omega)
          rw [z]
          refine iteT ⟨_, rfl, _, rfl, by show 2 ≤ sizeLine; decide, fun TT hT => ?_⟩
          have s3 : Same H2 (upd H2 TT (.tup [.int (i : Int), .int (j : Int)])) := Same.new hT
          refine ⟨_, s3 _ _ hR.ls, ?_, rs ++ [(TT, i, j)], same_upd (s2.trans s3) hD, ⟨?_, fun p hp => ?_⟩, ?_⟩
          · rw [List.length_map, sizeLine_eq]
            omega
          · rw [upd_same, List.map_append]
            rfl
          · have nTD : TT ≠ D := (ne_of_none hR.ls hT).symm
            rcases List.mem_append.mp hp with hp | hp
            · obtain ⟨a, b⟩ := hR.st p hp
              refine ⟨?_, b⟩
              have a3 := Same.tup s3 a
              have a4 : SqT K (upd (upd H2 TT (.tup [.int (i : Int), .int (j : Int)])) D (.lst (rs.map (fun p => V.ref p.1) ++ [V.ref TT]))) p.1 [.int (p.2.1 : Int), .int (p.2.2 : Int)] := by
                rcases a3 with (a3 | ⟨o, a3⟩) | a3
                · exact .inl (.inl (by rw [upd_ne (ne_of a3 (s3 _ _ hR.ls) (by intro z; cases z))]; exact a3))
                · exact .inl (.inr ⟨o, by rw [upd_ne (ne_of a3 (s3 _ _ hR.ls) (by intro z; cases z))]; exact a3⟩)
                · exact .inr a3
              exact a4
            · have ep : p = (TT, i, j) := by simpa using hp
              subst ep
              exact ⟨SqT.of (by rw [upd_ne nTD, upd_same]), hi, hj, fun z => hji z.symm⟩
          · rw [List.map_append, hr2, rowTo_succ, if_neg hji]
            rfl
      · rintro H2 ⟨rs, s2, hR, hr2⟩
        refine ⟨l, D, _, _, rfl, rfl, s2 _ _ hP.ls, hR.ls, ?_, fun p hp => ?_⟩
        · have e := congrArg List.length hr2
          rw [List.length_map] at e
          unfold rowTo at e
          rw [List.length_map] at e
          have := List.length_filter_le (fun j => decide (j ≠ i)) (List.range n)
          rw [List.length_range] at this
          rw [List.length_map, List.length_map, sizeLine_eq]
          omega
        have s3 : Same H2 (upd H2 p (.lst (qs.map (fun p => V.ref p.1) ++ rs.map (fun p => V.ref p.1)))) := Same.new hp
        have s4 := (s1.trans s2).trans s3
        refine ⟨p, qs ++ rs, _, _, rfl, s4, (s1.trans s2).free hp, ⟨by rw [upd_same, List.map_append], fun q hq' => ?_⟩, by rw [List.map_append, hq, hr2, prsTo_succ]; rfl⟩
        rcases List.mem_append.mp hq' with hq' | hq'
        · exact (hP.same (s2.trans s3)).st q hq'
        · exact (hR.same s3).st q hq'
    · rintro σ H1 ⟨l, qs, v1, v2, rfl, s1, hl, hP, hq⟩
      exact ⟨_, rfl, k l qs H1 s1 hl hP hq⟩
end
end Hd
set_option maxHeartbeats 8000000
namespace Hd
open PySem PySem.Spec PyProof.Rows L2
structure Tq (K : PySem.W.Frag) (mg : Str → Option Value) : Prop where
  int : mg "int" = none
  list : mg "list" = none
  len : mg "len" = none
  tuple : mg "tuple" = none
  isinstance : mg "isinstance" = none
  range : mg "range" = none
  sorted : mg "sorted" = none
  set : mg "set" = none
  any : mg "any" = none
  max : mg "max" = none
/-- a loop over range(n), whatever its body -/
theorem over_range {n : Nat} {H0 : Hp} {Qd : Hp → Prop} {body : V → Hp → (Hp → Prop) → Prop} (Pv : Nat → Hp → Prop) (h0 : Pv 0 H0) (hs : ∀ i H, i < n → Pv i H → body (.int (0 + (i : Int))) H (Pv (i + 1))) (hd : ∀ H, Pv n H → Qd H) :
    ∃ W : Nat → Nat → Hp → Prop, (∃ m, W 0 m H0) ∧ ∀ i m H, W i m H → ((Itr 0 n).stop i H ∧ Qd H) ∨ ((Itr 0 n).go i H ∧ ∃ Nx : Hp → Prop, (∀ H', Nx H' → ∃ m', m' < m ∧ W (i + 1) m' H') ∧ ∀ x H', (Itr 0 n).yld i H x H' → body x H' Nx) := by
  refine ⟨fun i m H => m + i = n ∧ Pv i H, ⟨n, rfl, h0⟩, fun i m H ⟨e, p⟩ => ?_⟩
  by_cases lt : i < n
  · refine .inr ⟨lt, Pv (i + 1), fun H' p' => ⟨m - 1, by omega, by omega, p'⟩, fun x H' y => ?_⟩
    rw [y.1, y.2]
    exact hs i H lt p
  · have e2 : i = n := by omega
    rw [e2] at p ⊢
    exact .inl ⟨Nat.le_refl n, hd H p⟩
def dbl (x : Int) : Bool := decide (0 < x) && decide (x % 2 = 0)
def erl (ns : List Int) (i j : Nat) : List Int := shf ns i j (-(ns.getD j 0 / 2))
def due (ns : List Int) : List (Nat × Nat) := (prs ns.length).filter fun q => can ns q.1 q.2
def lst (ns : List Int) : List (Nat × Nat) := (prs ns.length).filter fun q => dbl (ns.getD q.2 0)
def spDbl : Sp := fun vs H Q _ => ∃ x : Int, vs = [.int x] ∧ Q (.bl (dbl x)) H
def spErl (K : PySem.W.Frag) : Sp := fun vs H Q _ => ∃ (t u : Addr) (ns : List Int) (i j : Nat), vs = [.ref t, .ref u] ∧ SqT K H t (ns.map V.int) ∧ SqT K H u [.int (i : Int), .int (j : Int)] ∧ i < ns.length ∧ j < ns.length ∧ i ≠ j ∧
  ∀ (p : Addr) (H' : Hp), Same H H' → H p = none → H' p = some (.tup ((erl ns i j).map V.int)) → Q (.ref p) H'
def spSteps (K : PySem.W.Frag) : Sp := fun vs H Q _ => ∃ (t : Addr) (ns : List Int), vs = [.ref t] ∧ SqT K H t (ns.map V.int) ∧ hpsB ns = true ∧ ∀ (l : Addr) (qs : List (Addr × Nat × Nat)) (H' : Hp), Same H H' → PrL K H' l ns.length qs → qs.map (·.2) = due ns → Q (.ref l) H'
def spFirst (K : PySem.W.Frag) : Sp := fun vs H Q _ => ∃ (t : Addr) (ns : List Int), vs = [.ref t] ∧ SqT K H t (ns.map V.int) ∧ hpsB ns = true ∧ ∀ H', Same H H' → Q (.bl (!(ns.map dbl).any id)) H'
def spBefore (K : PySem.W.Frag) : Sp := fun vs H Q _ => ∃ (t : Addr) (ns : List Int), vs = [.ref t] ∧ SqT K H t (ns.map V.int) ∧ hpsB ns = true ∧ ∀ (l : Addr) (xs : List It) (H' : Hp), Same H H' → H' l = some (.lst ((xs.mergeSort itLe).map fun x => V.ref x.b)) → (∀ x ∈ xs, x.At K H' ∧ x.ns = erl ns x.i x.j ∧ x.i < ns.length ∧ x.j < ns.length ∧ x.i ≠ x.j) →
  (xs.map fun x => (x.i, x.j)) = lst ns → Q (.ref l) H'
theorem hps_len {ns : List Int} (h : hpsB ns = true) : 2 ≤ ns.length ∧ ns.length ≤ 6 := by
  unfold hpsB at h
  simp only [Bool.and_eq_true, decide_eq_true_eq] at h
  exact h.1
section
variable {P : Program} {w : World} {K : PySem.W.Frag} {mg : Str → Option Value} {base : Heap}
abbrev s_pairs_of : Stmt := top 5
theorem sc_pairs_of : FnScope ["many", "one", "other"] ["many"] (defScope s_pairs_of) := ⟨rfl, rfl, rfl, by decide +kernel, rfl, by decide +kernel, by decide +kernel⟩
theorem ok_pairs_of {f : Addr} {fd : FuncData} (F : Fun K "pairs_of" "pairs_of" s_pairs_of f fd) (T : Tq K mg) : FnOk P w K mg base CX0 1 f fd ["many"] (spPairs K) := by
  refine F.ok sc_pairs_of (fun vs H Q E h => ?_) (fun cdv A outer s H vs Q E hr h => ?_)
  · obtain ⟨n, rfl, _⟩ := h
    rfl
  · obtain ⟨n, rfl, hn, k⟩ := h
    refine ⟨_, (pss_one (ps_ret (pe_lc2 (own := [("one", 1), ("other", 2)]) (vs1 := [2]) (g := gName 1) (g1 := gName 2) (by rfl) sc_pairs_of.nd (pi_range1 rfl T.range (pa_cons (pv 0) pa_nil)) (blkOk_by (own := [("one", 1), ("other", 2)]) (N := ["many", "one", "other"]) (sc := defScope s_pairs_of) (by decide +kernel)) (by decide)
      (fun _ _ _ _ _ => pg_name (i := 1) sc_pairs_of.nd rfl (Or.inl rfl)) (fun _ _ _ _ _ => pts_nil) (fun _ _ _ _ _ => pi_range1 rfl T.range (pa_cons (pv 0) pa_nil)) (fun _ _ _ _ _ => pg_name (i := 2) sc_pairs_of.nd rfl (Or.inl rfl))
      (fun _ _ _ _ _ => pts_one (pt_cmpR op_ne (pv 1) (pv 2) (nomark _))) (fun _ _ _ _ _ => pe_tup (pa_cons (pv 1) (pa_cons (pv 2) pa_nil)))))), ?_⟩
    refine ⟨_, rfl, _, rfl, by omega, by omega, ?_⟩
    rw [Int.toNat_natCast]
    intro D hD
    refine over_range (n := n) (fun i H1 => ∃ qs : List (Addr × Nat × Nat), Same H H1 ∧ PrL K H1 D n qs ∧ qs.map (·.2) = prsTo n i) ⟨[], Same.new hD, ⟨upd_same, fun p hp => (nomatch hp)⟩, rfl⟩ ?_ ?_
    · rintro i H1 hi ⟨qs, s1, hP, hq⟩
      refine ⟨rfl, _, rfl, _, rfl, by omega, by omega, ?_⟩
      rw [Int.toNat_natCast]
      refine over_range (n := n) (fun j H2 => ∃ rs : List (Addr × Nat × Nat), Same H H2 ∧ PrL K H2 D n rs ∧ rs.map (·.2) = prsTo n i ++ rowTo i j) ⟨qs, s1, hP, by rw [hq]; exact (List.append_nil _).symm⟩ ?_ ?_
      · rintro j H2 hj ⟨rs, s2, hR, hr2⟩
        rw [Int.zero_add, Int.zero_add]
        refine ⟨rfl, _, rfl, _, rfl, rfl, _, rfl, ?_⟩
        rw [dec_int]
        have hrl : rs.length ≤ 36 + 6 := by
          have e := congrArg List.length hr2
          rw [List.length_map, List.length_append] at e
          have e2 := prsTo_short hn i (by omega)
          have e3 : (rowTo i j).length ≤ j := by
            unfold rowTo
            rw [List.length_map]
            exact Nat.le_trans (List.length_filter_le _ _) (by rw [List.length_range]; exact Nat.le_refl _)
          omega
        by_cases hji : j = i
        · rw [decide_eq_true (show (i : Int) = (j : Int) by omega)]
          refine iteF ⟨rs, s2, hR, ?_⟩
          rw [rowTo_succ, if_pos hji, List.append_nil]
          exact hr2
        · rw [decide_eq_false (show ¬ (i : Int) = (j : Int) by omega)]
          refine iteT ⟨_, rfl, _, rfl, by show 2 ≤ sizeLine; decide, fun TT hT => ?_⟩
          have s3 : Same H2 (upd H2 TT (.tup [.int (i : Int), .int (j : Int)])) := Same.new hT
          have nTD : TT ≠ D := (ne_of_none hR.ls hT).symm
          refine ⟨_, s3 _ _ hR.ls, ?_, rs ++ [(TT, i, j)], same_upd (s2.trans s3) hD, ⟨?_, fun p hp => ?_⟩, ?_⟩
          · rw [List.length_map, sizeLine_eq]
            omega
          · rw [upd_same, List.map_append]
            rfl
          · rcases List.mem_append.mp hp with hp | hp
            · obtain ⟨a, b⟩ := hR.st p hp
              have a3 := Same.tup s3 a
              refine ⟨?_, b⟩
              rcases a3 with (a3 | ⟨o, a3⟩) | a3
              · exact .inl (.inl (by rw [upd_ne (ne_of a3 (s3 _ _ hR.ls) (by intro z; cases z))]; exact a3))
              · exact .inl (.inr ⟨o, by rw [upd_ne (ne_of a3 (s3 _ _ hR.ls) (by intro z; cases z))]; exact a3⟩)
              · exact .inr a3
            · have ep : p = (TT, i, j) := by simpa using hp
              subst ep
              exact ⟨SqT.of (by rw [upd_ne nTD, upd_same]), hi, hj, fun z => hji z.symm⟩
          · rw [List.map_append, hr2, rowTo_succ, if_neg hji, List.append_assoc]
            rfl
      · rintro H2 ⟨rs, s2, hR, hr2⟩
        refine ⟨rs, s2, hR, ?_⟩
        rw [hr2, prsTo_succ]
        rfl
    · rintro H1 ⟨qs, s1, hP, hq⟩
      exact k D qs H1 s1 hD hP hq
abbrev s_may_be_doubled : Stmt := top 10
theorem sc_may_be_doubled : FnScope ["heap"] ["heap"] (defScope s_may_be_doubled) := ⟨rfl, rfl, rfl, by decide +kernel, rfl, by decide +kernel, by decide +kernel⟩
theorem ok_may_be_doubled {f : Addr} {fd : FuncData} (F : Fun K "may_be_doubled" "may_be_doubled" s_may_be_doubled f fd) : FnOk P w K mg base CX0 1 f fd ["heap"] spDbl := by
  refine F.ok sc_may_be_doubled (fun vs H Q E h => ?_) (fun cdv A outer s H vs Q E hr h => ?_)
  · obtain ⟨x, rfl, _⟩ := h
    rfl
  · obtain ⟨x, rfl, k⟩ := h
    refine ⟨_, (pss_one (ps_ret (pe_and (pe_cmpR op_gt (pv 0) pe_int (nomark _)) (pe_one (pe_cmpR op_eq (pe_op op_mod (pv 0) pe_int) pe_int (nomark _)))))), ?_⟩
    refine ⟨_, rfl, _, _, rfl, rfl, _, rfl, ?_⟩
    unfold dbl at k
    cases hd : decide (0 < x) with
    | false =>
      rw [hd] at k
      exact iteF k
    | true =>
      rw [hd] at k
      refine iteT ⟨_, rfl, _, _, rfl, rfl, (by show (0 : Int) < 2; decide), rfl, ?_⟩
      rw [dec_int]
      exact k
abbrev s_earlier : Stmt := top 11
theorem sc_earlier : FnScope ["heaps", "step"] ["heaps", "step"] (defScope s_earlier) := ⟨rfl, rfl, rfl, by decide +kernel, rfl, by decide +kernel, by decide +kernel⟩
theorem ok_earlier {f : Addr} {fd : FuncData} (F : Fun K "earlier" "earlier" s_earlier f fd) (C_shifted : Cal P w K mg base CX0 1 "shifted" ["heaps", "step", "many"] (spShifted K)) : FnOk P w K mg base CX0 2 f fd ["heaps", "step"] (spErl K) := by
  refine F.ok sc_earlier (fun vs H Q E h => ?_) (fun cdv A outer s H vs Q E hr h => ?_)
  · obtain ⟨t, u, ns, i, j, rfl, _⟩ := h
    rfl
  · obtain ⟨t, u, ns, i, j, rfl, hS, hU, hi, hj, hij, k⟩ := h
    refine ⟨_, (pss_one (ps_ret (pe_cal C_shifted hr rfl pass0 (pa_cons (pv 0) (pa_cons (pv 1) (pa_cons (pe_un un_neg (pe_op op_fdiv (pe_ix ix_tup (pv 0) (pe_ix ix_tup (pv 1) pe_int (fun _ _ => rfl)) (fun _ _ => rfl)) pe_int)) pa_nil)))))), ?_⟩
    exact ⟨_, rfl, _, rfl, _, rfl, _, rfl, u, _, _, _, rfl, rfl, hU, rfl, t, _, _, _, rfl, rfl, hS, at_of rfl (getD_at hj), _, _, rfl, rfl, ⟨by decide, by decide⟩, _, rfl, t, u, ns, i, j, _, rfl, hS, hU, hi, hj, hij, k⟩
abbrev s_is_first : Stmt := top 25
theorem sc_is_first : FnScope ["heaps", "heap"] ["heaps"] (defScope s_is_first) := ⟨rfl, rfl, rfl, by decide +kernel, rfl, by decide +kernel, by decide +kernel⟩
theorem ok_is_first {f : Addr} {fd : FuncData} (F : Fun K "is_first" "is_first" s_is_first f fd) (T : Tq K mg) (C_check_heaps : Cal P w K mg base CX0 3 "check_heaps" ["heaps"] (spChkHeaps K)) (C_may_be_doubled : Cal P w K mg base CX0 1 "may_be_doubled" ["heap"] spDbl) : FnOk P w K mg base CX0 4 f fd ["heaps"] (spFirst K) := by
  refine F.ok sc_is_first (fun vs H Q E h => ?_) (fun cdv A outer s H vs Q E hr h => ?_)
  · obtain ⟨t, ns, rfl, _⟩ := h
    rfl
  · obtain ⟨t, ns, rfl, hS, hg, k⟩ := h
    refine ⟨_, (pss_cons (ps_expr (pe_cal C_check_heaps hr rfl pass0 (pa_cons (pv 0) pa_nil)))
      (pss_one (ps_ret (pe_not (pe_callB (cr_any rfl) (by rfl) T.any (by decide +kernel) (pa_cons (pe_lc (own := [("heap", 1)]) (g := gName 1) (by rfl) sc_is_first.nd (pi_tup (pv 0)) (blkOk_by (own := [("heap", 1)]) (N := ["heaps", "heap"]) (sc := defScope s_is_first) (by decide +kernel)) (fun _ _ _ _ _ => pg_name (i := 1) sc_is_first.nd rfl (Or.inl rfl)) (fun _ _ _ _ _ => pts_nil) (fun _ _ _ _ _ => (pe_cal C_may_be_doubled hr rfl pass0 (pa_cons (pv 1) pa_nil)))) pa_nil)))))), ?_⟩
    refine ⟨_, rfl, t, ns, rfl, hS, hg, fun H1 s1 => ?_⟩
    have S1 := Same.tup s1 hS
    obtain ⟨hlo, hl6⟩ := hps_len hg
    refine ⟨_, rfl, t, rfl, ⟨_, S1⟩, fun D hD => lc_tup (K := K) (a := t) (xs := ns.map V.int) (fun i H2 => H2 D = some (.lst (((ns.take i).map dbl).map V.bl)) ∧ Same H1 H2) ⟨upd_same, Same.new hD⟩ (fun i H2 _ q => Same.tup q.2 S1) ?_ ?_⟩
    · rintro i x H2 hi ⟨hL, s2⟩
      obtain ⟨z, hz, rfl⟩ := int_at hi
      refine ⟨rfl, _, rfl, z, rfl, _, hL, ?_, ?_, same_upd s2 hD⟩
      · rw [List.length_map, List.length_map, List.length_take, sizeLine_eq]
        omega
      · rw [upd_same, List.take_add_one, hz]
        simp
    · rintro H2 ⟨hL, s2⟩
      rw [List.length_map, List.take_length] at hL
      exact ⟨D, _, rfl, SqL.of hL, _, rfl, k _ (s1.trans s2)⟩
end
end Hd
set_option maxHeartbeats 8000000
namespace Hd
open PySem PySem.Spec PyProof.Rows L2
def spStepped (K : PySem.W.Frag) (C : Addr) : Sp := fun vs H Q E => ∃ (t u : Addr) (ns : List Int) (i j : Nat), vs = [.ref t, .ref u] ∧ SqT K H t (ns.map V.int) ∧ hpsB ns = true ∧ SqT K H u [.int (i : Int), .int (j : Int)] ∧ i < ns.length ∧ j < ns.length ∧ i ≠ j ∧
  (can ns i j = true → ∀ (p : Addr) (H' : Hp), Same H H' → H' p = some (.tup ((mv ns i j).map V.int)) → Q (.ref p) H') ∧ (can ns i j = false → ∀ H', Same H H' → E (.ref C) none H')
theorem sqt_upd {K : PySem.W.Frag} {H : Hp} {l t : Addr} {xs ys : List V} {o : HO} (hl : H l = some (.lst xs)) (h : SqT K H t ys) : SqT K (upd H l o) t ys := by
  rcases h with (h | ⟨o', h⟩) | h
  · exact .inl (.inl (by rw [upd_ne (ne_of h hl (by intro z; cases z))]; exact h))
  · exact .inl (.inr ⟨o', by rw [upd_ne (ne_of h hl (by intro z; cases z))]; exact h⟩)
  · exact .inr h
theorem prs_len36 {n : Nat} (h : n ≤ 6) : (prs n).length ≤ 36 := prsTo_short h n (Nat.le_refl n)
section
variable {P : Program} {w : World} {K : PySem.W.Frag} {mg : Str → Option Value} {base : Heap}
abbrev s_steps_from : Stmt := top 7
theorem sc_steps_from : FnScope ["heaps", "step"] ["heaps"] (defScope s_steps_from) := ⟨rfl, rfl, rfl, by decide +kernel, rfl, by decide +kernel, by decide +kernel⟩
theorem ok_steps_from {f : Addr} {fd : FuncData} (F : Fun K "steps_from" "steps_from" s_steps_from f fd) (T : Tq K mg) (C_pairs_of : Cal P w K mg base CX0 1 "pairs_of" ["many"] (spPairs K))
    (C_can_be_made : Cal P w K mg base CX0 1 "can_be_made" ["heaps", "step"] (spCan K)) : FnOk P w K mg base CX0 2 f fd ["heaps"] (spSteps K) := by
  refine F.ok sc_steps_from (fun vs H Q E h => ?_) (fun cdv A outer s H vs Q E hr h => ?_)
  · obtain ⟨t, ns, rfl, _⟩ := h
    rfl
  · obtain ⟨t, ns, rfl, hS, hg, k⟩ := h
    refine ⟨_, (pss_one (ps_ret (pe_lc (own := [("step", 1)]) (g := gName 1) (by rfl) sc_steps_from.nd (pi_list (pe_cal C_pairs_of hr rfl pass0 (pa_cons (pe_callB call_len_seq (by rfl) T.len PySem.boot_len (pa_cons (pv 0) pa_nil)) pa_nil))) (blkOk_by (own := [("step", 1)]) (N := ["heaps", "step"]) (sc := defScope s_steps_from) (by decide +kernel)) (fun _ _ _ _ _ => pg_name (i := 1) sc_steps_from.nd rfl (Or.inl rfl)) (fun _ _ _ _ _ => pts_one (pt_val (pe_cal C_can_be_made hr rfl pass0 (pa_cons (pv 0) (pa_cons (pv 1) pa_nil))))) (fun _ _ _ _ _ => (pv 1))))), ?_⟩
    obtain ⟨hlo, hl6⟩ := hps_len hg
    have s1 : Same H H := Same.refl _
    have S1 := hS
    refine ⟨_, rfl, t, _, rfl, .inr S1, ns.length, by rw [List.length_map], hl6, fun l1 q1 H2 s2 hl1 hQ1 hq1 => ?_⟩
    have S2 := Same.tup s2 S1
    have hq1l : q1.length ≤ 36 := by
      have e := congrArg List.length hq1
      rw [List.length_map] at e
      rw [e]
      exact prs_len36 hl6
    refine ⟨l1, rfl, ⟨_, SqL.of hQ1.ls⟩, fun D hD => lc_list (K := K) (a := l1) (xs := q1.map fun p => V.ref p.1) (fun j H3 => PrL K H3 D ns.length ((q1.take j).filter fun p => can ns p.2.1 p.2.2) ∧ Same H2 H3) ⟨⟨upd_same, fun p hp => (nomatch hp)⟩, Same.new hD⟩ (fun j H3 _ q => SqL.of (q.2 _ _ hQ1.ls)) ?_ ?_⟩
    · rintro j x H3 hx ⟨hF, s3⟩
      rw [List.getElem?_map] at hx
      obtain ⟨p, hp, rfl⟩ := Option.map_eq_some_iff.mp hx
      obtain ⟨a1, a2, a3, a4⟩ := hQ1.st p (List.mem_of_getElem? hp)
      have nx : (q1.take (j + 1)).filter (fun p => can ns p.2.1 p.2.2) = (q1.take j).filter (fun p => can ns p.2.1 p.2.2) ++ (if can ns p.2.1 p.2.2 = true then [p] else []) := by
        rw [List.take_add_one, hp, List.filter_append]
        congr 1
        simp only [Option.toList, List.filter_cons, List.filter_nil]
      have fl : ((q1.take j).filter fun p => can ns p.2.1 p.2.2).length ≤ 36 := Nat.le_trans (List.length_filter_le _ _) (by rw [List.length_take]; omega)
      rw [nx]
      refine ⟨rfl, _, rfl, _, rfl, t, p.1, ns, p.2.1, p.2.2, rfl, Same.tup s3 S2, Same.tup s3 a1, a2, a3, _, rfl, ?_⟩
      cases hc : can ns p.2.1 p.2.2 with
      | true =>
        refine iteT ⟨_, rfl, _, hF.ls, ?_, ?_, same_upd s3 hD⟩
        · rw [List.length_map, sizeLine_eq]
          omega
        · refine ⟨by rw [upd_same, if_pos rfl, List.map_append]; rfl, fun y hy => ?_⟩
          rw [if_pos rfl] at hy
          rcases List.mem_append.mp hy with hy | hy
          · obtain ⟨b1, b2⟩ := hF.st y hy
            exact ⟨sqt_upd hF.ls b1, b2⟩
          · have e : y = p := by simpa using hy
            subst e
            exact ⟨sqt_upd hF.ls (Same.tup s3 a1), a2, a3, a4⟩
      | false =>
        refine iteF ?_
        rw [if_neg (by decide), List.append_nil]
        exact ⟨hF, s3⟩
    · rintro H3 ⟨hF, s3⟩
      rw [List.length_map, List.take_length] at hF
      refine k D _ H3 ((s1.trans s2).trans s3) hF ?_
      unfold due
      rw [← hq1, List.filter_map]
      rfl
abbrev s_steps : Stmt := top 22
theorem sc_steps : FnScope ["heaps"] ["heaps"] (defScope s_steps) := ⟨rfl, rfl, rfl, by decide +kernel, rfl, by decide +kernel, by decide +kernel⟩
theorem ok_steps {f : Addr} {fd : FuncData} (F : Fun K "steps" "steps" s_steps f fd) (C_check_heaps : Cal P w K mg base CX0 3 "check_heaps" ["heaps"] (spChkHeaps K)) (C_steps_from : Cal P w K mg base CX0 2 "steps_from" ["heaps"] (spSteps K)) : FnOk P w K mg base CX0 4 f fd ["heaps"] (spSteps K) := by
  refine F.ok sc_steps (fun vs H Q E h => ?_) (fun cdv A outer s H vs Q E hr h => ?_)
  · obtain ⟨t, ns, rfl, _⟩ := h
    rfl
  · obtain ⟨t, ns, rfl, hS, hg, k⟩ := h
    refine ⟨_, (pss_cons (ps_expr (pe_cal C_check_heaps hr rfl pass0 (pa_cons (pv 0) pa_nil)))
      (pss_one (ps_ret (pe_cal C_steps_from hr rfl pass0 (pa_cons (pv 0) pa_nil))))), ?_⟩
    refine ⟨_, rfl, t, ns, rfl, hS, hg, fun H1 s1 => ?_⟩
    exact ⟨_, rfl, t, ns, rfl, Same.tup s1 hS, hg, fun l qs H' s' a b => k l qs H' (s1.trans s') a b⟩
def spChkStep (K : PySem.W.Frag) (C : Addr) : Sp := fun vs H Q E => ∃ (t u : Addr) (ns : List Int) (i j : Nat), vs = [.ref t, .ref u] ∧ SqT K H t (ns.map V.int) ∧ SqT K H u [.int (i : Int), .int (j : Int)] ∧ i < ns.length ∧ j < ns.length ∧ i ≠ j ∧
  (can ns i j = true → Q .non H) ∧ (can ns i j = false → E (.ref C) none H)
abbrev s_check_step : Stmt := top 20
theorem sc_check_step : FnScope ["heaps", "step"] ["heaps", "step"] (defScope s_check_step) := ⟨rfl, rfl, rfl, by decide +kernel, rfl, by decide +kernel, by decide +kernel⟩
theorem ok_check_step {f C : Addr} {fd : FuncData} (F : Fun K "check_step" "check_step" s_check_step f fd) (T : Tq K mg) (B : NilX P K mg "BadStep" C) (C_is_pair_of : Cal P w K mg base CX0 2 "is_pair_of" ["many", "value"] (spIsPair K))
    (C_can_be_made : Cal P w K mg base CX0 1 "can_be_made" ["heaps", "step"] (spCan K)) : FnOk P w K mg base (L2.CX P w) 3 f fd ["heaps", "step"] (spChkStep K C) := by
  refine F.okX sc_check_step (fun vs H Q E h => ?_) (fun cdv A outer s H vs Q E hr h => ?_)
  · obtain ⟨t, u, ns, i, j, rfl, _⟩ := h
    rfl
  · obtain ⟨t, u, ns, i, j, rfl, S1, U1, hi, hj, hij, k1, k2⟩ := h
    refine ⟨_, (pss_one (ps_if (PW.pt (pw_or (pt_not (pt_val (pe_cal C_is_pair_of hr rfl pass0 (pa_cons (pe_callB call_len_seq (by rfl) T.len PySem.boot_len (pa_cons (pv 0) pa_nil)) (pa_cons (pv 1) pa_nil))))) (pw_or1 (pt_not (pt_val (pe_cal C_can_be_made hr rfl pass0 (pa_cons (pv 0) (pa_cons (pv 1) pa_nil)))))))) (pss_one (ps_raise rfl (takes_of rfl rfl rfl rfl) (pmk_nil B (hr.mono (by decide : 1 ≤ 2)) rfl))) pss_nil)), ?_⟩
    refine ⟨_, rfl, t, _, rfl, .inr S1, _, rfl, u, _, _, _, rfl, U1, _, rfl, ?_⟩
    have e0 : (inR 0 (((ns.map V.int).length : Int) - 1) (i : Int) && (inR 0 (((ns.map V.int).length : Int) - 1) (j : Int) && !decide ((i : Int) = (j : Int)))) = true := by
      rw [List.length_map]
      unfold inR
      simp only [Bool.and_eq_true, decide_eq_true_eq, Bool.not_eq_true', decide_eq_false_iff_not]
      omega
    rw [e0]
    refine iteF ⟨_, rfl, _, rfl, t, u, ns, i, j, rfl, S1, U1, hi, hj, _, rfl, ?_⟩
    cases hc : can ns i j with
    | true => exact iteF (k1 hc)
    | false => exact iteT (k2 hc)
abbrev s_stepped : Stmt := top 23
theorem sc_stepped : FnScope ["heaps", "step"] ["heaps", "step"] (defScope s_stepped) := ⟨rfl, rfl, rfl, by decide +kernel, rfl, by decide +kernel, by decide +kernel⟩
theorem ok_stepped {f C : Addr} {fd : FuncData} (F : Fun K "stepped" "stepped" s_stepped f fd) (T : Tq K mg) (C_check_heaps : Cal P w K mg base CX0 3 "check_heaps" ["heaps"] (spChkHeaps K))
    (C_check_step : Cal P w K mg base (L2.CX P w) 3 "check_step" ["heaps", "step"] (spChkStep K C)) (C_behind : Cal P w K mg base CX0 2 "behind" ["heaps", "step"] (spBehind K)) : FnOk P w K mg base (L2.CX P w) 4 f fd ["heaps", "step"] (spStepped K C) := by
  refine F.okX sc_stepped (fun vs H Q E h => ?_) (fun cdv A outer s H vs Q E hr h => ?_)
  · obtain ⟨t, u, ns, i, j, rfl, _⟩ := h
    rfl
  · obtain ⟨t, u, ns, i, j, rfl, hS, hg, hU, hi, hj, hij, k1, k2⟩ := h
    refine ⟨_, (pss_cons (ps_expr (pe_cal C_check_heaps hr rfl pass0 (pa_cons (pv 0) pa_nil)))
      (pss_cons (ps_expr (pe_cal C_check_step hr rfl (passes_call (takes_of rfl rfl rfl rfl) (fun _ _ _ _ h => h)) (pa_cons (pv 0) (pa_cons (pv 1) pa_nil))))
      (pss_one (ps_ret (pe_cal C_behind hr rfl pass0 (pa_cons (pv 0) (pa_cons (pv 1) pa_nil))))))), ?_⟩
    refine ⟨_, rfl, t, ns, rfl, hS, hg, fun H1 s1 => ?_⟩
    have S1 := Same.tup s1 hS
    have U1 := Same.tup s1 hU
    refine ⟨_, rfl, _, rfl, t, u, ns, i, j, rfl, S1, U1, hi, hj, hij, fun hc => ?_, fun hc => k2 hc _ s1⟩
    exact ⟨_, rfl, _, rfl, t, u, ns, i, j, rfl, S1, U1, hi, hj, hij, fun p H2 s2 _ hp2 => k1 hc p H2 (s1.trans s2) hp2⟩
abbrev s_before : Stmt := top 24
theorem sc_before : FnScope ["heaps", "last_steps", "step"] ["heaps"] (defScope s_before) := ⟨rfl, rfl, rfl, by decide +kernel, rfl, by decide +kernel, by decide +kernel⟩
theorem ok_before {f : Addr} {fd : FuncData} (F : Fun K "before" "before" s_before f fd) (T : Tq K mg) (C_check_heaps : Cal P w K mg base CX0 3 "check_heaps" ["heaps"] (spChkHeaps K)) (C_pairs_of : Cal P w K mg base CX0 1 "pairs_of" ["many"] (spPairs K))
    (C_may_be_doubled : Cal P w K mg base CX0 1 "may_be_doubled" ["heap"] spDbl) (C_earlier : Cal P w K mg base CX0 2 "earlier" ["heaps", "step"] (spErl K)) : FnOk P w K mg base CX0 4 f fd ["heaps"] (spBefore K) := by
  refine F.ok sc_before (fun vs H Q E h => ?_) (fun cdv A outer s H vs Q E hr h => ?_)
  · obtain ⟨t, ns, rfl, _⟩ := h
    rfl
  · obtain ⟨t, ns, rfl, hS, hg, k⟩ := h
    refine ⟨_, (pss_cons (ps_expr (pe_cal C_check_heaps hr rfl pass0 (pa_cons (pv 0) pa_nil)))
      (pss_cons (ps_setLc (i := 1) (own := [("step", 2)]) (g := gName 2) (by rfl) sc_before.nd rfl rfl (sw_true rfl rfl rfl (by decide +kernel)) (pi_list (pe_cal C_pairs_of hr rfl pass0 (pa_cons (pe_callB call_len_seq (by rfl) T.len PySem.boot_len (pa_cons (pv 0) pa_nil)) pa_nil))) (blkOk_by (own := [("step", 2)]) (N := ["heaps", "last_steps", "step"]) (sc := defScope s_before) (by decide +kernel)) (fun _ _ _ _ _ => pg_name (i := 2) sc_before.nd rfl (Or.inl rfl)) (fun _ _ _ _ _ => pts_one (pt_val (pe_cal C_may_be_doubled hr rfl pass0 (pa_cons (pe_ix (show IxR _ (rIxT K) from ix_tup) (pv 0) (pe_ix (show IxR _ (rIxT K) from ix_tup) (pv 2) pe_int (fun _ _ => rfl)) (fun _ _ => rfl)) pa_nil)))) (fun _ _ _ _ _ => (pv 2)))
      (pss_one (ps_ret (pe_callB (cr_sortIts hr.units) (by rfl) T.sorted (by decide +kernel) (pa_cons (pe_lc (own := [("step", 2)]) (g := gName 2) (by rfl) sc_before.nd (pi_list (pv 1)) (blkOk_by (own := [("step", 2)]) (N := ["heaps", "last_steps", "step"]) (sc := defScope s_before) (by decide +kernel)) (fun _ _ _ _ _ => pg_name (i := 2) sc_before.nd rfl (Or.inl rfl)) (fun _ _ _ _ _ => pts_nil) (fun _ _ _ _ _ => (pe_tup (pa_cons (pe_cal C_earlier hr rfl pass0 (pa_cons (pv 0) (pa_cons (pv 2) pa_nil))) (pa_cons (pv 2) pa_nil))))) pa_nil)))))), ?_⟩
    obtain ⟨hlo, hl6⟩ := hps_len hg
    refine ⟨_, rfl, t, ns, rfl, hS, hg, fun H1 s1 => ?_⟩
    have S1 := Same.tup s1 hS
    refine ⟨_, rfl, t, _, rfl, .inr S1, ns.length, by rw [List.length_map], hl6, fun l1 q1 H2 s2 hl1 hQ1 hq1 => ?_⟩
    have S2 := Same.tup s2 S1
    have hq1l : q1.length ≤ 36 := by
      have e := congrArg List.length hq1
      rw [List.length_map] at e
      rw [e]
      exact prs_len36 hl6
    refine ⟨l1, rfl, ⟨_, SqL.of hQ1.ls⟩, fun D hD => lc_list (K := K) (a := l1) (xs := q1.map fun p => V.ref p.1) (fun j H3 => PrL K H3 D ns.length ((q1.take j).filter fun p => dbl (ns.getD p.2.2 0)) ∧ Same H2 H3) ⟨⟨upd_same, fun p hp => (nomatch hp)⟩, Same.new hD⟩ (fun j H3 _ q => SqL.of (q.2 _ _ hQ1.ls)) ?_ ?_⟩
    · rintro j x H3 hx ⟨hF, s3⟩
      rw [List.getElem?_map] at hx
      obtain ⟨p, hp, rfl⟩ := Option.map_eq_some_iff.mp hx
      obtain ⟨a1, a2, a3, a4⟩ := hQ1.st p (List.mem_of_getElem? hp)
      have nx : (q1.take (j + 1)).filter (fun p => dbl (ns.getD p.2.2 0)) = (q1.take j).filter (fun p => dbl (ns.getD p.2.2 0)) ++ (if dbl (ns.getD p.2.2 0) = true then [p] else []) := by
        rw [List.take_add_one, hp, List.filter_append]
        congr 1
        simp only [Option.toList, List.filter_cons, List.filter_nil]
      have fl : ((q1.take j).filter fun p => dbl (ns.getD p.2.2 0)).length ≤ 36 := Nat.le_trans (List.length_filter_le _ _) (by rw [List.length_take]; omega)
      rw [nx]
      refine ⟨rfl, _, rfl, _, rfl, p.1, _, _, _, rfl, rfl, Same.tup s3 a1, rfl, t, _, _, _, rfl, rfl, Same.tup s3 S2, at_of rfl (getD_at a3), _, rfl, _, rfl, ?_⟩
      cases hc : dbl (ns.getD p.2.2 0) with
      | true =>
        refine iteT ⟨_, rfl, _, hF.ls, ?_, ?_, same_upd s3 hD⟩
        · rw [List.length_map, sizeLine_eq]
          omega
        · refine ⟨by rw [upd_same, if_pos rfl, List.map_append]; rfl, fun y hy => ?_⟩
          rw [if_pos rfl] at hy
          rcases List.mem_append.mp hy with hy | hy
          · obtain ⟨b1, b2⟩ := hF.st y hy
            exact ⟨sqt_upd hF.ls b1, b2⟩
          · have e : y = p := by simpa using hy
            subst e
            exact ⟨sqt_upd hF.ls (Same.tup s3 a1), a2, a3, a4⟩
      | false =>
        refine iteF ?_
        rw [if_neg (by decide), List.append_nil]
        exact ⟨hF, s3⟩
    · rintro H3 ⟨hF, s3⟩
      rw [List.length_map, List.take_length] at hF
      have hlst : ((q1.filter fun p => dbl (ns.getD p.2.2 0)).map (·.2)) = lst ns := by
        unfold lst
        rw [← hq1, List.filter_map]
        rfl
      have fl : (q1.filter fun p => dbl (ns.getD p.2.2 0)).length ≤ 36 := Nat.le_trans (List.length_filter_le _ _) hq1l
      generalize (q1.filter fun p => dbl (ns.getD p.2.2 0)) = q2 at hF hlst fl
      have S3 := Same.tup s3 S2
      refine ⟨_, rfl, D, rfl, ⟨_, SqL.of hF.ls⟩, fun DD hDD => lc_list (K := K) (a := D) (xs := q2.map fun p => V.ref p.1) (fun j H4 => ∃ xs : List It, H4 DD = some (.lst (xs.map fun x => V.ref x.b)) ∧ (∀ x ∈ xs, x.At K H4 ∧ x.ns = erl ns x.i x.j ∧ x.i < ns.length ∧ x.j < ns.length ∧ x.i ≠ x.j) ∧
        (xs.map fun x => (x.i, x.j)) = (q2.take j).map (·.2) ∧ Same H3 H4) ⟨[], upd_same, fun x hx => (nomatch hx), rfl, Same.new hDD⟩ (fun j H4 _ ⟨_, _, _, _, q⟩ => SqL.of (q _ _ hF.ls)) ?_ ?_⟩
      · rintro j x H4 hx ⟨xs, hL, hX, hm, s4⟩
        rw [List.getElem?_map] at hx
        obtain ⟨p, hp, rfl⟩ := Option.map_eq_some_iff.mp hx
        obtain ⟨a1, a2, a3, a4⟩ := hF.st p (List.mem_of_getElem? hp)
        have xl : xs.length ≤ 36 := by
          have e := congrArg List.length hm
          rw [List.length_map, List.length_map, List.length_take] at e
          omega
        refine ⟨rfl, _, rfl, _, rfl, t, p.1, ns, p.2.1, p.2.2, rfl, Same.tup s4 S3, Same.tup s4 a1, a2, a3, a4, fun e H5 s5 he he5 => ?_⟩
        refine ⟨_, rfl, by show 2 ≤ sizeLine; decide, fun TT hT => ?_⟩
        have s6 : Same H5 (upd H5 TT (.tup [.ref e, .ref p.1])) := Same.new hT
        have hL6 := s6 _ _ (s5 _ _ hL)
        refine ⟨_, hL6, ?_, xs ++ [⟨TT, e, p.1, erl ns p.2.1 p.2.2, p.2.1, p.2.2⟩], ?_, fun x hx => ?_, ?_, same_upd ((s4.trans s5).trans s6) hDD⟩
        · rw [List.length_map, sizeLine_eq]
          omega
        · rw [upd_same, List.map_append]
          rfl
        · rcases List.mem_append.mp hx with hx | hx
          · obtain ⟨⟨b1, b2, b3⟩, b4⟩ := hX x hx
            have s56 := s5.trans s6
            exact ⟨⟨sqt_upd hL6 (Same.tup s56 b1), sqt_upd hL6 (Same.tup s56 b2), sqt_upd hL6 (Same.tup s56 b3)⟩, b4⟩
          · have ex : x = ⟨TT, e, p.1, erl ns p.2.1 p.2.2, p.2.1, p.2.2⟩ := by simpa using hx
            subst ex
            exact ⟨⟨sqt_upd hL6 (SqT.of upd_same), sqt_upd hL6 (SqT.of (s6 _ _ he5)), sqt_upd hL6 (Same.tup ((s4.trans s5).trans s6) a1)⟩, rfl, a2, a3, a4⟩
        · rw [List.map_append, hm, List.take_add_one, hp, List.map_append]
          rfl
      · rintro H4 ⟨xs, hL, hX, hm, s4⟩
        rw [List.length_map, List.take_length, hlst] at hm
        refine ⟨DD, xs, rfl, SqL.of hL, fun x hx => (hX x hx).1, fun p hp => ?_⟩
        have s5 : Same H4 (upd H4 p (.lst ((xs.mergeSort itLe).map fun x => V.ref x.b))) := Same.new hp
        exact k p xs _ (((s1.trans s2).trans s3).trans (s4.trans s5)) upd_same (fun x hx => ⟨(hX x hx).1.same s5, (hX x hx).2⟩) hm
end
end Hd
set_option maxHeartbeats 8000000
namespace Hd
open PySem PySem.Spec PyProof.Rows L2
theorem prs_in {n : Nat} {q : Nat × Nat} : q ∈ prs n ↔ q.1 < n ∧ q.2 < n ∧ q.1 ≠ q.2 := by
  unfold prs prsTo row
  constructor
  · intro h
    obtain ⟨i, hi, h⟩ := List.mem_flatMap.mp h
    obtain ⟨j, hj, rfl⟩ := List.mem_map.mp h
    obtain ⟨h1, h2⟩ := List.mem_filter.mp hj
    exact ⟨List.mem_range.mp hi, List.mem_range.mp h1, fun z => (of_decide_eq_true h2) z.symm⟩
  · intro ⟨h1, h2, h3⟩
    refine List.mem_flatMap.mpr ⟨q.1, List.mem_range.mpr h1, List.mem_map.mpr ⟨q.2, List.mem_filter.mpr ⟨List.mem_range.mpr h2, decide_eq_true fun z => h3 z.symm⟩, rfl⟩⟩
theorem count2 : ∀ a b : Bool, ((prs 2).filter fun q => [a, b].getD q.2 false).length = ([a, b].filter id).length * 1 := by decide
theorem count3 : ∀ a b c : Bool, ((prs 3).filter fun q => [a, b, c].getD q.2 false).length = ([a, b, c].filter id).length * 2 := by decide
theorem count4 : ∀ a b c d : Bool, ((prs 4).filter fun q => [a, b, c, d].getD q.2 false).length = ([a, b, c, d].filter id).length * 3 := by decide +kernel
theorem count5 : ∀ a b c d e : Bool, ((prs 5).filter fun q => [a, b, c, d, e].getD q.2 false).length = ([a, b, c, d, e].filter id).length * 4 := by decide +kernel
theorem count6 : ∀ a b c d e f : Bool, ((prs 6).filter fun q => [a, b, c, d, e, f].getD q.2 false).length = ([a, b, c, d, e, f].filter id).length * 5 := by decide +kernel
theorem count_all : ∀ bs : List Bool, 2 ≤ bs.length → bs.length ≤ 6 → ((prs bs.length).filter fun q => bs.getD q.2 false).length = (bs.filter id).length * (bs.length - 1)
  | [a, b], _, _ => count2 a b
  | [a, b, c], _, _ => count3 a b c
  | [a, b, c, d], _, _ => count4 a b c d
  | [a, b, c, d, e], _, _ => count5 a b c d e
  | [a, b, c, d, e, f], _, _ => count6 a b c d e f
  | [], h, _ => absurd h (by decide)
  | [_], h, _ => absurd h (by simp)
  | _ :: _ :: _ :: _ :: _ :: _ :: _ :: _, _, h => absurd h (by simp)
theorem lst_len {ns : List Int} (h2 : 2 ≤ ns.length) (h6 : ns.length ≤ 6) : (lst ns).length = (ns.filter dbl).length * (ns.length - 1) := by
  have e := count_all (ns.map dbl) (by rw [List.length_map]; exact h2) (by rw [List.length_map]; exact h6)
  rw [List.length_map] at e
  have e1 : ((ns.map dbl).filter id).length = (ns.filter dbl).length := by
    rw [List.filter_map, List.length_map]
    rfl
  have e2 : ((prs ns.length).filter fun q => (ns.map dbl).getD q.2 false) = lst ns := by
    unfold lst
    refine List.filter_congr fun q hq => ?_
    obtain ⟨_, h, _⟩ := prs_in.mp hq
    rw [List.getD_eq_getElem?_getD, List.getD_eq_getElem?_getD, List.getElem?_map, List.getElem?_eq_getElem h]
    rfl
  rw [e1, e2] at e
  exact e
theorem dbl_test (x : Int) : dbl x = (decide (0 < x) && decide (x / 2 * 2 = x)) := by
  unfold dbl
  congr 1
  by_cases h : x % 2 = 0
  · rw [decide_eq_true h, decide_eq_true (show x / 2 * 2 = x by omega)]
  · rw [decide_eq_false h, decide_eq_false (show ¬ x / 2 * 2 = x by omega)]
theorem first_iff {ns : List Int} (h2 : 2 ≤ ns.length) (h6 : ns.length ≤ 6) : (!(ns.map dbl).any id) = (lst ns).isEmpty := by
  have e := lst_len h2 h6
  by_cases z : ns.filter dbl = []
  · have a1 : (lst ns) = [] := List.length_eq_zero_iff.mp (by rw [e, z]; simp)
    have a2 : (ns.map dbl).any id = false := by
      rw [Bool.eq_false_iff]
      intro h
      obtain ⟨b, hb, hb2⟩ := List.any_eq_true.mp h
      obtain ⟨x, hx, rfl⟩ := List.mem_map.mp hb
      have : x ∈ ns.filter dbl := List.mem_filter.mpr ⟨hx, hb2⟩
      rw [z] at this
      cases this
    rw [a1, a2]
    rfl
  · have a0 : 0 < (ns.filter dbl).length := List.length_pos_iff.mpr z
    have a1 : 0 < (lst ns).length := by
      rw [e]
      exact Nat.mul_pos a0 (by omega)
    have a2 : (ns.map dbl).any id = true := by
      obtain ⟨x, hx⟩ := List.exists_mem_of_length_pos a0
      obtain ⟨h1, h3⟩ := List.mem_filter.mp hx
      exact List.any_eq_true.mpr ⟨dbl x, List.mem_map.mpr ⟨x, h1, rfl⟩, h3⟩
    rw [a2]
    cases hl : lst ns with
    | nil =>
      rw [hl] at a1
      exact absurd a1 (by simp)
    | cons _ _ => rfl
theorem getD_set_self {l : List Int} {i : Nat} {v : Int} (h : i < l.length) : (l.set i v).getD i 0 = v := by
  rw [List.getD_eq_getElem?_getD, List.getElem?_set_self h]
  rfl
theorem getD_set_ne {l : List Int} {i j : Nat} {v : Int} (h : i ≠ j) : (l.set i v).getD j 0 = l.getD j 0 := by
  rw [List.getD_eq_getElem?_getD, List.getElem?_set_ne h, ← List.getD_eq_getElem?_getD]
section
variable {ns : List Int} {i j : Nat} (hi : i < ns.length) (hj : j < ns.length) (hij : i ≠ j)
include hi hj hij
theorem shf_i (m : Int) : (shf ns i j m).getD i 0 = ns.getD i 0 - m := by
  unfold shf
  rw [getD_set_ne (Ne.symm hij), getD_set_self hi]
theorem shf_j (m : Int) : (shf ns i j m).getD j 0 = ns.getD j 0 + m := by
  unfold shf
  rw [getD_set_self (by rw [List.length_set]; exact hj)]
theorem shf_back {m m' : Int} (e : m' = -m) : shf (shf ns i j m) i j m' = ns := by
  have e1 := shf_i hi hj hij m
  have e2 := shf_j hi hj hij m
  have g : ∀ {l : List Int} {k : Nat} (h : k < l.length), l.getD k 0 = l[k] := fun {l k} h => by
    rw [List.getD_eq_getElem?_getD, List.getElem?_eq_getElem h]
    rfl
  have u : shf (shf ns i j m) i j m' = ((shf ns i j m).set i ((shf ns i j m).getD i 0 - m')).set j ((shf ns i j m).getD j 0 + m') := rfl
  rw [u, e1, e2]
  unfold shf
  refine List.ext_getElem (by simp) fun k h1 h2 => ?_
  simp only [List.getElem_set]
  by_cases k1 : j = k
  · subst k1
    rw [if_pos rfl, g hj]
    omega
  · rw [if_neg k1]
    by_cases k2 : i = k
    · subst k2
      rw [if_pos rfl, g hi]
      omega
    · rw [if_neg k2, if_neg k1, if_neg k2]
/-- a step's end has the step among what leads there -/
theorem erl_mv : erl (mv ns i j) i j = ns := by
  unfold erl mv
  refine shf_back hi hj hij ?_
  rw [shf_j hi hj hij]
  omega
theorem dbl_mv (h : can ns i j = true) : dbl ((mv ns i j).getD j 0) = true := by
  unfold can at h
  simp only [Bool.and_eq_true, decide_eq_true_eq] at h
  unfold mv dbl
  rw [shf_j hi hj hij]
  simp only [Bool.and_eq_true, decide_eq_true_eq]
  omega
/-- each of these leads here -/
theorem mv_erl (h : dbl (ns.getD j 0) = true) (h0 : 0 ≤ ns.getD i 0) : can (erl ns i j) i j = true ∧ mv (erl ns i j) i j = ns := by
  unfold dbl at h
  simp only [Bool.and_eq_true, decide_eq_true_eq] at h
  have e2 : (erl ns i j).getD j 0 = ns.getD j 0 / 2 := by
    unfold erl
    rw [shf_j hi hj hij]
    omega
  have e1 : (erl ns i j).getD i 0 = ns.getD i 0 + ns.getD j 0 / 2 := by
    unfold erl
    rw [shf_i hi hj hij]
    omega
  refine ⟨?_, ?_⟩
  · unfold can
    rw [e1, e2]
    simp only [Bool.and_eq_true, decide_eq_true_eq]
    omega
  · unfold mv
    rw [e2]
    unfold erl
    exact shf_back hi hj hij (by omega)
end
theorem hps_all {ns : List Int} (h : hpsB ns = true) : ∀ n ∈ ns, 0 ≤ n ∧ n ≤ 10 ^ 30 := fun n hn => by
  unfold hpsB at h
  simp only [Bool.and_eq_true, decide_eq_true_eq, List.all_eq_true, List.mem_map] at h
  have := h.2.1 (inR 0 (10 ^ 30) n) ⟨n, hn, rfl⟩
  unfold inR at this
  simpa [id] using this
theorem hps_mk {ns : List Int} (h2 : 2 ≤ ns.length) (h6 : ns.length ≤ 6) (h : ∀ n ∈ ns, 0 ≤ n ∧ n ≤ 10 ^ 30) (hs : 0 < ns.sum) : hpsB ns = true := by
  unfold hpsB
  simp only [Bool.and_eq_true, decide_eq_true_eq, List.all_eq_true, List.mem_map]
  refine ⟨⟨h2, h6⟩, fun x ⟨y, hy, e⟩ => ?_, hs⟩
  subst e
  have := h y hy
  unfold inR
  simp only [id, Bool.and_eq_true, decide_eq_true_eq]
  exact this
end Hd
set_option maxHeartbeats 8000000
namespace Hd
open PySem PySem.Spec PyProof.Rows L2
theorem exm_self {K : PySem.W.Frag} {S : Addr} (b : PySem.W.subIn K (.ref S) (.type "BaseException") = some true) (i : PySem.W.isClsIn K S = true)
    (t : PySem.W.typeIn K (.ref S) = some (.type "type")) (s : PySem.W.subIn K (.ref S) (.ref S) = some true) : PySem.W.exmOne K (.ref S) (.ref S) = some true := by
  have i' : (PySem.W.clsIn K S).isSome = true := i
  have g1 : (PySem.W.subIn K (.ref S) (.type "BaseException") == some true) = true := by rw [b]; rfl
  have g2 : ((PySem.W.clsIn K S).isSome && PySem.W.typeIn K (.ref S) == some (.type "type")) = true := by rw [i', t]; rfl
  show (if (_ : Bool) = true then (if (_ : Bool) = true then PySem.W.subIn K (.ref S) (.ref S) else none) else none) = some true
  rw [if_pos g1, if_pos g2]
  exact s
/-- f(e, ..) in a try's body, f a def that may raise -/
theorem pe_calS {X : Cx} {j k : Nat} {x : Str} {ps : List Str} {sp : Sp} {E : L2.St → XK} {e : Expr} {es : List Expr} {t : TA} {p pos : Pos} {CX : CXT} (C : Cal X.prog X.w X.K X.mg X.base CX j x ps sp) (hr : Room k X.A) (hg : Gl X x)
    (hx : ∀ σ, PassesAt CX X σ (E σ)) (ha : PA X (e :: es) t) (hk : j ≤ k := by decide) (hdb : (x == ("__debug__" : Str)) = false := by decide) (he : starEach (e :: es) X.env = (false, eval e X.env) :: starEach es X.env := by rfl)
    (hpl : (backTo pos (starEach es X.env)).any (·.1) = false := by rfl) : PE X (.Call (.Name x p) (e :: es) [] pos) (tCallS sp E t) := by
  obtain ⟨f, fd, hm, kp, hb, F⟩ := C.ex
  exact pe_callS F (hr.mono hk) hg hm kp hb hx ha hdb he hpl
theorem units65 {k : Nat} {A : Around} (r : Room k A) : A.units + 65 < cLine := by
  have := r.un
  omega
def spTold1 (K : PySem.W.Frag) : Sp := fun vs H Q _ => ∃ (t u : Addr) (ns : List Int) (i j : Nat), vs = [.ref t, .ref u] ∧ SqT K H t (ns.map V.int) ∧ hpsB ns = true ∧ SqT K H u [.int (i : Int), .int (j : Int)] ∧ i < ns.length ∧ j < ns.length ∧ i ≠ j ∧
  (can ns i j = true → ∀ (p : Addr) (H' : Hp), Same H H' → H' p = some (.tup ((mv ns i j).map V.int)) → Q (.ref p) H') ∧ (can ns i j = false → ∀ H', Same H H' → Q .non H')
def t_told1 (K : PySem.W.Frag) (C : Addr) : TS := fun D σ H => tRet (tCallS (spStepped K C) (WE (wOnly K (.ref C) (fun _ _ _ => tRet (tC .non)) (fun _ _ _ _ => False) D)) (tCons (tVar 0) (tCons (tVar 1) tNil))) D σ H
/-! ### data -/
def dt (p : Nat × Nat) : PyData := .tuple [.int (p.1 : Int), .int (p.2 : Int)]
theorem ints_self : ∀ ns : List Int, PyData.eqvAll (ns.map .int) (ns.map .int) = true
  | [] => by simp [PyData.eqvAll]
  | n :: ns => by
    simp only [List.map_cons, PyData.eqvAll, PyData.eqv, ints_self ns, Bool.and_true, beq_self_eq_true]
theorem dt_eqv (p q : Nat × Nat) : PyData.eqv (dt p) (dt q) = decide (p = q) := by
  obtain ⟨a, b⟩ := p
  obtain ⟨c, d⟩ := q
  have e : PyData.eqv (dt (a, b)) (dt (c, d)) = (decide (a = c) && decide (b = d)) := by
    simp only [dt, PyData.eqv, PyData.eqvAll]
    by_cases h1 : a = c <;> by_cases h2 : b = d <;> simp [h1, h2] <;> omega
  rw [e]
  by_cases h1 : a = c <;> by_cases h2 : b = d <;> simp [h1, h2]
theorem it_self {x y : It} (e : x.ns = y.ns ∧ x.i = y.i ∧ x.j = y.j) : PyData.eqv x.data y.data = true := by
  obtain ⟨e1, e2, e3⟩ := e
  unfold It.data
  rw [e1, e2, e3]
  simp only [PyData.eqv, PyData.eqvAll, ints_self, Bool.and_true, beq_self_eq_true]
theorem all_self {α : Type} (f : α → PyData) (h : ∀ x, PyData.eqv (f x) (f x) = true) : ∀ xs : List α, PyData.eqvAll (xs.map f) (xs.map f) = true
  | [] => by simp [PyData.eqvAll]
  | x :: xs => by
    simp only [List.map_cons, PyData.eqvAll, h, all_self f h xs, Bool.and_true]
theorem list_self {α : Type} (f : α → PyData) (h : ∀ x, PyData.eqv (f x) (f x) = true) (xs : List α) : PyData.eqv (.list (xs.map f)) (.list (xs.map f)) = true := by
  simp only [PyData.eqv]
  exact all_self f h xs
theorem list_nil {α : Type} (f : α → PyData) (xs : List α) : PyData.eqv (.list (xs.map f)) (.list []) = xs.isEmpty := by
  cases xs with
  | nil => simp [PyData.eqv, PyData.eqvAll]
  | cons q qs => simp [PyData.eqv, PyData.eqvAll]
theorem shape_mk {d : PyData} (h1 : d.canLay0 = true) (h2 : d.depth ≤ 64) : SeqAt.shaped d = true := by
  unfold SeqAt.shaped
  rw [h1, decide_eq_true h2]
  rfl
theorem lay_all {α : Type} (f : α → PyData) (h : ∀ x, (f x).canLay0 = true) : ∀ xs : List α, PyData.canLayAll0 (xs.map f) = true
  | [] => by simp [PyData.canLayAll0]
  | x :: xs => by simp [PyData.canLayAll0, h, lay_all f h xs]
theorem deep_all {α : Type} (f : α → PyData) (n : Nat) (h : ∀ x, (f x).depth ≤ n) : ∀ xs : List α, PyData.depthAll (xs.map f) ≤ n
  | [] => by simp [PyData.depthAll]
  | x :: xs => by
    have h1 := h x
    have h2 := deep_all f n h xs
    simp only [List.map_cons, PyData.depthAll]
    omega
theorem ints_lay0 (ns : List Int) : PyData.canLayAll0 (ns.map PyData.int) = true := lay_all PyData.int (fun x => by simp [PyData.canLay0]) ns
theorem dt_lay (p : Nat × Nat) : (dt p).canLay0 = true := by simp [dt, PyData.canLay0, PyData.canLayAll0]
theorem dt_deep (p : Nat × Nat) : (dt p).depth ≤ 1 := by simp [dt, PyData.depth, PyData.depthAll]
theorem it_lay (x : It) : x.data.canLay0 = true := by
  have := ints_lay0 x.ns
  simp [It.data, PyData.canLay0, PyData.canLayAll0, this]
theorem list_shape {α : Type} (f : α → PyData) (n : Nat) (hn : n < 64) (h1 : ∀ x, (f x).canLay0 = true) (h2 : ∀ x, (f x).depth ≤ n) (xs : List α) : SeqAt.shaped (.list (xs.map f)) = true := by
  refine shape_mk ?_ ?_
  · simp only [PyData.canLay0]
    exact lay_all f h1 xs
  · have := deep_all f n h2 xs
    simp only [PyData.depth]
    omega
theorem tup_shape (ns : List Int) : SeqAt.shaped (.tuple (ns.map PyData.int)) = true := by
  refine shape_mk ?_ ?_
  · simp only [PyData.canLay0]
    exact ints_lay0 ns
  · have := deep_ints ns
    simp only [PyData.depth]
    omega
theorem tup_self (ns : List Int) : PyData.eqv (.tuple (ns.map PyData.int)) (.tuple (ns.map PyData.int)) = true := by
  simp only [PyData.eqv]
  exact ints_self ns
theorem dp_nums {K : PySem.W.Frag} {H : Hp} : ∀ ns : List Int, DpAll K H (ns.map V.int) (ns.map PyData.int)
  | [] => .nil
  | n :: ns => .cons (.int n) (dp_nums ns)
theorem dp_dts {K : PySem.W.Frag} {H : Hp} : ∀ qs : List (Addr × Nat × Nat), (∀ q ∈ qs, SqT K H q.1 [.int (q.2.1 : Int), .int (q.2.2 : Int)]) → DpAll K H (qs.map fun p => V.ref p.1) ((qs.map fun p => p.2).map dt)
  | [], _ => .nil
  | q :: qs, h => .cons (.tup (h q List.mem_cons_self) (.cons (.int _) (.cons (.int _) .nil))) (dp_dts qs fun x hx => h x (List.mem_cons_of_mem _ hx))
theorem dp_it {K : PySem.W.Frag} {H : Hp} {x : It} (h : x.At K H) : Dp K H (.ref x.b) x.data := .tup h.1 (.cons (.tup h.2.1 (dp_nums x.ns)) (.cons (.tup h.2.2 (.cons (.int _) (.cons (.int _) .nil))) .nil))
theorem dp_its {K : PySem.W.Frag} {H : Hp} : ∀ xs : List It, (∀ x ∈ xs, x.At K H) → DpAll K H (xs.map fun x => V.ref x.b) (xs.map It.data)
  | [], _ => .nil
  | x :: xs, h => .cons (dp_it (h x List.mem_cons_self)) (dp_its xs fun y hy => h y (List.mem_cons_of_mem _ hy))
theorem dp_prl {K : PySem.W.Frag} {H : Hp} {l : Addr} {n : Nat} {qs : List (Addr × Nat × Nat)} (h : PrL K H l n qs) : Dp K H (.ref l) (.list ((qs.map fun p => p.2).map dt)) := .lst (SqL.of h.ls) (dp_dts qs fun q hq => (h.st q hq).1)
theorem due_any {ns : List Int} {i j : Nat} (h : (i, j) ∈ prs ns.length) : ((due ns).map dt).any (fun z => PyData.eqv z (dt (i, j))) = can ns i j := by
  rw [Bool.eq_iff_iff, List.any_eq_true]
  constructor
  · rintro ⟨z, hz, e⟩
    obtain ⟨q, hq, rfl⟩ := List.mem_map.mp hz
    rw [dt_eqv] at e
    have e' := of_decide_eq_true e
    subst e'
    exact (List.mem_filter.mp hq).2
  · intro hc
    exact ⟨dt (i, j), List.mem_map.mpr ⟨(i, j), List.mem_filter.mpr ⟨h, hc⟩, rfl⟩, by rw [dt_eqv]; exact decide_eq_true rfl⟩
theorem max_le : ∀ (ns : List Int) (n m : Int), ns.foldl max n ≤ m → n ≤ m ∧ ∀ x ∈ ns, x ≤ m
  | [], n, m, h => ⟨h, fun x hx => nomatch hx⟩
  | y :: ns, n, m, h => by
    obtain ⟨h1, h2⟩ := max_le ns (max n y) m h
    refine ⟨by omega, fun x hx => ?_⟩
    rcases List.mem_cons.mp hx with e | hx
    · subst e
      omega
    · exact h2 x hx
theorem prs_nodup {n : Nat} (h : n ≤ 6) : (prs n).Nodup := by
  have : n = 0 ∨ n = 1 ∨ n = 2 ∨ n = 3 ∨ n = 4 ∨ n = 5 ∨ n = 6 := by omega
  rcases this with e | e | e | e | e | e | e <;> subst e <;> decide
section
variable {P : Program} {w : World} {K : PySem.W.Frag} {mg : Str → Option Value} {base : Heap}
abbrev s_l_told : Stmt := top 33
theorem sc_l_told : FnScope ["_law_heaps_here", "_law_step"] ["_law_heaps_here", "_law_step"] (defScope s_l_told) := ⟨rfl, rfl, rfl, by decide +kernel, rfl, by decide +kernel, by decide +kernel⟩
theorem ok_l_told {f C : Addr} {fd : FuncData} (F : Fun K "_law_told" "_law_told" s_l_told f fd) (B : NilX P K mg "BadStep" C) (te : PySem.W.exmOne K (.ref C) (.ref C) = some true) (C_stepped : Cal P w K mg base (L2.CX P w) 4 "stepped" ["heaps", "step"] (spStepped K C)) :
    FnOk P w K mg base CX0 5 f fd ["_law_heaps_here", "_law_step"] (spTold1 K) := by
  refine F.ok sc_l_told (fun vs H Q E h => ?_) (fun cdv A outer s H vs Q E hr h => ?_)
  · obtain ⟨t, u, ns, i, j, rfl, _⟩ := h
    rfl
  · obtain ⟨t, u, ns, i, j, rfl, hS, hg, hU, hi, hj, hij, k1, k2⟩ := h
    refine ⟨t_told1 K C, ?_, ?_⟩
    · exact pss_one (ps_try_only (tb := fun W => tRet (tCallS (spStepped K C) (WE W) (tCons (tVar 0) (tCons (tVar 1) tNil)))) (ts := fun a cls d => tRet (tC .non)) (Wout := fun _ _ _ _ => False) rfl rfl ⟨rfl, by decide, Or.inl B.gC⟩ takes0
      (fun W pn xe tk _ => pss_one (ps_ret (by exact (pe_calS C_stepped hr rfl (fun σ => passAt tk σ) (by exact (pa_cons (pv 0) (pa_cons (pv 1) pa_nil)))))))
      (fun a oe cls d pn hz hf => pss_one (ps_ret pe_non)))
    refine ⟨_, rfl, _, rfl, t, u, ns, i, j, rfl, hS, hg, hU, hi, hj, hij, k1, fun hc H' s1 => ?_⟩
    refine ⟨true, te, fun _ a ha => ?_, fun q => nomatch q⟩
    exact k2 hc H' s1
end
end Hd
set_option maxHeartbeats 8000000
namespace Hd
open PySem PySem.Spec PyProof.Rows L2
theorem heaps_ok {ns : List Int} (h : HeapsOk 2 6 ns) : hpsB ns = true := by
  have hs : ∀ (l : List Int), (∀ n ∈ l, 0 ≤ n) → 0 ≤ l.sum ∧ ∀ n ∈ l, n ≤ l.sum := by
    intro l
    induction l with
    | nil => intro _; exact ⟨Int.le_refl _, fun n hn => (nomatch hn)⟩
    | cons a r ih =>
      intro hg
      obtain ⟨i1, i2⟩ := ih fun n hn => hg n (List.mem_cons_of_mem _ hn)
      have ha := hg a List.mem_cons_self
      rw [List.sum_cons]
      refine ⟨by omega, fun n hn => ?_⟩
      rcases List.mem_cons.mp hn with e | hn
      · subst e
        omega
      · have := i2 n hn
        omega
  obtain ⟨n, hn, hp⟩ := h.pos
  have := (hs ns h.ge).2 n hn
  unfold hpsB
  simp only [Bool.and_eq_true, decide_eq_true_eq, List.all_eq_true, List.mem_map]
  refine ⟨⟨h.lo, h.hi⟩, fun x ⟨y, hy, e⟩ => ?_, by omega⟩
  subst e
  unfold inR
  simp only [id, Bool.and_eq_true, decide_eq_true_eq]
  exact ⟨h.ge y hy, h.le y hy⟩
theorem sum_mv {ns : List Int} {i j : Nat} (hi : i < ns.length) (hj : j < ns.length) (hij : i ≠ j) : (mv ns i j).sum = ns.sum := by
  unfold mv shf
  have g : ∀ {l : List Int} {k : Nat}, k < l.length → l[k]? = some (l.getD k 0) := fun {l k} hk => by
    rw [List.getD_eq_getElem?_getD, List.getElem?_eq_getElem hk]
    rfl
  have e1 := sum_set (y := ns.getD i 0 - ns.getD j 0) (g hi)
  have e2 : (ns.set i (ns.getD i 0 - ns.getD j 0))[j]? = some (ns.getD j 0) := by
    rw [List.getElem?_set_ne hij]
    exact g hj
  rw [sum_set e2, e1]
  omega
theorem inj_of_nodup {α β : Type} {f : α → β} : ∀ {l : List α}, (l.map f).Nodup → ∀ {x y : α}, x ∈ l → y ∈ l → f x = f y → x = y
  | [], _, _, _, h, _, _ => nomatch h
  | z :: l, u, x, y, hx, hy, e => by
    rw [List.map_cons, List.nodup_cons] at u
    rcases List.mem_cons.mp hx with h1 | h1 <;> rcases List.mem_cons.mp hy with h2 | h2
    · rw [h1, h2]
    · exact absurd (List.mem_map.mpr ⟨y, h2, by rw [← e, h1]⟩) u.1
    · exact absurd (List.mem_map.mpr ⟨x, h1, by rw [e, h2]⟩) u.1
    · exact inj_of_nodup u.2 h1 h2 e
theorem nodup_through {α β γ : Type} {f : α → β} {g : α → γ} {l : List α} (u : (l.map f).Nodup) (h : ∀ x y, g x = g y → f x = f y) : (l.map g).Nodup :=
  List.pairwise_map.mpr (List.Pairwise.imp (fun ne e => ne (h _ _ e)) (List.pairwise_map.mp u))
theorem list_shape_dt (p : Nat × Nat) : SeqAt.shaped (dt p) = true := shape_mk (dt_lay p) (by have := dt_deep p; omega)
theorem it_shape (x : It) : SeqAt.shaped x.data = true := shape_mk (it_lay x) (by rw [it_depth]; decide)
theorem shape_none : SeqAt.shaped .none = true := shape_mk (by simp [PyData.canLay0]) (by simp [PyData.depth])
def spLaw (K : PySem.W.Frag) : Sp := fun vs H Q _ => ∃ (a : Addr) (ns : List Int), vs = [.ref a] ∧ SqL K H a (ns.map V.int) ∧ ns.length ≤ 63 ∧ ∀ H', Q (.bl true) H'
theorem hps_mv {ns : List Int} {i j : Nat} (hg : hpsB ns = true) (hi : i < ns.length) (hj : j < ns.length) (hij : i ≠ j) (hc : can ns i j = true) (hm : ∀ x ∈ mv ns i j, x ≤ 10 ^ 30) : hpsB (mv ns i j) = true := by
  obtain ⟨h2, h6⟩ := hps_len hg
  have hs : 0 < ns.sum := by
    unfold hpsB at hg
    simp only [Bool.and_eq_true, decide_eq_true_eq] at hg
    exact hg.2.2
  refine hps_mk (by rw [len_mv]; exact h2) (by rw [len_mv]; exact h6) (fun x hx => ⟨?_, hm x hx⟩) (by rw [sum_mv hi hj hij]; exact hs)
  have all0 := hps_all hg
  unfold can at hc
  simp only [Bool.and_eq_true, decide_eq_true_eq] at hc
  unfold mv shf at hx
  rcases List.mem_or_eq_of_mem_set hx with hx | hx
  · rcases List.mem_or_eq_of_mem_set hx with hx | hx
    · exact (all0 x hx).1
    · omega
  · omega
section
variable {P : Program} {w : World} {K : PySem.W.Frag} {mg : Str → Option Value} {base : Heap}
abbrev s_law : Stmt := top 34
theorem sc_law : FnScope ["_law_script", "_law_h", "_law_heaps_here", "_law_size", "_law_step", "_law_due", "_law_told_here", "_law_own", "_law_earlier", "_law_even", "_law_x", "_law_one"] ["_law_script"] (defScope s_law) := ⟨rfl, rfl, rfl, by decide +kernel, rfl, by decide +kernel, by decide +kernel⟩
theorem ok_law {f : Addr} {fd : FuncData} (F : Fun K "law" "law" s_law f fd) (T : Tq K mg) (C_l_mix : Cal P w K mg base CX0 1 "_law_mix" ["_law_script", "_law_seed"] (spMix K))
    (C_l_heaps : Cal P w K mg base CX0 2 "_law_heaps" ["_law_h", "_law_least", "_law_most"] spHeaps) (C_l_can : Cal P w K mg base CX0 1 "_law_can" ["_law_heaps_here", "_law_step"] (spCan K)) (C_l_behind : Cal P w K mg base CX0 1 "_law_behind" ["_law_heaps_here", "_law_step"] (spBehind K))
    (C_l_pairs : Cal P w K mg base CX0 1 "_law_pairs" ["_law_size"] (spPairs K)) (C_l_told : Cal P w K mg base CX0 5 "_law_told" ["_law_heaps_here", "_law_step"] (spTold1 K)) (C_steps : Cal P w K mg base CX0 4 "steps" ["heaps"] (spSteps K))
    (C_before : Cal P w K mg base CX0 4 "before" ["heaps"] (spBefore K)) (C_is_first : Cal P w K mg base CX0 4 "is_first" ["heaps"] (spFirst K)) :
    FnOk P w K mg base CX0 6 f fd ["_law_script"] (spLaw K) := by
  refine F.ok sc_law (fun vs H Q E h => ?_) (fun cdv A outer s H vs Q E hr h => ?_)
  · obtain ⟨a, ns, rfl, _⟩ := h
    rfl
  · obtain ⟨a0, zs, rfl, hS, hlen, k⟩ := h
    have hu65 := units65 hr
    refine ⟨_, (pss_cons (ps_set (i := 1) sc_law.nd rfl (Or.inl rfl) (pe_cal C_l_mix hr rfl pass0 (pa_cons (pv 0) (pa_cons pe_int pa_nil))))
      (pss_cons (ps_set (i := 2) sc_law.nd rfl (Or.inr rfl) (pe_cal C_l_heaps hr rfl pass0 (pa_cons (pv 1) (pa_cons pe_int (pa_cons pe_int pa_nil)))))
      (pss_cons (ps_set (i := 3) sc_law.nd rfl (Or.inl rfl) (pe_callB call_len_seq (by rfl) T.len PySem.boot_len (pa_cons (pv 2) pa_nil)))
      (pss_cons (ps_setLc (i := 5) (own := [("_law_step", 4)]) (g := gName 4) (by rfl) sc_law.nd rfl rfl (sw_true rfl rfl rfl (by decide +kernel)) (pi_list (pe_cal C_l_pairs hr rfl pass0 (pa_cons (pv 3) pa_nil))) (blkOk_by (own := [("_law_step", 4)]) (N := ["_law_script", "_law_h", "_law_heaps_here", "_law_size", "_law_step", "_law_due", "_law_told_here", "_law_own", "_law_earlier", "_law_even", "_law_x", "_law_one"]) (sc := defScope s_law) (by decide +kernel)) (fun _ _ _ _ _ => pg_name (i := 4) sc_law.nd rfl (Or.inl rfl)) (fun _ _ _ _ _ => pts_one (pt_val (pe_cal C_l_can hr rfl pass0 (pa_cons (pv 2) (pa_cons (pv 4) pa_nil))))) (fun _ _ _ _ _ => (pv 4)))
      (pss_cons (ps_set (i := 6) sc_law.nd rfl (Or.inl rfl) (pe_cal C_steps hr rfl pass0 (pa_cons (pv 2) pa_nil)))
      (pss_cutM (ps_if (PW.pt (pw_or (pt_cmpR (op_neD hr.units) (pv 6) (pv 5) (nomark _)) (pw_or1 (pt_not (pt_val (pe_callB call_isi (by rfl) T.isinstance (by decide +kernel) (pa_cons (pv 6) (pa_cons (pe_bltn (v := .ty "list") (u := .type "list") (by rfl) T.list (by decide +kernel) rfl) pa_nil)))))))) (pss_one (ps_ret pe_bl)) pss_nil)
      (pss_cons (ps_for PassesOwn.never rfl (pi_list (pe_cal C_l_pairs hr rfl pass0 (pa_cons (pv 3) pa_nil))) (pg_name (i := 4) sc_law.nd rfl (Or.inl rfl))
      (pss_cons (ps_set (i := 7) sc_law.nd rfl (Or.inl rfl) (pe_cal C_l_told hr rfl pass0 (pa_cons (pv 2) (pa_cons (pv 4) pa_nil))))
      (pss_cons (ps_if (pt_cmpR (op_neD hr.units) (pv 7) (pe_ifExp (pt_cmpR (op_inD hu65) (pv 4) (pv 5) (by rfl)) (pe_cal C_l_behind hr rfl pass0 (pa_cons (pv 2) (pa_cons (pv 4) pa_nil))) pe_non) (nomark _)) (pss_one (ps_ret pe_bl)) pss_nil)
      (pss_one (ps_if (PW.pt (pw_and (pt_cmpR op_notN (pv 7) pe_non (nomark _)) (pw_and (pt_cmpR op_le (pe_callB (cr_maxT rfl hr.units) (by rfl) T.max (by decide +kernel) (pa_cons (pv 7) pa_nil)) (pe_op op_pow pe_int pe_int) (nomark _)) (pw_and1 (pt_cmpR (op_notInD hu65) (pe_tup (pa_cons (pv 2) (pa_cons (pv 4) pa_nil))) (pe_cal C_before hr rfl pass0 (pa_cons (pv 7) pa_nil)) (by rfl)))))) (pss_one (ps_ret pe_bl)) pss_nil)))))
      (pss_cons (ps_set (i := 8) sc_law.nd rfl (Or.inl rfl) (pe_cal C_before hr rfl pass0 (pa_cons (pv 2) pa_nil)))
      (pss_cutM (ps_if (PW.pt (pw_or (pt_cmpR (op_neD hr.units) (pv 8) (pe_callB (cr_sortSetIts rfl hr.units) (by rfl) T.sorted (by decide +kernel) (pa_cons ((pe_callTy (cr_setIts rfl hr.units) (by rfl) T.set (by decide +kernel) (pa_cons (pv 8) pa_nil))) pa_nil)) (nomark _)) (pw_or1 (pt_cmpR op_ne (pe_cal C_is_first hr rfl pass0 (pa_cons (pv 2) pa_nil)) (pe_cmpR (op_eqD hr.units) (pv 8) (pe_lst pa_nil) (nomark _)) (nomark _))))) (pss_one (ps_ret pe_bl)) pss_nil)
      (pss_cons (ps_set (i := 9) sc_law.nd rfl (Or.inl rfl) (pe_callB call_len_seq (by rfl) T.len PySem.boot_len (pa_cons (pe_lc (own := [("_law_x", 10)]) (g := gName 10) (by rfl) sc_law.nd (pi_tup (pv 2)) (blkOk_by (own := [("_law_x", 10)]) (N := ["_law_script", "_law_h", "_law_heaps_here", "_law_size", "_law_step", "_law_due", "_law_told_here", "_law_own", "_law_earlier", "_law_even", "_law_x", "_law_one"]) (sc := defScope s_law) (by decide +kernel)) (fun _ _ _ _ _ => pg_name (i := 10) sc_law.nd rfl (Or.inl rfl)) (fun _ _ _ _ _ => pts_one (PW.pt (pw_and (pt_cmpR op_gt (pv 10) pe_int (nomark _)) (pw_and1 (pt_cmpR op_eq (pe_op op_mul (pe_op op_fdiv (pv 10) pe_int) pe_int) (pv 10) (nomark _)))))) (fun _ _ _ _ _ => (pv 10))) pa_nil)))
      (pss_cons (ps_if (pt_cmpR op_ne (pe_callB call_len_seq (by rfl) T.len PySem.boot_len (pa_cons (pv 8) pa_nil)) (pe_op op_mul (pv 9) (pe_op op_sub (pv 3) pe_int)) (nomark _)) (pss_one (ps_ret pe_bl)) pss_nil)
      (pss_one (ps_ret (pe_cmpR (op_eqD hr.units) (pe_lc (own := [("_law_one", 11)]) (g := gName 11) (by rfl) sc_law.nd (pi_list (pv 8)) (blkOk_by (own := [("_law_one", 11)]) (N := ["_law_script", "_law_h", "_law_heaps_here", "_law_size", "_law_step", "_law_due", "_law_told_here", "_law_own", "_law_earlier", "_law_even", "_law_x", "_law_one"]) (sc := defScope s_law) (by decide +kernel)) (fun _ _ _ _ _ => pg_name (i := 11) sc_law.nd rfl (Or.inl rfl)) (fun _ _ _ _ _ => pts_one (PW.pt (pw_or (pt_not (pt_val (pe_cal C_l_can hr rfl pass0 (pa_cons (pe_ix (show IxR _ (rIxT K) from ix_tup) (pv 11) pe_int (fun _ _ => rfl)) (pa_cons (pe_ix (show IxR _ (rIxT K) from ix_tup) (pv 11) pe_int (fun _ _ => rfl)) pa_nil))))) (pw_or1 (pt_cmpR (show OpR _ _ (rNeD K) from op_neD hr.units) (pe_cal C_l_behind hr rfl pass0 (pa_cons (pe_ix (show IxR _ (rIxT K) from ix_tup) (pv 11) pe_int (fun _ _ => rfl)) (pa_cons (pe_ix (show IxR _ (rIxT K) from ix_tup) (pv 11) pe_int (fun _ _ => rfl)) pa_nil))) (pv 2) (nomark _)))))) (fun _ _ _ _ _ => (pv 11))) (pe_lst pa_nil) (nomark _))))))))))))))), ?_⟩
    -- _law_h, _law_heaps_here, _law_size
    refine ⟨_, rfl, a0, zs, 1, rfl, hS, hlen, fun h c H1 _ _ s1 D1 => ?_⟩
    refine ⟨_, rfl, h, c, 2, 6, rfl, D1, by decide, by decide, by decide, fun t ns H2 O ht0 ht2 D2 k2 => ?_⟩
    have hg := heaps_ok O
    have hlo := O.lo
    have hl6 := O.hi
    have T2 : SqT K H2 t (ns.map V.int) := SqT.of ht2
    refine ⟨_, rfl, t, _, rfl, .inr T2, ?_⟩
    rw [List.length_map]
    -- _law_due
    refine ⟨_, rfl, ns.length, rfl, hl6, fun l1 q1 H3 s3 hl1 hQ1 hq1 => ?_⟩
    have T3 := Same.tup s3 T2
    have hq1l : q1.length ≤ 36 := by
      have e := congrArg List.length hq1
      rw [List.length_map] at e
      rw [e]
      exact prs_len36 hl6
    refine ⟨l1, rfl, ⟨_, SqL.of hQ1.ls⟩, fun D hD => lc_list (K := K) (a := l1) (xs := q1.map fun p => V.ref p.1) (fun j H4 => PrL K H4 D ns.length ((q1.take j).filter fun p => can ns p.2.1 p.2.2) ∧ Same H3 H4) ⟨⟨upd_same, fun p hp => (nomatch hp)⟩, Same.new hD⟩ (fun j H4 _ q => SqL.of (q.2 _ _ hQ1.ls)) ?_ ?_⟩
    · rintro j x H4 hx ⟨hF, s4⟩
      rw [List.getElem?_map] at hx
      obtain ⟨p, hp, rfl⟩ := Option.map_eq_some_iff.mp hx
      obtain ⟨a1, a2, a3, a4⟩ := hQ1.st p (List.mem_of_getElem? hp)
      have nx : (q1.take (j + 1)).filter (fun p => can ns p.2.1 p.2.2) = (q1.take j).filter (fun p => can ns p.2.1 p.2.2) ++ (if can ns p.2.1 p.2.2 = true then [p] else []) := by
        rw [List.take_add_one, hp, List.filter_append]
        congr 1
        simp only [Option.toList, List.filter_cons, List.filter_nil]
      have fl : ((q1.take j).filter fun p => can ns p.2.1 p.2.2).length ≤ 36 := Nat.le_trans (List.length_filter_le _ _) (by rw [List.length_take]; omega)
      rw [nx]
      refine ⟨rfl, _, rfl, _, rfl, t, p.1, ns, p.2.1, p.2.2, rfl, Same.tup s4 T3, Same.tup s4 a1, a2, a3, _, rfl, ?_⟩
      cases hc : can ns p.2.1 p.2.2 with
      | true =>
        refine iteT ⟨_, rfl, _, hF.ls, ?_, ?_, same_upd s4 hD⟩
        · rw [List.length_map, sizeLine_eq]
          omega
        · refine ⟨by rw [upd_same, if_pos rfl, List.map_append]; rfl, fun y hy => ?_⟩
          rw [if_pos rfl] at hy
          rcases List.mem_append.mp hy with hy | hy
          · obtain ⟨b1, b2⟩ := hF.st y hy
            exact ⟨sqt_upd hF.ls b1, b2⟩
          · have e : y = p := by simpa using hy
            subst e
            exact ⟨sqt_upd hF.ls (Same.tup s4 a1), a2, a3, a4⟩
      | false =>
        refine iteF ?_
        rw [if_neg (by decide), List.append_nil]
        exact ⟨hF, s4⟩
    · rintro H4 ⟨hF, s4⟩
      rw [List.length_map, List.take_length] at hF
      have hdue : ((q1.filter fun p => can ns p.2.1 p.2.2).map fun p => p.2) = due ns := by
        unfold due
        rw [← hq1, List.filter_map]
        rfl
      generalize (q1.filter fun p => can ns p.2.1 p.2.2) = qd at hF hdue
      have T4 := Same.tup s4 T3
      -- _law_told_here
      refine ⟨_, rfl, t, ns, rfl, T4, hg, fun l2 qs H5 s5 hQ5 hq5 => ?_⟩
      have T5 := Same.tup s5 T4
      have hF5 := hF.same s5
      refine ⟨fun σ H' => (∃ v4, σ = [some (.ref a0), some (.ref h), some (.ref t), some (.int (ns.length : Int)), v4, some (.ref D), some (.ref l2), none, none, none, none, none]) ∧ H' = H5, ?_, ?_⟩
      · refine ⟨_, rfl, _, rfl, _, _, dp_prl hQ5, dp_prl hF5, list_shape dt 1 (by decide) dt_lay dt_deep _, list_shape dt 1 (by decide) dt_lay dt_deep _, _, rfl, ?_⟩
        rw [hdue, show (qs.map fun p => p.2) = due ns from hq5, list_self dt (fun x => by rw [dt_eqv]; exact decide_eq_true rfl)]
        refine iteF ⟨_, rfl, _, _, _, _, true, rfl, ClsV.ty _, .base (.lst hQ5.ls), kit_ty (by decide +kernel), _, rfl, ?_⟩
        exact iteF ⟨⟨_, rfl⟩, rfl⟩
      · rintro σ H' ⟨⟨v4, rfl⟩, rfl⟩
        -- for _law_step in ..
        refine ⟨_, rfl, ns.length, rfl, hl6, fun l3 q3 H6 s6 hl3 hQ3 hq3 => ?_⟩
        refine ⟨l3, rfl, ⟨_, SqL.of hQ3.ls⟩, ?_⟩
        refine for_list (K := K) (a := l3) (xs := q3.map fun p => V.ref p.1) (fun i σ H7 => ∃ v4 v7, σ = [some (.ref a0), some (.ref h), some (.ref t), some (.int (ns.length : Int)), v4, some (.ref D), some (.ref l2), v7, none, none, none, none] ∧ Same H6 H7) ⟨v4, none, rfl, Same.refl _⟩ (fun i σ H7 _ ⟨_, _, _, q⟩ => SqL.of (q _ _ hQ3.ls)) ?_ ?_
        · rintro i x σ H7 hx ⟨v4', v7, rfl, s7⟩
          rw [List.getElem?_map] at hx
          obtain ⟨p, hp, rfl⟩ := Option.map_eq_some_iff.mp hx
          obtain ⟨a1, a2, a3, a4⟩ := hQ3.st p (List.mem_of_getElem? hp)
          have T7 := Same.tup (s6.trans s7) T5
          have A7 := Same.tup s7 a1
          have hF7 := hF5.same (s6.trans s7)
          have pin : (p.2.1, p.2.2) ∈ prs ns.length := prs_in.mpr ⟨a2, a3, a4⟩
          have dany := due_any (ns := ns) pin
          rw [← hdue] at dany
          have SI : Dp K H7 (.ref p.1) (dt (p.2.1, p.2.2)) := .tup A7 (.cons (.int _) (.cons (.int _) .nil))
          refine ⟨_, rfl, _, rfl, t, p.1, ns, p.2.1, p.2.2, rfl, T7, hg, A7, a2, a3, a4, fun hc pp H8 s8 hp8 => ?_, fun hc H8 s8 => ?_⟩
          · have T8 := Same.tup s8 T7
            have A8 := Same.tup s8 A7
            refine ⟨_, rfl, _, rfl, _, rfl, dt (p.2.1, p.2.2), _, .tup A8 (.cons (.int _) (.cons (.int _) .nil)), dp_prl (hF7.same s8), list_shape_dt _, list_shape dt 1 (by decide) dt_lay dt_deep _, _, rfl, ?_⟩
            rw [dany, hc]
            refine iteT ⟨_, rfl, _, rfl, t, p.1, ns, p.2.1, p.2.2, rfl, T8, A8, a2, a3, a4, fun pb H9 s9 hpb hpb9 => ?_⟩
            have M9 : SqT K H9 pp ((mv ns p.2.1 p.2.2).map V.int) := SqT.of (s9 _ _ hp8)
            refine ⟨_, _, .tup M9 (dp_nums _), .tup (SqT.of hpb9) (dp_nums _), tup_shape _, tup_shape _, _, rfl, ?_⟩
            rw [tup_self]
            refine iteF ⟨_, rfl, rfl, _, rfl, iteT ?_⟩
            obtain ⟨n0, rest, em⟩ : ∃ n0 rest, mv ns p.2.1 p.2.2 = n0 :: rest := by
              have e := len_mv ns p.2.1 p.2.2
              cases hmv : mv ns p.2.1 p.2.2 with
              | nil =>
                rw [hmv] at e
                simp at e
                omega
              | cons x r => exact ⟨x, r, rfl⟩
            have M9' := M9
            rw [em] at M9'
            have s79 := (s7.trans s8).trans s9
            refine ⟨_, rfl, pp, n0, rest, rfl, M9', _, _, rfl, rfl, ⟨by decide, by decide, by decide⟩, _, _, rfl, rfl, _, rfl, ?_⟩
            refine ite2 (fun hle => ?_) (fun _ => iteF ⟨_, _, rfl, s79⟩)
            have hle' : rest.foldl max n0 ≤ 10 ^ 30 := by
              have z : rest.foldl max n0 ≤ (10 : Int) ^ (30 : Int).toNat := of_decide_eq_true hle
              exact z
            have hall : ∀ x ∈ mv ns p.2.1 p.2.2, x ≤ 10 ^ 30 := fun x hx => by
              obtain ⟨z1, z2⟩ := max_le rest n0 _ hle'
              rw [em] at hx
              rcases List.mem_cons.mp hx with e | hx
              · subst e
                exact z1
              · exact z2 x hx
            have T9 := Same.tup s9 T8
            have A9 := Same.tup s9 A8
            refine ⟨_, rfl, _, rfl, by show 2 ≤ sizeLine; decide, fun TT hTT => ?_⟩
            have sT : Same H9 (upd H9 TT (.tup [.ref t, .ref p.1])) := Same.new hTT
            refine ⟨_, rfl, pp, mv ns p.2.1 p.2.2, rfl, Same.tup sT M9, hps_mv hg a2 a3 a4 hc hall, fun l xs H10 s10 hl10 hX hm => ?_⟩
            have s910 := sT.trans s10
            have X0 : It.At K H10 ⟨TT, t, p.1, ns, p.2.1, p.2.2⟩ := ⟨SqT.of (s10 _ _ upd_same), Same.tup s910 T9, Same.tup s910 A9⟩
            have hXs : ∀ x ∈ xs.mergeSort itLe, x.At K H10 := fun x hx => (hX x ((List.mergeSort_perm xs itLe).mem_iff.mp hx)).1
            refine ⟨_, _, dp_it X0, .lst (SqL.of hl10) (dp_its _ hXs), it_shape _, list_shape It.data 2 (by decide) it_lay (fun x => Nat.le_of_eq (it_depth x)) _, _, rfl, ?_⟩
            have found : ((xs.mergeSort itLe).map It.data).any (fun z => PyData.eqv z (It.data ⟨TT, t, p.1, ns, p.2.1, p.2.2⟩)) = true := by
              have inl : (p.2.1, p.2.2) ∈ lst (mv ns p.2.1 p.2.2) := List.mem_filter.mpr ⟨by rw [len_mv]; exact pin, dbl_mv a2 a3 a4 hc⟩
              rw [← hm] at inl
              obtain ⟨x, hx, ex⟩ := List.mem_map.mp inl
              have e1 : x.i = p.2.1 := congrArg Prod.fst ex
              have e2 : x.j = p.2.2 := congrArg Prod.snd ex
              refine List.any_eq_true.mpr ⟨x.data, List.mem_map.mpr ⟨x, (List.mergeSort_perm xs itLe).mem_iff.mpr hx, rfl⟩, it_self ⟨?_, e1, e2⟩⟩
              rw [(hX x hx).2.1, e1, e2]
              exact erl_mv a2 a3 a4
            rw [found]
            exact iteF ⟨_, _, rfl, s79.trans s910⟩
          · have A8 := Same.tup s8 A7
            refine ⟨_, rfl, _, rfl, _, rfl, dt (p.2.1, p.2.2), _, .tup A8 (.cons (.int _) (.cons (.int _) .nil)), dp_prl (hF7.same s8), list_shape_dt _, list_shape dt 1 (by decide) dt_lay dt_deep _, _, rfl, ?_⟩
            rw [dany, hc]
            refine iteF ⟨.none, .none, .non, .non, shape_none, shape_none, _, rfl, ?_⟩
            rw [show PyData.eqv .none .none = true by simp [PyData.eqv]]
            exact iteF ⟨_, rfl, rfl, _, rfl, iteF ⟨_, _, rfl, s7.trans s8⟩⟩
        · rintro σ H7 ⟨v4', v7, rfl, s7⟩
          have T7 := Same.tup (s6.trans s7) T5
          refine ⟨_, rfl, t, ns, rfl, T7, hg, fun l8 xs H8 s8 hl8 hX hm => ?_⟩
          have T8 := Same.tup s8 T7
          have pM := List.mergeSort_perm xs itLe
          have hA : ∀ x ∈ xs.mergeSort itLe, x.At K H8 := fun x hx => (hX x (pM.mem_iff.mp hx)).1
          have un : (xs.map fun x => (x.i, x.j)).Nodup := by
            rw [hm]
            exact List.Nodup.sublist List.filter_sublist (prs_nodup hl6)
          have inj : ∀ x ∈ xs, ∀ y ∈ xs, x.i = y.i → x.j = y.j → x = y := fun x hx y hy e1 e2 => inj_of_nodup un hx hy (by rw [e1, e2])
          have unK : ((xs.mergeSort itLe).map It.key).Nodup := by
            refine (pM.map It.key).nodup_iff.mpr (nodup_through un fun x y e => ?_)
            have e' : (kk [x.ns, [(x.i : Int), (x.j : Int)]]) = kk [y.ns, [(y.i : Int), (y.j : Int)]] := e
            unfold kk at e'
            simp at e'
            exact Prod.ext (by omega) (by omega)
          have few : (xs.mergeSort itLe).length < 64 := by
            rw [pM.length_eq]
            have e := congrArg List.length hm
            rw [List.length_map] at e
            have e2 : (lst ns).length ≤ 36 := Nat.le_trans (List.length_filter_le _ _) (prs_len36 hl6)
            omega
          have lenM : (xs.mergeSort itLe).length = (ns.filter dbl).length * (ns.length - 1) := by
            rw [pM.length_eq, ← lst_len hlo hl6, ← hm, List.length_map]
          have emptyM : (xs.mergeSort itLe).isEmpty = (lst ns).isEmpty := by
            have e1 : (xs.mergeSort itLe).length = (lst ns).length := by rw [pM.length_eq, ← hm, List.length_map]
            cases h1 : xs.mergeSort itLe with
            | nil =>
              rw [h1] at e1
              rw [List.length_eq_zero_iff.mp e1.symm]
              rfl
            | cons _ _ =>
              rw [h1] at e1
              cases h2 : lst ns with
              | nil =>
                rw [h2] at e1
                exact absurd e1 (by simp)
              | cons _ _ => rfl
          have dself : ∀ x : It, PyData.eqv x.data x.data = true := fun x => it_self ⟨rfl, rfl, rfl⟩
          have shp : ∀ ys : List It, SeqAt.shaped (.list (ys.map It.data)) = true := list_shape It.data 2 (by decide) it_lay (fun x => Nat.le_of_eq (it_depth x))
          refine ⟨fun σ H' => σ = [some (.ref a0), some (.ref h), some (.ref t), some (.int (ns.length : Int)), v4', some (.ref D), some (.ref l2), v7, some (.ref l8), none, none, none] ∧ Same H8 H', ?_, ?_⟩
          · refine ⟨_, rfl, _, rfl, l8, xs.mergeSort itLe, rfl, SqL.of hl8, hA, unK, few, fun sa hsa => ?_⟩
            have sS := Same.new (o := SetN P w sa (xs.mergeSort itLe)) hsa
            refine ⟨sa, xs.mergeSort itLe, rfl, upd_same, fun x hx => (hA x hx).same sS, fun zs p pz hp => ?_⟩
            have eM : zs.mergeSort itLe = xs.mergeSort itLe := sort_same (pz.trans pM) fun x hx y hy h1 h2 => inj x hx y hy (itLe_anti h1 h2).2.1 (itLe_anti h1 h2).2.2
            rw [eM]
            have sP := sS.trans (Same.new (o := .lst ((xs.mergeSort itLe).map fun x => V.ref x.b)) hp)
            refine ⟨_, _, .lst (SqL.of (sP _ _ hl8)) (dp_its _ fun x hx => (hA x hx).same sP), .lst (SqL.of upd_same) (dp_its _ fun x hx => (hA x hx).same sP), shp _, shp _, _, rfl, ?_⟩
            rw [list_self It.data dself]
            refine iteF ⟨_, rfl, t, ns, rfl, Same.tup sP T8, hg, fun H11 s11 => ?_⟩
            have s1 := sP.trans s11
            refine ⟨_, rfl, by show 0 ≤ sizeLine; decide, fun e he => ?_⟩
            have s2 := s1.trans (Same.new (o := .lst []) he)
            refine ⟨_, .list [], .lst (SqL.of (s2 _ _ hl8)) (dp_its _ fun x hx => (hA x hx).same s2), .lst (SqL.of upd_same) .nil, shp _, list_shape It.data 2 (by decide) it_lay (fun x => Nat.le_of_eq (it_depth x)) [], rfl, _, rfl, ?_⟩
            rw [list_nil, emptyM, first_iff hlo hl6, decide_eq_true rfl]
            exact iteF ⟨rfl, s2⟩
          · rintro σ H12 ⟨rfl, s12⟩
            have T12 := Same.tup s12 T8
            refine ⟨_, rfl, t, rfl, ⟨_, T12⟩, fun DD hDD => lc_tup (K := K) (a := t) (xs := ns.map V.int) (fun i H13 => H13 DD = some (.lst (((ns.take i).filter dbl).map V.int)) ∧ Same H12 H13) ⟨upd_same, Same.new hDD⟩ (fun i H13 _ q => Same.tup q.2 T12) ?_ ?_⟩
            · rintro i x H13 hx ⟨hL, s13⟩
              obtain ⟨z, hz, rfl⟩ := int_at hx
              have nx : (ns.take (i + 1)).filter dbl = (ns.take i).filter dbl ++ (if dbl z = true then [z] else []) := by
                rw [List.take_add_one, hz, List.filter_append]
                congr 1
                simp only [Option.toList, List.filter_cons, List.filter_nil]
              have fl : ((ns.take i).filter dbl).length ≤ 6 := Nat.le_trans (List.length_filter_le _ _) (by rw [List.length_take]; omega)
              have dt_ := dbl_test z
              have no_more : (if false = true then [z] else []) = ([] : List Int) := rfl
              have one_more : (if true = true then [z] else []) = [z] := rfl
              rw [nx]
              refine ⟨rfl, _, rfl, _, _, rfl, rfl, _, rfl, ?_⟩
              have add : ((ns.take i).filter dbl ++ [z]).map V.int = ((ns.take i).filter dbl).map V.int ++ [V.int z] := by rw [List.map_append]; rfl
              cases h1 : decide (0 < z) with
              | false =>
                rw [h1] at dt_
                rw [show dbl z = false from dt_, no_more, List.append_nil]
                exact iteF ⟨hL, s13⟩
              | true =>
                rw [h1] at dt_
                refine iteT ⟨_, rfl, _, _, rfl, rfl, ⟨by decide, by decide⟩, _, _, rfl, rfl, .inr ⟨by decide, by decide⟩, _, rfl, rfl, _, rfl, ?_⟩
                rw [dec_int]
                cases h2 : decide (z / 2 * 2 = z) with
                | false =>
                  rw [h2] at dt_
                  rw [show dbl z = false from dt_, no_more, List.append_nil]
                  exact iteF ⟨hL, s13⟩
                | true =>
                  rw [h2] at dt_
                  rw [show dbl z = true from dt_, one_more]
                  refine iteT ⟨_, rfl, _, hL, ?_, ?_, same_upd s13 hDD⟩
                  · rw [List.length_map, sizeLine_eq]
                    omega
                  · rw [upd_same, add]
            · rintro H13 ⟨hL, s13⟩
              rw [List.length_map, List.take_length] at hL
              refine ⟨DD, _, rfl, .inl (SqL.of hL), ?_⟩
              rw [List.length_map]
              have s813 := s12.trans s13
              have hl13 := s813 _ _ hl8
              have T13 := Same.tup s13 T12
              refine ⟨_, rfl, l8, _, rfl, .inl (SqL.of hl13), _, rfl, _, rfl, _, _, rfl, rfl, _, _, rfl, rfl, .inl ⟨by omega, ?_⟩, rfl, _, rfl, ?_⟩
              · have := List.length_filter_le dbl ns
                omega
              rw [List.length_map, lenM, dec_int]
              have ev : (((ns.filter dbl).length * (ns.length - 1) : Nat) : Int) = ((ns.filter dbl).length : Int) * ((ns.length : Int) - 1) := by
                rw [Int.natCast_mul, Int.natCast_sub (by omega)]
                rfl
              rw [decide_eq_true ev]
              refine iteF ?_
              have allE : ∀ x ∈ xs.mergeSort itLe, x.At K H13 ∧ x.i < x.ns.length ∧ x.j < x.ns.length ∧ x.i ≠ x.j ∧ can x.ns x.i x.j = true ∧ mv x.ns x.i x.j = ns := fun x hx => by
                obtain ⟨b1, b2, b3, b4, b5⟩ := hX x (pM.mem_iff.mp hx)
                have inl : (x.i, x.j) ∈ lst ns := by
                  rw [← hm]
                  exact List.mem_map.mpr ⟨x, pM.mem_iff.mp hx, rfl⟩
                have hd := (List.mem_filter.mp inl).2
                have h0 : 0 ≤ ns.getD x.i 0 := by
                  rw [List.getD_eq_getElem?_getD, List.getElem?_eq_getElem b3]
                  exact (hps_all hg _ (List.getElem_mem b3)).1
                obtain ⟨m1, m2⟩ := mv_erl b3 b4 b5 hd h0
                have ln : x.ns.length = ns.length := by
                  rw [b2]
                  unfold erl shf
                  rw [List.length_set, List.length_set]
                rw [ln, b2]
                exact ⟨b1.same s813, b3, b4, b5, m1, m2⟩
              refine ⟨_, rfl, l8, rfl, ⟨_, SqL.of hl13⟩, fun DE hDE => lc_list (K := K) (a := l8) (xs := (xs.mergeSort itLe).map fun x => V.ref x.b) (fun i H14 => H14 DE = some (.lst []) ∧ Same H13 H14) ⟨upd_same, Same.new hDE⟩ (fun i H14 _ q => SqL.of (q.2 _ _ hl13)) ?_ ?_⟩
              · rintro i x H14 hx ⟨hL14, s14⟩
                rw [List.getElem?_map] at hx
                obtain ⟨y, hy, rfl⟩ := Option.map_eq_some_iff.mp hx
                obtain ⟨b1, b2, b3, b4, b5, b6⟩ := allE y (List.mem_of_getElem? hy)
                obtain ⟨c1, c2, c3⟩ := b1.same s14
                refine ⟨rfl, _, rfl, y.b, _, _, _, rfl, rfl, c1, rfl, _, rfl, y.b, _, _, _, rfl, rfl, c1, rfl, y.c, y.d, y.ns, y.i, y.j, rfl, c2, c3, b2, b3, _, rfl, ?_⟩
                rw [b5]
                refine iteF ⟨_, rfl, y.b, _, _, _, rfl, rfl, c1, rfl, _, rfl, y.b, _, _, _, rfl, rfl, c1, rfl, y.c, y.d, y.ns, y.i, y.j, rfl, c2, c3, b2, b3, b4, fun pb H15 s15 hpb hpb15 => ?_⟩
                rw [b6] at hpb15
                refine ⟨_, rfl, _, _, .tup (SqT.of hpb15) (dp_nums _), .tup (Same.tup (s14.trans s15) T13) (dp_nums _), tup_shape _, tup_shape _, _, rfl, ?_⟩
                rw [tup_self]
                exact iteF ⟨s15 _ _ hL14, s14.trans s15⟩
              · rintro H14 ⟨hL14, s14⟩
                refine ⟨by show 0 ≤ sizeLine; decide, fun e he => ?_⟩
                have s15 : Same H14 (upd H14 e (.lst [])) := Same.new he
                refine ⟨.list [], .list [], .lst (SqL.of (s15 _ _ hL14)) .nil, .lst (SqL.of upd_same) .nil, shp [], shp [], ?_⟩
                rw [show PyData.eqv (.list []) (.list []) = true by simp [PyData.eqv, PyData.eqvAll]]
                exact k _
end
end Hd
set_option maxHeartbeats 4000000
namespace Hd
open PySem PySem.Spec PyProof.Rows L2
abbrev s_HeapError_init : Stmt := inClass (top 1) 0
theorem sup_mk {prog : Program} {K : PySem.W.Frag} {fI HE cc cda : Addr} {oc kV dc pm ct ccl cl : Value} {od an cdd cld : Option Addr} {osl ccs csl : Array (Option Value)} {vs : Array Value} {file : Str} {tf : Tok} {cdD : ClassData}
    (tI : PySem.W.typeIn K (.ref fI) = some (.type "function"))
    (lI : K.lookup fI = some ⟨oc, od, .func (PySem.W.fnX "__init__" "HeapError.__init__" (defArgs s_HeapError_init) (defBody s_HeapError_init) (defScope s_HeapError_init) [("__class__", cc)] .none kV dc pm an (.ref cda) ct), osl⟩)
    (cI : PySem.W.codeIn K (.ref cda) "HeapError.__init__" = true) (lcda : K.lookup cda = some ⟨ccl, cdd, .fields vs, ccs⟩) (hvs : vs[2]? = some (.str file tf)) (hfile : ((prog.main.file : Str) == file) = true)
    (lcc : K.lookup cc = some ⟨cl, cld, .cell (some (.ref HE)), csl⟩) (hD : PySem.W.clsIn K HE = some cdD) (zs : PySem.W.nsIn K mainGlobals "super" = some none) (thr : PySem.W.nsIn K cStatics "thirdparty.any" = some none)
    (top : (prog.main.scope.names.lookup ("super" : Str)).isSome = false) : SupDef prog K fI HE :=
  ⟨⟨oc, od, an, defArgs s_HeapError_init, "HeapError.__init__", .none, kV, dc, pm, ct, cc, cda, osl, _, _, _, _, _, _, ccl, cl, cdd, cld, vs, ccs, csl, file, tf, cdD, lI, cI, rfl, rfl, fun v => rfl, fun L => ⟨_, rfl⟩, lcda, hvs, hfile, lcc, hD⟩, tI, zs, thr, top⟩
end Hd
set_option maxHeartbeats 8000000
namespace Hd
open PySem PySem.Spec PyProof.Rows L2
theorem all_mk {l : PySem.W.OpenLaw} {w : World} {K : PySem.W.Frag} {h : Heap} {mg : Str → Option Value} {fa : Addr} (X : K.In h) (G : h.Ns mainGlobals mg) (hfa : mg "law" = some (.ref fa))
    {A_BadStep : Addr}
    (x_BadStep : PySem.W.nsIn K mainGlobals "BadStep" = some (some (.ref A_BadStep)))
    {nm q : Str} {N HE : Addr} {bs : List Value} {sn : List Str} {sub : List Value} {ab : Bool} {col : Option Bool} {dd : Option Addr} {m0 m1 m2 m3 m5 : Option Value}
    (xL : K.lookup A_BadStep = some (excClassObj nm q A_BadStep N bs [.ref HE, .type "ValueError", .type "Exception", .type "BaseException", .type "object"] true sn sub ab col dd m0 m1 m2 m3 m5 "ValueError.__new__"))
    {f_HI cc cda : Addr} {ocI kVI dcI pmI ctI ccl cl : Value} {odI anI cdd cld : Option Addr} {oslI ccs csl : Array (Option Value)} {vs : Array Value} {file : Str} {tf : Tok} {cdD : ClassData}
    (iHI : PySem.W.findIn K (.ref A_BadStep) "__init__" = some (some (.ref f_HI)))
    (tI : PySem.W.typeIn K (.ref f_HI) = some (.type "function"))
    (lI : K.lookup f_HI = some ⟨ocI, odI, .func (PySem.W.fnX "__init__" "HeapError.__init__" (defArgs s_HeapError_init) (defBody s_HeapError_init) (defScope s_HeapError_init) [("__class__", cc)] .none kVI dcI pmI anI (.ref cda) ctI), oslI⟩)
    (cI : PySem.W.codeIn K (.ref cda) "HeapError.__init__" = true)
    (lcda : K.lookup cda = some ⟨ccl, cdd, .fields vs, ccs⟩)
    (hvs : vs[2]? = some (.str file tf))
    (hfile : ((l.prog.main.file : Str) == file) = true)
    (lcc : K.lookup cc = some ⟨cl, cld, .cell (some (.ref HE)), csl⟩)
    (hD : PySem.W.clsIn K HE = some cdD)
    (supI : PySem.W.ks_superIn K A_BadStep HE "__init__" = some (some (.builtin "ValueError.__init__")))
    (mroI : PySem.W.mroIn K A_BadStep (.ref HE) = some true)
    (veI : PySem.W.subIn K (.ref A_BadStep) (.type "ValueError") = some true)
    (xinI : PySem.W.excInitIn K A_BadStep [.type "ValueError", .type "Exception", .type "BaseException", .type "object"] "ValueError.__new__" = true)
    (thr : PySem.W.nsIn K cStatics "thirdparty.any" = some none)
    (topN : (l.prog.main.scope.names.lookup ("super" : Str)).isSome = false)
    (kC : PySem.W.keepIn K (.ref A_BadStep) = true)
    (eC : PySem.W.subIn K (.ref A_BadStep) (.type "BaseException") = some true)
    (tC : PySem.W.typeIn K (.ref A_BadStep) = some (.type "type"))
    (iC : PySem.W.isClsIn K A_BadStep = true)
    (sC : PySem.W.subIn K (.ref A_BadStep) (.ref A_BadStep) = some true)
    {od_is_integer an_is_integer : Option Addr} {sl_is_integer : Array (Option Value)} {oc_is_integer kV_is_integer dc_is_integer pm_is_integer cd_is_integer ct_is_integer : Value} {f_is_integer : Addr}
    (a_is_integer : PySem.W.nsIn K mainGlobals "is_integer" = some (some (.ref f_is_integer)))
    (l_is_integer : K.lookup f_is_integer = some ⟨oc_is_integer, od_is_integer, .func (PySem.W.fnOf "is_integer" "is_integer" (defArgs s_is_integer) (defBody s_is_integer) (defScope s_is_integer) .none kV_is_integer dc_is_integer pm_is_integer an_is_integer cd_is_integer ct_is_integer), sl_is_integer⟩)
    (c_is_integer : PySem.W.codeIn K cd_is_integer "is_integer" = true) (k_is_integer : PySem.W.keepIn K (.ref f_is_integer) = true)
    {od_is_heaps an_is_heaps : Option Addr} {sl_is_heaps : Array (Option Value)} {oc_is_heaps kV_is_heaps dc_is_heaps pm_is_heaps cd_is_heaps ct_is_heaps : Value} {f_is_heaps : Addr}
    (a_is_heaps : PySem.W.nsIn K mainGlobals "is_heaps" = some (some (.ref f_is_heaps)))
    (l_is_heaps : K.lookup f_is_heaps = some ⟨oc_is_heaps, od_is_heaps, .func (PySem.W.fnOf "is_heaps" "is_heaps" (defArgs s_is_heaps) (defBody s_is_heaps) (defScope s_is_heaps) .none kV_is_heaps dc_is_heaps pm_is_heaps an_is_heaps cd_is_heaps ct_is_heaps), sl_is_heaps⟩)
    (c_is_heaps : PySem.W.codeIn K cd_is_heaps "is_heaps" = true) (k_is_heaps : PySem.W.keepIn K (.ref f_is_heaps) = true)
    {od_is_pair_of an_is_pair_of : Option Addr} {sl_is_pair_of : Array (Option Value)} {oc_is_pair_of kV_is_pair_of dc_is_pair_of pm_is_pair_of cd_is_pair_of ct_is_pair_of : Value} {f_is_pair_of : Addr}
    (a_is_pair_of : PySem.W.nsIn K mainGlobals "is_pair_of" = some (some (.ref f_is_pair_of)))
    (l_is_pair_of : K.lookup f_is_pair_of = some ⟨oc_is_pair_of, od_is_pair_of, .func (PySem.W.fnOf "is_pair_of" "is_pair_of" (defArgs s_is_pair_of) (defBody s_is_pair_of) (defScope s_is_pair_of) .none kV_is_pair_of dc_is_pair_of pm_is_pair_of an_is_pair_of cd_is_pair_of ct_is_pair_of), sl_is_pair_of⟩)
    (c_is_pair_of : PySem.W.codeIn K cd_is_pair_of "is_pair_of" = true) (k_is_pair_of : PySem.W.keepIn K (.ref f_is_pair_of) = true)
    {od_check_heaps an_check_heaps : Option Addr} {sl_check_heaps : Array (Option Value)} {oc_check_heaps kV_check_heaps dc_check_heaps pm_check_heaps cd_check_heaps ct_check_heaps : Value} {f_check_heaps : Addr}
    (a_check_heaps : PySem.W.nsIn K mainGlobals "check_heaps" = some (some (.ref f_check_heaps)))
    (l_check_heaps : K.lookup f_check_heaps = some ⟨oc_check_heaps, od_check_heaps, .func (PySem.W.fnOf "check_heaps" "check_heaps" (defArgs s_check_heaps) (defBody s_check_heaps) (defScope s_check_heaps) .none kV_check_heaps dc_check_heaps pm_check_heaps an_check_heaps cd_check_heaps ct_check_heaps), sl_check_heaps⟩)
    (c_check_heaps : PySem.W.codeIn K cd_check_heaps "check_heaps" = true) (k_check_heaps : PySem.W.keepIn K (.ref f_check_heaps) = true)
    {od_pairs_of an_pairs_of : Option Addr} {sl_pairs_of : Array (Option Value)} {oc_pairs_of kV_pairs_of dc_pairs_of pm_pairs_of cd_pairs_of ct_pairs_of : Value} {f_pairs_of : Addr}
    (a_pairs_of : PySem.W.nsIn K mainGlobals "pairs_of" = some (some (.ref f_pairs_of)))
    (l_pairs_of : K.lookup f_pairs_of = some ⟨oc_pairs_of, od_pairs_of, .func (PySem.W.fnOf "pairs_of" "pairs_of" (defArgs s_pairs_of) (defBody s_pairs_of) (defScope s_pairs_of) .none kV_pairs_of dc_pairs_of pm_pairs_of an_pairs_of cd_pairs_of ct_pairs_of), sl_pairs_of⟩)
    (c_pairs_of : PySem.W.codeIn K cd_pairs_of "pairs_of" = true) (k_pairs_of : PySem.W.keepIn K (.ref f_pairs_of) = true)
    {od_can_be_made an_can_be_made : Option Addr} {sl_can_be_made : Array (Option Value)} {oc_can_be_made kV_can_be_made dc_can_be_made pm_can_be_made cd_can_be_made ct_can_be_made : Value} {f_can_be_made : Addr}
    (a_can_be_made : PySem.W.nsIn K mainGlobals "can_be_made" = some (some (.ref f_can_be_made)))
    (l_can_be_made : K.lookup f_can_be_made = some ⟨oc_can_be_made, od_can_be_made, .func (PySem.W.fnOf "can_be_made" "can_be_made" (defArgs s_can_be_made) (defBody s_can_be_made) (defScope s_can_be_made) .none kV_can_be_made dc_can_be_made pm_can_be_made an_can_be_made cd_can_be_made ct_can_be_made), sl_can_be_made⟩)
    (c_can_be_made : PySem.W.codeIn K cd_can_be_made "can_be_made" = true) (k_can_be_made : PySem.W.keepIn K (.ref f_can_be_made) = true)
    {od_shifted an_shifted : Option Addr} {sl_shifted : Array (Option Value)} {oc_shifted kV_shifted dc_shifted pm_shifted cd_shifted ct_shifted : Value} {f_shifted : Addr}
    (a_shifted : PySem.W.nsIn K mainGlobals "shifted" = some (some (.ref f_shifted)))
    (l_shifted : K.lookup f_shifted = some ⟨oc_shifted, od_shifted, .func (PySem.W.fnOf "shifted" "shifted" (defArgs s_shifted) (defBody s_shifted) (defScope s_shifted) .none kV_shifted dc_shifted pm_shifted an_shifted cd_shifted ct_shifted), sl_shifted⟩)
    (c_shifted : PySem.W.codeIn K cd_shifted "shifted" = true) (k_shifted : PySem.W.keepIn K (.ref f_shifted) = true)
    {od_behind an_behind : Option Addr} {sl_behind : Array (Option Value)} {oc_behind kV_behind dc_behind pm_behind cd_behind ct_behind : Value} {f_behind : Addr}
    (a_behind : PySem.W.nsIn K mainGlobals "behind" = some (some (.ref f_behind)))
    (l_behind : K.lookup f_behind = some ⟨oc_behind, od_behind, .func (PySem.W.fnOf "behind" "behind" (defArgs s_behind) (defBody s_behind) (defScope s_behind) .none kV_behind dc_behind pm_behind an_behind cd_behind ct_behind), sl_behind⟩)
    (c_behind : PySem.W.codeIn K cd_behind "behind" = true) (k_behind : PySem.W.keepIn K (.ref f_behind) = true)
    {od_may_be_doubled an_may_be_doubled : Option Addr} {sl_may_be_doubled : Array (Option Value)} {oc_may_be_doubled kV_may_be_doubled dc_may_be_doubled pm_may_be_doubled cd_may_be_doubled ct_may_be_doubled : Value} {f_may_be_doubled : Addr}
    (a_may_be_doubled : PySem.W.nsIn K mainGlobals "may_be_doubled" = some (some (.ref f_may_be_doubled)))
    (l_may_be_doubled : K.lookup f_may_be_doubled = some ⟨oc_may_be_doubled, od_may_be_doubled, .func (PySem.W.fnOf "may_be_doubled" "may_be_doubled" (defArgs s_may_be_doubled) (defBody s_may_be_doubled) (defScope s_may_be_doubled) .none kV_may_be_doubled dc_may_be_doubled pm_may_be_doubled an_may_be_doubled cd_may_be_doubled ct_may_be_doubled), sl_may_be_doubled⟩)
    (c_may_be_doubled : PySem.W.codeIn K cd_may_be_doubled "may_be_doubled" = true) (k_may_be_doubled : PySem.W.keepIn K (.ref f_may_be_doubled) = true)
    {od_earlier an_earlier : Option Addr} {sl_earlier : Array (Option Value)} {oc_earlier kV_earlier dc_earlier pm_earlier cd_earlier ct_earlier : Value} {f_earlier : Addr}
    (a_earlier : PySem.W.nsIn K mainGlobals "earlier" = some (some (.ref f_earlier)))
    (l_earlier : K.lookup f_earlier = some ⟨oc_earlier, od_earlier, .func (PySem.W.fnOf "earlier" "earlier" (defArgs s_earlier) (defBody s_earlier) (defScope s_earlier) .none kV_earlier dc_earlier pm_earlier an_earlier cd_earlier ct_earlier), sl_earlier⟩)
    (c_earlier : PySem.W.codeIn K cd_earlier "earlier" = true) (k_earlier : PySem.W.keepIn K (.ref f_earlier) = true)
    {od_steps_from an_steps_from : Option Addr} {sl_steps_from : Array (Option Value)} {oc_steps_from kV_steps_from dc_steps_from pm_steps_from cd_steps_from ct_steps_from : Value} {f_steps_from : Addr}
    (a_steps_from : PySem.W.nsIn K mainGlobals "steps_from" = some (some (.ref f_steps_from)))
    (l_steps_from : K.lookup f_steps_from = some ⟨oc_steps_from, od_steps_from, .func (PySem.W.fnOf "steps_from" "steps_from" (defArgs s_steps_from) (defBody s_steps_from) (defScope s_steps_from) .none kV_steps_from dc_steps_from pm_steps_from an_steps_from cd_steps_from ct_steps_from), sl_steps_from⟩)
    (c_steps_from : PySem.W.codeIn K cd_steps_from "steps_from" = true) (k_steps_from : PySem.W.keepIn K (.ref f_steps_from) = true)
    {od_steps an_steps : Option Addr} {sl_steps : Array (Option Value)} {oc_steps kV_steps dc_steps pm_steps cd_steps ct_steps : Value} {f_steps : Addr}
    (a_steps : PySem.W.nsIn K mainGlobals "steps" = some (some (.ref f_steps)))
    (l_steps : K.lookup f_steps = some ⟨oc_steps, od_steps, .func (PySem.W.fnOf "steps" "steps" (defArgs s_steps) (defBody s_steps) (defScope s_steps) .none kV_steps dc_steps pm_steps an_steps cd_steps ct_steps), sl_steps⟩)
    (c_steps : PySem.W.codeIn K cd_steps "steps" = true) (k_steps : PySem.W.keepIn K (.ref f_steps) = true)
    {od_check_step an_check_step : Option Addr} {sl_check_step : Array (Option Value)} {oc_check_step kV_check_step dc_check_step pm_check_step cd_check_step ct_check_step : Value} {f_check_step : Addr}
    (a_check_step : PySem.W.nsIn K mainGlobals "check_step" = some (some (.ref f_check_step)))
    (l_check_step : K.lookup f_check_step = some ⟨oc_check_step, od_check_step, .func (PySem.W.fnOf "check_step" "check_step" (defArgs s_check_step) (defBody s_check_step) (defScope s_check_step) .none kV_check_step dc_check_step pm_check_step an_check_step cd_check_step ct_check_step), sl_check_step⟩)
    (c_check_step : PySem.W.codeIn K cd_check_step "check_step" = true) (k_check_step : PySem.W.keepIn K (.ref f_check_step) = true)
    {od_stepped an_stepped : Option Addr} {sl_stepped : Array (Option Value)} {oc_stepped kV_stepped dc_stepped pm_stepped cd_stepped ct_stepped : Value} {f_stepped : Addr}
    (a_stepped : PySem.W.nsIn K mainGlobals "stepped" = some (some (.ref f_stepped)))
    (l_stepped : K.lookup f_stepped = some ⟨oc_stepped, od_stepped, .func (PySem.W.fnOf "stepped" "stepped" (defArgs s_stepped) (defBody s_stepped) (defScope s_stepped) .none kV_stepped dc_stepped pm_stepped an_stepped cd_stepped ct_stepped), sl_stepped⟩)
    (c_stepped : PySem.W.codeIn K cd_stepped "stepped" = true) (k_stepped : PySem.W.keepIn K (.ref f_stepped) = true)
    {od_before an_before : Option Addr} {sl_before : Array (Option Value)} {oc_before kV_before dc_before pm_before cd_before ct_before : Value} {f_before : Addr}
    (a_before : PySem.W.nsIn K mainGlobals "before" = some (some (.ref f_before)))
    (l_before : K.lookup f_before = some ⟨oc_before, od_before, .func (PySem.W.fnOf "before" "before" (defArgs s_before) (defBody s_before) (defScope s_before) .none kV_before dc_before pm_before an_before cd_before ct_before), sl_before⟩)
    (c_before : PySem.W.codeIn K cd_before "before" = true) (k_before : PySem.W.keepIn K (.ref f_before) = true)
    {od_is_first an_is_first : Option Addr} {sl_is_first : Array (Option Value)} {oc_is_first kV_is_first dc_is_first pm_is_first cd_is_first ct_is_first : Value} {f_is_first : Addr}
    (a_is_first : PySem.W.nsIn K mainGlobals "is_first" = some (some (.ref f_is_first)))
    (l_is_first : K.lookup f_is_first = some ⟨oc_is_first, od_is_first, .func (PySem.W.fnOf "is_first" "is_first" (defArgs s_is_first) (defBody s_is_first) (defScope s_is_first) .none kV_is_first dc_is_first pm_is_first an_is_first cd_is_first ct_is_first), sl_is_first⟩)
    (c_is_first : PySem.W.codeIn K cd_is_first "is_first" = true) (k_is_first : PySem.W.keepIn K (.ref f_is_first) = true)
    {od_l_mix an_l_mix : Option Addr} {sl_l_mix : Array (Option Value)} {oc_l_mix kV_l_mix dc_l_mix pm_l_mix cd_l_mix ct_l_mix : Value} {f_l_mix : Addr}
    (a_l_mix : PySem.W.nsIn K mainGlobals "_law_mix" = some (some (.ref f_l_mix)))
    (l_l_mix : K.lookup f_l_mix = some ⟨oc_l_mix, od_l_mix, .func (PySem.W.fnOf "_law_mix" "_law_mix" (defArgs s_l_mix) (defBody s_l_mix) (defScope s_l_mix) .none kV_l_mix dc_l_mix pm_l_mix an_l_mix cd_l_mix ct_l_mix), sl_l_mix⟩)
    (c_l_mix : PySem.W.codeIn K cd_l_mix "_law_mix" = true) (k_l_mix : PySem.W.keepIn K (.ref f_l_mix) = true)
    {od_l_next an_l_next : Option Addr} {sl_l_next : Array (Option Value)} {oc_l_next kV_l_next dc_l_next pm_l_next cd_l_next ct_l_next : Value} {f_l_next : Addr}
    (a_l_next : PySem.W.nsIn K mainGlobals "_law_next" = some (some (.ref f_l_next)))
    (l_l_next : K.lookup f_l_next = some ⟨oc_l_next, od_l_next, .func (PySem.W.fnOf "_law_next" "_law_next" (defArgs s_l_next) (defBody s_l_next) (defScope s_l_next) .none kV_l_next dc_l_next pm_l_next an_l_next cd_l_next ct_l_next), sl_l_next⟩)
    (c_l_next : PySem.W.codeIn K cd_l_next "_law_next" = true) (k_l_next : PySem.W.keepIn K (.ref f_l_next) = true)
    {od_l_heaps an_l_heaps : Option Addr} {sl_l_heaps : Array (Option Value)} {oc_l_heaps kV_l_heaps dc_l_heaps pm_l_heaps cd_l_heaps ct_l_heaps : Value} {f_l_heaps : Addr}
    (a_l_heaps : PySem.W.nsIn K mainGlobals "_law_heaps" = some (some (.ref f_l_heaps)))
    (l_l_heaps : K.lookup f_l_heaps = some ⟨oc_l_heaps, od_l_heaps, .func (PySem.W.fnOf "_law_heaps" "_law_heaps" (defArgs s_l_heaps) (defBody s_l_heaps) (defScope s_l_heaps) .none kV_l_heaps dc_l_heaps pm_l_heaps an_l_heaps cd_l_heaps ct_l_heaps), sl_l_heaps⟩)
    (c_l_heaps : PySem.W.codeIn K cd_l_heaps "_law_heaps" = true) (k_l_heaps : PySem.W.keepIn K (.ref f_l_heaps) = true)
    {od_l_can an_l_can : Option Addr} {sl_l_can : Array (Option Value)} {oc_l_can kV_l_can dc_l_can pm_l_can cd_l_can ct_l_can : Value} {f_l_can : Addr}
    (a_l_can : PySem.W.nsIn K mainGlobals "_law_can" = some (some (.ref f_l_can)))
    (l_l_can : K.lookup f_l_can = some ⟨oc_l_can, od_l_can, .func (PySem.W.fnOf "_law_can" "_law_can" (defArgs s_l_can) (defBody s_l_can) (defScope s_l_can) .none kV_l_can dc_l_can pm_l_can an_l_can cd_l_can ct_l_can), sl_l_can⟩)
    (c_l_can : PySem.W.codeIn K cd_l_can "_law_can" = true) (k_l_can : PySem.W.keepIn K (.ref f_l_can) = true)
    {od_l_behind an_l_behind : Option Addr} {sl_l_behind : Array (Option Value)} {oc_l_behind kV_l_behind dc_l_behind pm_l_behind cd_l_behind ct_l_behind : Value} {f_l_behind : Addr}
    (a_l_behind : PySem.W.nsIn K mainGlobals "_law_behind" = some (some (.ref f_l_behind)))
    (l_l_behind : K.lookup f_l_behind = some ⟨oc_l_behind, od_l_behind, .func (PySem.W.fnOf "_law_behind" "_law_behind" (defArgs s_l_behind) (defBody s_l_behind) (defScope s_l_behind) .none kV_l_behind dc_l_behind pm_l_behind an_l_behind cd_l_behind ct_l_behind), sl_l_behind⟩)
    (c_l_behind : PySem.W.codeIn K cd_l_behind "_law_behind" = true) (k_l_behind : PySem.W.keepIn K (.ref f_l_behind) = true)
    {od_l_pairs an_l_pairs : Option Addr} {sl_l_pairs : Array (Option Value)} {oc_l_pairs kV_l_pairs dc_l_pairs pm_l_pairs cd_l_pairs ct_l_pairs : Value} {f_l_pairs : Addr}
    (a_l_pairs : PySem.W.nsIn K mainGlobals "_law_pairs" = some (some (.ref f_l_pairs)))
    (l_l_pairs : K.lookup f_l_pairs = some ⟨oc_l_pairs, od_l_pairs, .func (PySem.W.fnOf "_law_pairs" "_law_pairs" (defArgs s_l_pairs) (defBody s_l_pairs) (defScope s_l_pairs) .none kV_l_pairs dc_l_pairs pm_l_pairs an_l_pairs cd_l_pairs ct_l_pairs), sl_l_pairs⟩)
    (c_l_pairs : PySem.W.codeIn K cd_l_pairs "_law_pairs" = true) (k_l_pairs : PySem.W.keepIn K (.ref f_l_pairs) = true)
    {od_l_told an_l_told : Option Addr} {sl_l_told : Array (Option Value)} {oc_l_told kV_l_told dc_l_told pm_l_told cd_l_told ct_l_told : Value} {f_l_told : Addr}
    (a_l_told : PySem.W.nsIn K mainGlobals "_law_told" = some (some (.ref f_l_told)))
    (l_l_told : K.lookup f_l_told = some ⟨oc_l_told, od_l_told, .func (PySem.W.fnOf "_law_told" "_law_told" (defArgs s_l_told) (defBody s_l_told) (defScope s_l_told) .none kV_l_told dc_l_told pm_l_told an_l_told cd_l_told ct_l_told), sl_l_told⟩)
    (c_l_told : PySem.W.codeIn K cd_l_told "_law_told" = true) (k_l_told : PySem.W.keepIn K (.ref f_l_told) = true)
    {od_law an_law : Option Addr} {sl_law : Array (Option Value)} {oc_law kV_law dc_law pm_law cd_law ct_law : Value} {f_law : Addr}
    (a_law : PySem.W.nsIn K mainGlobals "law" = some (some (.ref f_law)))
    (l_law : K.lookup f_law = some ⟨oc_law, od_law, .func (PySem.W.fnOf "law" "law" (defArgs s_law) (defBody s_law) (defScope s_law) .none kV_law dc_law pm_law an_law cd_law ct_law), sl_law⟩)
    (c_law : PySem.W.codeIn K cd_law "law" = true) (k_law : PySem.W.keepIn K (.ref f_law) = true)
    (z_int : PySem.W.nsIn K mainGlobals "int" = some none)
    (z_bool : PySem.W.nsIn K mainGlobals "bool" = some none)
    (z_list : PySem.W.nsIn K mainGlobals "list" = some none)
    (z_len : PySem.W.nsIn K mainGlobals "len" = some none)
    (z_tuple : PySem.W.nsIn K mainGlobals "tuple" = some none)
    (z_isinstance : PySem.W.nsIn K mainGlobals "isinstance" = some none)
    (z_all : PySem.W.nsIn K mainGlobals "all" = some none)
    (z_sum : PySem.W.nsIn K mainGlobals "sum" = some none)
    (z_enumerate : PySem.W.nsIn K mainGlobals "enumerate" = some none)
    (z_range : PySem.W.nsIn K mainGlobals "range" = some none)
    (z_max : PySem.W.nsIn K mainGlobals "max" = some none)
    (z_sorted : PySem.W.nsIn K mainGlobals "sorted" = some none)
    (z_set : PySem.W.nsIn K mainGlobals "set" = some none)
    (z_any : PySem.W.nsIn K mainGlobals "any" = some none)
    (z_super : PySem.W.nsIn K mainGlobals "super" = some none)
    {tk_FEWEST_HEAPS : Tok} (w_FEWEST_HEAPS : PySem.W.nsIn K mainGlobals "FEWEST_HEAPS" = some (some (.int 2 tk_FEWEST_HEAPS)))
    {tk_MOST_HEAPS : Tok} (w_MOST_HEAPS : PySem.W.nsIn K mainGlobals "MOST_HEAPS" = some (some (.int 6 tk_MOST_HEAPS)))
    {tk_GREATEST : Tok} (w_GREATEST : PySem.W.nsIn K mainGlobals "GREATEST" = some (some (.int 1000000000000000000000000000000 tk_GREATEST)))
    : ∃ fd : FuncData, (∀ (s : Shared) (v : Value), BindsTo s fd ⟨[v], []⟩ [("_law_script", v)]) ∧ ∀ base : Heap, K.In base → base.Ns mainGlobals mg → FnOk l.prog w K mg base CX0 6 fa fd ["_law_script"] (spLaw K) := by
  have e := hfa.symm.trans (PySem.W.mg_of X G a_law)
  cases e
  have F_is_integer := fun_mk (st := s_is_integer) l_is_integer c_is_integer k_is_integer
  have b_is_integer := F_is_integer.binds (ps := ["value", "least", "greatest"]) fun _ _ _ _ _ _ us hl => match us, hl with | [_, _, _], _ => rfl
  have F_is_heaps := fun_mk (st := s_is_heaps) l_is_heaps c_is_heaps k_is_heaps
  have b_is_heaps := F_is_heaps.binds (ps := ["value"]) fun _ _ _ _ _ _ us hl => match us, hl with | [_], _ => rfl
  have F_is_pair_of := fun_mk (st := s_is_pair_of) l_is_pair_of c_is_pair_of k_is_pair_of
  have b_is_pair_of := F_is_pair_of.binds (ps := ["many", "value"]) fun _ _ _ _ _ _ us hl => match us, hl with | [_, _], _ => rfl
  have F_check_heaps := fun_mk (st := s_check_heaps) l_check_heaps c_check_heaps k_check_heaps
  have b_check_heaps := F_check_heaps.binds (ps := ["heaps"]) fun _ _ _ _ _ _ us hl => match us, hl with | [_], _ => rfl
  have F_pairs_of := fun_mk (st := s_pairs_of) l_pairs_of c_pairs_of k_pairs_of
  have b_pairs_of := F_pairs_of.binds (ps := ["many"]) fun _ _ _ _ _ _ us hl => match us, hl with | [_], _ => rfl
  have F_can_be_made := fun_mk (st := s_can_be_made) l_can_be_made c_can_be_made k_can_be_made
  have b_can_be_made := F_can_be_made.binds (ps := ["heaps", "step"]) fun _ _ _ _ _ _ us hl => match us, hl with | [_, _], _ => rfl
  have F_shifted := fun_mk (st := s_shifted) l_shifted c_shifted k_shifted
  have b_shifted := F_shifted.binds (ps := ["heaps", "step", "many"]) fun _ _ _ _ _ _ us hl => match us, hl with | [_, _, _], _ => rfl
  have F_behind := fun_mk (st := s_behind) l_behind c_behind k_behind
  have b_behind := F_behind.binds (ps := ["heaps", "step"]) fun _ _ _ _ _ _ us hl => match us, hl with | [_, _], _ => rfl
  have F_may_be_doubled := fun_mk (st := s_may_be_doubled) l_may_be_doubled c_may_be_doubled k_may_be_doubled
  have b_may_be_doubled := F_may_be_doubled.binds (ps := ["heap"]) fun _ _ _ _ _ _ us hl => match us, hl with | [_], _ => rfl
  have F_earlier := fun_mk (st := s_earlier) l_earlier c_earlier k_earlier
  have b_earlier := F_earlier.binds (ps := ["heaps", "step"]) fun _ _ _ _ _ _ us hl => match us, hl with | [_, _], _ => rfl
  have F_steps_from := fun_mk (st := s_steps_from) l_steps_from c_steps_from k_steps_from
  have b_steps_from := F_steps_from.binds (ps := ["heaps"]) fun _ _ _ _ _ _ us hl => match us, hl with | [_], _ => rfl
  have F_steps := fun_mk (st := s_steps) l_steps c_steps k_steps
  have b_steps := F_steps.binds (ps := ["heaps"]) fun _ _ _ _ _ _ us hl => match us, hl with | [_], _ => rfl
  have F_check_step := fun_mk (st := s_check_step) l_check_step c_check_step k_check_step
  have b_check_step := F_check_step.binds (ps := ["heaps", "step"]) fun _ _ _ _ _ _ us hl => match us, hl with | [_, _], _ => rfl
  have F_stepped := fun_mk (st := s_stepped) l_stepped c_stepped k_stepped
  have b_stepped := F_stepped.binds (ps := ["heaps", "step"]) fun _ _ _ _ _ _ us hl => match us, hl with | [_, _], _ => rfl
  have F_before := fun_mk (st := s_before) l_before c_before k_before
  have b_before := F_before.binds (ps := ["heaps"]) fun _ _ _ _ _ _ us hl => match us, hl with | [_], _ => rfl
  have F_is_first := fun_mk (st := s_is_first) l_is_first c_is_first k_is_first
  have b_is_first := F_is_first.binds (ps := ["heaps"]) fun _ _ _ _ _ _ us hl => match us, hl with | [_], _ => rfl
  have F_l_mix := fun_mk (st := s_l_mix) l_l_mix c_l_mix k_l_mix
  have b_l_mix := F_l_mix.binds (ps := ["_law_script", "_law_seed"]) fun _ _ _ _ _ _ us hl => match us, hl with | [_, _], _ => rfl
  have F_l_next := fun_mk (st := s_l_next) l_l_next c_l_next k_l_next
  have b_l_next := F_l_next.binds (ps := ["_law_h", "_law_bound"]) fun _ _ _ _ _ _ us hl => match us, hl with | [_, _], _ => rfl
  have F_l_heaps := fun_mk (st := s_l_heaps) l_l_heaps c_l_heaps k_l_heaps
  have b_l_heaps := F_l_heaps.binds (ps := ["_law_h", "_law_least", "_law_most"]) fun _ _ _ _ _ _ us hl => match us, hl with | [_, _, _], _ => rfl
  have F_l_can := fun_mk (st := s_l_can) l_l_can c_l_can k_l_can
  have b_l_can := F_l_can.binds (ps := ["_law_heaps_here", "_law_step"]) fun _ _ _ _ _ _ us hl => match us, hl with | [_, _], _ => rfl
  have F_l_behind := fun_mk (st := s_l_behind) l_l_behind c_l_behind k_l_behind
  have b_l_behind := F_l_behind.binds (ps := ["_law_heaps_here", "_law_step"]) fun _ _ _ _ _ _ us hl => match us, hl with | [_, _], _ => rfl
  have F_l_pairs := fun_mk (st := s_l_pairs) l_l_pairs c_l_pairs k_l_pairs
  have b_l_pairs := F_l_pairs.binds (ps := ["_law_size"]) fun _ _ _ _ _ _ us hl => match us, hl with | [_], _ => rfl
  have F_l_told := fun_mk (st := s_l_told) l_l_told c_l_told k_l_told
  have b_l_told := F_l_told.binds (ps := ["_law_heaps_here", "_law_step"]) fun _ _ _ _ _ _ us hl => match us, hl with | [_, _], _ => rfl
  have F_law := fun_mk (st := s_law) l_law c_law k_law
  have b_law := F_law.binds (ps := ["_law_script"]) fun _ _ _ _ _ _ us hl => match us, hl with | [_], _ => rfl
  have T : Tp K mg := ⟨PySem.W.mg_none_of X G z_int, PySem.W.mg_none_of X G z_bool, PySem.W.mg_none_of X G z_list, PySem.W.mg_none_of X G z_len, PySem.W.mg_none_of X G z_tuple, PySem.W.mg_none_of X G z_isinstance, PySem.W.mg_none_of X G z_all, PySem.W.mg_none_of X G z_sum, PySem.W.mg_none_of X G z_enumerate, PySem.W.mg_none_of X G z_range, ⟨_, PySem.W.mg_of X G w_FEWEST_HEAPS⟩, ⟨_, PySem.W.mg_of X G w_MOST_HEAPS⟩, ⟨_, PySem.W.mg_of X G w_GREATEST⟩⟩
  have U : Tx K mg := ⟨PySem.W.mg_none_of X G z_int, PySem.W.mg_none_of X G z_list, PySem.W.mg_none_of X G z_max, PySem.W.mg_none_of X G z_len, PySem.W.mg_none_of X G z_tuple, PySem.W.mg_none_of X G z_range⟩
  have V4 : Tq K mg := ⟨PySem.W.mg_none_of X G z_int, PySem.W.mg_none_of X G z_list, PySem.W.mg_none_of X G z_len, PySem.W.mg_none_of X G z_tuple, PySem.W.mg_none_of X G z_isinstance, PySem.W.mg_none_of X G z_range, PySem.W.mg_none_of X G z_sorted, PySem.W.mg_none_of X G z_set, PySem.W.mg_none_of X G z_any, PySem.W.mg_none_of X G z_max⟩
  have B : NilX l.prog K mg "BadStep" A_BadStep := ⟨PySem.W.mg_of X G x_BadStep, kC, eC, tC, ⟨HE, f_HI, sup_mk tI lI cI lcda hvs hfile lcc hD z_super thr topN, ⟨⟨nm, q, N, bs, _, sn, sub, ab, col, dd, m0, m1, m2, m3, m5, xL, rfl⟩, iHI, supI, mroI, veI, xinI⟩⟩⟩
  have te := exm_self eC iC tC sC
  refine ⟨PySem.W.fnOf "law" "law" (defArgs s_law) (defBody s_law) (defScope s_law) .none kV_law dc_law pm_law an_law cd_law ct_law, fun s v => .of_eq rfl, fun base KB GB => ?_⟩
  have C_is_integer : Cal l.prog w K mg base CX0 1 "is_integer" ["value", "least", "greatest"] (spIsInt) := ⟨_, _, PySem.W.mg_of X G a_is_integer, k_is_integer, b_is_integer, ok_is_integer F_is_integer T⟩
  have C_is_heaps : Cal l.prog w K mg base CX0 2 "is_heaps" ["value"] (spIsHeaps K) := ⟨_, _, PySem.W.mg_of X G a_is_heaps, k_is_heaps, b_is_heaps, ok_is_heaps F_is_heaps T C_is_integer⟩
  have C_is_pair_of : Cal l.prog w K mg base CX0 2 "is_pair_of" ["many", "value"] (spIsPair K) := ⟨_, _, PySem.W.mg_of X G a_is_pair_of, k_is_pair_of, b_is_pair_of, ok_is_pair_of F_is_pair_of T C_is_integer⟩
  have C_check_heaps : Cal l.prog w K mg base CX0 3 "check_heaps" ["heaps"] (spChkHeaps K) := ⟨_, _, PySem.W.mg_of X G a_check_heaps, k_check_heaps, b_check_heaps, ok_check_heaps F_check_heaps T C_is_heaps⟩
  have C_pairs_of : Cal l.prog w K mg base CX0 1 "pairs_of" ["many"] (spPairs K) := ⟨_, _, PySem.W.mg_of X G a_pairs_of, k_pairs_of, b_pairs_of, ok_pairs_of F_pairs_of V4⟩
  have C_can_be_made : Cal l.prog w K mg base CX0 1 "can_be_made" ["heaps", "step"] (spCan K) := ⟨_, _, PySem.W.mg_of X G a_can_be_made, k_can_be_made, b_can_be_made, ok_can_be_made F_can_be_made⟩
  have C_shifted : Cal l.prog w K mg base CX0 1 "shifted" ["heaps", "step", "many"] (spShifted K) := ⟨_, _, PySem.W.mg_of X G a_shifted, k_shifted, b_shifted, ok_shifted F_shifted T⟩
  have C_behind : Cal l.prog w K mg base CX0 2 "behind" ["heaps", "step"] (spBehind K) := ⟨_, _, PySem.W.mg_of X G a_behind, k_behind, b_behind, ok_behind F_behind C_shifted⟩
  have C_may_be_doubled : Cal l.prog w K mg base CX0 1 "may_be_doubled" ["heap"] (spDbl) := ⟨_, _, PySem.W.mg_of X G a_may_be_doubled, k_may_be_doubled, b_may_be_doubled, ok_may_be_doubled F_may_be_doubled⟩
  have C_earlier : Cal l.prog w K mg base CX0 2 "earlier" ["heaps", "step"] (spErl K) := ⟨_, _, PySem.W.mg_of X G a_earlier, k_earlier, b_earlier, ok_earlier F_earlier C_shifted⟩
  have C_steps_from : Cal l.prog w K mg base CX0 2 "steps_from" ["heaps"] (spSteps K) := ⟨_, _, PySem.W.mg_of X G a_steps_from, k_steps_from, b_steps_from, ok_steps_from F_steps_from V4 C_pairs_of C_can_be_made⟩
  have C_steps : Cal l.prog w K mg base CX0 4 "steps" ["heaps"] (spSteps K) := ⟨_, _, PySem.W.mg_of X G a_steps, k_steps, b_steps, ok_steps F_steps C_check_heaps C_steps_from⟩
  have C_check_step : Cal l.prog w K mg base (L2.CX l.prog w) 3 "check_step" ["heaps", "step"] (spChkStep K A_BadStep) := ⟨_, _, PySem.W.mg_of X G a_check_step, k_check_step, b_check_step, ok_check_step F_check_step V4 B C_is_pair_of C_can_be_made⟩
  have C_stepped : Cal l.prog w K mg base (L2.CX l.prog w) 4 "stepped" ["heaps", "step"] (spStepped K A_BadStep) := ⟨_, _, PySem.W.mg_of X G a_stepped, k_stepped, b_stepped, ok_stepped F_stepped V4 C_check_heaps C_check_step C_behind⟩
  have C_before : Cal l.prog w K mg base CX0 4 "before" ["heaps"] (spBefore K) := ⟨_, _, PySem.W.mg_of X G a_before, k_before, b_before, ok_before F_before V4 C_check_heaps C_pairs_of C_may_be_doubled C_earlier⟩
  have C_is_first : Cal l.prog w K mg base CX0 4 "is_first" ["heaps"] (spFirst K) := ⟨_, _, PySem.W.mg_of X G a_is_first, k_is_first, b_is_first, ok_is_first F_is_first V4 C_check_heaps C_may_be_doubled⟩
  have C_l_mix : Cal l.prog w K mg base CX0 1 "_law_mix" ["_law_script", "_law_seed"] (spMix K) := ⟨_, _, PySem.W.mg_of X G a_l_mix, k_l_mix, b_l_mix, ok_mix F_l_mix U⟩
  have C_l_next : Cal l.prog w K mg base CX0 1 "_law_next" ["_law_h", "_law_bound"] (spNext) := ⟨_, _, PySem.W.mg_of X G a_l_next, k_l_next, b_l_next, ok_next F_l_next U⟩
  have C_l_heaps : Cal l.prog w K mg base CX0 2 "_law_heaps" ["_law_h", "_law_least", "_law_most"] (spHeaps) := ⟨_, _, PySem.W.mg_of X G a_l_heaps, k_l_heaps, b_l_heaps, ok_heaps F_l_heaps U C_l_next⟩
  have C_l_can : Cal l.prog w K mg base CX0 1 "_law_can" ["_law_heaps_here", "_law_step"] (spCan K) := ⟨_, _, PySem.W.mg_of X G a_l_can, k_l_can, b_l_can, ok_l_can F_l_can⟩
  have C_l_behind : Cal l.prog w K mg base CX0 1 "_law_behind" ["_law_heaps_here", "_law_step"] (spBehind K) := ⟨_, _, PySem.W.mg_of X G a_l_behind, k_l_behind, b_l_behind, ok_l_behind F_l_behind U⟩
  have C_l_pairs : Cal l.prog w K mg base CX0 1 "_law_pairs" ["_law_size"] (spPairs K) := ⟨_, _, PySem.W.mg_of X G a_l_pairs, k_l_pairs, b_l_pairs, ok_l_pairs F_l_pairs U⟩
  have C_l_told : Cal l.prog w K mg base CX0 5 "_law_told" ["_law_heaps_here", "_law_step"] (spTold1 K) := ⟨_, _, PySem.W.mg_of X G a_l_told, k_l_told, b_l_told, ok_l_told F_l_told B te C_stepped⟩
  exact ok_law F_law V4 C_l_mix C_l_heaps C_l_can C_l_behind C_l_pairs C_l_told C_steps C_before C_is_first
theorem walk {l : PySem.W.OpenLaw} {q : Program} {loose : List Str} {XP : (Str → Option Value) → Heap → Prop} {YP : World → Heap → Prop} {d : DefRec} {K : Params → PySem.W.Frag} (hn : l.most = some 63) (hdf : d.params.defaults = [])
    (hY : ∀ (w : World) (h : Heap), YP w h → (K w.params).In h)
    (F : ∀ (w : World) (mg : Str → Option Value) (fa : Addr) (h : Heap), (K w.params).In h → h.Ns mainGlobals mg → mg d.name = some (.ref fa) →
      ∃ fd : FuncData, (∀ (s : Shared) (u : Value), BindsTo s fd ⟨[u], []⟩ [("_law_script", u)]) ∧ ∀ base : Heap, (K w.params).In base → base.Ns mainGlobals mg → FnOk l.prog w (K w.params) mg base CX0 6 fa fd ["_law_script"] (spLaw (K w.params))) :
    PySem.W.WalkO q loose XP YP l.row.toRowW d [] (fun f vs => PySem.call f vs) :=
  L2.walk_of (n := 63) (k := 6) (x := "_law_script") (CX := fun _ => CX0) (sp := fun w => spLaw (K w.params)) hn (by decide) hdf ⟨rfl, by decide, by decide⟩ hY F (fun _ _ a ns hl _ hS => ⟨a, ns, rfl, hS, hl, fun _ => rfl⟩) fun _ _ _ _ _ z => z
end Hd
open PySem PySem.W PyProof.Rows
set_option maxRecDepth 100000 in
set_option maxHeartbeats 0 in
theorem PySem.Challenge.cw_heapsdouble_k01_whole_steps_holds : PySem.Challenge.rw_heapsdouble_k01_whole_steps.Holds := by
  w_on; o_law; k_head; (case hw => w_witness2)
  k_fill
  refine Hd.walk (l := PySem.Challenge.rw_heapsdouble_k01_whole_steps) rfl rfl (fun w h Y => PySem.W.kIn_of Y) ?F
  case F =>
    intro w mg fa h KX G hmg
    refine' Hd.all_mk KX G hmg ?x_BadStep ?xL ?iHI ?tI ?lI ?cI ?lcda ?hvs ?hfile ?lcc ?hD ?supI ?mroI ?veI ?xinI ?thr ?topN ?kC ?eC ?tC ?iC ?sC ?a_is_integer ?l_is_integer ?c_is_integer ?k_is_integer ?a_is_heaps ?l_is_heaps ?c_is_heaps ?k_is_heaps ?a_is_pair_of ?l_is_pair_of ?c_is_pair_of ?k_is_pair_of ?a_check_heaps ?l_check_heaps ?c_check_heaps ?k_check_heaps ?a_pairs_of ?l_pairs_of ?c_pairs_of ?k_pairs_of ?a_can_be_made ?l_can_be_made ?c_can_be_made ?k_can_be_made ?a_shifted ?l_shifted ?c_shifted ?k_shifted ?a_behind ?l_behind ?c_behind ?k_behind ?a_may_be_doubled ?l_may_be_doubled ?c_may_be_doubled ?k_may_be_doubled ?a_earlier ?l_earlier ?c_earlier ?k_earlier ?a_steps_from ?l_steps_from ?c_steps_from ?k_steps_from ?a_steps ?l_steps ?c_steps ?k_steps ?a_check_step ?l_check_step ?c_check_step ?k_check_step ?a_stepped ?l_stepped ?c_stepped ?k_stepped ?a_before ?l_before ?c_before ?k_before ?a_is_first ?l_is_first ?c_is_first ?k_is_first ?a_l_mix ?l_l_mix ?c_l_mix ?k_l_mix ?a_l_next ?l_l_next ?c_l_next ?k_l_next ?a_l_heaps ?l_l_heaps ?c_l_heaps ?k_l_heaps ?a_l_can ?l_l_can ?c_l_can ?k_l_can ?a_l_behind ?l_l_behind ?c_l_behind ?k_l_behind ?a_l_pairs ?l_l_pairs ?c_l_pairs ?k_l_pairs ?a_l_told ?l_l_told ?c_l_told ?k_l_told ?a_law ?l_law ?c_law ?k_law ?z_int ?z_bool ?z_list ?z_len ?z_tuple ?z_isinstance ?z_all ?z_sum ?z_enumerate ?z_range ?z_max ?z_sorted ?z_set ?z_any ?z_super ?w_FEWEST_HEAPS ?w_MOST_HEAPS ?w_GREATEST
    (case x_BadStep => k_is)
    (case xL => k_is)
    (case iHI => k_is)
    (case tI => k_is)
    (case lI => k_is)
    (case cI => k_is)
    (case lcda => k_is)
    (case hvs => rfl)
    (case hfile => first | rfl | decide +kernel)
    (case lcc => k_is)
    (case hD => k_is)
    (case supI => ks_is)
    (case mroI => k_is)
    (case veI => k_is)
    (case xinI => kx_is)
    (case thr => k_is)
    (case topN => first | rfl | decide +kernel)
    (case kC => k_is)
    (case eC => k_is)
    (case tC => k_is)
    (case iC => k_is)
    (case sC => first | rfl | k_is)
    (case a_is_integer => k_is)
    (case l_is_integer => k_is)
    (case c_is_integer => k_is)
    (case k_is_integer => k_is)
    (case a_is_heaps => k_is)
    (case l_is_heaps => k_is)
    (case c_is_heaps => k_is)
    (case k_is_heaps => k_is)
    (case a_is_pair_of => k_is)
    (case l_is_pair_of => k_is)
    (case c_is_pair_of => k_is)
    (case k_is_pair_of => k_is)
    (case a_check_heaps => k_is)
    (case l_check_heaps => k_is)
    (case c_check_heaps => k_is)
    (case k_check_heaps => k_is)
    (case a_pairs_of => k_is)
    (case l_pairs_of => k_is)
    (case c_pairs_of => k_is)
    (case k_pairs_of => k_is)
    (case a_can_be_made => k_is)
    (case l_can_be_made => k_is)
    (case c_can_be_made => k_is)
    (case k_can_be_made => k_is)
    (case a_shifted => k_is)
    (case l_shifted => k_is)
    (case c_shifted => k_is)
    (case k_shifted => k_is)
    (case a_behind => k_is)
    (case l_behind => k_is)
    (case c_behind => k_is)
    (case k_behind => k_is)
    (case a_may_be_doubled => k_is)
    (case l_may_be_doubled => k_is)
    (case c_may_be_doubled => k_is)
    (case k_may_be_doubled => k_is)
    (case a_earlier => k_is)
    (case l_earlier => k_is)
    (case c_earlier => k_is)
    (case k_earlier => k_is)
    (case a_steps_from => k_is)
    (case l_steps_from => k_is)
    (case c_steps_from => k_is)
    (case k_steps_from => k_is)
    (case a_steps => k_is)
    (case l_steps => k_is)
    (case c_steps => k_is)
    (case k_steps => k_is)
    (case a_check_step => k_is)
    (case l_check_step => k_is)
    (case c_check_step => k_is)
    (case k_check_step => k_is)
    (case a_stepped => k_is)
    (case l_stepped => k_is)
    (case c_stepped => k_is)
    (case k_stepped => k_is)
    (case a_before => k_is)
    (case l_before => k_is)
    (case c_before => k_is)
    (case k_before => k_is)
    (case a_is_first => k_is)
    (case l_is_first => k_is)
    (case c_is_first => k_is)
    (case k_is_first => k_is)
    (case a_l_mix => k_is)
    (case l_l_mix => k_is)
    (case c_l_mix => k_is)
    (case k_l_mix => k_is)
    (case a_l_next => k_is)
    (case l_l_next => k_is)
    (case c_l_next => k_is)
    (case k_l_next => k_is)
    (case a_l_heaps => k_is)
    (case l_l_heaps => k_is)
    (case c_l_heaps => k_is)
    (case k_l_heaps => k_is)
    (case a_l_can => k_is)
    (case l_l_can => k_is)
    (case c_l_can => k_is)
    (case k_l_can => k_is)
    (case a_l_behind => k_is)
    (case l_l_behind => k_is)
    (case c_l_behind => k_is)
    (case k_l_behind => k_is)
    (case a_l_pairs => k_is)
    (case l_l_pairs => k_is)
    (case c_l_pairs => k_is)
    (case k_l_pairs => k_is)
    (case a_l_told => k_is)
    (case l_l_told => k_is)
    (case c_l_told => k_is)
    (case k_l_told => k_is)
    (case a_law => k_is)
    (case l_law => k_is)
    (case c_law => k_is)
    (case k_law => k_is)
    (case z_int => k_is)
    (case z_bool => k_is)
    (case z_list => k_is)
    (case z_len => k_is)
    (case z_tuple => k_is)
    (case z_isinstance => k_is)
    (case z_all => k_is)
    (case z_sum => k_is)
    (case z_enumerate => k_is)
    (case z_range => k_is)
    (case z_max => k_is)
    (case z_sorted => k_is)
    (case z_set => k_is)
    (case z_any => k_is)
    (case z_super => k_is)
    (case w_FEWEST_HEAPS => k_is)
    (case w_MOST_HEAPS => k_is)
    (case w_GREATEST => k_is)
