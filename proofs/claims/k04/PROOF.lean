import PyProof.Rows.All
import Wide.All
import OpenK.AllK
import Wide.FinOn
import HandS.ForMost
import HandS.Exc
import HandS.TryOnly
import HandS.ExcOwn
import HandS.WordsExc
import HandS.ExcInit
import HandS.ExcField
import HandS.IsInst
import HandS.Deep
import HandS.Walk
import HandS.Wide
import HandS.Style
import KE.KTupSum
import KE.DataMinMax
import KE.GoesEnum
import HandS.TupSets
import PyProof.ZipIter
import PyProof.CallType
import PyProof.Walk
import PyProof.WalkLemmas
import PyProof.Rows.SortShell
import HandS.SortKw
import KE.DataMinKey
import PyProof.WalkInts
import HandS.Gcd
import HandS.SortRule
import HandS.NoneIn
import PySem.Challenge.RW_heapsdouble_k04_whole_plans_that_empty
set_option Elab.async false
set_option linter.all false
set_option maxRecDepth 100000
set_option maxHeartbeats 2000000
/-! Rules of our own: xs[i] read for op=, sum of a tuple, enumerate of a tuple. -/
namespace Hd
open PySem PySem.Spec PyProof.Rows L2

theorem Same.tup {K : PySem.W.Frag} {H H' : Hp} {a : Addr} {xs : List V} (e : Same H H') (h : SqT K H a xs) : SqT K H' a xs := by
  rcases h with (h | ⟨o, h⟩) | h
  · exact .inl (.inl (e _ _ h))
  · exact .inl (.inr ⟨o, e _ _ h⟩)
  · exact .inr h
theorem Same.new {H : Hp} {p : Addr} {o : HO} (h : H p = none) : Same H (upd H p o) := fun a u e => by
  rw [upd_ne (ne_of_none e h)]
  exact e
theorem same_upd {H H' : Hp} {p : Addr} {o : HO} (e : Same H H') (h : H p = none) : Same H (upd H' p o) := fun a u ha => by
  rw [upd_ne (ne_of_none ha h)]
  exact e a u ha

/-- a def of one's own by its name: what a caller needs -/
structure Cal (P : Program) (w : World) (K : PySem.W.Frag) (mg : Str → Option Value) (base : Heap) (CX : CXT) (k : Nat) (x : Str) (ps : List Str) (sp : Sp) : Prop where
  ex : ∃ (f : Addr) (fd : FuncData), mg x = some (.ref f) ∧ PySem.W.keepIn K (.ref f) = true ∧ Binds K fd ps [] ∧ FnOk P w K mg base CX k f fd ps sp
def tCal (sp : Sp) (E : XK) (t : TA) : TE := fun σ H Q => t σ H fun vs H1 => sp vs H1 Q E
section
variable {X : Cx}
theorem pe_cal {CX : CXT} {j k : Nat} {x : Str} {ps : List Str} {sp : Sp} {E : XK} {e : Expr} {es : List Expr} {t : TA} {p pos : Pos} (C : Cal X.prog X.w X.K X.mg X.base CX j x ps sp) (hr : Room k X.A) (hg : Gl X x) (hx : Passes CX X E)
    (ha : PA X (e :: es) t) (hk : j ≤ k := by decide) (hdb : (x == ("__debug__" : Str)) = false := by decide) (he : starEach (e :: es) X.env = (false, eval e X.env) :: starEach es X.env := by rfl) (hpl : (backTo pos (starEach es X.env)).any (·.1) = false := by rfl) :
    PE X (.Call (.Name x p) (e :: es) [] pos) (tCal sp E t) := by
  obtain ⟨f, fd, hm, kp, hb, F⟩ := C.ex
  refine ⟨fun pins s σ H Q I h => (pe_call (dvs := []) F (hr.mono hk) hg hm kp hb .nil hx ha hdb he hpl).run pins s σ H Q I ?_⟩
  have e1 : (tCall sp [] E t) = tCal sp E t := by
    funext σ H Q
    unfold tCall tCal
    congr 1
    funext vs H1
    rw [List.append_nil]
  rw [e1]
  exact h
end

/-- a block cut behind its first statement: R is what every way through it brings -/
def tCutM (t u : TS) : TS := fun D σ H => ∃ R : L2.St → Hp → Prop, t { D with nx := R } σ H ∧ ∀ σ' H', R σ' H' → u D σ' H'
theorem pss_cutM {X : Cx} {st : Stmt} {rest : List Stmt} {t u : TS} (a : PS X st t) (b : PSs X rest u) : PSs X (st :: rest) (tCutM t u) := by
  refine ⟨fun pins s σ H D I hh => ?_⟩
  obtain ⟨R, hR, go⟩ := hh
  refine wpAny_execs_cons (thn (a.run pins s σ H { D with nx := R } I hR) fun f s1 q => ?_)
  cases f with
  | next =>
    obtain ⟨σ1, H1, I1, q1⟩ := q
    exact b.run pins s1 σ1 H1 D I1 (go σ1 H1 q1)
  | ret _ => exact q
  | brk => exact q
  | cont => exact q
section
variable {X : Cx}
/-- xs[k], 0 ≤ k, read for xs[k] op= e -/
def rGetL (K : PySem.W.Frag) : V → V → Hp → VK → Prop := fun o i H Q => ∃ p xs k v, o = .ref p ∧ i = .int k ∧ SqL K H p xs ∧ 0 ≤ k ∧ xs[k.toNat]? = some v ∧ Q v H
theorem pget_list : PGet X (rGetL X.K) := by
  intro pins s σ H o i ov iv Q I ro ri h
  obtain ⟨p, xs, k, v, rfl, rfl, hq, h0, he, q⟩ := h
  cases ro
  obtain ⟨t, rfl⟩ := ri
  obtain ⟨its, r, pl, hz⟩ := I.list hq
  obtain ⟨w, ew, rw'⟩ := r.get he
  have hl := r.length
  have hlt : k.toNat < its.length := (List.getElem?_eq_some_iff.mp ew).1
  have hb : k < 2 ^ 63 := by
    rw [sizeLine_eq] at hz
    omega
  exact wpAny_getItem_list pl.isList h0 hb (by simpa using ew) ⟨v, H, I, rw', q⟩

/-- sum(t) of a tuple of ints -/
def rSumT (K : PySem.W.Frag) : List V → Hp → VK → Prop := fun vs H Q => ∃ (a : Addr) (ns : List Int), vs = [V.ref a] ∧ SqT K H a (ns.map V.int) ∧ Q (.int ns.sum) H
theorem cr_sumT (hc : X.calm = true) : CallR X (.builtin "sum") (rSumT X.K) := by
  intro pins s σ H vs us Q I r h
  obtain ⟨a, ns, rfl, hs, q⟩ := h
  obtain ⟨its, rv, hl, _⟩ := I.tuple hs
  rw [Vals.ref1 r]
  have hi := rv.ints
  obtain ⟨xs, e⟩ := hi.allInts.items
  have hn : numsOf (intItems xs).toList = ns := by rw [← e]; exact hi.numsOf
  rw [nums_intItems] at hn
  rw [e] at hl
  refine PySem.W.ktm_sumG (I.ok.hd hc) hl fun h' tk t' hk => ?_
  rw [PySem.preSum_eq, List.take_of_length_le (by simp), hn]
  exact ⟨.int _, H, I.kept hk, ⟨_, rfl⟩, q⟩
end
end Hd
set_option maxHeartbeats 4000000
/-! min and max of a tuple of ints. -/
namespace Hd
open PySem PySem.Spec PyProof.Rows L2
theorem reads_ints {h : Heap} : ∀ {us : List Value} {ns : List Int}, IntsAre us ns → ReadsAll h us (ns.map PyData.int) []
  | _, _, .nil => .nil
  | _, _, .cons n t r => ReadsAll.cons (as := []) (bs := []) (.int n t) (reads_ints r)
theorem deep_ints : ∀ ns : List Int, PyData.depthAll (ns.map PyData.int) = 0
  | [] => by simp [PyData.depthAll]
  | n :: ns => by
    have := deep_ints ns
    simp only [List.map_cons, PyData.depthAll, PyData.depth]
    omega
theorem alike_ints (ns : List Int) : PySem.W.AlikeAll (ns.map PyData.int) := by
  refine ⟨fun x hx y hy => ?_, fun x hx => ?_⟩
  · obtain ⟨n, _, rfl⟩ := List.mem_map.mp hx
    obtain ⟨m, _, rfl⟩ := List.mem_map.mp hy
    first | rfl | simp [PySem.W.alike]
  · obtain ⟨n, _, rfl⟩ := List.mem_map.mp hx
    intro z
    cases z
section
variable {X : Cx}
def rMinT (K : PySem.W.Frag) : List V → Hp → VK → Prop := fun vs H Q => ∃ (a : Addr) (n : Int) (ns : List Int), vs = [V.ref a] ∧ SqT K H a ((n :: ns).map V.int) ∧ Q (.int (ns.foldl min n)) H
def rMaxT (K : PySem.W.Frag) : List V → Hp → VK → Prop := fun vs H Q => ∃ (a : Addr) (n : Int) (ns : List Int), vs = [V.ref a] ∧ SqT K H a ((n :: ns).map V.int) ∧ Q (.int (ns.foldl max n)) H
theorem cr_minT (hc : X.calm = true) (hu : X.A.units + 64 < cLine) : CallR X (.builtin "min") (rMinT X.K) := by
  intro pins s σ H vs us Q I r h
  obtain ⟨a, n, ns, rfl, hs, q⟩ := h
  obtain ⟨its, rv, hl, _⟩ := I.tuple hs
  rw [Vals.ref1 r]
  refine PySem.W.min_tuple_data (x := .int n) (xs := ns.map PyData.int) (I.ok.hd hc) (show s.heap.IsTuple a its.toArray from hl) (by simpa using reads_ints (h := s.heap) rv.ints) (alike_ints (n :: ns)) ?_ fun i v h' tk bs hv hr hk => ?_
  · have := deep_ints (n :: ns)
    rw [List.map_cons] at this
    omega
  · rw [PySem.W.minD_ints] at hr
    cases hr with
    | int _ t => exact ⟨.int _, H, I.kept hk, ⟨t, rfl⟩, q⟩
theorem cr_maxT (hc : X.calm = true) (hu : X.A.units + 64 < cLine) : CallR X (.builtin "max") (rMaxT X.K) := by
  intro pins s σ H vs us Q I r h
  obtain ⟨a, n, ns, rfl, hs, q⟩ := h
  obtain ⟨its, rv, hl, _⟩ := I.tuple hs
  rw [Vals.ref1 r]
  refine PySem.W.max_tuple_data (x := .int n) (xs := ns.map PyData.int) (I.ok.hd hc) (show s.heap.IsTuple a its.toArray from hl) (by simpa using reads_ints (h := s.heap) rv.ints) (alike_ints (n :: ns)) ?_ fun i v h' tk bs hv hr hk => ?_
  · have := deep_ints (n :: ns)
    rw [List.map_cons] at this
    omega
  · rw [PySem.W.maxD_ints] at hr
    cases hr with
    | int _ t => exact ⟨.int _, H, I.kept hk, ⟨t, rfl⟩, q⟩
end
end Hd
set_option maxHeartbeats 4000000
/-! enumerate of a tuple. -/
namespace Hd
open PySem PySem.Spec PyProof.Rows L2
open AutoSeq1 (wpAny_loadPart')
theorem enumNewT (q : Addr) (zs : Array Value) (m : Nat) (od : Option Addr) (so : Array (Option Value)) :
    Meets (Builtin.«enumerate.__new__» ⟨[.type "enumerate", .ref q], []⟩) (fun _ R s =>
      s.heap.get? q = some { cls := .type "tuple", dict := od, data := .seq zs m, slots := so } ∧
      R (.ok (.ret (.ref (s.heap.push { cls := .type "tuple_iterator", data := .fields #[.ref q, .int 0 0] }).objs.size)))
        ⟨(s.heap.push { cls := .type "tuple_iterator", data := .fields #[.ref q, .int 0 0] }).push
              { cls := .type "enumerate", data := .fields #[.none, .bool false, .ref s.heap.objs.size, rawInt 0, .none, .none] }, s.gens, s.drawn, s.toks, s.os⟩) :=
  .of_wp fun P0 w0 A0 R0 s0 k0 => by
    obtain ⟨h0, g0, d0, t0, o0⟩ := s0
    obtain ⟨hq, k0⟩ := k0
    have subE := sub_enumerate
    have isT : Heap.IsTuple (Shared.heap ⟨h0, g0, d0, t0, o0⟩) q zs := ⟨_, hq, rfl, m, rfl⟩
    wp_walk using wpAny_loadPart' hq
    refine wpAny_stack_any fun _ => wpAny_pure ?_
    split
    · rename_i c _ _ _ _ _
      cases (c == Value.type "enumerate") <;> (wp_walk using wpAny_loadPart' hq, wpAny_pyIter_tuple isT; exact ⟨_, rfl, k0⟩)
    · wp_walk using wpAny_loadPart' hq, wpAny_pyIter_tuple isT
      exact ⟨_, rfl, k0⟩
theorem enumCallT {prog : Program} {w : World} {A : Around} {E : Value → Shared → Prop} {s : Shared} {q : Addr} {zs : Array Value} {Q : Value → Shared → Prop} (isT : s.heap.IsTuple q zs)
    (k : ∀ h', IsEnum h' (s.heap.objs.size + 1) s.heap.objs.size 0 .none → h'.IsTupleIter s.heap.objs.size q 0 → (∀ b o, s.heap.get? b = some o → h'.get? b = some o) → Q (.ref (s.heap.objs.size + 1)) { s with heap := h' }) :
    wpAny (model prog w) A (call (.type "enumerate") [.ref q]) Q E s := by
  obtain ⟨⟨oc, od, dt, so⟩, hq, hc, m, hd⟩ := isT
  replace hc : oc = .type "tuple" := hc
  replace hd : dt = .seq zs m := hd
  subst hc hd
  refine callType_new F.called_enumerate (by decide) (F.typeCall_enumerate_1 _) (F.newCall_enumerate_1 _)
    (fun obj => F.args_object_init_2 obj _) F.entry_enumerate_new (enumNewT q zs m od so) ⟨hq, ?_⟩
  have hz : (s.heap.push { cls := .type "tuple_iterator", data := .fields #[.ref q, .int 0 0] }).objs.size = s.heap.objs.size + 1 := Heap.size_push ..
  show _ ∧ _
  rw [hz]
  have he : IsEnum ((s.heap.push { cls := .type "tuple_iterator", data := .fields #[.ref q, .int 0 0] }).push
      { cls := .type "enumerate", data := .fields #[.none, .bool false, .ref s.heap.objs.size, rawInt 0, .none, .none] })
      (s.heap.objs.size + 1) s.heap.objs.size 0 .none := by
    have := Heap.get?_push_size (s.heap.push { cls := .type "tuple_iterator", data := .fields #[.ref q, .int 0 0] })
      (o := { cls := .type "enumerate", data := .fields #[.none, .bool false, .ref s.heap.objs.size, rawInt 0, .none, .none] }) rfl
    rw [hz] at this
    exact this
  exact ⟨⟨_, he, rfl⟩, k _ he ⟨({ cls := .type "tuple_iterator", data := .fields #[.ref q, .int 0 0] } : Obj), Heap.get?_push_of_some _ (Heap.get?_push_size _ rfl), rfl, rfl⟩
    fun b o x => Heap.get?_push_of_some _ (Heap.get?_push_of_some _ x)⟩
/-- the tuple at a, each item in a new pair -/
def IteT (K : PySem.W.Frag) (a : Addr) : It where
  go := fun i H => ∃ (xs : List V) (x : V), SqT K H a xs ∧ xs[i]? = some x
  yld := fun i H v H' => ∃ T x, v = .ref T ∧ H T = none ∧ H' = upd H T (.tup [.int (i : Nat), x]) ∧ ∀ xs, SqT K H a xs → xs[i]? = some x
  stop := fun i H => ∃ xs : List V, SqT K H a xs ∧ xs.length = i
theorem tupNe {h : Heap} {a it : Addr} {zs : Array Value} {i : Nat} (t : h.IsTuple a zs) (j : h.IsTupleIter it a i) : a ≠ it := fun z => by
  obtain ⟨o, h1, h2, _⟩ := t
  obtain ⟨o', h3, h4, _⟩ := j
  rw [z, h3] at h1
  cases h1
  rw [h2] at h4
  injection h4 with h5
  exact absurd h5 (by decide)
theorem enumNe {h : Heap} {a e it : Addr} {zs : Array Value} {c : Int} {v : Value} (t : h.IsTuple a zs) (j : IsEnum h e it c v) : e ≠ a := fun z => by
  obtain ⟨o, h1, h2, _⟩ := t
  have j' : h.get? e = some _ := j
  rw [z, h1] at j'
  have j2 := Option.some.inj j'
  rw [j2] at h2
  injection h2 with h5
  exact absurd h5 (by decide)
theorem turn_enumT {P : Program} {w : World} {K : PySem.W.Frag} {elts : List Expr} {kk : Nat} {tpos : Pos} (a e it : Addr) :
    Turn P w K (.Tuple elts kk tpos) (IteT K a) [e, it] e (fun i h => (∃ old, IsEnum h e it ((i : Nat) : Int) old) ∧ h.IsTupleIter it a i ∧ e ≠ it) where
  mem := List.mem_cons_self
  obj := fun i h st b hb => by
    obtain ⟨⟨old, he⟩, ⟨o, ho, hc, hd⟩, _⟩ := st
    rcases (show b = e ∨ b = it by simpa using hb) with z | z
    · subst z
      exact ⟨_, he, fun v q => nomatch q⟩
    · subst z
      exact ⟨o, ho, fun v q => by rw [hd] at q; cases q⟩
  keep := fun i h h' st k => by
    obtain ⟨⟨old, he⟩, hi, hne⟩ := st
    exact ⟨⟨old, k e (by simp) _ he⟩, hi.at fun o q => k it (by simp) o q, hne⟩
  item := by
    intro X hP hw hK hc i pins s σ H E I hf st hg
    subst hP hw hK
    obtain ⟨⟨old, he⟩, hit, hne⟩ := st
    obtain ⟨xs, x, hq, hx⟩ := hg
    obtain ⟨its, rv, p, hz⟩ := I.tuple hq
    have isT : s.heap.IsTuple a its.toArray := p
    have hel : e < s.heap.objs.size := Heap.lt_size he
    have hil : it < s.heap.objs.size := by
      obtain ⟨_, q, _⟩ := hit
      exact Heap.lt_size q
    have hai := tupNe isT hit
    have hea := enumNe isT he
    have hlt : i < its.toArray.size := by
      have z := (List.getElem?_eq_some_iff.mp hx).1
      have l := rv.length
      simp
      omega
    have D := Draws.tuple (prog := X.prog) (w := X.w) (A := X.A.in1) (I.ok.hd hc) it a hai its.toArray
    refine wpAny_pyNext_enum_itemC D he ⟨hit, isT⟩ hlt hne (by simp [hne, hea]) fun u h' tk hu ho st' hT hsz hk => ?_
    refine ⟨_, rfl, wpAny_letOwnedTupleGo_enum (s := { s with heap := h', toks := tk + 1 }) ho fun h'' he' sb => ?_⟩
    obtain ⟨u', hu', ru⟩ := rv.get hx
    have euu : u' = u := by
      have z : its[i]? = some u := by simpa using hu
      rw [hu'] at z
      exact Option.some.inj z
    subst euu
    have hT2 : h''.get? s.heap.objs.size = some { cls := .type "tuple", data := .seq #[.int i tk, u'] } := (sb.2 _ (Nat.ne_of_gt hel)).trans hT
    have new : ObjOk X.prog X.w (upd H s.heap.objs.size (.tup [.int (i : Nat), x])) h'' s.heap.objs.size (.tup [.int (i : Nat), x]) :=
      ⟨by show 2 ≤ sizeLine; decide, [.int i tk, u'], .cons ⟨_, rfl⟩ (.cons ru .nil), ⟨_, hT2, rfl, _, rfl⟩⟩
    have J : Inv X pins σ (upd H s.heap.objs.size (.tup [.int (i : Nat), x])) { s with heap := h'', toks := tk + 1 } :=
      I.turnedNew (ch := [e, it]) (fun b ob hb q => (sb.2 b fun z => hb (by simp [z])).trans (hk b ob (fun z => hb (by simp [z])) (fun z => hb (by simp [z])) q)) hf (Nat.le_refl _) new
    refine ⟨.ref s.heap.objs.size, _, J, rfl, ⟨_, x, rfl, I.hok.fresh (Nat.le_refl _), rfl, fun ys hy => by rw [I.tuple_inj hy hq]; exact hx⟩,
      ⟨⟨u', ?_⟩, st'.1.at fun o q => (sb.2 it (Ne.symm hne)).trans q, hne⟩, fun b hb => ?_⟩
    · have e1 : ((i + 1 : Nat) : Int) = (i : Int) + 1 := by omega
      rw [e1]
      exact he'
    · have hb' : b < s.heap.objs.size := by
        rcases (show b = e ∨ b = it by simpa using hb) with z | z
        · rw [z]
          exact hel
        · rw [z]
          exact hil
      rw [upd_ne (Nat.ne_of_lt hb')]
      exact (hf b hb).1
  done := by
    intro X hP hw hK hc i pins s σ H E I hf st hg
    subst hP hw hK
    obtain ⟨⟨old, he⟩, hit, hne⟩ := st
    obtain ⟨xs, hq, hx⟩ := hg
    obtain ⟨its, rv, p, hz⟩ := I.tuple hq
    have isT : s.heap.IsTuple a its.toArray := p
    have hai := tupNe isT hit
    obtain ⟨f0, f1, f2, f3, f4, f5⟩ := hf it (by simp)
    have D := Draws.tuple (prog := X.prog) (w := X.w) (A := X.A.in1) (I.ok.hd hc) it a hai its.toArray
    have ei : its.toArray.size = i := by
      have l := rv.length
      simp
      omega
    refine wpAny_pyNext_enum_endD D he ⟨by rw [ei]; exact hit, isT⟩ fun h' eb => ⟨rfl, ?_⟩
    exact I.turned (t' := s.toks) (fun b o hb q => eb b o hb q) f0 f1 f3 f4 f5
  self := fun A i s Q E st k => by
    obtain ⟨⟨_, he⟩, _⟩ := st
    exact wpAny_pyIter_enum he k
def iEnumT (K : PySem.W.Frag) (ta : TA) : TI := fun σ H R => ta σ H fun vs H1 => ∃ a xs, vs = [.ref a] ∧ SqT K H1 a xs ∧ R (IteT K a) H1
theorem pi_enumT {X : Cx} {e : Expr} {ta : TA} {p pos tpos : Pos} {elts : List Expr} {kk : Nat} (hg : Gl X "enumerate") (hm : X.mg "enumerate" = none) (ha : PA X [e] ta)
    (hs : starEach [e] X.env = [(false, eval e X.env)] := by rfl) : PI X (.Tuple elts kk tpos) (.Call (.Name "enumerate" p) [e] [] pos) (iEnumT X.K ta) := by
  refine ⟨fun pins s σ H R I h => ?_⟩
  refine Call_ (ld_blt I hg hm boot_enumerate (PyProof.Rows.callWith_type1 (thn (ha.run pos pins s σ H _ I h) fun us s1 hh => ?_) hs rfl))
  obtain ⟨vs, H1, I1, r1, a, xs, ex, hq, q⟩ := hh
  subst ex
  rw [Vals.ref1 r1]
  obtain ⟨its, rv, p', hz⟩ := I1.tuple hq
  refine enumCallT (show s1.heap.IsTuple a its.toArray from p') fun h' he hit hk => wpAny_pyIter_enum he ?_
  have I2 : Inv X pins σ H1 { s1 with heap := h' } := I1.kept (t' := s1.toks) hk
  refine ⟨s1.heap.objs.size + 1, [s1.heap.objs.size + 1, s1.heap.objs.size], _, _, H1, rfl, I2, turn_enumT a (s1.heap.objs.size + 1) s1.heap.objs.size,
    ⟨⟨.none, he⟩, hit, Nat.succ_ne_self _⟩, fun b hb => ?_, q⟩
  have hle : s1.heap.objs.size ≤ b := by
    rcases (show b = s1.heap.objs.size + 1 ∨ b = s1.heap.objs.size by simpa using hb) with z | z
    · rw [z]
      exact Nat.le_add_right _ _
    · rw [z]
      exact Nat.le_refl _
  exact I1.fpOk hle (I1.hok.fresh hle)
theorem walk_enumT {K : PySem.W.Frag} {a : Addr} {xs : List V} : Walk (IteT K a) xs.length (fun H => SqT K H a xs) (YPair (fun i => some (.int (i : Nat))) (fun i => xs[i]?)) := by
  refine ⟨fun i _ hi q => ⟨xs, xs[i], q, by simp [hi]⟩, fun _ q => ⟨xs, q, rfl⟩, fun i H v H' _ q y => ?_⟩
  obtain ⟨T, x, h1, h2, h3, h4⟩ := y
  exact ⟨T, .int (i : Nat), x, h1, h2, h3, rfl, h4 xs q⟩
end Hd
set_option maxHeartbeats 2000000
/-! The numbers of two heaps. -/
namespace Hd
/-! ### powers of two -/
theorem two_cop {o : Nat} (ho : o % 2 = 1) (k : Nat) : Nat.Coprime o (2 ^ k) := by
  refine Nat.Coprime.pow_right k ?_
  have h1 : Nat.gcd o 2 ∣ 2 := Nat.gcd_dvd_right _ _
  have h2 : Nat.gcd o 2 ∣ o := Nat.gcd_dvd_left _ _
  have h3 : Nat.gcd o 2 ≤ 2 := Nat.le_of_dvd (by decide) h1
  have h4 : Nat.gcd o 2 ≠ 0 := fun z => by
    rw [z] at h1
    have := Nat.eq_zero_of_zero_dvd h1
    omega
  have h5 : Nat.gcd o 2 ≠ 2 := fun z => by
    rw [z] at h2
    have := Nat.mod_eq_zero_of_dvd h2
    omega
  show Nat.gcd o 2 = 1
  omega
theorem odd_pred {d : Nat} (hd : 0 < d) : (2 ^ d - 1) % 2 = 1 := by
  obtain ⟨e, rfl⟩ : ∃ e, d = e + 1 := ⟨d - 1, by omega⟩
  have : 0 < 2 ^ e := Nat.pow_pos (by decide)
  rw [Nat.pow_succ]
  omega
theorem pow_dvd_pow_mul {t i n : Nat} (hn : n % 2 = 1) : 2 ^ t ∣ 2 ^ i * n ↔ t ≤ i := by
  refine ⟨fun h => ?_, fun h => Nat.dvd_trans (Nat.pow_dvd_pow 2 h) (Nat.dvd_mul_right _ _)⟩
  have h2 : 2 ^ t ∣ 2 ^ i := Nat.Coprime.dvd_of_dvd_mul_right (Nat.Coprime.symm (two_cop hn t)) h
  exact (Nat.pow_dvd_pow_iff_le_right (by decide)).mp h2
theorem part_dvd {o t i n : Nat} (ho : o % 2 = 1) (hn : n % 2 = 1) : o * 2 ^ t ∣ 2 ^ i * n ↔ t ≤ i ∧ o ∣ n := by
  constructor
  · intro h
    refine ⟨(pow_dvd_pow_mul hn).mp (Nat.dvd_trans (Nat.dvd_mul_left _ _) h), ?_⟩
    exact Nat.Coprime.dvd_of_dvd_mul_left (two_cop ho i) (Nat.dvd_trans (Nat.dvd_mul_right _ _) h)
  · rintro ⟨h1, h2⟩
    rw [Nat.mul_comm]
    exact Nat.mul_dvd_mul (Nat.pow_dvd_pow 2 h1) h2
theorem part_pow {o t k : Nat} (ho : o % 2 = 1) : o * 2 ^ t ∣ 2 ^ k ↔ o = 1 ∧ t ≤ k := by
  have e := part_dvd (o := o) (t := t) (i := k) (n := 1) ho (by decide)
  rw [Nat.mul_one] at e
  rw [e]
  constructor
  · rintro ⟨h1, h2⟩
    exact ⟨Nat.eq_one_of_dvd_one h2, h1⟩
  · rintro ⟨h1, h2⟩
    exact ⟨h2, by rw [h1]; exact Nat.dvd_refl 1⟩
theorem part_one {o t o' t' : Nat} (ho : o % 2 = 1) (ho' : o' % 2 = 1) (h : o * 2 ^ t = o' * 2 ^ t') : o = o' ∧ t = t' := by
  have a1 : t ≤ t' := by
    have z : 2 ^ t ∣ 2 ^ t' * o' := by
      rw [Nat.mul_comm, ← h]
      exact Nat.dvd_mul_left _ _
    exact (pow_dvd_pow_mul ho').mp z
  have a2 : t' ≤ t := by
    have z : 2 ^ t' ∣ 2 ^ t * o := by
      rw [Nat.mul_comm, h]
      exact Nat.dvd_mul_left _ _
    exact (pow_dvd_pow_mul ho).mp z
  have e : t = t' := by omega
  subst e
  exact ⟨Nat.eq_of_mul_eq_mul_right (Nat.pow_pos (by decide)) h, rfl⟩
/-! ### two heaps -/
theorem both_mod (a b k : Nat) : ((2 ^ k * a) % (a + b) + (2 ^ k * b) % (a + b)) % (a + b) = 0 := by
  rw [← Nat.add_mod, ← Nat.mul_add, Nat.mul_mod_left]
/-- the odd part and the twos of the reduced sum -/
structure Par (a b o t : Nat) : Prop where
  pos : 0 < a + b
  eq : (a + b) / Nat.gcd a b = o * 2 ^ t
  odd : o % 2 = 1
theorem Par.one {a b o t o' t' : Nat} (p : Par a b o t) (q : Par a b o' t') : o = o' ∧ t = t' := part_one p.odd q.odd (p.eq.symm.trans q.eq)
section
variable {a b o t : Nat} (p : Par a b o t)
include p
theorem Par.gpos : 0 < Nat.gcd a b := Nat.gcd_pos_iff.mpr (by have := p.pos; omega)
theorem Par.sum : a + b = Nat.gcd a b * (o * 2 ^ t) := by
  rw [← p.eq]
  exact (Nat.mul_div_cancel' (Nat.dvd_add (Nat.gcd_dvd_left a b) (Nat.gcd_dvd_right a b))).symm
theorem Par.dvd (x : Nat) : a + b ∣ x * a ↔ o * 2 ^ t ∣ x := by
  have g0 := p.gpos
  obtain ⟨a', ha⟩ := Nat.gcd_dvd_left a b
  obtain ⟨b', hb⟩ := Nat.gcd_dvd_right a b
  have hs := p.sum
  have hc : Nat.Coprime a' b' := by
    have e : Nat.gcd a b * Nat.gcd a' b' = Nat.gcd a b * 1 := by
      rw [← Nat.gcd_mul_left, ← ha, ← hb, Nat.mul_one]
    exact Nat.eq_of_mul_eq_mul_left g0 e
  have hr : o * 2 ^ t = a' + b' := by
    have e : Nat.gcd a b * (o * 2 ^ t) = Nat.gcd a b * (a' + b') := by
      rw [← hs, Nat.mul_add, ← ha, ← hb]
    exact Nat.eq_of_mul_eq_mul_left g0 e
  have hc2 : Nat.Coprime (a' + b') a' := by
    show Nat.gcd (a' + b') a' = 1
    rw [Nat.gcd_comm, Nat.gcd_self_add_right]
    exact hc
  constructor
  · intro h
    have h' : Nat.gcd a b * (o * 2 ^ t) ∣ Nat.gcd a b * (x * a') := by
      rw [← hs]
      have e : Nat.gcd a b * (x * a') = x * a := by
        rw [Nat.mul_left_comm, ← ha]
      rw [e]
      exact h
    have h2 := Nat.dvd_of_mul_dvd_mul_left g0 h'
    rw [hr] at h2 ⊢
    exact Nat.Coprime.dvd_of_dvd_mul_right hc2 h2
  · intro h
    rw [hs]
    have e : x * a = Nat.gcd a b * (x * a') := by
      rw [Nat.mul_left_comm, ← ha]
    rw [e]
    exact Nat.mul_dvd_mul_left _ (Nat.dvd_trans h (Nat.dvd_mul_right _ _))
/-- one heap is empty behind k steps -/
theorem Par.zero (k : Nat) : (2 ^ k * a) % (a + b) = 0 ↔ o = 1 ∧ t ≤ k := by
  rw [← part_pow p.odd, ← p.dvd (2 ^ k)]
  exact ⟨Nat.dvd_of_mod_eq_zero, Nat.mod_eq_zero_of_dvd⟩
theorem Par.zero' (k : Nat) : (2 ^ k * b) % (a + b) = 0 ↔ o = 1 ∧ t ≤ k := by
  rw [← p.zero k]
  have s0 := p.pos
  have h := both_mod a b k
  have l1 := Nat.mod_lt (2 ^ k * a) s0
  have l2 := Nat.mod_lt (2 ^ k * b) s0
  constructor
  · intro e
    rw [e, Nat.add_zero, Nat.mod_eq_of_lt l1] at h
    exact h
  · intro e
    rw [e, Nat.zero_add, Nat.mod_eq_of_lt l2] at h
    exact h
end
/-- where the walk is behind k steps -/
def wpos (a b o t k : Nat) : Nat × Nat := if o = 1 ∧ t ≤ k then (if t = 0 then (a, b) else (0, a + b)) else ((2 ^ k * a) % (a + b), (2 ^ k * b) % (a + b))
def nxt (x y : Nat) : Nat × Nat := if y ≤ x then (x - y, 2 * y) else (2 * x, y - x)
section
variable {a b o t : Nat} (p : Par a b o t)
include p
theorem Par.live {k : Nat} (h : ¬ (o = 1 ∧ t ≤ k)) : wpos a b o t k = ((2 ^ k * a) % (a + b), (2 ^ k * b) % (a + b)) ∧ 0 < (2 ^ k * a) % (a + b) ∧ 0 < (2 ^ k * b) % (a + b) ∧ (2 ^ k * a) % (a + b) + (2 ^ k * b) % (a + b) = a + b := by
  have s0 := p.pos
  have z1 : (2 ^ k * a) % (a + b) ≠ 0 := fun z => h ((p.zero k).mp z)
  have z2 : (2 ^ k * b) % (a + b) ≠ 0 := fun z => h ((p.zero' k).mp z)
  have hm := both_mod a b k
  have l1 := Nat.mod_lt (2 ^ k * a) s0
  have l2 := Nat.mod_lt (2 ^ k * b) s0
  refine ⟨if_neg h, by omega, by omega, ?_⟩
  by_cases hlt : (2 ^ k * a) % (a + b) + (2 ^ k * b) % (a + b) < a + b
  · rw [Nat.mod_eq_of_lt hlt] at hm
    omega
  · have e : ((2 ^ k * a) % (a + b) + (2 ^ k * b) % (a + b) - (a + b)) % (a + b) = 0 := by
      rw [Nat.mod_eq_sub_mod (by omega)] at hm
      exact hm
    rw [Nat.mod_eq_of_lt (by omega)] at e
    omega
theorem Par.start : wpos a b o t 0 = (a, b) := by
  unfold wpos
  by_cases h : o = 1 ∧ t ≤ 0
  · rw [if_pos h, if_pos (by omega)]
  · obtain ⟨e, h1, h2, h3⟩ := p.live h
    rw [if_neg h]
    simp only [Nat.pow_zero, Nat.one_mul] at h1 h2 h3 ⊢
    have ha : a ≠ a + b := fun z => by
      rw [← z, Nat.mod_self] at h1
      omega
    have hb : b ≠ a + b := fun z => by
      rw [← z, Nat.mod_self] at h2
      omega
    rw [Nat.mod_eq_of_lt (by omega), Nat.mod_eq_of_lt (by omega)]
theorem Par.ended {k : Nat} (h : o = 1 ∧ t ≤ k) : wpos a b o t k = (if t = 0 then (a, b) else (0, a + b)) ∧ ((wpos a b o t k).1 = 0 ∨ (wpos a b o t k).2 = 0) ∧ (wpos a b o t k).1 + (wpos a b o t k).2 = a + b := by
  have e : wpos a b o t k = (if t = 0 then (a, b) else (0, a + b)) := if_pos h
  refine ⟨e, ?_, ?_⟩
  · rw [e]
    by_cases ht : t = 0
    · rw [if_pos ht]
      have z := (p.zero 0).mpr ⟨h.1, by omega⟩
      rw [Nat.pow_zero, Nat.one_mul] at z
      have s0 := p.pos
      by_cases hb : b = 0
      · exact .inr hb
      · rw [Nat.mod_eq_of_lt (by omega)] at z
        exact .inl z
    · rw [if_neg ht]
      exact .inl rfl
  · rw [e]
    by_cases ht : t = 0
    · rw [if_pos ht]
    · rw [if_neg ht]
      exact Nat.zero_add _
theorem Par.step {k : Nat} (h : ¬ (o = 1 ∧ t ≤ k)) : nxt (wpos a b o t k).1 (wpos a b o t k).2 = wpos a b o t (k + 1) := by
  obtain ⟨e, h1, h2, h3⟩ := p.live h
  have d1 : (2 ^ (k + 1) * a) % (a + b) = (2 * ((2 ^ k * a) % (a + b))) % (a + b) := by
    rw [Nat.pow_succ, Nat.mul_comm (2 ^ k) 2, Nat.mul_assoc, Nat.mul_mod_mod]
  have d2 : (2 ^ (k + 1) * b) % (a + b) = (2 * ((2 ^ k * b) % (a + b))) % (a + b) := by
    rw [Nat.pow_succ, Nat.mul_comm (2 ^ k) 2, Nat.mul_assoc, Nat.mul_mod_mod]
  rw [e]
  have z1 := p.zero (k + 1)
  have e1 : wpos a b o t (k + 1) = if o = 1 ∧ t ≤ k + 1 then (if t = 0 then (a, b) else (0, a + b)) else ((2 ^ (k + 1) * a) % (a + b), (2 ^ (k + 1) * b) % (a + b)) := rfl
  rw [e1, d1, d2]
  rw [d1] at z1
  generalize (2 ^ k * a) % (a + b) = x at *
  generalize (2 ^ k * b) % (a + b) = y at *
  unfold nxt
  show (if y ≤ x then (x - y, 2 * y) else (2 * x, y - x)) = _
  have big : ∀ u v : Nat, 0 < v → v < u → u + v = a + b → (2 * u) % (a + b) = u - v := fun u v g0 g q => by
    rw [Nat.mod_eq_sub_mod (by omega), Nat.mod_eq_of_lt (by omega)]
    omega
  by_cases hxy : x = y
  · have z : (2 * x) % (a + b) = 0 := by
      have : 2 * x = a + b := by omega
      rw [this, Nat.mod_self]
    have en := z1.mp z
    rw [if_pos (by omega), if_pos en, if_neg (by omega)]
    rw [hxy] at h3 ⊢
    congr 1
    · omega
    · omega
  · have nz : (2 * x) % (a + b) ≠ 0 := by
      by_cases g : y < x
      · rw [big x y h2 g h3]
        omega
      · rw [Nat.mod_eq_of_lt (by omega)]
        omega
    rw [if_neg (show ¬ (o = 1 ∧ t ≤ k + 1) from fun q => nz (z1.mpr q))]
    by_cases g : y < x
    · rw [if_pos (by omega), big x y h2 g h3, Nat.mod_eq_of_lt (show 2 * y < a + b by omega)]
    · rw [if_neg (by omega), big y x h1 (by omega) (by omega), Nat.mod_eq_of_lt (show 2 * x < a + b by omega)]
theorem Par.still {k : Nat} (h : o = 1 ∧ t ≤ k) : wpos a b o t (k + 1) = wpos a b o t k := by
  rw [(p.ended h).1, (p.ended ⟨h.1, Nat.le_succ_of_le h.2⟩).1]
theorem Par.at_end {k : Nat} (h : o = 1 ∧ t ≤ k) : wpos a b o t k = wpos a b o t t := by
  rw [(p.ended h).1, (p.ended ⟨h.1, Nat.le_refl t⟩).1]
theorem Par.sum_pos (k : Nat) : (wpos a b o t k).1 + (wpos a b o t k).2 = a + b := by
  by_cases h : o = 1 ∧ t ≤ k
  · exact (p.ended h).2.2
  · obtain ⟨e, h1, h2, h3⟩ := p.live h
    rw [e]
    exact h3
/-- the same heaps again -/
theorem Par.again {x d : Nat} (hd : 0 < d) (i : Nat) (hx : x = (2 ^ i * a) % (a + b)) : (2 ^ (i + d) * a) % (a + b) = x ↔ t ≤ i ∧ o ∣ 2 ^ d - 1 := by
  subst hx
  rw [← part_dvd p.odd (odd_pred hd), ← p.dvd]
  have hp : 0 < 2 ^ d := Nat.pow_pos (by decide)
  have e : 2 ^ (i + d) * a = 2 ^ i * a + 2 ^ i * (2 ^ d - 1) * a := by
    rw [← Nat.add_mul, Nat.pow_add]
    congr 1
    have : 2 ^ d = 1 + (2 ^ d - 1) := by omega
    rw (occs := [1]) [this]
    rw [Nat.mul_add, Nat.mul_one]
  rw [e]
  generalize 2 ^ i * a = u
  generalize 2 ^ i * (2 ^ d - 1) * a = v
  generalize hs : a + b = s
  have s0 : 0 < s := by rw [← hs]; exact p.pos
  constructor
  · intro h
    have := Nat.sub_mod_eq_zero_of_mod_eq h
    rw [Nat.add_sub_cancel_left] at this
    exact Nat.dvd_of_mod_eq_zero this
  · rintro ⟨q, rfl⟩
    exact Nat.add_mul_mod_self_left _ _ _
end
/-- the least number of doublings that comes back -/
structure Ord (o k : Nat) : Prop where
  pos : 0 < k
  yes : o ∣ 2 ^ k - 1
  no : ∀ j, 0 < j → j < k → ¬ o ∣ 2 ^ j - 1
theorem ord_some {o : Nat} (ho : o % 2 = 1) : ∃ k, k ≤ o ∧ Ord o k := by
  have hpos : 0 < o := by omega
  -- pigeons
  have two : ∃ i j, i < j ∧ j ≤ o ∧ 2 ^ i % o = 2 ^ j % o := by
    refine Classical.byContradiction fun hn => ?_
    have inj : ∀ i j, i ≤ o → j ≤ o → 2 ^ i % o = 2 ^ j % o → i = j := fun i j hi hj e => by
      rcases Nat.lt_trichotomy i j with h | h | h
      · exact absurd ⟨i, j, h, hj, e⟩ hn
      · exact h
      · exact absurd ⟨j, i, h, hi, e.symm⟩ hn
    have nd : ((List.range (o + 1)).map fun i => 2 ^ i % o).Nodup := by
      refine List.pairwise_map.mpr (List.Pairwise.imp_of_mem (fun {x y} hx hy hxy e => ?_) (List.nodup_range (n := o + 1)))
      exact hxy (inj x y (by have := List.mem_range.mp hx; omega) (by have := List.mem_range.mp hy; omega) e)
    have le := L2.nat_nodup_len _ (List.range o) nd fun x hx => by
      obtain ⟨i, _, rfl⟩ := List.mem_map.mp hx
      exact List.mem_range.mpr (Nat.mod_lt _ hpos)
    rw [List.length_map, List.length_range, List.length_range] at le
    omega
  obtain ⟨i, j, hij, hj, e⟩ := two
  have hd : o ∣ 2 ^ (j - i) - 1 := by
    have h1 := Nat.sub_mod_eq_zero_of_mod_eq e.symm
    have h2 : 2 ^ j - 2 ^ i = 2 ^ i * (2 ^ (j - i) - 1) := by
      rw [Nat.mul_sub, Nat.mul_one, ← Nat.pow_add, Nat.add_sub_cancel' (Nat.le_of_lt hij)]
    rw [h2] at h1
    exact Nat.Coprime.dvd_of_dvd_mul_left (two_cop ho i) (Nat.dvd_of_mod_eq_zero h1)
  have least : ∀ n, (0 < n ∧ o ∣ 2 ^ n - 1) → ∃ k, k ≤ n ∧ Ord o k := by
    intro n
    induction n using Nat.strongRecOn with
    | _ n ih =>
      rintro ⟨h0, h1⟩
      by_cases hm : ∃ m, m < n ∧ 0 < m ∧ o ∣ 2 ^ m - 1
      · obtain ⟨m, a1, a2, a3⟩ := hm
        obtain ⟨k, b1, b2⟩ := ih m a1 ⟨a2, a3⟩
        exact ⟨k, by omega, b2⟩
      · exact ⟨n, Nat.le_refl _, h0, h1, fun j c1 c2 c3 => hm ⟨j, c2, c1, c3⟩⟩
  obtain ⟨k, h1, h2⟩ := least (j - i) ⟨by omega, hd⟩
  exact ⟨k, by omega, h2⟩
theorem Ord.one {o k k' : Nat} (x : Ord o k) (y : Ord o k') : k = k' := by
  rcases Nat.lt_trichotomy k k' with h | h | h
  · exact absurd x.yes (y.no k x.pos h)
  · exact h
  · exact absurd y.yes (x.no k' y.pos h)
theorem mod_one_dvd {o k : Nat} (ho : 1 < o) : 2 ^ k % o = 1 % o ↔ o ∣ 2 ^ k - 1 := by
  have hp : 0 < 2 ^ k := Nat.pow_pos (by decide)
  constructor
  · intro h
    exact Nat.dvd_of_mod_eq_zero (Nat.sub_mod_eq_zero_of_mod_eq h)
  · rintro ⟨q, hq⟩
    have e : 2 ^ k = 1 + o * q := by omega
    rw [e]
    exact Nat.add_mul_mod_self_left _ _ _
theorem twos_some : ∀ n : Nat, 0 < n → ∃ o t, n = o * 2 ^ t ∧ o % 2 = 1 := by
  intro n
  induction n using Nat.strongRecOn with
  | _ n ih =>
    intro h
    by_cases he : n % 2 = 1
    · exact ⟨n, 0, by simp, he⟩
    · obtain ⟨o, t, e, ho⟩ := ih (n / 2) (by omega) (by omega)
      refine ⟨o, t + 1, ?_, ho⟩
      have : n = n / 2 * 2 := by omega
      rw [this, e, Nat.pow_succ, Nat.mul_assoc]
theorem par_some {a b : Nat} (h : 0 < a + b) : ∃ o t, Par a b o t := by
  have g0 : 0 < Nat.gcd a b := Nat.gcd_pos_iff.mpr (by omega)
  have hd : Nat.gcd a b ∣ a + b := Nat.dvd_add (Nat.gcd_dvd_left a b) (Nat.gcd_dvd_right a b)
  obtain ⟨o, t, e, ho⟩ := twos_some ((a + b) / Nat.gcd a b) (Nat.div_pos (Nat.le_of_dvd h hd) g0)
  exact ⟨o, t, h, e, ho⟩
theorem twos_small {n o t k : Nat} (h : n = o * 2 ^ t) (ho : 0 < o) (hn : n < 2 ^ k) : t < k := by
  refine Nat.lt_of_not_le fun z => ?_
  have h1 : 2 ^ k ≤ 2 ^ t := Nat.pow_le_pow_right (by decide) z
  have h2 : 2 ^ t ≤ o * 2 ^ t := Nat.le_mul_of_pos_left _ ho
  omega
theorem Par.small {a b o t k : Nat} (p : Par a b o t) (h : a + b < 2 ^ k) : t < k ∧ o < 2 ^ k := by
  have ho : 0 < o := by have := p.odd; omega
  have hle : (a + b) / Nat.gcd a b ≤ a + b := Nat.div_le_self _ _
  have e := p.eq
  refine ⟨twos_small e ho (by omega), ?_⟩
  have : o ≤ o * 2 ^ t := Nat.le_mul_of_pos_right _ (Nat.pow_pos (by decide))
  omega
/-- an empty heap: the walk has ended -/
theorem Par.empty {a b o t : Nat} (p : Par a b o t) (h : a = 0 ∨ b = 0) : o = 1 ∧ t = 0 := by
  have e := p.eq
  have s0 := p.pos
  have e1 : (a + b) / Nat.gcd a b = 1 := by
    rcases h with h | h
    · subst h
      rw [Nat.gcd_zero_left, Nat.zero_add]
      exact Nat.div_self (by omega)
    · subst h
      rw [Nat.gcd_zero_right, Nat.add_zero]
      exact Nat.div_self (by omega)
  rw [e1] at e
  have q := part_one (o := 1) (t := 0) (by decide) p.odd (by rw [← e])
  exact ⟨q.1.symm, q.2.symm⟩
theorem Par.full {a b o t : Nat} (p : Par a b o t) (h : a ≠ 0 ∧ b ≠ 0) (ho : o = 1) : t ≠ 0 := fun ht => by
  have z := (p.zero 0).mpr ⟨ho, by omega⟩
  rw [Nat.pow_zero, Nat.one_mul, Nat.mod_eq_of_lt (by omega)] at z
  omega
end Hd
set_option maxHeartbeats 4000000
/-! itertools.combinations of a list, three at a time. -/
namespace Hd
open PySem PySem.Spec PyProof.Rows L2
theorem cmb_mro : mroOf (.type "itertools.combinations") = pure [.type "itertools.combinations", .type "object"] := by rw [mroOf_type]; kernel_rfl
theorem cmb_lnew : typeLookup (.type "itertools.combinations") "__new__" = pure (some (.builtin "itertools.combinations.__new__")) := by rw [typeLookup_type, builtinLookup_eq_fast]; kernel_rfl
theorem cmb_init : Slot "itertools.combinations" "__init__" "object.__init__" :=
  .of (owner := "object") (n := "__init__") (by rw [typeLookup_type, builtinLookup_eq_fast]; kernel_rfl) (by decide +kernel) (by decide +kernel) (by decide +kernel) (by first | exact .inl (by decide +kernel) | exact .inr (by decide +kernel)) (by rw [isSubtype_type]; kernel_rfl)
theorem cmb_sub : isSubtype (.type "itertools.combinations") (.type "itertools.combinations") = pure true := by rw [isSubtype_type]; kernel_rfl
theorem cmb_called : TypeCalled "itertools.combinations" "itertools.combinations.__new__" "object.__init__" :=
  ⟨by decide +kernel, by decide +kernel, ⟨_, _, cmb_mro⟩, madeBy_type cmb_mro cmb_lnew (by decide +kernel), by decide +kernel, cmb_sub, cmb_init⟩
theorem cmb_tc (a b : Value) : checkTypeCall "itertools.combinations" ⟨[a, b], []⟩ = pure () := by kernel_rfl
theorem cmb_nc (a b : Value) : checkBuiltinCall "itertools.combinations.__new__" ⟨[.type "itertools.combinations", a, b], []⟩ = pure () := by kernel_rfl
theorem cmb_enew : entryFor table "itertools.combinations.__new__" = some Builtin.«itertools.combinations.__new__» := entryFor_of_tree (by kernel_rfl)
theorem cmb_siter : Slot "itertools.combinations" "__iter__" "itertools.combinations.__iter__" :=
  .of (owner := "itertools.combinations") (n := "__iter__") (by rw [typeLookup_type, builtinLookup_eq_fast]; kernel_rfl) (by decide +kernel) (by decide +kernel) (by decide +kernel) (by first | exact .inl (by decide +kernel) | exact .inr (by decide +kernel)) cmb_sub
theorem cmb_snext : Slot "itertools.combinations" "__next__" "itertools.combinations.__next__" :=
  .of (owner := "itertools.combinations") (n := "__next__") (by rw [typeLookup_type, builtinLookup_eq_fast]; kernel_rfl) (by decide +kernel) (by decide +kernel) (by decide +kernel) (by first | exact .inl (by decide +kernel) | exact .inr (by decide +kernel)) cmb_sub
theorem cmb_eiter : entryFor table "itertools.combinations.__iter__" = some Builtin.«dict_keyiterator.__iter__» :=
  entryFor_alias (id' := "dict_keyiterator.__iter__") (by kernel_rfl) (by first | rfl | decide +kernel | (unfold String.splitOn; simp +decide [String.splitOnAux])) (by decide +kernel) (by kernel_rfl)
theorem cmb_enext : entryFor table "itertools.combinations.__next__" = some Builtin.«itertools.combinations.__next__» := entryFor_of_tree (by kernel_rfl)
theorem cmb_owner : Manifest.owners.lookup (String.ofList ['s', 'n', 'o', 'i', 't', 'a', 'n', 'i', 'b', 'm', 'o', 'c', '.', 's', 'l', 'o', 'o', 't', 'r', 'e', 't', 'i'].reverse) = some Manifest.sig_itertools_combinations := by kernel_rfl
theorem cmb_aiter (a : Value) : argsOk "itertools.combinations.__iter__" ⟨[a], []⟩ := by
  unfold argsOk; rw [signature?_of (id := "itertools.combinations.__iter__") (n := ['_', '_', 'r', 'e', 't', 'i', '_', '_']) (o := ['s', 'n', 'o', 'i', 't', 'a', 'n', 'i', 'b', 'm', 'o', 'c', '.', 's', 'l', 'o', 'o', 't', 'r', 'e', 't', 'i']) (by kernel_rfl) cmb_owner]; kernel_rfl
theorem cmb_anext (a : Value) : argsOk "itertools.combinations.__next__" ⟨[a], []⟩ := by
  unfold argsOk; rw [signature?_of (id := "itertools.combinations.__next__") (n := ['_', '_', 't', 'x', 'e', 'n', '_', '_']) (o := ['s', 'n', 'o', 'i', 't', 'a', 'n', 'i', 'b', 'm', 'o', 'c', '.', 's', 'l', 'o', 'o', 't', 'r', 'e', 't', 'i']) (by kernel_rfl) cmb_owner]; kernel_rfl
theorem cmb_nodict : typeHasDict (.type "itertools.combinations") = false := by decide +kernel
/-- the object that hands out: its pool, its state, what it gave last, the places -/
abbrev CmbIs (h : Heap) (it pool : Addr) (st : Int) (last : Value) (i j k : Nat) : Prop :=
  h.get? it = some { cls := .type "itertools.combinations", dict := none, data := .fields #[.ref pool, rawInt st, last, rawInt (i : Int), rawInt (j : Int), rawInt (k : Int)], slots := #[] }
end Hd
set_option maxHeartbeats 4000000
namespace Hd
open PySem PySem.Spec PyProof.Rows L2
theorem cmb_new (l : Addr) (vs : List Value) (o : Obj) (nn : Nat) (t : Tok) (h3 : 3 ≤ vs.length) (hz : vs.length ≤ sizeLine) (hc : o.cls = .type "list") (hd : o.data = .seq vs.toArray nn) :
    Meets (Builtin.«itertools.combinations.__new__» ⟨[.type "itertools.combinations", .ref l, .int 3 t], []⟩) (fun _ R s =>
      s.heap.get? l = some o ∧ ∀ h' : Heap, CmbIs h' (s.heap.objs.size + 2) (s.heap.objs.size + 1) 0 .none 0 1 2 → h'.IsTuple (s.heap.objs.size + 1) vs.toArray → (∀ b u, s.heap.get? b = some u → h'.get? b = some u) →
        R (.ok (.ret (.ref (s.heap.objs.size + 2)))) { s with heap := h' }) :=
  .of_wp fun prog w A R s h => by
    obtain ⟨hp, g, dd, tk, os⟩ := s
    obtain ⟨hl, h⟩ := h
    have isl : Heap.IsList hp l vs.toArray := ⟨o, hl, hc, nn, hd⟩
    have hsub := cmb_sub
    have hnd := cmb_nodict
    unfold Builtin.«itertools.combinations.__new__»
    refine wpAny_bind ?_
    show wpAny _ _ (Builtin.Itertools.itClassAndRest "combinations" _ >>= _) _ _ _
    refine wpAny_bind ?_
    have hcr : Builtin.Itertools.itClassAndRest "combinations" ⟨[.type "itertools.combinations", .ref l, .int 3 t], []⟩ = pure (.type "itertools.combinations", [.ref l, .int 3 t]) := by
      simp only [Builtin.Itertools.itClassAndRest, isType]
      rw [show ("itertools." ++ "combinations" : String) = "itertools.combinations" by decide, cmb_sub]
      simp only [pure_bind]
      rfl
    refine wpAny_of_eq hcr ?_
    have hbn : Builtin.Itertools.itBindNamed "combinations" ["iterable", "r"] 2 2 [.ref l, .int 3 t] [] = pure [some (.ref l), some (.int 3 t)] := by kernel_rfl
    refine wpAny_bind (wpAny_of_eq hbn ?_)
    have hss : Builtin.Itertools.itSsizeArg (.int 3 t) = pure 3 := by kernel_rfl
    refine wpAny_bind (wpAny_of_eq hss ?_)
    refine wpAny_bind (collect_list isl ?_ hz)
    show wpAny _ _ (if (3 : Int) < 0 then _ else _) _ _ _
    rw [if_neg (by decide)]
    show wpAny _ _ (if Builtin.Itertools.itTooMany 3 = true then _ else _) _ _ _
    rw [if_neg (by decide)]
    refine wpAny_bind (wpAny_newTuple ?_ hz)
    refine wpAny_pure ?_
    show wpAny _ _ (Builtin.Itertools.itNewRecord (.type "itertools.combinations") _ >>= _) _ _ _
    refine wpAny_bind ?_
    rw [if_neg (show ¬ Int.toNat 3 > vs.length by show ¬ 3 > vs.length; omega)]
    simp only [Builtin.Itertools.itNewRecord, cmb_nodict]
    show wpAny _ _ (newObj (.type "itertools.combinations") (.fields #[.ref _, rawInt 0, .none, rawInt 0, rawInt 1, rawInt 2])) _ _ _
    refine wpAny_newObj_type ?_ (by size_fits)
    refine wpAny_pure ⟨_, rfl, ?_⟩
    have e1 : ((hp.push (seqObj "list" #[] 0)).update hp.objs.size (Obj.mapSeq fun x => x ++ vs.toArray)).objs.size = hp.objs.size + 1 := by rw [Heap.size_update, size_push']
    have e2 : (((hp.push (seqObj "list" #[] 0)).update hp.objs.size (Obj.mapSeq fun x => x ++ vs.toArray)).push { cls := .type "tuple", data := .seq vs.toArray }).objs.size = hp.objs.size + 2 := by rw [size_push', e1]
    have k1 : ∀ b u, hp.get? b = some u → (((hp.push (seqObj "list" #[] 0)).update hp.objs.size (Obj.mapSeq fun x => x ++ vs.toArray)).push { cls := .type "tuple", data := .seq vs.toArray }).get? b = some u := fun b u q => by
      refine Heap.get?_push_of_some _ ?_
      rw [Heap.get?_update_ne _ _ _ _ (Nat.ne_of_lt (Heap.lt_size q))]
      exact Heap.get?_push_of_some _ q
    have k2 : (((hp.push (seqObj "list" #[] 0)).update hp.objs.size (Obj.mapSeq fun x => x ++ vs.toArray)).push { cls := .type "tuple", data := .seq vs.toArray }).get? (hp.objs.size + 1) = some { cls := .type "tuple", data := .seq vs.toArray } := by
      rw [← e1]
      exact Heap.get?_push_size _ rfl
    dsimp only at h ⊢
    rw [e2, e1]
    refine h _ ?_ ⟨_, Heap.get?_push_of_some _ k2, rfl, 0, rfl⟩ fun b u q => Heap.get?_push_of_some _ (k1 b u q)
    show Heap.get? _ _ = _
    rw [← e2]
    exact Heap.get?_push_size _ rfl
/-- the threes of so many places, in order -/
def trios (n : Nat) : List (Nat × Nat × Nat) := (List.range n).flatMap fun i => (List.range n).flatMap fun j => if i < j then ((List.range n).filter fun k => decide (j < k)).map fun k => (i, j, k) else []
def trioL (t : Nat × Nat × Nat) : List Nat := [t.1, t.2.1, t.2.2]
def CmbPost (s : Shared) (h' : Heap) (it pool : Addr) (vs : List Value) (i j k : Nat) : Prop :=
  CmbIs h' it pool 1 (.ref s.heap.objs.size) i j k ∧ h'.get? s.heap.objs.size = some { cls := .type "tuple", data := .seq #[vs.getD i .none, vs.getD j .none, vs.getD k .none] } ∧ ∀ b u, b ≠ it → s.heap.get? b = some u → h'.get? b = some u
def CmbB (B : (Nat → List Nat → Option (List Nat)) → Builtin) : Prop := ∀ (F : Nat → List Nat → Option (List Nat)) (prog : Program) (w : World) (A : Around) (E : Value → Shared → Prop) (s : Shared) (it pool : Addr) (vs : List Value) (last : Value) (i j k : Nat) (Q : PySem.Fin → Shared → Prop),
  s.heap.IsTuple pool vs.toArray → it ≠ pool →
  (CmbIs s.heap it pool 0 last i j k → (∀ h', CmbPost s h' it pool vs i j k → Q (.done (.ret (.ref s.heap.objs.size))) { s with heap := h' }) → wpAny (model prog w) A (B F ⟨[.ref it], []⟩) Q E s) ∧
  (CmbIs s.heap it pool 1 last i j k → ∀ i' j' k', F vs.length [i, j, k] = some [i', j', k'] → (∀ h', CmbPost s h' it pool vs i' j' k' → Q (.done (.ret (.ref s.heap.objs.size))) { s with heap := h' }) → wpAny (model prog w) A (B F ⟨[.ref it], []⟩) Q E s) ∧
  (CmbIs s.heap it pool 1 last i j k → A.handled = none → F vs.length [i, j, k] = none → (∀ e h', (∃ a o vs, e = .ref a ∧ h'.get? a = some o ∧ o.cls = .type "StopIteration" ∧ o.data = .fields vs ∧ vs[5]? = some Value.none) → Heap.ExtBut it s.heap h' → E e { s with heap := h' }) → wpAny (model prog w) A (B F ⟨[.ref it], []⟩) Q E s)
def CmbF (F : Nat → List Nat → Option (List Nat)) : Prop := ∀ n, n ≤ 6 → ∀ i, i < (trios n).length → F n (trioL ((trios n).getD i (0, 0, 0))) = (trios n)[i + 1]?.map trioL
theorem cmb_cap : ∃ (F : Nat → List Nat → Option (List Nat)) (B : (Nat → List Nat → Option (List Nat)) → Builtin), Builtin.«itertools.combinations.__next__» = B F ∧ CmbF F ∧ CmbB B := by
  refine ⟨_, _, rfl, ?_, ?_⟩
  · intro n hn
    have : n = 0 ∨ n = 1 ∨ n = 2 ∨ n = 3 ∨ n = 4 ∨ n = 5 ∨ n = 6 := by omega
    rcases this with e | e | e | e | e | e | e <;> subst e <;> decide +kernel
  · intro F prog w A E s it pool vs last i j k Q hpool hne
    obtain ⟨op, hop, hcp, np, hdp⟩ := id hpool
    -- handing out the three at i, j, k, the heap being h
    have give : ∀ (i j k : Nat) (hQ : ∀ h', CmbPost s h' it pool vs i j k → Q (.done (.ret (.ref s.heap.objs.size))) { s with heap := h' }) (h : Heap), CmbIs h it pool 1 last i j k → h.get? pool = some op → h.objs.size = s.heap.objs.size → (∀ b u, b ≠ it → s.heap.get? b = some u → h.get? b = some u) →
        wpAny (model prog w) A (do
          let result ← (do
            let items ← Builtin.Itertools.itPoolItems (.ref pool)
            newTuple ([i, j, k].map fun i => items.getD i .none))
          let before ← field (.ref it) 2
          setField (.ref it) 2 result
          letGo [before] [result]
          ret result) Q E { s with heap := h } := fun i j k hQ h hit hp hz ho => by
      refine wpAny_bind (wpAny_bind ?_)
      simp only [Builtin.Itertools.itPoolItems]
      refine wpAny_bind (wpAny_seqItems hp hdp (wpAny_pure (wpAny_newTuple ?_ (by show 3 ≤ sizeLine; decide))))
      have hlt : it < h.objs.size := Heap.lt_size hit
      have hit2 := Heap.get?_push_of_some { cls := .type "tuple", data := .seq ([i, j, k].map fun i => vs.toArray.getD i .none).toArray } hit
      refine wpAny_bind (wpAny_field hit2 rfl (x := last) rfl ?_)
      refine wpAny_bind (wpAny_setField hit2 rfl (by simp) ?_)
      refine wpAny_bind (wpAny_letGo (wpAny_pure ?_))
      have hT := Heap.get?_push_size h (o := { cls := .type "tuple", data := .seq ([i, j, k].map fun i => vs.toArray.getD i .none).toArray }) rfl
      have eA : ∀ i, vs.toArray.getD i .none = vs.getD i .none := fun i => by simp [Array.getD_eq_getD_getElem?, List.getD_eq_getElem?_getD]
      have eT : ([i, j, k].map fun i => vs.toArray.getD i .none).toArray = #[vs.getD i .none, vs.getD j .none, vs.getD k .none] := by
        rw [← eA i, ← eA j, ← eA k]
        rfl
      rw [eT] at hit2 hT ⊢
      dsimp only
      rw [hz] at hT ⊢
      refine hQ _ ⟨Heap.get?_update_self _ hit2 rfl, ?_, fun b u hb q => ?_⟩
      · rw [Heap.get?_update_ne _ _ _ _ (by rw [← hz]; exact Nat.ne_of_gt hlt)]
        exact hT
      · rw [Heap.get?_update_ne _ _ _ _ hb]
        exact Heap.get?_push_of_some _ (ho b u hb q)
    refine ⟨fun hit hQ => ?_, fun hit i' j' k' hF hQ => ?_, fun hit hh hF hQ => ?_⟩
    · show wpAny _ _ (field (.ref it) 0 >>= _) _ _ s
      refine wpAny_bind (wpAny_field hit rfl (x := .ref pool) rfl ?_)
      show wpAny _ _ (Builtin.Itertools.itNumbersFrom (.ref it) 3 >>= _) _ _ s
      refine wpAny_bind ?_
      simp only [Builtin.Itertools.itNumbersFrom]
      refine wpAny_bind (wpAny_load hit (wpAny_pure ?_))
      show wpAny _ _ (Builtin.Itertools.itIntField (.ref it) 1 >>= _) _ _ s
      refine wpAny_bind ?_
      simp only [Builtin.Itertools.itIntField]
      refine wpAny_bind (wpAny_field hit rfl (x := rawInt 0) rfl (wpAny_pure ?_))
      show wpAny _ _ (setField (.ref it) 1 (rawInt 1) >>= _) _ _ s
      refine wpAny_bind (wpAny_setField hit rfl (by simp) ?_)
      have h1 : CmbIs (s.heap.update it (Obj.mapFields fun x => x.setIfInBounds 1 (rawInt 1))) it pool 1 last i j k := Heap.get?_update_self _ hit rfl
      have p1 : (s.heap.update it (Obj.mapFields fun x => x.setIfInBounds 1 (rawInt 1))).get? pool = some op := by rw [Heap.get?_update_ne _ _ _ _ (Ne.symm hne)]; exact hop
      have z1 : (s.heap.update it (Obj.mapFields fun x => x.setIfInBounds 1 (rawInt 1))).objs.size = s.heap.objs.size := Heap.size_update ..
      have o1 : ∀ b u, b ≠ it → s.heap.get? b = some u → (s.heap.update it (Obj.mapFields fun x => x.setIfInBounds 1 (rawInt 1))).get? b = some u := fun b u hb q => by rw [Heap.get?_update_ne _ _ _ _ hb]; exact q
      exact give i j k hQ _ h1 p1 z1 o1
    · show wpAny _ _ (field (.ref it) 0 >>= _) _ _ s
      refine wpAny_bind (wpAny_field hit rfl (x := .ref pool) rfl ?_)
      show wpAny _ _ (Builtin.Itertools.itNumbersFrom (.ref it) 3 >>= _) _ _ s
      refine wpAny_bind ?_
      simp only [Builtin.Itertools.itNumbersFrom]
      refine wpAny_bind (wpAny_load hit (wpAny_pure ?_))
      show wpAny _ _ (Builtin.Itertools.itIntField (.ref it) 1 >>= _) _ _ s
      refine wpAny_bind ?_
      simp only [Builtin.Itertools.itIntField]
      refine wpAny_bind (wpAny_field hit rfl (x := rawInt 1) rfl (wpAny_pure ?_))
      show wpAny _ _ (Builtin.Itertools.itPoolItems (.ref pool) >>= _) _ _ s
      refine wpAny_bind ?_
      simp only [Builtin.Itertools.itPoolItems]
      refine wpAny_bind (wpAny_seqItems hop hdp (wpAny_pure ?_))
      split
      · rename_i nx heq
        have heq' : F vs.length [i, j, k] = some nx := heq
        rw [hF] at heq'
        have enx := Option.some.inj heq'
        subst enx
        refine wpAny_bind ?_
        simp only [Builtin.Itertools.itSetNumbersFrom]
        refine wpAny_updateFields hit rfl ?_ (by show 6 ≤ sizeLine + 3; decide)
        have h1 : CmbIs (s.heap.update it (Obj.mapFields fun fs => fs.extract 0 3 ++ (List.map (fun n : Nat => rawInt n) [i', j', k']).toArray)) it pool 1 last i' j' k' := Heap.get?_update_self _ hit rfl
        have p1 : (s.heap.update it (Obj.mapFields fun fs => fs.extract 0 3 ++ (List.map (fun n : Nat => rawInt n) [i', j', k']).toArray)).get? pool = some op := by rw [Heap.get?_update_ne _ _ _ _ (Ne.symm hne)]; exact hop
        have z1 : (s.heap.update it (Obj.mapFields fun fs => fs.extract 0 3 ++ (List.map (fun n : Nat => rawInt n) [i', j', k']).toArray)).objs.size = s.heap.objs.size := Heap.size_update ..
        have o1 : ∀ b u, b ≠ it → s.heap.get? b = some u → (s.heap.update it (Obj.mapFields fun fs => fs.extract 0 3 ++ (List.map (fun n : Nat => rawInt n) [i', j', k']).toArray)).get? b = some u := fun b u hb q => by rw [Heap.get?_update_ne _ _ _ _ hb]; exact q
        exact give i' j' k' hQ _ h1 p1 z1 o1
      · rename_i heq
        have heq' : F vs.length [i, j, k] = none := heq
        rw [hF] at heq'
        cases heq'
    · show wpAny _ _ (field (.ref it) 0 >>= _) _ _ s
      refine wpAny_bind (wpAny_field hit rfl (x := .ref pool) rfl ?_)
      show wpAny _ _ (Builtin.Itertools.itNumbersFrom (.ref it) 3 >>= _) _ _ s
      refine wpAny_bind ?_
      simp only [Builtin.Itertools.itNumbersFrom]
      refine wpAny_bind (wpAny_load hit (wpAny_pure ?_))
      show wpAny _ _ (Builtin.Itertools.itIntField (.ref it) 1 >>= _) _ _ s
      refine wpAny_bind ?_
      simp only [Builtin.Itertools.itIntField]
      refine wpAny_bind (wpAny_field hit rfl (x := rawInt 1) rfl (wpAny_pure ?_))
      show wpAny _ _ (Builtin.Itertools.itPoolItems (.ref pool) >>= _) _ _ s
      refine wpAny_bind ?_
      simp only [Builtin.Itertools.itPoolItems]
      refine wpAny_bind (wpAny_seqItems hop hdp (wpAny_pure ?_))
      split
      · rename_i nx heq
        have heq' : F vs.length [i, j, k] = some nx := heq
        rw [hF] at heq'
        cases heq'
      · refine wpAny_bind (wpAny_setField hit rfl (by simp) ?_)
        show wpAny _ _ (newExc (.type "StopIteration") [] >>= _) _ _ _
        refine wpAny_bind ?_
        simp only [newExc, newTuple]
        refine wpAny_bind (wpAny_newObj_type ?_ (by size_fits))
        refine wpAny_bind (m := firstArgMember _ _) (wpAny_of_eq (a := Value.none) (by first | rfl | (simp only [firstArgMember]; rfl)) ?_)
        refine wpAny_newObj_type ?_ (by size_fits)
        simp only [raiseNew]
        refine wpAny_bind (wpAny_handled ?_)
        rw [hh]
        refine wpAny_bind (wpAny_pure (wpAny_throw ?_))
        exact hQ _ _ ⟨_, _, _, rfl, Heap.get?_push_size _ rfl, rfl, rfl, rfl⟩ (((Heap.SameBut.update ..).extBut.push _).push _)
end Hd
set_option maxHeartbeats 4000000
/-! combinations(xs, 3) as what a for or a comprehension walks. -/
namespace Hd
open PySem PySem.Spec PyProof.Rows L2
def triV (xs : List V) (i : Nat) : List V := [xs.getD ((trios xs.length).getD i (0, 0, 0)).1 .non, xs.getD ((trios xs.length).getD i (0, 0, 0)).2.1 .non, xs.getD ((trios xs.length).getD i (0, 0, 0)).2.2 .non]
/-- the threes of xs, each in a new tuple -/
def ItC (xs : List V) : It where
  go := fun i _ => i < (trios xs.length).length
  yld := fun i H v H' => ∃ T, v = .ref T ∧ H T = none ∧ H' = upd H T (.tup (triV xs i))
  stop := fun i _ => i = (trios xs.length).length
/-- where the object stands ahead of turn i -/
def CmbAt (h : Heap) (it pool : Addr) (vs : List Value) (i : Nat) : Prop :=
  h.IsTuple pool vs.toArray ∧ it ≠ pool ∧ ∃ last, CmbIs h it pool (if i = 0 then 0 else 1) last ((trios vs.length).getD (i - 1) (0, 0, 0)).1 ((trios vs.length).getD (i - 1) (0, 0, 0)).2.1 ((trios vs.length).getD (i - 1) (0, 0, 0)).2.2
theorem rel_getD {xs : List V} {vs : List Value} (r : Vals xs vs) {j : Nat} (h : j < xs.length) : RelV (xs.getD j .non) (vs.getD j .none) := by
  obtain ⟨u, hu, ru⟩ := r.get (i := j) (x := xs[j]) (by simp [h])
  have e1 : xs.getD j .non = xs[j] := by simp [List.getD_eq_getElem?_getD, h]
  have e2 : vs.getD j .none = u := by simp [List.getD_eq_getElem?_getD, hu]
  rw [e1, e2]
  exact ru
theorem trios_in : ∀ n, n ≤ 6 → ∀ t ∈ trios n, t.1 < t.2.1 ∧ t.2.1 < t.2.2 ∧ t.2.2 < n := by
  intro n hn
  have : n = 0 ∨ n = 1 ∨ n = 2 ∨ n = 3 ∨ n = 4 ∨ n = 5 ∨ n = 6 := by omega
  rcases this with e | e | e | e | e | e | e <;> subst e <;> decide +kernel
theorem trios_first : ∀ n, 3 ≤ n → n ≤ 6 → 0 < (trios n).length ∧ (trios n).getD 0 (0, 0, 0) = (0, 1, 2) := by
  intro n h3 hn
  have : n = 3 ∨ n = 4 ∨ n = 5 ∨ n = 6 := by omega
  rcases this with e | e | e | e <;> subst e <;> decide +kernel
theorem trios_getD {n i : Nat} (h : i < (trios n).length) : (trios n).getD i (0, 0, 0) ∈ trios n := by
  have e : (trios n).getD i (0, 0, 0) = (trios n)[i] := by simp [List.getD_eq_getElem?_getD, h]
  rw [e]
  exact List.getElem_mem h
theorem comb_type {h : Heap} {it pool : Addr} {st : Int} {last : Value} {i j k : Nat} (c : CmbIs h it pool st last i j k) (s : Shared) (e : s.heap = h) : s.TypeIs (.ref it) "itertools.combinations" := ⟨_, by rw [e]; exact c, rfl⟩
theorem turn_comb {P : Program} {w : World} {K : PySem.W.Frag} {tg : Expr} {xs : List V} {vs : List Value} (rv : Vals xs vs) (h3 : 3 ≤ xs.length) (h6 : xs.length ≤ 6) (it pool : Addr) :
    Turn P w K tg (ItC xs) [it, pool] it (fun i h => CmbAt h it pool vs i) where
  mem := List.mem_cons_self
  obj := fun i h st b hb => by
    obtain ⟨⟨o, ho, hc, m, hd⟩, hne, last, hi⟩ := st
    rcases (show b = it ∨ b = pool by simpa using hb) with z | z
    · subst z
      exact ⟨_, hi, fun v q => nomatch q⟩
    · subst z
      exact ⟨o, ho, fun v q => by rw [hd] at q; cases q⟩
  keep := fun i h h' st k => by
    obtain ⟨⟨o, ho, hc, m, hd⟩, hne, last, hi⟩ := st
    exact ⟨⟨o, k pool (by simp) o ho, hc, m, hd⟩, hne, last, k it (by simp) _ hi⟩
  item := by
    intro X hP hw hK hc i pins s σ H E I hf st hg
    subst hP hw hK
    have hlen := rv.length
    obtain ⟨F, B, eB, hF, hB⟩ := cmb_cap
    obtain ⟨hpool, hne, last, hi⟩ := st
    have hT := comb_type hi s rfl
    have hg' : i < (trios xs.length).length := hg
    have hin := trios_in xs.length h6 _ (trios_getD hg')
    unfold pyNext
    refine wpAny_bind (wpAny_attempt (wpAny_callSpecial?_slot (name := Str.ofString "__next__") hT cmb_snext (wpAny_call_entry cmb_snext hT cmb_enext ?_ (cmb_anext _))))
    rw [eB]
    have fin : ∀ h', CmbPost s h' it pool vs ((trios xs.length).getD i (0, 0, 0)).1 ((trios xs.length).getD i (0, 0, 0)).2.1 ((trios xs.length).getD i (0, 0, 0)).2.2 → ∃ u, (some (Value.ref s.heap.objs.size)) = some u ∧
        wpAny (model X.prog X.w) X.A (letOwnedTupleGo tg (.ref it) u) (fun _ s2 => ∃ x H', Inv X pins σ H' s2 ∧ RelV x u ∧ (ItC xs).yld i H x H' ∧ CmbAt s2.heap it pool vs (i + 1) ∧ ∀ b ∈ [it, pool], H' b = none) E { s with heap := h' } := by
      rintro h' ⟨p1, p2, p3⟩
      obtain ⟨o, ho, hco, m, hdo⟩ := hpool
      have hit : it < s.heap.objs.size := Heap.lt_size hi
      have hpl : pool < s.heap.objs.size := Heap.lt_size ho
      refine ⟨_, rfl, go_of (s := { s with heap := h' }) p1 rfl rfl (by decide) ?_⟩
      have new : ObjOk X.prog X.w (upd H s.heap.objs.size (.tup (triV xs i))) h' s.heap.objs.size (.tup (triV xs i)) :=
        ⟨by show 3 ≤ sizeLine; decide, [_, _, _], .cons (rel_getD rv (by omega)) (.cons (rel_getD rv (by omega)) (.cons (rel_getD rv (by omega)) .nil)), ⟨_, p2, rfl, _, rfl⟩⟩
      have J : Inv X pins σ (upd H s.heap.objs.size (.tup (triV xs i))) { s with heap := h', toks := s.toks } :=
        I.turnedNew (ch := [it, pool]) (fun b ob hb q => p3 b ob (fun z => hb (by simp [z])) q) hf (Nat.le_refl _) new
      refine ⟨.ref s.heap.objs.size, _, J, rfl, ⟨_, rfl, I.hok.fresh (Nat.le_refl _), rfl⟩, ⟨⟨o, p3 pool o (Ne.symm hne) ho, hco, m, hdo⟩, hne, .ref s.heap.objs.size, ?_⟩, fun b hb => ?_⟩
      · rw [if_neg (Nat.succ_ne_zero i), Nat.add_sub_cancel, ← hlen]
        exact p1
      · have hb' : b < s.heap.objs.size := by
          rcases (show b = it ∨ b = pool by simpa using hb) with z | z
          · rw [z]
            exact hit
          · rw [z]
            exact hpl
        rw [upd_ne (Nat.ne_of_lt hb')]
        exact (hf b hb).1
    by_cases h0 : i = 0
    · subst h0
      obtain ⟨f1, f2⟩ := trios_first xs.length h3 h6
      rw [← hlen] at hi
      rw [if_pos rfl, show (0 : Nat) - 1 = 0 from rfl] at hi
      refine (hB F _ _ _ _ s it pool vs last _ _ _ _ hpool hne).1 hi fun h' hp => ⟨_, rfl, ?_⟩
      exact wpAny_pure (fin h' hp)
    · rw [if_neg h0, ← hlen] at hi
      have e := hF xs.length h6 (i - 1) (by omega)
      rw [show i - 1 + 1 = i by omega] at e
      have e2 : (trios xs.length)[i]? = some ((trios xs.length).getD i (0, 0, 0)) := by simp [List.getD_eq_getElem?_getD, hg']
      rw [e2] at e
      refine (hB F _ _ _ _ s it pool vs last _ _ _ _ hpool hne).2.1 hi _ _ _ (by rw [← hlen]; exact e) fun h' hp => ⟨_, rfl, ?_⟩
      exact wpAny_pure (fin h' hp)
  done := by
    intro X hP hw hK hc i pins s σ H E I hf st hg
    subst hP hw hK
    have hlen := rv.length
    obtain ⟨F, B, eB, hF, hB⟩ := cmb_cap
    obtain ⟨hpool, hne, last, hi⟩ := st
    have hT := comb_type hi s rfl
    have hg' : i = (trios xs.length).length := hg
    obtain ⟨f1, f2⟩ := trios_first xs.length h3 h6
    unfold pyNext
    refine wpAny_bind (wpAny_attempt (wpAny_callSpecial?_slot (name := Str.ofString "__next__") hT cmb_snext (wpAny_call_entry cmb_snext hT cmb_enext ?_ (cmb_anext _))))
    rw [eB]
    rw [if_neg (by omega), ← hlen] at hi
    have e := hF xs.length h6 (i - 1) (by omega)
    rw [show i - 1 + 1 = i by omega] at e
    have e2 : (trios xs.length)[i]? = none := by simp [hg']
    rw [e2] at e
    have hh : X.A.in1.handled = none := I.ok.hd hc
    refine (hB F _ _ _ _ s it pool vs last _ _ _ _ hpool hne).2.2 hi hh (by rw [← hlen]; exact e) fun ev h' hs hx => ?_
    obtain ⟨a, o, ws, rfl, ho, hco, hdo, _⟩ := hs
    refine wpAny_bind (wpAny_isInstance (T := "StopIteration") (b := true) ⟨o, ho, hco⟩ isSubtype_stop ?_)
    obtain ⟨q0, q1, q2, q3, q4, q5⟩ := hf it (by simp)
    exact wpAny_pure ⟨rfl, I.turned (t' := s.toks) (fun b ob hb q => hx b ob hb q) q0 q1 q3 q4 q5⟩
  self := fun A i s Q E st k => by
    obtain ⟨hpool, hne, last, hi⟩ := st
    have hT := comb_type hi s rfl
    refine wpAny_pyIter_slot hT cmb_siter (wpAny_call_entry cmb_siter hT cmb_eiter ?_ (cmb_aiter _))
    show wpAny _ _ (ret (.ref it)) _ _ s
    exact wpAny_pure ⟨_, rfl, "itertools.combinations", _, hT, cmb_snext.lookup, k⟩
def iComb (K : PySem.W.Frag) (ta : TA) : TI := fun σ H R => ta σ H fun vs H1 => ∃ a xs, vs = [.ref a, .int 3] ∧ SqL K H1 a xs ∧ 3 ≤ xs.length ∧ xs.length ≤ 6 ∧ R (ItC xs) H1
theorem pi_comb {X : Cx} {x : Str} {e : Expr} {es : List Expr} {tg : Expr} {ta : TA} {p pos : Pos} (hg : Gl X x) (hm : X.mg x = some (.type "itertools.combinations")) (ha : PA X (e :: es) ta) (hdb : (x == ("__debug__" : Str)) = false := by decide)
    (he : starEach (e :: es) X.env = (false, eval e X.env) :: starEach es X.env := by rfl) (hpl : (backTo pos (starEach es X.env)).any (·.1) = false := by rfl) : PI X tg (.Call (.Name x p) (e :: es) [] pos) (iComb X.K ta) := by
  refine ⟨fun pins s σ H R I h => ?_⟩
  refine wpAny_Call_Name_kw (ld_glob I hg hm (PyProof.Rows.callWith_type1 (thn (ha.run pos pins s σ H _ I h) fun us s1 hh => ?_) he hpl) hdb)
  obtain ⟨vs, H1, I1, r1, a, xs, ex, hq, h3, h6, q⟩ := hh
  subst ex
  obtain ⟨u1, u2, rfl, ru1, ru2⟩ := vals2 r1
  obtain rfl : u1 = Value.ref a := ru1
  obtain ⟨t, rfl⟩ := ru2
  obtain ⟨its, rv, p', hz⟩ := I1.list hq
  have hlen := rv.length
  obtain ⟨o, ho, hco, nn, hdo⟩ := p'.isList
  refine callType_new cmb_called (by decide +kernel) (cmb_tc _ _) (cmb_nc _ _) (fun obj => F.args_object_init_3 obj _ _) cmb_enew (cmb_new a its o nn t (by omega) (by rw [sizeLine_eq]; omega) hco hdo) ⟨ho, fun h' c1 c2 c3 => ?_⟩
  show _ ∧ _
  refine ⟨⟨_, c1, rfl⟩, ?_⟩
  have hle : ∀ b ∈ [s1.heap.objs.size + 2, s1.heap.objs.size + 1], s1.heap.objs.size ≤ b := fun b hb => by
    rcases (show b = s1.heap.objs.size + 2 ∨ b = s1.heap.objs.size + 1 by simpa using hb) with z | z <;> rw [z] <;> exact Nat.le_add_right _ _
  have I2 : Inv X pins σ H1 { s1 with heap := h' } := I1.kept (t' := s1.toks) c3
  have T := turn_comb (P := X.prog) (w := X.w) (K := X.K) (tg := tg) rv h3 h6 (s1.heap.objs.size + 2) (s1.heap.objs.size + 1)
  have st : CmbAt h' (s1.heap.objs.size + 2) (s1.heap.objs.size + 1) its 0 := by
    refine ⟨c2, Nat.ne_of_gt (Nat.lt_succ_self _), .none, ?_⟩
    rw [if_pos rfl, show (0 : Nat) - 1 = 0 from rfl, ← hlen, (trios_first xs.length h3 h6).2]
    exact c1
  refine T.self _ 0 _ _ _ st ?_
  exact ⟨s1.heap.objs.size + 2, [s1.heap.objs.size + 2, s1.heap.objs.size + 1], _, _, H1, rfl, I2, T, st, fun b hb => I1.fpOk (hle b hb) (I1.hok.fresh (hle b hb)), q⟩
theorem walk_comb {xs : List V} : Walk (ItC xs) (trios xs.length).length (fun _ => True) (fun i H v H' => ∃ T, v = .ref T ∧ H T = none ∧ H' = upd H T (.tup (triV xs i))) :=
  ⟨fun i _ hi _ => hi, fun _ _ => rfl, fun _ _ _ _ _ _ y => y⟩
end Hd
set_option maxHeartbeats 4000000
/-! min(l, key=len), l a list of lists: one of them. -/
namespace Hd
open PySem PySem.Spec PyProof.Rows L2
/-- one of the lists of l (which one is not said) -/
def rMinLen (K : PySem.W.Frag) : List V → Hp → VK → Prop := fun vs H Q => ∃ (a : Addr) (ts : List Addr), vs = [.ref a] ∧ SqL K H a (ts.map V.ref) ∧ 0 < ts.length ∧ (∀ t ∈ ts, ∃ ys, SqL K H t ys) ∧ ∀ t ∈ ts, Q (.ref t) H
theorem refs_its : ∀ {ts : List Addr} {its : List Value}, Vals (ts.map V.ref) its → its = ts.map Value.ref
  | [], [], _ => rfl
  | t :: ts, u :: us, .cons r q => by
    have e : u = Value.ref t := r
    rw [e, refs_its q]
    rfl
theorem min_len {X : Cx} (hc : X.calm = true) {pins : List (Addr × Obj)} {s : Shared} {σ : L2.St} {H : Hp} {a : Addr} {ts : List Addr} {Q : VK} (I : L2.Inv X pins σ H s) (hs : SqL X.K H a (ts.map V.ref)) (h0 : 0 < ts.length) (hl : ∀ t ∈ ts, ∃ ys, SqL X.K H t ys) (q : ∀ t ∈ ts, Q (.ref t) H) :
    wpAny (model X.prog X.w) X.A (call (.builtin "min") [.ref a] [(Str.ofString "key", .builtin "len")]) (EP X pins σ Q) X.xe s := by
  obtain ⟨its, rv, pl, hz⟩ := I.list hs
  have eits := refs_its rv
  subst eits
  have hh : X.A.in1.handled = none := I.ok.hd hc
  have hpl := pl.isList
  -- what each list is
  have hls : ∀ i : Nat, ∃ n : Nat, ∀ t : Addr, ts[i]? = some t → ∃ zs : List Value, s.heap.IsList t zs.toArray ∧ zs.length = n ∧ n ≤ sizeLine := fun i => by
    cases e : ts[i]? with
    | none => exact ⟨0, fun t z => nomatch z⟩
    | some t =>
      obtain ⟨ys, hy⟩ := hl t (List.mem_of_getElem? e)
      obtain ⟨zs, rz, pz, hzz⟩ := I.list hy
      exact ⟨zs.length, fun t' z => by
        cases z
        exact ⟨zs, pz.isList, rfl, by rw [← rz.length]; exact hzz⟩⟩
  let kf : Nat → Int := fun i => ((Classical.choose (hls i) : Nat) : Int)
  have hkf : ∀ (i : Nat) (t : Addr), ts[i]? = some t → ∃ zs : List Value, s.heap.IsList t zs.toArray ∧ ((zs.length : Nat) : Int) = kf i ∧ zs.length ≤ sizeLine := fun i t e => by
    obtain ⟨zs, h1, h2, h3⟩ := Classical.choose_spec (hls i) t e
    exact ⟨zs, h1, by show ((zs.length : Nat) : Int) = ((Classical.choose (hls i) : Nat) : Int); rw [h2], by rw [h2]; exact h3⟩
  refine call_min_walkKB (Flt.iter_list_ hpl fun s₂ es st hfp hla => ?_)
  have h2 : s₂.heap.objs.size = s.heap.objs.size + 1 := by
    rw [es]
    exact Heap.size_push ..
  refine ⟨s.heap.objs.size, [s.heap.objs.size, a], [s.heap.objs.size], fun a b => b = a, (ts.map Value.ref).toArray.size, fun i v => (ts.map Value.ref).toArray[i]? = some v, fun i s' => s'.heap.IsListIter s.heap.objs.size a i ∧ s'.heap.IsList a (ts.map Value.ref).toArray, fun s' => Moved [s₂.heap.objs.size, s.heap.objs.size] (fun a b => b = a) s s', fun i k _ => ∃ t, k = .int (kf i) t, fun i j => decide (kf i < kf j), rfl, (Walks.list (A := X.A.in1) hh s.heap.objs.size a hla _).toS, st, hfp, by simpa using h0, ⟨?_, ?_, ?_, ?_⟩, ?_, ?_⟩
  · exact fun s1 s2 m1 m2 => m1.trans (fun _ _ _ h1 h2 => h2.trans h1) (m2.mono fun b hb => by simpa using hb)
  · exact fun i k s1 s2 h _ => h
  · intro i v s1 o Q1 E1 hi hP m1 st1 hS k
    have hi' : i < ts.length := by simpa using hi
    have ev : v = Value.ref ts[i] := by
      have : ((ts.map Value.ref).toArray)[i]? = some v := hP
      simp [hi'] at this
      exact this.symm
    subst ev
    obtain ⟨zs, z1, z2, z3⟩ := hkf i ts[i] (by simp [hi'])
    obtain ⟨o1, y1, y2, y3⟩ := z1
    have lt1 : ts[i] < s.heap.objs.size := Heap.lt_size y1
    have y1' := m1.heap ts[i] o1 (fun z => by
      rcases (show ts[i] = s₂.heap.objs.size ∨ ts[i] = s.heap.objs.size by simpa using z) with z | z
      · rw [z, h2] at lt1
        exact absurd (Nat.lt_of_succ_lt lt1) (Nat.lt_irrefl _)
      · rw [z] at lt1
        exact absurd lt1 (Nat.lt_irrefl _)) y1
    have n63 := line63
    refine Calls.call_len_list (items := zs.toArray) ⟨o1, y1', y2, y3⟩ (by rw [List.size_toArray]; omega) ?_
    refine k _ _ (m1.then_heap (h' := s1.heap) (tk := s1.toks + 1 + 1) (by omega) fun b o _ e => e) st1 hS ⟨_, by rw [List.size_toArray, ← z2]⟩ fun j k' h => h
  · rintro i j ki kj s1 Q1 E1 _ ⟨t1, rfl⟩ ⟨t2, rfl⟩ k
    exact CmpOf.ints_lt (P := fun i v => ∃ t, v = .int (kf i) t) kf (fun i v h => h) i j _ _ s1 Q1 E1 ⟨t1, rfl⟩ ⟨t2, rfl⟩ k
  · rw [es]
    exact ⟨fun b o _ e => Heap.get?_push_of_some _ e, rfl, rfl, rfl, Nat.le_refl _⟩
  · intro v s' hP m
    have hP' : ((ts.map Value.ref).toArray)[argBest (fun i j => decide (kf i < kf j)) ((ts.map Value.ref).toArray.size - 1)]? = some v := hP
    obtain ⟨hj, ev⟩ := Array.getElem?_eq_some_iff.mp hP'
    have hj' : argBest (fun i j => decide (kf i < kf j)) ((ts.map Value.ref).toArray.size - 1) < ts.length := by simpa using hj
    generalize argBest (fun i j => decide (kf i < kf j)) ((ts.map Value.ref).toArray.size - 1) = j at hj hj' ev
    have ev' : v = Value.ref ts[j] := by simpa using ev.symm
    subst ev'
    have kk : ∀ b o, s.heap.get? b = some o → s'.heap.get? b = some o := fun b o e => m.heap b o (fun z => by
      have lt1 := Heap.lt_size e
      rcases (show b = s₂.heap.objs.size ∨ b = s.heap.objs.size by simpa using z) with z | z
      · rw [z, h2] at lt1
        exact absurd (Nat.lt_of_succ_lt lt1) (Nat.lt_irrefl _)
      · rw [z] at lt1
        exact absurd lt1 (Nat.lt_irrefl _)) e
    have I2 : L2.Inv X pins σ H { s with heap := s'.heap, toks := s'.toks } := I.kept (t' := s'.toks) kk
    have es' : s' = { s with heap := s'.heap, toks := s'.toks } := by
      obtain ⟨_, g, d, o, _⟩ := m
      obtain ⟨a1, a2, a3, a4, a5⟩ := s'
      dsimp only at g d o ⊢
      rw [g, d, o]
    rw [es']
    exact ⟨.ref ts[j], H, I2, rfl, q _ (List.getElem_mem hj')⟩
theorem pe_minLen {X : Cx} {e : Expr} {es : List Expr} {t : TA} {p p2 pos kpos : Pos} (hc : X.calm = true) (hg : Gl X "min") (hm : X.mg "min" = none) (hgl : Gl X "len") (hml : X.mg "len" = none) (ha : PA X (e :: es) t)
    (he : backTo pos (starEach (e :: es) X.env) = (false, eval e X.env) :: backTo pos (starEach es X.env) := by rfl) (hpl : (backTo pos (starEach (e :: es) X.env)).any (·.1) = false := by rfl) :
    PE X (.Call (.Name "min" p) (e :: es) [⟨some "key", .Name "len" p2, kpos⟩] pos) (tCB (rMinLen X.K) t) := by
  refine ⟨fun pins s σ H Q I h => ?_⟩
  refine wpAny_Call_Name_kw (ld_blt I hg hm (u := .builtin "min") (by decide +kernel) ?_)
  refine PyProof.Rows.callWith_kw (thn (ha.run pos pins s σ H _ I h) fun us s1 ⟨vs, H1, I1, r1, q1⟩ => ?_) he hpl rfl rfl
  show wpAny _ _ (evalAll [(do let v ← eval (.Name "len" p2) X.env; standAt pos; pure v)]) _ _ s1
  refine wpAny_evalAll_cons (wpAny_bind (ld_blt I1 hgl hml PySem.boot_len (wpAny_bind (wpAny_standAt (wpAny_pure (wpAny_evalAll_nil ?_))))))
  obtain ⟨a, ts, ex, hs, h0, hl, q⟩ := q1
  subst ex
  obtain rfl := Vals.ref1 r1
  exact min_len hc I1 hs h0 hl q
end Hd
set_option maxHeartbeats 4000000
namespace Hd
open PySem PySem.Spec PyProof.Rows L2
def top (i : Nat) : Stmt := PySem.Challenge.pw_heapsdouble_k04_whole_plans_that_empty.main.body.getD i (.Pass ⟨0, 0, 0, 0⟩)
/-! ### the draws -/
structure Tx (K : PySem.W.Frag) (mg : Str → Option Value) : Prop where
  int : mg "int" = none
  list : mg "list" = none
  max : mg "max" = none
  len : mg "len" = none
  tuple : mg "tuple" = none
  range : mg "range" = none
/-- the source of draws at h: [state, cells, index], the cells at c -/
structure DrawAt (H : Hp) (h c : Addr) : Prop where
  ex : ∃ (st ix : Int) (cells : List Int), H h = some (.lst [.int st, .ref c, .int ix]) ∧ H c = some (.lst (cells.map V.int)) ∧ cells.length ≤ 63
  ne : h ≠ c
/-- all but the source stands as it stood -/
def Kept (h c : Addr) (H H' : Hp) : Prop := ∀ a o, H a = some o → a ≠ h → a ≠ c → H' a = some o
theorem Kept.refl {h c : Addr} {H : Hp} : Kept h c H H := fun _ _ e _ _ => e
theorem Kept.of {h c : Addr} {H H' : Hp} (e : Same H H') : Kept h c H H' := fun a o q _ _ => e a o q
theorem Kept.trans {h c : Addr} {H H1 H2 : Hp} (a : Kept h c H H1) (b : Kept h c H1 H2) : Kept h c H H2 := fun x o e n m => b x o (a x o e n m) n m
theorem Kept.new {h c : Addr} {H H1 : Hp} {p : Addr} {o : HO} (a : Kept h c H H1) (hp : H p = none) : Kept h c H (upd H1 p o) := fun x u e n m => by
  rw [upd_ne (ne_of_none e hp)]
  exact a x u e n m
theorem Kept.at_h {h c : Addr} {H H1 : Hp} {o : HO} (a : Kept h c H H1) : Kept h c H (upd H1 h o) := fun x u e n m => by
  rw [upd_ne n]
  exact a x u e n m
theorem Kept.at_c {h c : Addr} {H H1 : Hp} {o : HO} (a : Kept h c H H1) : Kept h c H (upd H1 c o) := fun x u e n m => by
  rw [upd_ne m]
  exact a x u e n m
theorem DrawAt.new {H : Hp} {h c p : Addr} {o : HO} (d : DrawAt H h c) (hp : H p = none) : DrawAt (upd H p o) h c := by
  obtain ⟨⟨st, ix, cells, h1, h2, h3⟩, ne⟩ := d
  exact ⟨⟨st, ix, cells, by rw [upd_ne (ne_of_none h1 hp)]; exact h1, by rw [upd_ne (ne_of_none h2 hp)]; exact h2, h3⟩, ne⟩
theorem DrawAt.upd {H : Hp} {h c p : Addr} {o : HO} (d : DrawAt H h c) (hh : p ≠ h) (hc : p ≠ c) : DrawAt (upd H p o) h c := by
  obtain ⟨⟨st, ix, cells, h1, h2, h3⟩, ne⟩ := d
  exact ⟨⟨st, ix, cells, by rw [upd_ne (Ne.symm hh)]; exact h1, by rw [upd_ne (Ne.symm hc)]; exact h2, h3⟩, ne⟩
theorem DrawAt.same {H H' : Hp} {h c : Addr} (d : DrawAt H h c) (e : Same H H') : DrawAt H' h c := by
  obtain ⟨⟨st, ix, cells, h1, h2, h3⟩, ne⟩ := d
  exact ⟨⟨st, ix, cells, e _ _ h1, e _ _ h2, h3⟩, ne⟩
theorem DrawAt.nots {H : Hp} {h c p : Addr} (d : DrawAt H h c) (hp : H p = none) : p ≠ h ∧ p ≠ c := by
  obtain ⟨⟨st, ix, cells, h1, h2, h3⟩, ne⟩ := d
  exact ⟨(ne_of_none h1 hp).symm, (ne_of_none h2 hp).symm⟩
theorem Kept.free {h c p : Addr} {H H' : Hp} (k : Kept h c H H') (d : DrawAt H' h c) (hp : H' p = none) : H p = none := by
  obtain ⟨n1, n2⟩ := d.nots hp
  cases e : H p with
  | none => rfl
  | some o =>
    rw [k p o e n1 n2] at hp
    cases hp
theorem Kept.tup {K : PySem.W.Frag} {h c a : Addr} {H H' : Hp} {xs : List V} (k : Kept h c H H') (d : DrawAt H h c) (q : SqT K H a xs) : SqT K H' a xs := by
  obtain ⟨⟨st, ix, cells, h1, h2, h3⟩, ne⟩ := d
  rcases q with (q | ⟨o, q⟩) | q
  · exact .inl (.inl (k _ _ q (ne_of q h1 (by intro z; cases z)) (ne_of q h2 (by intro z; cases z))))
  · exact .inl (.inr ⟨o, k _ _ q (ne_of q h1 (by intro z; cases z)) (ne_of q h2 (by intro z; cases z))⟩)
  · exact .inr q
def spMix (K : PySem.W.Frag) : Sp := fun vs H Q _ => ∃ (a : Addr) (ns : List Int) (seed : Int), vs = [.ref a, .int seed] ∧ SqL K H a (ns.map V.int) ∧ ns.length ≤ 63 ∧
  ∀ (h c : Addr) (H' : Hp), H h = none → H c = none → Same H H' → DrawAt H' h c → Q (.ref h) H'
def spNext : Sp := fun vs H Q _ => ∃ (h c : Addr) (b : Int), vs = [.ref h, .int b] ∧ DrawAt H h c ∧ 0 < b ∧ b < 2 ^ 200 ∧
  ∀ (n : Int) (H' : Hp), 0 ≤ n → n < b → DrawAt H' h c → Kept h c H H' → Q (.int n) H'
/-- the place of the drawn cell -/
theorem draw_ix (cells : List Int) (ix : Int) : ∃ (j : Nat) (z : Int), ix % (if (cells.length : Int) > 1 then (cells.length : Int) else 1) = (j : Int) ∧ (cells.map V.int ++ [V.int 0])[j]? = some (.int z) ∧ (cells = [] → z = 0) ∧ (cells ≠ [] → j < cells.length ∧ (if (cells.length : Int) > 1 then (cells.length : Int) else 1) = (cells.length : Int)) := by
  have hm : 0 < (if (cells.length : Int) > 1 then (cells.length : Int) else 1) := by split <;> omega
  have h0 := Int.emod_nonneg ix (Int.ne_of_gt hm)
  have h1 := Int.emod_lt_of_pos ix hm
  obtain ⟨j, hj⟩ := Int.eq_ofNat_of_zero_le h0
  rw [hj] at h1
  cases cells with
  | nil =>
    refine ⟨j, 0, hj, ?_, fun _ => rfl, fun h => absurd rfl h⟩
    simp at h1
    have : j = 0 := by omega
    subst this
    rfl
  | cons x r =>
    have hm2 : (if (((x :: r).length : Nat) : Int) > 1 then (((x :: r).length : Nat) : Int) else 1) = (((x :: r).length : Nat) : Int) := by
      split
      · rfl
      · have : (((x :: r).length : Nat) : Int) ≥ 1 := by rw [List.length_cons]; omega
        omega
    rw [hm2] at h1
    have hlt : j < (x :: r).length := by omega
    refine ⟨j, (x :: r)[j], hj, ?_, fun h => (nomatch h), fun _ => ⟨hlt, hm2⟩⟩
    rw [List.getElem?_append_left (by rw [List.length_map]; exact hlt), List.getElem?_map, List.getElem?_eq_getElem hlt]
    rfl
theorem int_at {ns : List Int} {i : Nat} {y : V} (hi : (ns.map V.int)[i]? = some y) : ∃ z, ns[i]? = some z ∧ y = V.int z := by
  rw [List.getElem?_map] at hi
  cases e : ns[i]? with
  | none =>
    rw [e] at hi
    cases hi
  | some z =>
    rw [e] at hi
    exact ⟨z, rfl, (Option.some.inj hi).symm⟩
section
variable {P : Program} {w : World} {K : PySem.W.Frag} {mg : Str → Option Value} {base : Heap}
abbrev s_l_mix : Stmt := top 33
theorem sc_l_mix : FnScope ["_law_script", "_law_seed", "_law_state", "_law_cell"] ["_law_script", "_law_seed"] (defScope s_l_mix) := ⟨rfl, rfl, rfl, by decide +kernel, rfl, by decide +kernel, by decide +kernel⟩
theorem ok_mix {f : Addr} {fd : FuncData} (F : Fun K "_law_mix" "_law_mix" s_l_mix f fd) (T : Tx K mg) : FnOk P w K mg base CX0 1 f fd ["_law_script", "_law_seed"] (spMix K) := by
  refine F.ok sc_l_mix (fun vs H Q E h => ?_) (fun cdv A outer s H vs Q E hr h => ?_)
  · obtain ⟨a, ns, seed, rfl, _⟩ := h
    rfl
  · obtain ⟨a, ns, seed, rfl, hS, hlen, k⟩ := h
    refine ⟨_, (pss_cons (ps_set (i := 2) sc_l_mix.nd rfl (Or.inl rfl) (pv 1))
      (pss_cons (ps_for PassesOwn.never rfl (pi_list (pv 0)) (pg_name (i := 3) sc_l_mix.nd rfl (Or.inl rfl))
      (pss_one (ps_set (i := 2) sc_l_mix.nd rfl (Or.inl rfl) (pe_op op_mod (pe_callTy call_int1 (by rfl) T.int (by decide +kernel) (pa_cons (pe_op op_add (pe_op op_add (pe_op op_mul (pv 2) pe_int) (pe_op op_mod (pe_callTy call_int1 (by rfl) T.int (by decide +kernel) (pa_cons (pv 3) pa_nil)) pe_int)) pe_int) pa_nil)) pe_int))))
      (pss_one (ps_ret (pe_lst (pa_cons (pv 2) (pa_cons (pe_callTy call_list_of (by rfl) T.list (by decide +kernel) (pa_cons (pv 0) pa_nil)) (pa_cons pe_int pa_nil)))))))), ?_⟩
    refine ⟨_, rfl, _, rfl, a, rfl, ⟨_, hS⟩, for_list (K := K) (a := a) (xs := ns.map V.int) (fun i σ H2 => ∃ (st : Int) (v : Option V), σ = [some (.ref a), some (.int seed), some (.int st), v] ∧ H2 = H)
      ⟨seed, none, rfl, rfl⟩ (fun i σ H2 _ ⟨_, _, _, e⟩ => by rw [e]; exact hS) ?_ ?_⟩
    · rintro i y σ H2 hi ⟨st, v, rfl, rfl⟩
      obtain ⟨z, _, rfl⟩ := int_at hi
      refine ⟨_, rfl, _, _, rfl, rfl, .inr ⟨by decide, by decide⟩, _, rfl, .inl ⟨_, rfl, _, _, rfl, rfl, (by show (0 : Int) < 2147483629; decide), _, _, rfl, rfl, _, _, rfl, rfl, .inl ⟨_, rfl, _, _, rfl, rfl, (by show (0 : Int) < 2147483647; decide), ?_⟩⟩⟩
      exact ⟨_, _, rfl, rfl⟩
    · rintro σ H2 ⟨st, v, rfl, rfl⟩
      refine ⟨_, rfl, _, rfl, a, _, rfl, .inl hS, fun c hc => ⟨by show 3 ≤ sizeLine; decide, fun h hh => ?_⟩⟩
      have hch : h ≠ c := fun e => by
        rw [e, upd_same] at hh
        cases hh
      have hh0 : H2 h = none := by
        rw [upd_ne hch] at hh
        exact hh
      refine k h c _ hh0 hc (same_upd (same_upd (Same.refl _) hc) hh0) ⟨⟨st, 0, ns, upd_same, by rw [upd_ne hch.symm, upd_same], hlen⟩, hch⟩
abbrev s_l_next : Stmt := top 34
theorem sc_l_next : FnScope ["_law_h", "_law_bound", "_law_cell", "_law_cells"] ["_law_h", "_law_bound"] (defScope s_l_next) := ⟨rfl, rfl, rfl, by decide +kernel, rfl, by decide +kernel, by decide +kernel⟩
theorem ok_next {f : Addr} {fd : FuncData} (F : Fun K "_law_next" "_law_next" s_l_next f fd) (T : Tx K mg) : FnOk P w K mg base CX0 1 f fd ["_law_h", "_law_bound"] spNext := by
  refine F.ok sc_l_next (fun vs H Q E h => ?_) (fun cdv A outer s H vs Q E hr h => ?_)
  · obtain ⟨a, c, b, rfl, _⟩ := h
    rfl
  · obtain ⟨h, c, b, rfl, D, hb, hb2, k⟩ := h
    obtain ⟨⟨st, ix, cells, hh, hc, hl⟩, hne0⟩ := id D
    refine ⟨_, (pss_cons (ps_set (i := 2) sc_l_next.nd rfl (Or.inl rfl) (pe_ix ix_list (pe_op op_cat (pe_ix ix_list (pv 0) pe_int (fun _ _ => rfl)) (pe_lst (pa_cons pe_int pa_nil))) (pe_op op_mod (pe_callTy call_int1 (by rfl) T.int (by decide +kernel) (pa_cons (pe_ix ix_list (pv 0) pe_int (fun _ _ => rfl)) pa_nil)) (pe_callB (call_max2 rfl) (by rfl) T.max (by decide +kernel) (pa_cons pe_int (pa_cons (pe_callB call_len_seq (by rfl) T.len PySem.boot_len (pa_cons (pe_ix ix_list (pv 0) pe_int (fun _ _ => rfl)) pa_nil)) pa_nil)))) (fun _ _ => rfl)))
      (pss_cons (ps_if (pt_cmpR op_ge (pv 2) (pe_op op_pow pe_int pe_int) (nomark _)) (pss_cons (ps_set (i := 3) sc_l_next.nd rfl (Or.inl rfl) (pe_ix ix_list (pv 0) pe_int (fun _ _ => rfl)))
      (pss_cons (ps_asg (pe_op op_fdivW (pv 2) (pv 1)) (pg_sub (pv 3) (pe_op op_mod (pe_callTy call_int1 (by rfl) T.int (by decide +kernel) (pa_cons (pe_ix ix_list (pv 0) pe_int (fun _ _ => rfl)) pa_nil)) (pe_callB call_len_seq (by rfl) T.len PySem.boot_len (pa_cons (pv 3) pa_nil))) set_list))
      (pss_one (ps_ret (pe_op op_mod (pe_callTy call_int1 (by rfl) T.int (by decide +kernel) (pa_cons (pv 2) pa_nil)) (pv 1)))))) pss_nil)
      (pss_cons (ps_asg (pe_op op_mod (pe_callTy call_int1 (by rfl) T.int (by decide +kernel) (pa_cons (pe_op op_add (pe_op op_add (pe_op op_mul (pe_ix ix_list (pv 0) pe_int (fun _ _ => rfl)) pe_int) (pe_op op_mul (pv 2) pe_int)) pe_int) pa_nil)) pe_int) (pg_sub (pv 0) pe_int set_list))
      (pss_cons (ps_asg (pe_op op_add (pe_ix ix_list (pv 0) pe_int (fun _ _ => rfl)) pe_int) (pg_sub (pv 0) pe_int set_list))
      (pss_one (ps_ret (pe_op op_mod (pe_callTy call_int1 (by rfl) T.int (by decide +kernel) (pa_cons (pe_op op_fdiv (pe_ix ix_list (pv 0) pe_int (fun _ _ => rfl)) pe_int) pa_nil)) (pv 1)))))))), ?_⟩
    obtain ⟨j, z, ej, ez, e0, e1⟩ := draw_ix cells ix
    -- _law_cell
    refine ⟨_, rfl, h, _, _, _, rfl, rfl, SqL.of hh, rfl, by show 1 ≤ sizeLine; decide, fun p hp => ?_⟩
    have nph : h ≠ p := ne_of_none hh hp
    have npc : c ≠ p := ne_of_none hc hp
    refine ⟨c, p, _, _, rfl, rfl, by rw [upd_ne npc]; exact hc, upd_same, ?_, fun q hq => ?_⟩
    · rw [List.length_map, sizeLine_eq]
      show cells.length + 1 ≤ _
      omega
    have nqp : p ≠ q := ne_of_none upd_same hq
    have hq' : H q = none := by
      rw [upd_ne nqp.symm] at hq
      exact hq
    have nqh : h ≠ q := ne_of_none hh hq'
    have nqc : c ≠ q := ne_of_none hc hq'
    have hh2 : (upd (upd H p (.lst [.int 0])) q (.lst (cells.map V.int ++ [.int 0]))) h = some (.lst [.int st, .ref c, .int ix]) := by rw [upd_ne nqh, upd_ne nph]; exact hh
    have hc2 : (upd (upd H p (.lst [.int 0])) q (.lst (cells.map V.int ++ [.int 0]))) c = some (.lst (cells.map V.int)) := by rw [upd_ne nqc, upd_ne npc]; exact hc
    have hq2 : (upd (upd H p (.lst [.int 0])) q (.lst (cells.map V.int ++ [.int 0]))) q = some (.lst (cells.map V.int ++ [.int 0])) := upd_same
    have kk : Kept h c H (upd (upd H p (.lst [.int 0])) q (.lst (cells.map V.int ++ [.int 0]))) := (Kept.refl.new hp).new hq'
    generalize upd (upd H p (.lst [.int 0])) q (.lst (cells.map V.int ++ [.int 0])) = H2 at hh2 hc2 hq2 kk ⊢
    refine ⟨_, rfl, h, _, _, _, rfl, rfl, SqL.of hh2, rfl, .inl ⟨_, rfl, _, rfl, h, _, _, _, rfl, rfl, SqL.of hh2, rfl, c, _, rfl, .inl (SqL.of hc2), _, _, rfl, ?_⟩⟩
    rw [List.length_map]
    refine ⟨_, _, rfl, rfl, (by split <;> omega), q, _, _, _, rfl, rfl, SqL.of hq2, at_of ej ez, ?_⟩
    -- if _law_cell >= 10 ** 18
    refine ⟨_, rfl, _, _, rfl, rfl, ⟨by decide, by decide, by decide⟩, _, _, rfl, rfl, _, rfl, ?_⟩
    refine ite2 (fun hge => ?_) (fun _ => ?_)
    · have hz : (10 : Int) ^ 18 ≤ z := of_decide_eq_true hge
      have hz0 : z ≠ 0 := by omega
      have hne : cells ≠ [] := fun e => hz0 (e0 e)
      obtain ⟨hj, em⟩ := e1 hne
      rw [em] at ej
      refine ⟨_, rfl, h, _, _, _, rfl, rfl, SqL.of hh2, rfl, _, rfl, _, rfl, _, _, rfl, rfl, wide_div hb (b := 200) ?_ (by decide) (by decide), ?_⟩
      · omega
      refine ⟨_, rfl, _, rfl, h, _, _, _, rfl, rfl, SqL.of hh2, rfl, .inl ⟨_, rfl, _, rfl, c, _, rfl, .inl (SqL.of hc2), _, _, rfl, rfl, ?_, ?_⟩⟩
      · rw [List.length_map]
        omega
      refine ⟨c, _, _, j, rfl, rfl, hc2, ?_, ?_⟩
      · rw [List.length_map, ej]
        unfold ixN
        rw [if_pos (by omega), if_pos (by omega)]
        simp
      refine ⟨_, rfl, .inl ⟨_, rfl, _, rfl, _, _, rfl, rfl, hb, ?_⟩⟩
      refine k _ _ (Int.emod_nonneg _ (by omega)) (Int.emod_lt_of_pos _ hb) ⟨⟨st, ix, cells.set j (z / b), ?_, ?_, by rw [List.length_set]; exact hl⟩, hne0⟩ kk.at_c
      · rw [upd_ne hne0]
        exact hh2
      · rw [upd_same, List.map_set]
    · -- _law_h[0] = ..
      refine ⟨_, rfl, h, _, _, _, rfl, rfl, SqL.of hh2, rfl, _, _, rfl, rfl, .inr ⟨by decide, by decide⟩, _, rfl, _, _, rfl, rfl, .inr ⟨by decide, by decide⟩, _, _, rfl, rfl, _, _, rfl, rfl, .inl ⟨_, rfl, _, _, rfl, rfl, (by show (0 : Int) < 2147483647; decide), ?_⟩⟩
      refine ⟨_, rfl, h, _, _, 0, rfl, rfl, hh2, rfl, ?_⟩
      -- _law_h[2] = _law_h[2] + 1
      refine ⟨_, rfl, h, _, _, _, rfl, rfl, SqL.of upd_same, rfl, _, _, rfl, rfl, _, rfl, h, _, _, 2, rfl, rfl, upd_same, rfl, ?_⟩
      refine ⟨_, rfl, h, _, _, _, rfl, rfl, SqL.of upd_same, rfl, _, _, rfl, rfl, ⟨by decide, by decide⟩, .inl ⟨_, rfl, _, rfl, _, _, rfl, rfl, hb, ?_⟩⟩
      refine k _ _ (Int.emod_nonneg _ (by omega)) (Int.emod_lt_of_pos _ hb) ⟨⟨_, _, cells, upd_same, ?_, hl⟩, hne0⟩ kk.at_h.at_h
      rw [upd_ne hne0.symm, upd_ne hne0.symm]
      exact hc2
/-- heaps are drawn: so many, none below 0, not all empty -/
structure HeapsOk (least most : Nat) (ns : List Int) : Prop where
  lo : least ≤ ns.length
  hi : ns.length ≤ most
  ge : ∀ n ∈ ns, 0 ≤ n
  le : ∀ n ∈ ns, n ≤ 10 ^ 30
  pos : ∃ n ∈ ns, 0 < n
def spHeaps : Sp := fun vs H Q _ => ∃ (h c : Addr) (least most : Nat), vs = [.ref h, .int (least : Int), .int (most : Int)] ∧ DrawAt H h c ∧ 1 ≤ least ∧ least ≤ most ∧ most ≤ 6 ∧
  ∀ (t : Addr) (ns : List Int) (H' : Hp), HeapsOk least most ns → H t = none → H' t = some (.tup (ns.map V.int)) → DrawAt H' h c → Kept h c H H' → Q (.ref t) H'
theorem pick5 {x0 x1 x2 x3 x4 : Int} {n : Int} (h0 : 0 ≤ n) (h5 : n < 5) : ∃ z, atI [V.int x0, V.int x1, V.int x2, V.int x3, V.int x4] n = some (V.int z) ∧ z ∈ [x0, x1, x2, x3, x4] := by
  have : n = 0 ∨ n = 1 ∨ n = 2 ∨ n = 3 ∨ n = 4 := by omega
  rcases this with e | e | e | e | e <;> subst e <;> exact ⟨_, rfl, by simp⟩
abbrev s_l_heaps : Stmt := top 35
theorem sc_l_heaps : FnScope ["_law_h", "_law_least", "_law_most", "_law_size", "_law_far", "_law_part_here", "_law_found", "_law_k"] ["_law_h", "_law_least", "_law_most"] (defScope s_l_heaps) := ⟨rfl, rfl, rfl, by decide +kernel, rfl, by decide +kernel, by decide +kernel⟩
theorem ok_heaps {f : Addr} {fd : FuncData} (F : Fun K "_law_heaps" "_law_heaps" s_l_heaps f fd) (T : Tx K mg) (C_l_next : Cal P w K mg base CX0 1 "_law_next" ["_law_h", "_law_bound"] spNext) : FnOk P w K mg base CX0 2 f fd ["_law_h", "_law_least", "_law_most"] spHeaps := by
  refine F.ok sc_l_heaps (fun vs H Q E h => ?_) (fun cdv A outer s H vs Q E hr h => ?_)
  · obtain ⟨a, c, l, m, rfl, _⟩ := h
    rfl
  · obtain ⟨h, c, least, most, rfl, D, h1, h2, h3, k⟩ := h
    refine ⟨_, (pss_cons (ps_set (i := 3) sc_l_heaps.nd rfl (Or.inl rfl) (pe_op op_add (pv 1) (pe_cal C_l_next hr rfl pass0 (pa_cons (pv 0) (pa_cons (pe_op op_add (pe_op op_sub (pv 2) (pv 1)) pe_int) pa_nil)))))
      (pss_cons (ps_set (i := 4) sc_l_heaps.nd rfl (Or.inr rfl) (pe_ix ix_list (pe_lst (pa_cons pe_int (pa_cons pe_int (pa_cons pe_int (pa_cons (pe_op op_pow pe_int pe_int) (pa_cons (pe_op op_pow pe_int pe_int) pa_nil)))))) (pe_cal C_l_next hr rfl pass0 (pa_cons (pv 0) (pa_cons pe_int pa_nil))) (fun _ _ => rfl)))
      (pss_cons (ps_set (i := 5) sc_l_heaps.nd rfl (Or.inr rfl) (pe_ix ix_list (pe_lst (pa_cons pe_int (pa_cons pe_int (pa_cons pe_int (pa_cons pe_int (pa_cons pe_int pa_nil)))))) (pe_cal C_l_next hr rfl pass0 (pa_cons (pv 0) (pa_cons pe_int pa_nil))) (fun _ _ => rfl)))
      (pss_cons (ps_setLc (i := 6) (own := [("_law_k", 7)]) (g := gName 7) (by rfl) sc_l_heaps.nd rfl rfl (sw_true rfl rfl rfl (by decide +kernel)) (pi_range1 rfl T.range (pa_cons (pv 3) pa_nil)) (blkOk_by (own := [("_law_k", 7)]) (N := ["_law_h", "_law_least", "_law_most", "_law_size", "_law_far", "_law_part_here", "_law_found", "_law_k"]) (sc := defScope s_l_heaps) (by decide +kernel)) (fun _ _ _ _ _ => pg_name (i := 7) sc_l_heaps.nd rfl (Or.inl rfl)) (fun _ _ _ _ _ => pts_nil) (fun _ _ _ _ _ => (pe_op op_mul (pv 5) (pe_cal C_l_next hr rfl pass0 (pa_cons (pv 0) (pa_cons (pv 4) pa_nil))))))
      (pss_cons (ps_if (pt_cmpR op_eq (pe_callB (cr_max rfl) (by rfl) T.max (by decide +kernel) (pa_cons (pv 6) pa_nil)) pe_int (nomark _)) (pss_one (ps_asg (pv 5) (pg_sub (pv 6) (pe_cal C_l_next hr rfl pass0 (pa_cons (pv 0) (pa_cons (pv 3) pa_nil))) set_list))) pss_nil)
      (pss_one (ps_ret (pe_callTy call_tuple_of (by rfl) T.tuple (by decide +kernel) (pa_cons (pv 6) pa_nil))))))))), ?_⟩
    -- _law_size
    refine ⟨_, rfl, _, rfl, _, rfl, _, rfl, _, _, rfl, rfl, _, _, rfl, rfl, h, c, _, rfl, D, by omega, by omega, fun n1 H1 l1 u1 D1 k1 => ⟨_, _, rfl, rfl, ?_⟩⟩
    obtain ⟨n1, rfl⟩ := Int.eq_ofNat_of_zero_le l1
    -- _law_far
    refine ⟨_, _, rfl, rfl, ⟨by decide, by decide, by decide⟩, _, _, rfl, rfl, ⟨by decide, by decide, by decide⟩, by show 5 ≤ sizeLine; decide, fun p hp => ?_⟩
    refine ⟨_, rfl, h, c, _, rfl, D1.new hp, by omega, by omega, fun n2 H2 l2 u2 D2 k2 => ?_⟩
    obtain ⟨np1, np2⟩ := D1.nots hp
    obtain ⟨far, e2, far_in⟩ := pick5 (x0 := 4) (x1 := 9) (x2 := 60) (x3 := 10 ^ (15 : Int).toNat) (x4 := 10 ^ (29 : Int).toNat) l2 u2
    refine ⟨p, _, _, _, rfl, rfl, SqL.of (k2 p _ upd_same np1 np2), e2, ?_⟩
    have hfar : 0 < far ∧ far ≤ 10 ^ 29 := by
      simp only [List.mem_cons, List.mem_nil_iff, or_false] at far_in
      rcases far_in with e | e | e | e | e <;> subst e <;> decide
    have k2' : Kept h c H H2 := (k1.new (k1.free D1 hp)).trans k2
    -- _law_part
    refine ⟨by show 5 ≤ sizeLine; decide, fun p3 hp3 => ?_⟩
    refine ⟨_, rfl, h, c, _, rfl, D2.new hp3, by omega, by omega, fun n3 H3 l3 u3 D3 k3 => ?_⟩
    obtain ⟨mp1, mp2⟩ := D2.nots hp3
    obtain ⟨part, e3, part_in⟩ := pick5 (x0 := 1) (x1 := 1) (x2 := 2) (x3 := 3) (x4 := 8) l3 u3
    refine ⟨p3, _, _, _, rfl, rfl, SqL.of (k3 p3 _ upd_same mp1 mp2), e3, ?_⟩
    have hpart : 1 ≤ part ∧ part ≤ 8 := by
      simp only [List.mem_cons, List.mem_nil_iff, or_false] at part_in
      rcases part_in with e | e | e | e | e <;> subst e <;> decide
    have k3' : Kept h c H H3 := (k2'.new (k2'.free D2 hp3)).trans k3
    -- _law_found
    refine ⟨_, rfl, _, rfl, by omega, by omega, ?_⟩
    have esz : ((least : Int) + (n1 : Int)).toNat = least + n1 := by omega
    rw [esz]
    intro DD hDD
    obtain ⟨dd1, dd2⟩ := D3.nots hDD
    refine lc_range (lo := 0) (n := least + n1) (fun i H4 => ∃ ms : List Int, H4 DD = some (.lst (ms.map V.int)) ∧ ms.length = i ∧ (∀ m ∈ ms, 0 ≤ m ∧ m ≤ 8 * 10 ^ 29) ∧ DrawAt H4 h c ∧ Kept h c H H4) ?_ ?_ ?_
    · exact ⟨[], upd_same, rfl, fun m hm => (nomatch hm), D3.new hDD, k3'.new (k3'.free D3 hDD)⟩
    · rintro i H4 hi ⟨ms, hms, hlen, hb, D4, k4⟩
      refine ⟨rfl, _, rfl, _, rfl, _, rfl, h, c, far, rfl, D4, hfar.1, by omega, fun n H5 l5 u5 D5 k5 => ⟨_, _, rfl, rfl, .inl ⟨by omega, by omega⟩, ms.map V.int, k5 DD _ hms dd1 dd2, ?_, ?_⟩⟩
      · rw [List.length_map, sizeLine_eq]
        omega
      refine ⟨ms ++ [part * n], by rw [upd_same, List.map_append]; rfl, by rw [List.length_append, hlen]; rfl, fun m hm => ?_, D5.upd dd1 dd2, (k4.trans k5).new (k3'.free D3 hDD)⟩
      rcases List.mem_append.mp hm with hm | hm
      · exact hb m hm
      · have em : m = part * n := by simpa using hm
        subst em
        refine ⟨Int.mul_nonneg (by omega) l5, ?_⟩
        have q := Int.mul_le_mul (a := part) (b := n) (c := 8) (d := 10 ^ 29) hpart.2 (by omega) l5 (by omega)
        exact q
    · rintro H4 ⟨ms, hms, hlen, hb, D4, k4⟩
      have hlen' : ms.length ≤ most := by omega
      have hpos : 0 < ms.length := by omega
      refine ⟨_, rfl, DD, ms, rfl, SqL.of hms, hpos, fun m hm hle => ⟨rfl, _, rfl, ?_⟩⟩
      refine ite2 (fun hz => ?_) (fun hz => ?_)
      · refine ⟨_, rfl, _, rfl, _, rfl, _, rfl, h, c, _, rfl, D4, by omega, by omega, fun n H5 l5 u5 D5 k5 => ?_⟩
        obtain ⟨n, rfl⟩ := Int.eq_ofNat_of_zero_le l5
        have hn : n < ms.length := by omega
        refine ⟨DD, _, _, n, rfl, rfl, k5 DD _ hms dd1 dd2, ?_, ?_⟩
        · rw [List.length_map]
          unfold ixN
          rw [if_pos (by omega), if_pos (by omega)]
          simp
        refine ⟨_, rfl, DD, _, rfl, .inl ⟨SqL.of upd_same, fun t ht => ?_⟩⟩
        have htD : t ≠ DD := fun e => by
          rw [e, upd_same] at ht
          cases ht
        have D6 := D5.upd (o := .lst ((ms.map V.int).set n (.int part))) dd1 dd2
        have k6 : Kept h c H (upd H5 DD (.lst ((ms.map V.int).set n (.int part)))) := (k4.trans k5).new (k3'.free D3 hDD)
        refine k t (ms.set n part) _ ⟨by rw [List.length_set]; omega, by rw [List.length_set]; omega, fun y hy => ?_, fun y hy => ?_, ⟨part, ?_, by omega⟩⟩ (k6.free D6 ht) (by rw [upd_same, List.map_set]) (D6.new ht) (k6.new (k6.free D6 ht))
        · rcases List.mem_or_eq_of_mem_set hy with hy | hy
          · exact (hb y hy).1
          · omega
        · rcases List.mem_or_eq_of_mem_set hy with hy | hy
          · have := (hb y hy).2
            omega
          · omega
        · exact List.mem_iff_getElem?.mpr ⟨n, by rw [List.getElem?_set_self hn]⟩
      · refine ⟨_, rfl, DD, _, rfl, .inl ⟨SqL.of hms, fun t ht => ?_⟩⟩
        have hm0 : m ≠ 0 := fun e => hz (decide_eq_true (by rw [e]))
        have := (hb m hm).1
        refine k t ms _ ⟨by omega, hlen', fun y hy => (hb y hy).1, fun y hy => ?_, ⟨m, hm, by omega⟩⟩ (k4.free D4 ht) upd_same (D4.new ht) (k4.new (k4.free D4 ht))
        have := (hb y hy).2
        omega
end
end Hd
set_option maxHeartbeats 4000000
namespace Hd
open PySem PySem.Spec PyProof.Rows L2
theorem pe_gint {X : Cx} {x : Str} {v : Int} {pos : Pos} (hg : Gl X x) (hm : ∃ t, X.mg x = some (.int v t)) (hd : (x == ("__debug__" : Str)) = false := by decide) : PE X (.Name x pos) (tC (.int v)) := by
  obtain ⟨t, hm⟩ := hm
  exact pe_glob hg hm ⟨t, rfl⟩ hd
theorem tyx_tup {K : PySem.W.Frag} {H : Hp} {a : Addr} {xs : List V} (h : SqT K H a xs) : TyX K H (.ref a) (.type "tuple") := by
  rcases h with (h | ⟨o, h⟩) | ⟨o, its, n, hk, hc, _⟩
  · exact .base (.tup h)
  · exact .fTuple h
  · exact .kTuple hk hc
/-- what the program's top gives its defs -/
structure Tp (K : PySem.W.Frag) (mg : Str → Option Value) : Prop where
  int : mg "int" = none
  bool : mg "bool" = none
  list : mg "list" = none
  len : mg "len" = none
  tuple : mg "tuple" = none
  isinstance : mg "isinstance" = none
  all : mg "all" = none
  sum : mg "sum" = none
  enumerate : mg "enumerate" = none
  range : mg "range" = none
  c_FEWEST_HEAPS : ∃ t, mg "FEWEST_HEAPS" = some (.int 2 t)
  c_MOST_HEAPS : ∃ t, mg "MOST_HEAPS" = some (.int 6 t)
  c_GREATEST : ∃ t, mg "GREATEST" = some (.int (10 ^ 30) t)
/-! ### the mirror -/
def inR (l g v : Int) : Bool := decide (l ≤ v) && decide (v ≤ g)
def hpsB (ns : List Int) : Bool := (decide (2 ≤ ns.length) && decide (ns.length ≤ 6)) && ((ns.map (inR 0 (10 ^ 30))).all id && decide (0 < ns.sum))
theorem getD_at {ns : List Int} {i : Nat} (h : i < ns.length) : (ns.map V.int)[i]? = some (.int (ns.getD i 0)) := by
  rw [List.getElem?_map, List.getElem?_eq_getElem h]
  show some (V.int ns[i]) = _
  congr 2
  rw [List.getD_eq_getElem?_getD, List.getElem?_eq_getElem h]
  rfl
theorem ixN_nat {n i : Nat} (h : i < n) : ixN n (i : Int) = some i := by
  unfold ixN
  rw [if_pos (by omega), if_pos (by omega)]
  simp
/-! ### the promises -/
def spIsInt : Sp := fun vs H Q _ => ∃ v l g : Int, vs = [.int v, .int l, .int g] ∧ Q (.bl (inR l g v)) H
def spIsHeaps (K : PySem.W.Frag) : Sp := fun vs H Q _ => ∃ (t : Addr) (ns : List Int), vs = [.ref t] ∧ SqT K H t (ns.map V.int) ∧ ns.length ≤ 1000 ∧ ∀ H', Same H H' → Q (.bl (hpsB ns)) H'
def spChkHeaps (K : PySem.W.Frag) : Sp := fun vs H Q _ => ∃ (t : Addr) (ns : List Int), vs = [.ref t] ∧ SqT K H t (ns.map V.int) ∧ hpsB ns = true ∧ ∀ H', Same H H' → Q .non H'
section
variable {P : Program} {w : World} {K : PySem.W.Frag} {mg : Str → Option Value} {base : Heap}
abbrev s_is_integer : Stmt := top 16
theorem sc_is_integer : FnScope ["value", "least", "greatest"] ["value", "least", "greatest"] (defScope s_is_integer) := ⟨rfl, rfl, rfl, by decide +kernel, rfl, by decide +kernel, by decide +kernel⟩
theorem ok_is_integer {f : Addr} {fd : FuncData} (F : Fun K "is_integer" "is_integer" s_is_integer f fd) (T : Tp K mg) : FnOk P w K mg base CX0 1 f fd ["value", "least", "greatest"] spIsInt := by
  refine F.ok sc_is_integer (fun vs H Q E h => ?_) (fun cdv A outer s H vs Q E hr h => ?_)
  · obtain ⟨v, l, g, rfl, _⟩ := h
    rfl
  · obtain ⟨v, l, g, rfl, k⟩ := h
    refine ⟨_, (pss_cons (ps_if (PW.pt (pw_or (pt_val (pe_callB call_isi (by rfl) T.isinstance (by decide +kernel) (pa_cons (pv 0) (pa_cons (pe_bltn (v := .ty "bool") (u := .type "bool") (by rfl) T.bool (by decide +kernel) rfl) pa_nil)))) (pw_or1 (pt_not (pt_val (pe_callB call_isi (by rfl) T.isinstance (by decide +kernel) (pa_cons (pv 0) (pa_cons (pe_bltn (v := .ty "int") (u := .type "int") (by rfl) T.int (by decide +kernel) rfl) pa_nil)))))))) (pss_one (ps_ret pe_bl)) pss_nil)
      (pss_one (ps_ret (pe_chain op_le op_le (pv 1) (pv 0) (pv 2))))), ?_⟩
    refine ⟨_, rfl, _, _, _, _, false, rfl, ClsV.ty _, .base (.int _), kit_ty (by decide +kernel), _, rfl, ?_⟩
    refine iteF ⟨_, rfl, _, _, _, _, true, rfl, ClsV.ty _, .base (.int _), kit_ty (by decide +kernel), _, rfl, ?_⟩
    refine iteF ?_
    refine ⟨_, rfl, _, rfl, _, _, rfl, rfl, _, rfl, ?_⟩
    unfold inR at k
    cases hd : decide (l ≤ v) with
    | false =>
      rw [hd] at k
      exact iteF k
    | true =>
      rw [hd] at k
      exact iteT ⟨_, rfl, _, _, rfl, rfl, k⟩
abbrev s_is_heaps : Stmt := top 17
theorem sc_is_heaps : FnScope ["value", "heap"] ["value"] (defScope s_is_heaps) := ⟨rfl, rfl, rfl, by decide +kernel, rfl, by decide +kernel, by decide +kernel⟩
theorem ok_is_heaps {f : Addr} {fd : FuncData} (F : Fun K "is_heaps" "is_heaps" s_is_heaps f fd) (T : Tp K mg) (C_is_integer : Cal P w K mg base CX0 1 "is_integer" ["value", "least", "greatest"] spIsInt) : FnOk P w K mg base CX0 2 f fd ["value"] (spIsHeaps K) := by
  refine F.ok sc_is_heaps (fun vs H Q E h => ?_) (fun cdv A outer s H vs Q E hr h => ?_)
  · obtain ⟨t, ns, rfl, _⟩ := h
    rfl
  · obtain ⟨t, ns, rfl, hS, hl, k⟩ := h
    refine ⟨_, (pss_cons (ps_if (PW.pt (pw_or (pt_not (pt_val (pe_callB call_isi (by rfl) T.isinstance (by decide +kernel) (pa_cons (pv 0) (pa_cons (pe_bltn (v := .ty "tuple") (u := .type "tuple") (by rfl) T.tuple (by decide +kernel) rfl) pa_nil))))) (pw_or1 (pt_not (pt_chain op_le op_le (pe_gint rfl T.c_FEWEST_HEAPS) (pe_callB call_len_seq (by rfl) T.len PySem.boot_len (pa_cons (pv 0) pa_nil)) (pe_gint rfl T.c_MOST_HEAPS)))))) (pss_one (ps_ret pe_bl)) pss_nil)
      (pss_one (ps_ret (pe_and (pe_callB (cr_all rfl) (by rfl) T.all (by decide +kernel) (pa_cons (pe_lc (own := [("heap", 1)]) (g := gName 1) (by rfl) sc_is_heaps.nd (pi_tup (pv 0)) (blkOk_by (own := [("heap", 1)]) (N := ["value", "heap"]) (sc := defScope s_is_heaps) (by decide +kernel)) (fun _ _ _ _ _ => pg_name (i := 1) sc_is_heaps.nd rfl (Or.inl rfl)) (fun _ _ _ _ _ => pts_nil) (fun _ _ _ _ _ => (pe_cal C_is_integer hr rfl pass0 (pa_cons (pv 1) (pa_cons pe_int (pa_cons (pe_gint rfl T.c_GREATEST) pa_nil)))))) pa_nil)) (pe_one (pe_cmpR op_gt (pe_callB (cr_sumT rfl) (by rfl) T.sum (by decide +kernel) (pa_cons (pv 0) pa_nil)) pe_int (nomark _))))))), ?_⟩
    refine ⟨_, rfl, _, _, _, _, true, rfl, ClsV.ty _, tyx_tup hS, kit_ty (by decide +kernel), _, rfl, ?_⟩
    refine iteF ?_
    refine ⟨_, rfl, t, _, rfl, .inr hS, _, _, rfl, rfl, _, rfl, ?_⟩
    unfold hpsB at k
    rw [List.length_map]
    cases h2 : decide (2 ≤ ns.length) with
    | false =>
      have z : decide ((2 : Int) ≤ (ns.length : Int)) = false := decide_eq_false fun z => (of_decide_eq_false h2) (by omega)
      rw [z]
      refine iteF ⟨_, rfl, iteT ?_⟩
      rw [h2] at k
      exact k H (Same.refl _)
    | true =>
      have z : decide ((2 : Int) ≤ (ns.length : Int)) = true := decide_eq_true (by have := of_decide_eq_true h2; omega)
      rw [z]
      refine iteT ⟨_, _, rfl, rfl, _, rfl, ?_⟩
      cases h6 : decide (ns.length ≤ 6) with
      | false =>
        have z : decide ((ns.length : Int) ≤ 6) = false := decide_eq_false fun z => (of_decide_eq_false h6) (by omega)
        rw [z]
        refine iteT ?_
        rw [h2, h6] at k
        exact k H (Same.refl _)
      | true =>
        have z : decide ((ns.length : Int) ≤ 6) = true := decide_eq_true (by have := of_decide_eq_true h6; omega)
        rw [z]
        refine iteF ?_
        rw [h2, h6] at k
        refine ⟨_, rfl, t, rfl, ⟨_, hS⟩, fun D hD => lc_tup (K := K) (a := t) (xs := ns.map V.int) (fun i H1 => H1 D = some (.lst (((ns.take i).map (inR 0 (10 ^ 30))).map V.bl)) ∧ Same H H1) ⟨upd_same, Same.new hD⟩ (fun i H1 _ q => Same.tup q.2 hS) ?_ ?_⟩
        · rintro i x H1 hi ⟨hL, s1⟩
          obtain ⟨z, hz, rfl⟩ := int_at hi
          refine ⟨rfl, _, rfl, z, 0, 10 ^ 30, rfl, _, hL, ?_, ?_⟩
          · rw [List.length_map, List.length_map, List.length_take, sizeLine_eq]
            omega
          · refine ⟨?_, same_upd s1 hD⟩
            rw [upd_same, List.take_add_one, hz]
            simp
        · rintro H1 ⟨hL, s1⟩
          rw [List.length_map, List.take_length] at hL
          refine ⟨D, _, rfl, SqL.of hL, _, rfl, ?_⟩
          cases ha : (ns.map (inR 0 (10 ^ 30))).all id with
          | false =>
            rw [ha] at k
            exact iteF (k _ s1)
          | true =>
            rw [ha] at k
            exact iteT ⟨_, rfl, t, _, rfl, Same.tup s1 hS, _, _, rfl, rfl, k _ s1⟩
abbrev s_check_heaps : Stmt := top 18
theorem sc_check_heaps : FnScope ["heaps"] ["heaps"] (defScope s_check_heaps) := ⟨rfl, rfl, rfl, by decide +kernel, rfl, by decide +kernel, by decide +kernel⟩
theorem ok_check_heaps {f : Addr} {fd : FuncData} (F : Fun K "check_heaps" "check_heaps" s_check_heaps f fd) (T : Tp K mg) (C_is_heaps : Cal P w K mg base CX0 2 "is_heaps" ["value"] (spIsHeaps K)) : FnOk P w K mg base CX0 3 f fd ["heaps"] (spChkHeaps K) := by
  refine F.ok sc_check_heaps (fun vs H Q E h => ?_) (fun cdv A outer s H vs Q E hr h => ?_)
  · obtain ⟨t, ns, rfl, _⟩ := h
    rfl
  · obtain ⟨t, ns, rfl, hS, hg, k⟩ := h
    refine ⟨_, (pss_one (ps_if (pt_not (pt_val (pe_cal C_is_heaps hr rfl pass0 (pa_cons (pv 0) pa_nil)))) (pss_one ps_never) pss_nil)), ?_⟩
    refine ⟨_, rfl, t, ns, rfl, hS, ?_, fun H1 s1 => ⟨_, rfl, ?_⟩⟩
    · unfold hpsB at hg
      simp only [Bool.and_eq_true, decide_eq_true_eq] at hg
      omega
    rw [hg]
    exact iteF (k _ s1)
end
end Hd
set_option maxHeartbeats 4000000
/-! Steps of heaps, plans that can be made: numbers alone. -/
namespace Hd
open PySem PySem.Spec PyProof.Rows L2
def can (ns : List Int) (i j : Nat) : Bool := decide (0 < ns.getD j 0) && decide (ns.getD j 0 ≤ ns.getD i 0)
def shf (ns : List Int) (i j : Nat) (m : Int) : List Int := (ns.set i (ns.getD i 0 - m)).set j (ns.getD j 0 + m)
def mv (ns : List Int) (i j : Nat) : List Int := shf ns i j (ns.getD j 0)
theorem can_iff {ns : List Int} {i j : Nat} : can ns i j = true ↔ 0 < ns.getD j 0 ∧ ns.getD j 0 ≤ ns.getD i 0 := by
  unfold can
  simp only [Bool.and_eq_true, decide_eq_true_eq]
theorem len_mv (ns : List Int) (i j : Nat) : (mv ns i j).length = ns.length := by
  unfold mv shf
  rw [List.length_set, List.length_set]
theorem getD_set {ns : List Int} {i k : Nat} {v : Int} : (ns.set i v).getD k 0 = if k = i ∧ i < ns.length then v else ns.getD k 0 := by
  rw [List.getD_eq_getElem?_getD, List.getElem?_set, List.getD_eq_getElem?_getD]
  by_cases h : i = k
  · subst h
    rw [if_pos rfl]
    by_cases h2 : i < ns.length
    · rw [if_pos h2, if_pos ⟨rfl, h2⟩]
      rfl
    · rw [if_neg h2, if_neg fun z => h2 z.2, List.getElem?_eq_none (by omega)]
  · rw [if_neg h, if_neg fun z => h z.1.symm]
theorem getD_mv {ns : List Int} {i j k : Nat} (hi : i < ns.length) (hj : j < ns.length) (hij : i ≠ j) : (mv ns i j).getD k 0 = if k = j then 2 * ns.getD j 0 else if k = i then ns.getD i 0 - ns.getD j 0 else ns.getD k 0 := by
  unfold mv shf
  rw [getD_set, getD_set, List.length_set]
  by_cases h : k = j
  · rw [if_pos ⟨h, hj⟩, if_pos h]
    omega
  · rw [if_neg fun z => h z.1, if_neg h]
    by_cases h2 : k = i
    · rw [if_pos ⟨h2, hi⟩, if_pos h2]
    · rw [if_neg fun z => h2 z.1, if_neg h2]
/-- nothing below 0 -/
def NN (ns : List Int) : Prop := ∀ k, 0 ≤ ns.getD k 0
theorem nn_of {ns : List Int} (h : ∀ n ∈ ns, 0 ≤ n) : NN ns := fun k => by
  rw [List.getD_eq_getElem?_getD]
  cases e : ns[k]? with
  | none => exact Int.le_refl _
  | some v => exact h v (List.mem_of_getElem? e)
theorem NN.mem {ns : List Int} (h : NN ns) : ∀ n ∈ ns, 0 ≤ n := fun n hn => by
  obtain ⟨k, hk, e⟩ := List.mem_iff_getElem.mp hn
  have := h k
  rw [List.getD_eq_getElem?_getD, List.getElem?_eq_getElem hk] at this
  rw [← e]
  exact this
theorem NN.mv {ns : List Int} {i j : Nat} (h : NN ns) (hi : i < ns.length) (hj : j < ns.length) (hij : i ≠ j) (hc : can ns i j = true) : NN (mv ns i j) := fun k => by
  rw [getD_mv hi hj hij]
  obtain ⟨c1, c2⟩ := can_iff.mp hc
  have := h k
  split
  · omega
  · split <;> omega
theorem sum_set : ∀ (ns : List Int) (i : Nat) (v : Int), i < ns.length → (ns.set i v).sum = ns.sum + v - ns.getD i 0
  | [], i, v, h => absurd h (by simp)
  | x :: r, 0, v, _ => by
    simp only [List.set_cons_zero, List.sum_cons, List.getD_cons_zero]
    omega
  | x :: r, i + 1, v, h => by
    simp only [List.set_cons_succ, List.sum_cons, List.getD_cons_succ]
    rw [sum_set r i v (by simpa using h)]
    omega
theorem sum_mv {ns : List Int} {i j : Nat} (hi : i < ns.length) (hj : j < ns.length) (hij : i ≠ j) : (mv ns i j).sum = ns.sum := by
  unfold Hd.mv shf
  rw [sum_set _ _ _ (by rw [List.length_set]; exact hj), sum_set _ _ _ hi, getD_set, if_neg fun z => hij z.1.symm]
  omega
/-- the whole is at least what lies at unlike places -/
theorem sum_ge : ∀ (ns : List Int), NN ns → 0 ≤ ns.sum
  | [], _ => by simp
  | x :: r, h => by
    have := h 0
    have := sum_ge r fun k => by simpa using h (k + 1)
    simp only [List.sum_cons, List.getD_cons_zero] at *
    omega
theorem sum_del (ns : List Int) (i : Nat) (h : NN ns) (hi : i < ns.length) : (ns.set i 0).sum = ns.sum - ns.getD i 0 ∧ NN (ns.set i 0) := by
  refine ⟨by rw [sum_set _ _ _ hi]; omega, fun k => ?_⟩
  rw [getD_set]
  split
  · exact Int.le_refl _
  · exact h k
theorem sum_one {ns : List Int} {i : Nat} (h : NN ns) : ns.getD i 0 ≤ ns.sum := by
  by_cases hi : i < ns.length
  · obtain ⟨e, n⟩ := sum_del ns i h hi
    have := sum_ge _ n
    omega
  · rw [List.getD_eq_getElem?_getD, List.getElem?_eq_none (by omega)]
    exact sum_ge _ h
theorem sum_three {ns : List Int} {i j k : Nat} (h : NN ns) (hi : i < ns.length) (hj : j < ns.length) (hk : k < ns.length) (hij : i ≠ j) (hik : i ≠ k) (hjk : j ≠ k) : ns.getD i 0 + ns.getD j 0 + ns.getD k 0 ≤ ns.sum := by
  obtain ⟨e1, n1⟩ := sum_del ns i h hi
  obtain ⟨e2, n2⟩ := sum_del (ns.set i 0) j n1 (by rw [List.length_set]; exact hj)
  have e3 := sum_one (i := k) n2
  rw [getD_set, if_neg fun z => hjk z.1.symm, getD_set, if_neg fun z => hik z.1.symm] at e3
  rw [getD_set, if_neg fun z => hij z.1.symm] at e2
  omega
/-- a plan all of whose steps can be made -/
def run : List Int → List (Nat × Nat) → Option (List Int)
  | ns, [] => some ns
  | ns, s :: r => if can ns s.1 s.2 = true then run (mv ns s.1 s.2) r else none
theorem run_app : ∀ (ps : List (Nat × Nat)) (ns : List Int) (qs : List (Nat × Nat)), run ns (ps ++ qs) = (run ns ps).bind fun m => run m qs
  | [], ns, qs => rfl
  | p :: ps, ns, qs => by
    show (if can ns p.1 p.2 = true then run (mv ns p.1 p.2) (ps ++ qs) else none) = (if can ns p.1 p.2 = true then run (mv ns p.1 p.2) ps else none).bind _
    split
    · exact run_app ps _ qs
    · rfl
/-- the steps are of so many heaps -/
def Stp (n : Nat) (ps : List (Nat × Nat)) : Prop := ∀ p ∈ ps, p.1 < n ∧ p.2 < n ∧ p.1 ≠ p.2
theorem Stp.app {n : Nat} {ps qs : List (Nat × Nat)} (a : Stp n ps) (b : Stp n qs) : Stp n (ps ++ qs) := fun p hp => (List.mem_append.mp hp).elim (a p) (b p)
structure Gone (ns : List Int) (ps : List (Nat × Nat)) (m : List Int) : Prop where
  run : run ns ps = some m
  stp : Stp ns.length ps
theorem Gone.nil (ns : List Int) : Gone ns [] ns := ⟨rfl, fun p hp => nomatch hp⟩
theorem run_keeps : ∀ (ps : List (Nat × Nat)) (ns m : List Int), Stp ns.length ps → Hd.run ns ps = some m → m.length = ns.length ∧ m.sum = ns.sum ∧ (NN ns → NN m) ∧ (∀ g : Int, (∀ k, g ∣ ns.getD k 0) → ∀ k, g ∣ m.getD k 0)
  | [], ns, m, _, e => by
    have e' : ns = m := Option.some.inj e
    subst e'
    exact ⟨rfl, rfl, id, fun _ h => h⟩
  | p :: ps, ns, m, st, e => by
    obtain ⟨a, b, c⟩ := st p List.mem_cons_self
    have e' : (if can ns p.1 p.2 = true then Hd.run (Hd.mv ns p.1 p.2) ps else none) = some m := e
    by_cases hc : can ns p.1 p.2 = true
    · rw [if_pos hc] at e'
      obtain ⟨h1, h2, h3, h4⟩ := run_keeps ps (Hd.mv ns p.1 p.2) m (fun q hq => by rw [len_mv]; exact st q (List.mem_cons_of_mem _ hq)) e'
      rw [len_mv] at h1
      rw [sum_mv a b c] at h2
      refine ⟨h1, h2, fun n => h3 (n.mv a b c hc), fun g hg => h4 g fun k => ?_⟩
      rw [getD_mv a b c]
      split
      · exact Int.dvd_trans (hg p.2) (Int.dvd_mul_left _ _)
      · split
        · exact Int.dvd_sub (hg _) (hg _)
        · exact hg k
    · rw [if_neg hc] at e'
      cases e'
theorem Gone.len {ns m : List Int} {ps : List (Nat × Nat)} (h : Gone ns ps m) : m.length = ns.length := (run_keeps ps ns m h.stp h.run).1
theorem Gone.sum {ns m : List Int} {ps : List (Nat × Nat)} (h : Gone ns ps m) : m.sum = ns.sum := (run_keeps ps ns m h.stp h.run).2.1
theorem Gone.nn {ns m : List Int} {ps : List (Nat × Nat)} (h : Gone ns ps m) (n : NN ns) : NN m := (run_keeps ps ns m h.stp h.run).2.2.1 n
theorem Gone.dvd {ns m : List Int} {ps : List (Nat × Nat)} (h : Gone ns ps m) {g : Int} (n : ∀ k, g ∣ ns.getD k 0) : ∀ k, g ∣ m.getD k 0 := (run_keeps ps ns m h.stp h.run).2.2.2 g n
theorem Gone.app {ns m r : List Int} {ps qs : List (Nat × Nat)} (a : Gone ns ps m) (b : Gone m qs r) : Gone ns (ps ++ qs) r := by
  refine ⟨?_, a.stp.app ?_⟩
  · rw [run_app, a.run]
    exact b.run
  · rw [← a.len]
    exact b.stp
theorem Gone.one {ns : List Int} {i j : Nat} (hi : i < ns.length) (hj : j < ns.length) (hij : i ≠ j) (hc : can ns i j = true) : Gone ns [(i, j)] (Hd.mv ns i j) := by
  refine ⟨?_, fun p hp => ?_⟩
  · show (if can ns i j = true then some (Hd.mv ns i j) else none) = _
    rw [if_pos hc]
  · have e : p = (i, j) := by simpa using hp
    subst e
    exact ⟨hi, hj, hij⟩
/-! ### halving -/
/-- the state within halving: q the figures left, r those that are through, e the weight; the heaps ns at lo, mi, hi are m's there -/
structure Hv (ns : List Int) (lo mi hi : Nat) (p q r e : Int) (ps : List (Nat × Nat)) (m : List Int) : Prop where
  go : Gone ns ps m
  pq : p = q * e + r
  r0 : 0 ≤ r
  re : r < e
  q1 : 1 ≤ q
  len : e = 2 ^ ps.length
  lo_ : m.getD lo 0 = e * ns.getD lo 0
  mi_ : m.getD mi 0 = ns.getD mi 0 - r * ns.getD lo 0
  hi_ : m.getD hi 0 = ns.getD hi 0 - (e - 1 - r) * ns.getD lo 0
  un : ∀ k, k ≠ lo → k ≠ mi → k ≠ hi → m.getD k 0 = ns.getD k 0
/-- three heaps, the least first -/
structure Three (ns : List Int) (lo mi hi : Nat) : Prop where
  blo : lo < ns.length
  bmi : mi < ns.length
  bhi : hi < ns.length
  n1 : lo ≠ mi
  n2 : lo ≠ hi
  n3 : mi ≠ hi
  pos : 0 < ns.getD lo 0
  le1 : ns.getD lo 0 ≤ ns.getD mi 0
  le2 : ns.getD mi 0 ≤ ns.getD hi 0
theorem near_ok {a b : Int} (ha : 0 < a) (hab : a ≤ b) : 1 ≤ (2 * b + a - 1) / (2 * a) ∧ -a < 2 * b - 2 * ((2 * b + a - 1) / (2 * a) * a) ∧ 2 * b - 2 * ((2 * b + a - 1) / (2 * a) * a) ≤ a := by
  have h1 := Int.mul_ediv_add_emod (2 * b + a - 1) (2 * a)
  have h2 := Int.emod_nonneg (2 * b + a - 1) (show 2 * a ≠ 0 by omega)
  have h3 := Int.emod_lt_of_pos (2 * b + a - 1) (show 0 < 2 * a by omega)
  have h4 : 1 ≤ (2 * b + a - 1) / (2 * a) := by
    rw [Int.le_ediv_iff_mul_le (by omega)]
    omega
  have h5 : 2 * a * ((2 * b + a - 1) / (2 * a)) = 2 * ((2 * b + a - 1) / (2 * a) * a) := by
    rw [Int.mul_assoc, Int.mul_comm a]
  rw [h5] at h1
  refine ⟨h4, by omega, by omega⟩
theorem Hv.start {ns : List Int} {lo mi hi : Nat} {p : Int} (hp : 1 ≤ p) : Hv ns lo mi hi p p 0 1 [] ns :=
  ⟨.nil _, by omega, by omega, by omega, hp, rfl, by omega, by omega, by omega, fun _ _ _ _ => rfl⟩
theorem Hv.next {ns m : List Int} {lo mi hi : Nat} {p q r e : Int} {ps : List (Nat × Nat)} (T : Three ns lo mi hi) (h : Hv ns lo mi hi p q r e ps m) (hpa : (p - 1) * ns.getD lo 0 ≤ ns.getD mi 0) (hq : 1 < q) (g : Nat) (hg : g = if q % 2 = 1 then mi else hi) :
    Hv ns lo mi hi p (q / 2) (if q % 2 = 1 then r + e else r) (2 * e) (ps ++ [(g, lo)]) (mv m g lo) := by
  have hlen := h.go.len
  have a0 := T.pos
  have e1 : q = 2 * (q / 2) + q % 2 := by omega
  have hq2 : 1 ≤ q / 2 := by omega
  have he : 0 < e := by
    have := h.r0
    have := h.re
    omega
  have pe : 2 * e ≤ (q / 2) * (2 * e) := by
    have := Int.mul_le_mul_of_nonneg_right hq2 (show 0 ≤ 2 * e by omega)
    omega
  have r0 := h.r0
  have re := h.re
  have ea : 0 < e * ns.getD lo 0 := Int.mul_pos he a0
  have d2 : 2 * e * ns.getD lo 0 = 2 * (e * ns.getD lo 0) := Int.mul_assoc _ _ _
  have hlo : lo < m.length := by rw [hlen]; exact T.blo
  by_cases hb : q % 2 = 1
  · rw [if_pos hb] at hg
    subst hg
    rw [if_pos hb]
    have ep : p = (q / 2) * (2 * e) + (r + e) := by
      have : q * e = (q / 2) * (2 * e) + e := by
        rw (occs := [1]) [e1]
        rw [hb, Int.add_mul, Int.one_mul, Int.mul_comm 2, Int.mul_assoc]
      have := h.pq
      omega
    have k1 : (r + e) * ns.getD lo 0 ≤ (p - 1) * ns.getD lo 0 := Int.mul_le_mul_of_nonneg_right (by omega) (by omega)
    have k2 : (r + e) * ns.getD lo 0 = r * ns.getD lo 0 + e * ns.getD lo 0 := Int.add_mul _ _ _
    have k3 : (2 * e - 1 - (r + e)) = e - 1 - r := by omega
    have hmi : g < m.length := by rw [hlen]; exact T.bmi
    have hc : can m g lo = true := can_iff.mpr (by rw [h.lo_, h.mi_]; omega)
    refine ⟨h.go.app (.one hmi hlo (Ne.symm T.n1) hc), ep, by omega, by omega, hq2, ?_, ?_, ?_, ?_, fun k x1 x2 x3 => ?_⟩
    · rw [List.length_append, h.len]
      show 2 * 2 ^ ps.length = 2 ^ (ps.length + 1)
      rw [Int.pow_succ, Int.mul_comm]
    · rw [getD_mv hmi hlo (Ne.symm T.n1), if_pos rfl, h.lo_, d2]
    · rw [getD_mv hmi hlo (Ne.symm T.n1), if_neg (Ne.symm T.n1), if_pos rfl, h.lo_, h.mi_, k2]
      omega
    · rw [getD_mv hmi hlo (Ne.symm T.n1), if_neg (Ne.symm T.n2), if_neg (Ne.symm T.n3), h.hi_, k3]
    · rw [getD_mv hmi hlo (Ne.symm T.n1), if_neg x1, if_neg x2]
      exact h.un k x1 x2 x3
  · rw [if_neg hb] at hg
    subst hg
    rw [if_neg hb]
    have ep : p = (q / 2) * (2 * e) + r := by
      have : q * e = (q / 2) * (2 * e) := by
        rw (occs := [1]) [e1]
        rw [show q % 2 = 0 by omega, Int.add_zero, Int.mul_comm 2, Int.mul_assoc]
      have := h.pq
      omega
    have k1 : (2 * e - 1 - r) * ns.getD lo 0 ≤ (p - 1) * ns.getD lo 0 := Int.mul_le_mul_of_nonneg_right (by omega) (by omega)
    have k2 : (2 * e - 1 - r) * ns.getD lo 0 = (e - 1 - r) * ns.getD lo 0 + e * ns.getD lo 0 := by
      rw [← Int.add_mul]
      congr 1
      omega
    have le2 := T.le2
    have hhi : g < m.length := by rw [hlen]; exact T.bhi
    have hc : can m g lo = true := can_iff.mpr (by rw [h.lo_, h.hi_]; omega)
    refine ⟨h.go.app (.one hhi hlo (Ne.symm T.n2) hc), ep, by omega, by omega, hq2, ?_, ?_, ?_, ?_, fun k x1 x2 x3 => ?_⟩
    · rw [List.length_append, h.len]
      show 2 * 2 ^ ps.length = 2 ^ (ps.length + 1)
      rw [Int.pow_succ, Int.mul_comm]
    · rw [getD_mv hhi hlo (Ne.symm T.n2), if_pos rfl, h.lo_, d2]
    · rw [getD_mv hhi hlo (Ne.symm T.n2), if_neg (Ne.symm T.n1), if_neg T.n3, h.mi_]
    · rw [getD_mv hhi hlo (Ne.symm T.n2), if_neg (Ne.symm T.n2), if_pos rfl, h.lo_, h.hi_, k2]
      omega
    · rw [getD_mv hhi hlo (Ne.symm T.n2), if_neg x1, if_neg x3]
      exact h.un k x1 x2 x3
/-- what halving is for: at one of the three places at most half of the least, elsewhere nothing new; so many steps that 2 to their number is at most the whole -/
structure Halved (ns : List Int) (lo mi hi : Nat) (ps : List (Nat × Nat)) (m : List Int) : Prop where
  go : Gone ns ps m
  half : ∃ k, (k = lo ∨ k = mi ∨ k = hi) ∧ 2 * m.getD k 0 ≤ ns.getD lo 0
  un : ∀ k, k ≠ lo → k ≠ mi → k ≠ hi → m.getD k 0 = ns.getD k 0
  len : (2 : Int) ^ ps.length ≤ ns.sum
theorem Hv.end {ns m : List Int} {lo mi hi : Nat} {p r e : Int} {ps : List (Nat × Nat)} (N : NN ns) (T : Three ns lo mi hi) (h : Hv ns lo mi hi p 1 r e ps m) (n1 : -ns.getD lo 0 < 2 * ns.getD mi 0 - 2 * (p * ns.getD lo 0)) (n2 : 2 * ns.getD mi 0 - 2 * (p * ns.getD lo 0) ≤ ns.getD lo 0) :
    Halved ns lo mi hi (ps ++ [if p * ns.getD lo 0 > ns.getD mi 0 then (lo, mi) else (mi, lo)]) (if p * ns.getD lo 0 > ns.getD mi 0 then mv m lo mi else mv m mi lo) := by
  have hlen := h.go.len
  have a0 := T.pos
  have r0 := h.r0
  have re := h.re
  have he : 0 < e := by omega
  have hlo : lo < m.length := by rw [hlen]; exact T.blo
  have hmi : mi < m.length := by rw [hlen]; exact T.bmi
  have ep : p = e + r := by
    have := h.pq
    omega
  have k1 : p * ns.getD lo 0 = e * ns.getD lo 0 + r * ns.getD lo 0 := by rw [ep, Int.add_mul]
  have k2 : 1 * ns.getD lo 0 ≤ e * ns.getD lo 0 := Int.mul_le_mul_of_nonneg_right (by omega) (by omega)
  have s3 := sum_three N T.blo T.bmi T.bhi T.n1 T.n2 T.n3
  have le2 := T.le2
  have elen : (2 : Int) ^ (ps.length + 1) ≤ ns.sum := by
    have q1 : (2 : Int) ^ (ps.length + 1) = 2 * e := by rw [Int.pow_succ, ← h.len, Int.mul_comm]
    have q2 : p * 1 ≤ p * ns.getD lo 0 := Int.mul_le_mul_of_nonneg_left (by omega) (by omega)
    omega
  by_cases hs : p * ns.getD lo 0 > ns.getD mi 0
  · rw [if_pos hs, if_pos hs]
    have hc : can m lo mi = true := can_iff.mpr (by rw [h.lo_, h.mi_]; omega)
    refine ⟨h.go.app (.one hlo hmi T.n1 hc), ⟨lo, .inl rfl, ?_⟩, fun k x1 x2 x3 => ?_, by rw [List.length_append]; exact elen⟩
    · rw [getD_mv hlo hmi T.n1, if_neg T.n1, if_pos rfl, h.lo_, h.mi_]
      omega
    · rw [getD_mv hlo hmi T.n1, if_neg x2, if_neg x1]
      exact h.un k x1 x2 x3
  · rw [if_neg hs, if_neg hs]
    have hc : can m mi lo = true := can_iff.mpr (by rw [h.lo_, h.mi_]; omega)
    refine ⟨h.go.app (.one hmi hlo (Ne.symm T.n1) hc), ⟨mi, .inr (.inl rfl), ?_⟩, fun k x1 x2 x3 => ?_, by rw [List.length_append]; exact elen⟩
    · rw [getD_mv hmi hlo (Ne.symm T.n1), if_neg (Ne.symm T.n1), if_pos rfl, h.lo_, h.mi_]
      omega
    · rw [getD_mv hmi hlo (Ne.symm T.n1), if_neg x1, if_neg x2]
      exact h.un k x1 x2 x3
end Hd
set_option maxHeartbeats 4000000
/-! Emptying one of three, all but two, all but one: numbers alone. -/
namespace Hd
open PySem PySem.Spec PyProof.Rows L2
/-! ### the heaps that are not empty -/
def fil (ns : List Int) : List Nat := (List.range ns.length).filter fun k => decide (0 < ns.getD k 0)
theorem mem_fil {ns : List Int} {k : Nat} : k ∈ fil ns ↔ k < ns.length ∧ 0 < ns.getD k 0 := by
  unfold fil
  rw [List.mem_filter, List.mem_range, decide_eq_true_eq]
theorem fil_sorted (ns : List Int) : (fil ns).Pairwise (· < ·) := List.Pairwise.filter _ List.pairwise_lt_range
theorem fil_le (ns : List Int) : (fil ns).length ≤ ns.length := Nat.le_trans (List.length_filter_le _ _) (by rw [List.length_range]; exact Nat.le_refl _)
theorem filter_lt {α : Type} {p q : α → Bool} : ∀ {l : List α}, (∀ x ∈ l, q x = true → p x = true) → (∃ x ∈ l, p x = true ∧ q x = false) → (l.filter q).length < (l.filter p).length
  | [], _, h => by
    obtain ⟨x, hx, _⟩ := h
    cases hx
  | x :: l, h1, h2 => by
    have ih : (l.filter q).length ≤ (l.filter p).length := by
      rw [← List.countP_eq_length_filter, ← List.countP_eq_length_filter]
      exact List.countP_mono_left fun y hy => h1 y (List.mem_cons_of_mem _ hy)
    rw [List.filter_cons, List.filter_cons]
    obtain ⟨y, hy, y1, y2⟩ := h2
    rcases List.mem_cons.mp hy with e | hy
    · subst e
      rw [y1, y2, if_pos rfl, if_neg (by decide)]
      exact Nat.lt_succ_of_le ih
    · have := filter_lt (l := l) (fun z hz => h1 z (List.mem_cons_of_mem _ hz)) ⟨y, hy, y1, y2⟩
      by_cases hq : q x = true
      · rw [if_pos hq, if_pos (h1 x List.mem_cons_self hq)]
        exact Nat.succ_lt_succ this
      · rw [if_neg hq]
        split
        · exact Nat.lt_succ_of_lt this
        · exact this
theorem fil_lt {ns m : List Int} (hl : m.length = ns.length) (h1 : ∀ k, 0 < m.getD k 0 → 0 < ns.getD k 0) (h2 : ∃ k, k < ns.length ∧ 0 < ns.getD k 0 ∧ m.getD k 0 ≤ 0) : (fil m).length < (fil ns).length := by
  unfold fil
  rw [hl]
  refine filter_lt (fun k _ h => decide_eq_true (h1 k (of_decide_eq_true h))) ?_
  obtain ⟨k, a, b, c⟩ := h2
  exact ⟨k, List.mem_range.mpr a, decide_eq_true b, decide_eq_false (by omega)⟩
theorem sum_zero : ∀ ns : List Int, (∀ k, ns.getD k 0 = 0) → ns.sum = 0
  | [], _ => rfl
  | x :: r, h => by
    have h0 := h 0
    have hr := sum_zero r fun k => by simpa using h (k + 1)
    simp only [List.getD_cons_zero] at h0
    simp only [List.sum_cons]
    omega
theorem sum_two {ns : List Int} {i j : Nat} (hi : i < ns.length) (hj : j < ns.length) (hij : i ≠ j) (h : ∀ k, k ≠ i → k ≠ j → ns.getD k 0 = 0) : ns.sum = ns.getD i 0 + ns.getD j 0 := by
  have e1 := sum_set ns i 0 hi
  have e2 := sum_set (ns.set i 0) j 0 (by rw [List.length_set]; exact hj)
  rw [getD_set, if_neg fun z => hij z.1.symm] at e2
  have e3 := sum_zero ((ns.set i 0).set j 0) fun k => by
    rw [getD_set, getD_set, List.length_set]
    by_cases a : k = j
    · rw [if_pos ⟨a, hj⟩]
    · rw [if_neg fun z => a z.1]
      by_cases b : k = i
      · rw [if_pos ⟨b, hi⟩]
      · rw [if_neg fun z => b z.1]
        exact h k b a
  omega
/-! ### one of three -/
/-- k is one of the three -/
def In3 (x y z k : Nat) : Prop := k = x ∨ k = y ∨ k = z
structure Trio (ns : List Int) (x y z : Nat) : Prop where
  bx : x < ns.length
  by_ : y < ns.length
  bz : z < ns.length
  n1 : x ≠ y
  n2 : x ≠ z
  n3 : y ≠ z
/-- so far within emptying: t halvings are done -/
structure Em (ns : List Int) (x y z : Nat) (F t : Nat) (ps : List (Nat × Nat)) (m : List Int) : Prop where
  go : Gone ns ps m
  le : ∃ k, In3 x y z k ∧ 2 ^ t * m.getD k 0 ≤ ns.sum
  un : ∀ k, ¬ In3 x y z k → m.getD k 0 = ns.getD k 0
  len : ps.length ≤ t * F
  tF : t ≤ F
theorem Em.start {ns : List Int} {x y z F : Nat} (N : NN ns) : Em ns x y z F 0 [] ns :=
  ⟨.nil _, ⟨x, .inl rfl, by have := sum_one (i := x) N; simpa using this⟩, fun _ _ => rfl, Nat.zero_le _, Nat.zero_le _⟩
theorem two_le {k F : Nat} {S : Int} (h : (2 : Int) ^ k ≤ S) (hS : S < 2 ^ F) : k < F := by
  by_cases c : k < F
  · exact c
  · have : (2 : Int) ^ F ≤ 2 ^ k := by
      have := Nat.pow_le_pow_right (show 0 < 2 by decide) (show F ≤ k by omega)
      have e : ∀ n : Nat, (2 : Int) ^ n = ((2 ^ n : Nat) : Int) := fun n => by simp
      rw [e, e]
      exact Int.ofNat_le.mpr this
    omega
/-- one halving more: the places in the order lo, mi, hi -/
theorem Em.next {ns m r : List Int} {x y z F t lo mi hi : Nat} {ps qs : List (Nat × Nat)} (h : Em ns x y z F t ps m) (hF : ns.sum < 2 ^ F) (hpos : ∀ k, In3 x y z k → 0 < m.getD k 0) (hin : ∀ k, In3 x y z k ↔ In3 lo mi hi k)
    (hlo : ∀ k, In3 x y z k → m.getD lo 0 ≤ m.getD k 0) (hv : Halved m lo mi hi qs r) : t < F ∧ Em ns x y z F (t + 1) (ps ++ qs) r := by
  obtain ⟨k, k1, k2⟩ := h.le
  have p2 : (0 : Int) < 2 ^ t := Int.pow_pos (by decide)
  have t1 : (2 : Int) ^ t * 1 ≤ 2 ^ t * m.getD k 0 := Int.mul_le_mul_of_nonneg_left (by have := hpos k k1; omega) (by omega)
  have ht : t < F := two_le (by omega) hF
  refine ⟨ht, h.go.app hv.go, ?_, fun j hj => ?_, ?_, ht⟩
  · obtain ⟨j, j1, j2⟩ := hv.half
    refine ⟨j, (hin j).mpr j1, ?_⟩
    have a1 : (2 : Int) ^ (t + 1) * r.getD j 0 = 2 ^ t * (2 * r.getD j 0) := by rw [Int.pow_succ, Int.mul_assoc]
    have a2 : (2 : Int) ^ t * (2 * r.getD j 0) ≤ 2 ^ t * m.getD k 0 := Int.mul_le_mul_of_nonneg_left (by have := hlo k k1; omega) (by omega)
    omega
  · rw [hv.un j (fun e => hj ((hin j).mpr (.inl e))) (fun e => hj ((hin j).mpr (.inr (.inl e)))) (fun e => hj ((hin j).mpr (.inr (.inr e))))]
    exact h.un j hj
  · have hl := hv.len
    rw [h.go.sum] at hl
    have := two_le hl hF
    rw [List.length_append, Nat.add_mul]
    have := h.len
    omega
/-- what emptying is for -/
structure Emptied (ns : List Int) (F : Nat) (ps : List (Nat × Nat)) (m : List Int) : Prop where
  go : Gone ns ps m
  fewer : (fil m).length < (fil ns).length
  zero : ∃ k, k < ns.length ∧ m.getD k 0 = 0
  len : ps.length ≤ F * F
theorem Em.end {ns m : List Int} {x y z F t : Nat} {ps : List (Nat × Nat)} (N : NN ns) (T : Trio ns x y z) (hpos : ∀ k, In3 x y z k → 0 < ns.getD k 0) (h : Em ns x y z F t ps m) (k : Nat) (hk : In3 x y z k) (hz : m.getD k 0 ≤ 0) : Emptied ns F ps m := by
  have hkl : k < ns.length := by
    rcases hk with e | e | e <;> subst e
    · exact T.bx
    · exact T.by_
    · exact T.bz
  refine ⟨h.go, fil_lt h.go.len (fun j hj => ?_) ⟨k, hkl, hpos k hk, hz⟩, ⟨k, hkl, ?_⟩, Nat.le_trans h.len (Nat.mul_le_mul_right F h.tF)⟩
  · by_cases c : In3 x y z j
    · exact hpos j c
    · rw [← h.un j c]
      exact hj
  · have := h.go.nn N k
    omega
/-! ### all but two -/
structure Pr (ns : List Int) (F : Nat) (ps : List (Nat × Nat)) (m : List Int) : Prop where
  go : Gone ns ps m
  len : ps.length + (fil m).length * (F * F) ≤ (fil ns).length * (F * F)
theorem Pr.start (ns : List Int) (F : Nat) : Pr ns F [] ns := ⟨.nil _, by simp⟩
theorem Pr.next {ns m r : List Int} {F : Nat} {ps qs : List (Nat × Nat)} (h : Pr ns F ps m) (e : Emptied m F qs r) : Pr ns F (ps ++ qs) r ∧ (fil r).length < (fil m).length := by
  refine ⟨⟨h.go.app e.go, ?_⟩, e.fewer⟩
  have a := Nat.mul_le_mul_right (F * F) (show (fil r).length + 1 ≤ (fil m).length from e.fewer)
  rw [Nat.add_mul, Nat.one_mul] at a
  rw [List.length_append]
  have := h.len
  have := e.len
  omega
/-! ### all but one -/
theorem pow_dvd_le {a b : Nat} (h : a ≤ b) (g : Int) : g * 2 ^ a ∣ g * 2 ^ b := by
  refine Int.mul_dvd_mul_left g ?_
  rw [← Nat.add_sub_cancel' h, Int.pow_add]
  exact Int.dvd_mul_right _ _
/-- so far within the walk of the two: m is where it stands behind t steps; g times 2 to the T is the whole -/
structure Wk (ns : List Int) (g : Int) (T t : Nat) (ps : List (Nat × Nat)) (m : List Int) : Prop where
  go : Gone ns ps m
  len : ps.length = t
  dv : ∀ k, g * 2 ^ t ∣ m.getD k 0
  two : (fil m).length ≤ 2
  tT : t ≤ T
theorem Wk.start {ns : List Int} {g : Int} {T : Nat} (hg : ∀ k, g ∣ ns.getD k 0) (h2 : (fil ns).length ≤ 2) : Wk ns g T 0 [] ns :=
  ⟨.nil _, rfl, fun k => by simpa using hg k, h2, Nat.zero_le _⟩
theorem Wk.pair {ns m : List Int} {g : Int} {T t : Nat} {ps : List (Nat × Nat)} (N : NN ns) (h : Wk ns g T t ps m) (h1 : 1 < (fil m).length) : ∃ i j, fil m = [i, j] ∧ i < m.length ∧ j < m.length ∧ i ≠ j ∧ 0 < m.getD i 0 ∧ 0 < m.getD j 0 ∧ m.getD i 0 + m.getD j 0 = ns.sum ∧ (∀ k, k ≠ i → k ≠ j → m.getD k 0 = 0) := by
  have h2 := h.two
  have hs := fil_sorted m
  match e : fil m, h1, h2 with
  | [i, j], _, _ =>
    have mi := (mem_fil (ns := m) (k := i)).mp (by rw [e]; simp)
    have mj := (mem_fil (ns := m) (k := j)).mp (by rw [e]; simp)
    have hij : i ≠ j := by
      rw [e] at hs
      have := (List.pairwise_cons.mp hs).1 j (by simp)
      omega
    have z : ∀ k, k ≠ i → k ≠ j → m.getD k 0 = 0 := fun k a b => by
      have n := h.go.nn N k
      by_cases hk : 0 < m.getD k 0
      · have hkl : k < m.length := by
          by_cases c : k < m.length
          · exact c
          · rw [List.getD_eq_getElem?_getD, List.getElem?_eq_none (by omega)] at hk
            exact absurd hk (by decide)
        have := (mem_fil (ns := m) (k := k)).mpr ⟨hkl, hk⟩
        rw [e] at this
        simp [a, b] at this
      · omega
    refine ⟨i, j, rfl, mi.1, mj.1, hij, mi.2, mj.2, ?_, z⟩
    rw [← sum_two mi.1 mj.1 hij z]
    exact h.go.sum
theorem Wk.next {ns m : List Int} {g : Int} {T t i j : Nat} {ps : List (Nat × Nat)} (h : Wk ns g T t ps m) (g0 : 0 < g) (hS : ns.sum = g * 2 ^ T) (hi : i < m.length) (hj : j < m.length) (hij : i ≠ j) (pj : 0 < m.getD j 0) (hle : m.getD j 0 ≤ m.getD i 0)
    (hs : m.getD i 0 + m.getD j 0 = ns.sum) (hz : ∀ k, k ≠ i → k ≠ j → m.getD k 0 = 0) : t < T ∧ can m i j = true ∧ Wk ns g T (t + 1) (ps ++ [(i, j)]) (mv m i j) := by
  have hc : can m i j = true := can_iff.mpr ⟨pj, hle⟩
  have p2 : (0 : Int) < 2 ^ t := Int.pow_pos (by decide)
  have l1 : g * 2 ^ t ≤ m.getD j 0 := Int.le_of_dvd pj (h.dv j)
  have tT : t < T := by
    by_cases c : t < T
    · exact c
    · have e : t = T := Nat.le_antisymm h.tT (by omega)
      rw [← e] at hS
      omega
  have d1 : g * 2 ^ (t + 1) ∣ ns.sum := by
    rw [hS]
    exact pow_dvd_le tT g
  have d2 : g * 2 ^ (t + 1) ∣ 2 * m.getD j 0 := by
    obtain ⟨c, hc⟩ := h.dv j
    refine ⟨c, ?_⟩
    rw [hc, Int.pow_succ, Int.mul_left_comm 2, Int.mul_assoc g, Int.mul_assoc g, Int.mul_assoc]
  refine ⟨tT, hc, h.go.app (.one hi hj hij hc), by rw [List.length_append, h.len]; rfl, fun k => ?_, ?_, tT⟩
  · rw [getD_mv hi hj hij]
    by_cases a : k = j
    · rw [if_pos a]
      exact d2
    · rw [if_neg a]
      by_cases b : k = i
      · rw [if_pos b, show m.getD i 0 - m.getD j 0 = ns.sum - 2 * m.getD j 0 by omega]
        exact Int.dvd_sub d1 d2
      · rw [if_neg b, hz k b a]
        exact Int.dvd_zero _
  · refine Nat.le_trans ?_ (h.two)
    unfold fil
    rw [len_mv, ← List.countP_eq_length_filter, ← List.countP_eq_length_filter]
    refine List.countP_mono_left fun k _ hk => ?_
    have hk' := of_decide_eq_true hk
    rw [getD_mv hi hj hij] at hk'
    by_cases a : k = j
    · subst a
      exact decide_eq_true pj
    · rw [if_neg a] at hk'
      by_cases b : k = i
      · subst b
        exact decide_eq_true (by omega)
      · rw [if_neg b] at hk'
        exact decide_eq_true hk'
/-- one step further along a plan that can be made -/
theorem run_take {ns m a : List Int} {ps : List (Nat × Nat)} {i : Nat} (h : run ns ps = some m) (hi : i < ps.length) (ha : run ns (ps.take i) = some a) : can a ps[i].1 ps[i].2 = true ∧ run ns (ps.take (i + 1)) = some (mv a ps[i].1 ps[i].2) := by
  have e : ps = ps.take i ++ (ps[i] :: ps.drop (i + 1)) := by rw [← List.drop_eq_getElem_cons hi, List.take_append_drop]
  have h2 : run ns (ps.take i ++ (ps[i] :: ps.drop (i + 1))) = some m := by rw [← e]; exact h
  rw [run_app, ha] at h2
  have h3 : (if can a ps[i].1 ps[i].2 = true then run (mv a ps[i].1 ps[i].2) (ps.drop (i + 1)) else none) = some m := h2
  have hc : can a ps[i].1 ps[i].2 = true := by
    by_cases c : can a ps[i].1 ps[i].2 = true
    · exact c
    · rw [if_neg c] at h3
      cases h3
  refine ⟨hc, ?_⟩
  rw [List.take_add_one, List.getElem?_eq_getElem hi]
  show run ns (ps.take i ++ [ps[i]]) = _
  rw [run_app, ha]
  show (if can a ps[i].1 ps[i].2 = true then some (mv a ps[i].1 ps[i].2) else none) = _
  rw [if_pos hc]
theorem run_len : ∀ (ps : List (Nat × Nat)) (ns m : List Int), run ns ps = some m → m.length = ns.length
  | [], ns, m, e => by
    have e' : ns = m := Option.some.inj e
    rw [e']
  | p :: ps, ns, m, e => by
    have e' : (if can ns p.1 p.2 = true then run (mv ns p.1 p.2) ps else none) = some m := e
    split at e'
    · rw [run_len ps _ m e', len_mv]
    · cases e'
end Hd
set_option maxHeartbeats 4000000
namespace Hd
open PySem PySem.Spec PyProof.Rows L2
/-- a step's tuple at its address, its two numbers -/
abbrev Srow := Addr × Nat × Nat
def StAt (K : PySem.W.Frag) (H : Hp) (n : Nat) (p : Srow) : Prop := SqT K H p.1 [.int (p.2.1 : Int), .int (p.2.2 : Int)] ∧ p.2.1 < n ∧ p.2.2 < n ∧ p.2.1 ≠ p.2.2
/-- a list at l of steps' tuples -/
structure PrL (K : PySem.W.Frag) (H : Hp) (l : Addr) (n : Nat) (ps : List Srow) : Prop where
  ls : H l = some (.lst (ps.map fun p => V.ref p.1))
  st : ∀ p ∈ ps, StAt K H n p
theorem StAt.same {K : PySem.W.Frag} {H H' : Hp} {n : Nat} {p : Srow} (e : Same H H') (h : StAt K H n p) : StAt K H' n p := ⟨Same.tup e h.1, h.2⟩
theorem PrL.same {K : PySem.W.Frag} {H H' : Hp} {t : Addr} {n : Nat} {ps : List Srow} (e : Same H H') (h : PrL K H t n ps) : PrL K H' t n ps := ⟨e _ _ h.ls, fun p hp => (h.st p hp).same e⟩
theorem PrL.stp {K : PySem.W.Frag} {H : Hp} {t : Addr} {n : Nat} {ps : List Srow} (h : PrL K H t n ps) : Stp n (ps.map (·.2)) := fun p hp => by
  obtain ⟨z, hz, rfl⟩ := List.mem_map.mp hp
  exact (h.st z hz).2
/-- a tuple stays where a list is written -/
theorem tup_at {K : PySem.W.Frag} {H : Hp} {l a : Addr} {xs ys : List V} {o : HO} (hl : H l = some (.lst ys)) (h : SqT K H a xs) : SqT K (upd H l o) a xs := by
  rcases h with (h | ⟨u, h⟩) | h
  · exact .inl (.inl (by rw [upd_ne (ne_of h hl (by intro z; cases z))]; exact h))
  · exact .inl (.inr ⟨u, by rw [upd_ne (ne_of h hl (by intro z; cases z))]; exact h⟩)
  · exact .inr h
theorem StAt.at_ {K : PySem.W.Frag} {H : Hp} {l : Addr} {ys : List V} {o : HO} {n : Nat} {p : Srow} (hl : H l = some (.lst ys)) (h : StAt K H n p) : StAt K (upd H l o) n p := ⟨tup_at hl h.1, h.2⟩
/-- .. more of them -/
theorem PrL.more {K : PySem.W.Frag} {H : Hp} {l : Addr} {n : Nat} {ps qs : List Srow} (h : PrL K H l n ps) (hq : ∀ p ∈ qs, StAt K H n p) : PrL K (upd H l (.lst (ps.map (fun p => V.ref p.1) ++ qs.map fun p => V.ref p.1))) l n (ps ++ qs) :=
  ⟨by rw [upd_same, List.map_append], fun p hp => (List.mem_append.mp hp).elim (fun z => (h.st p z).at_ h.ls) fun z => (hq p z).at_ h.ls⟩
def spShifted (K : PySem.W.Frag) : Sp := fun vs H Q _ => ∃ (t u : Addr) (ns : List Int) (i j : Nat) (m : Int), vs = [.ref t, .ref u, .int m] ∧ SqT K H t (ns.map V.int) ∧ SqT K H u [.int (i : Int), .int (j : Int)] ∧ i < ns.length ∧ j < ns.length ∧ i ≠ j ∧
  ∀ (p : Addr) (H' : Hp), Same H H' → H p = none → H' p = some (.tup ((shf ns i j m).map V.int)) → Q (.ref p) H'
def spBehind (K : PySem.W.Frag) : Sp := fun vs H Q _ => ∃ (t u : Addr) (ns : List Int) (i j : Nat), vs = [.ref t, .ref u] ∧ SqT K H t (ns.map V.int) ∧ SqT K H u [.int (i : Int), .int (j : Int)] ∧ i < ns.length ∧ j < ns.length ∧ i ≠ j ∧
  ∀ (p : Addr) (H' : Hp), Same H H' → H p = none → H' p = some (.tup ((mv ns i j).map V.int)) → Q (.ref p) H'
def spBehindAll (K : PySem.W.Frag) : Sp := fun vs H Q _ => ∃ (t u : Addr) (ns m : List Int) (ps : List Srow), vs = [.ref t, .ref u] ∧ SqT K H t (ns.map V.int) ∧ PrL K H u ns.length ps ∧ run ns (ps.map (·.2)) = some m ∧
  ∀ (p : Addr) (H' : Hp), Same H H' → SqT K H' p (m.map V.int) → Q (.ref p) H'
section
variable {P : Program} {w : World} {K : PySem.W.Frag} {mg : Str → Option Value} {base : Heap}
abbrev s_shifted : Stmt := top 9
theorem sc_shifted : FnScope ["heaps", "step", "many", "one", "other", "stand"] ["heaps", "step", "many"] (defScope s_shifted) := ⟨rfl, rfl, rfl, by decide +kernel, rfl, by decide +kernel, by decide +kernel⟩
theorem ok_shifted {f : Addr} {fd : FuncData} (F : Fun K "shifted" "shifted" s_shifted f fd) (T : Tp K mg) : FnOk P w K mg base CX0 1 f fd ["heaps", "step", "many"] (spShifted K) := by
  refine F.ok sc_shifted (fun vs H Q E h => ?_) (fun cdv A outer s H vs Q E hr h => ?_)
  · obtain ⟨t, u, ns, i, j, m, rfl, _⟩ := h
    rfl
  · obtain ⟨t, u, ns, i, j, m, rfl, hS, hU, hi, hj, hij, k⟩ := h
    refine ⟨_, (pss_cons (ps_asg (pv 1) (pg_tup rfl (pgs_cons (pg_name (i := 3) sc_shifted.nd rfl (Or.inl rfl)) (pgs_cons (pg_name (i := 4) sc_shifted.nd rfl (Or.inl rfl)) pgs_nil))))
      (pss_cons (ps_set (i := 5) sc_shifted.nd rfl (Or.inl rfl) (pe_callTy call_list_of (by rfl) T.list (by decide +kernel) (pa_cons (pv 0) pa_nil)))
      (pss_cons (ps_augS (pv 5) (pv 3) pget_list (pv 2) ip_sub set_list)
      (pss_cons (ps_augS (pv 5) (pv 4) pget_list (pv 2) ip_add set_list)
      (pss_one (ps_ret (pe_callTy call_tuple_of (by rfl) T.tuple (by decide +kernel) (pa_cons (pv 5) pa_nil)))))))), ?_⟩
    refine ⟨_, rfl, u, _, rfl, hU, rfl, _, _, rfl, _, _, rfl, rfl, ?_⟩
    refine ⟨_, rfl, t, _, rfl, .inr hS, fun l hl => ?_⟩
    refine ⟨_, rfl, _, rfl, l, _, _, _, rfl, rfl, SqL.of upd_same, by omega, (by rw [Int.toNat_natCast]; exact getD_at hi), _, rfl, _, _, rfl, rfl, l, _, _, i, rfl, rfl, upd_same, (by rw [List.length_map]; exact ixN_nat hi), ?_⟩
    rw [upd_upd]
    refine ⟨_, rfl, _, rfl, l, _, _, _, rfl, rfl, SqL.of upd_same, by omega, (by rw [Int.toNat_natCast, List.getElem?_set_ne hij]; exact getD_at hj), _, rfl, _, _, rfl, rfl, l, _, _, j, rfl, rfl, upd_same, (by rw [List.length_set, List.length_map]; exact ixN_nat hj), ?_⟩
    rw [upd_upd]
    refine ⟨_, rfl, l, _, rfl, .inl ⟨SqL.of upd_same, fun p hp => ?_⟩⟩
    have hpl : p ≠ l := fun e => by
      rw [e, upd_same] at hp
      cases hp
    have hp0 : H p = none := by
      rw [upd_ne hpl] at hp
      exact hp
    refine k p _ (same_upd (Same.new hl) hp0) hp0 ?_
    rw [upd_same]
    unfold shf
    rw [List.map_set, List.map_set]
abbrev s_behind : Stmt := top 10
theorem sc_behind : FnScope ["heaps", "step"] ["heaps", "step"] (defScope s_behind) := ⟨rfl, rfl, rfl, by decide +kernel, rfl, by decide +kernel, by decide +kernel⟩
theorem ok_behind {f : Addr} {fd : FuncData} (F : Fun K "behind" "behind" s_behind f fd) (C_shifted : Cal P w K mg base CX0 1 "shifted" ["heaps", "step", "many"] (spShifted K)) : FnOk P w K mg base CX0 2 f fd ["heaps", "step"] (spBehind K) := by
  refine F.ok sc_behind (fun vs H Q E h => ?_) (fun cdv A outer s H vs Q E hr h => ?_)
  · obtain ⟨t, u, ns, i, j, rfl, _⟩ := h
    rfl
  · obtain ⟨t, u, ns, i, j, rfl, hS, hU, hi, hj, hij, k⟩ := h
    refine ⟨_, (pss_one (ps_ret (pe_cal C_shifted hr rfl pass0 (pa_cons (pv 0) (pa_cons (pv 1) (pa_cons (pe_ix ix_tup (pv 0) (pe_ix ix_tup (pv 1) pe_int (fun _ _ => rfl)) (fun _ _ => rfl)) pa_nil)))))), ?_⟩
    exact ⟨_, rfl, _, rfl, _, rfl, _, rfl, u, _, _, _, rfl, rfl, hU, rfl, t, _, _, _, rfl, rfl, hS, at_of rfl (getD_at hj), t, u, ns, i, j, _, rfl, hS, hU, hi, hj, hij, k⟩
abbrev s_behind_all : Stmt := top 11
theorem sc_behind_all : FnScope ["heaps", "plan", "stand", "step"] ["heaps", "plan"] (defScope s_behind_all) := ⟨rfl, rfl, rfl, by decide +kernel, rfl, by decide +kernel, by decide +kernel⟩
theorem ok_behind_all {f : Addr} {fd : FuncData} (F : Fun K "behind_all" "behind_all" s_behind_all f fd) (C_behind : Cal P w K mg base CX0 2 "behind" ["heaps", "step"] (spBehind K)) : FnOk P w K mg base CX0 3 f fd ["heaps", "plan"] (spBehindAll K) := by
  refine F.ok sc_behind_all (fun vs H Q E h => ?_) (fun cdv A outer s H vs Q E hr h => ?_)
  · obtain ⟨t, u, ns, m, ps, rfl, _⟩ := h
    rfl
  · obtain ⟨t, u, ns, m, ps, rfl, hS, hP, hrun, k⟩ := h
    refine ⟨_, (pss_cons (ps_set (i := 2) sc_behind_all.nd rfl (Or.inl rfl) (pv 0))
      (pss_cons (ps_for PassesOwn.never rfl (pi_list (pv 1)) (pg_name (i := 3) sc_behind_all.nd rfl (Or.inl rfl))
      (pss_one (ps_set (i := 2) sc_behind_all.nd rfl (Or.inl rfl) (pe_cal C_behind hr rfl pass0 (pa_cons (pv 2) (pa_cons (pv 3) pa_nil))))))
      (pss_one (ps_ret (pv 2))))), ?_⟩
    refine ⟨_, rfl, _, rfl, u, rfl, ⟨_, SqL.of hP.ls⟩, for_list (K := K) (a := u) (xs := ps.map fun p => V.ref p.1) (fun i σ H3 => ∃ (ta : Addr) (a : List Int) (v : Option V), σ = [some (.ref t), some (.ref u), some (.ref ta), v] ∧ Same H H3 ∧ SqT K H3 ta (a.map V.int) ∧ run ns ((ps.map (·.2)).take i) = some a)
        ⟨t, ns, none, rfl, Same.refl _, hS, rfl⟩ (fun i σ H1 _ ⟨_, _, _, _, s1, _⟩ => SqL.of (s1 _ _ hP.ls)) ?_ ?_⟩
    · rintro i x σ H3 hx ⟨ta, a, v, rfl, s3, hT, hja⟩
      rw [List.getElem?_map] at hx
      obtain ⟨p, hp, rfl⟩ := Option.map_eq_some_iff.mp hx
      obtain ⟨hi, ep⟩ := List.getElem?_eq_some_iff.mp hp
      subst ep
      obtain ⟨q1, q2, q3, q4⟩ := hP.st ps[i] (List.getElem_mem hi)
      have hi' : i < (ps.map (·.2)).length := by rw [List.length_map]; exact hi
      have eg : (ps.map (·.2))[i] = ps[i].2 := List.getElem_map _
      obtain ⟨hc, N⟩ := run_take hrun hi' hja
      rw [eg] at N hc
      have hlen := run_len _ _ _ hja
      refine ⟨_, rfl, _, rfl, ta, ps[i].1, a, _, _, rfl, hT, Same.tup s3 q1, by rw [hlen]; exact q2, by rw [hlen]; exact q3, q4, fun p H5 s5 hp hp5 => ?_⟩
      exact ⟨p, mv a ps[i].2.1 ps[i].2.2, _, rfl, s3.trans s5, SqT.of hp5, N⟩
    · rintro σ H3 ⟨ta, a, v, rfl, s3, hT, hja⟩
      rw [List.length_map, List.take_of_length_le (by rw [List.length_map]; exact Nat.le_refl _), hrun] at hja
      have em := Option.some.inj hja
      subst em
      exact ⟨_, rfl, k ta H3 s3 hT⟩
end
end Hd
set_option maxHeartbeats 4000000
namespace Hd
open PySem PySem.Spec PyProof.Rows L2
theorem dec_int (a b : Int) : decide (V.int a = V.int b) = decide (a = b) := by
  by_cases z : a = b
  · subst z
    rw [decide_eq_true rfl, decide_eq_true rfl]
  · rw [decide_eq_false z, decide_eq_false fun q => z (V.int.inj q)]
abbrev two (a b : Nat) : List V := [V.int (a : Int), V.int (b : Int)]
def spSplit : Sp := fun vs H Q _ => ∃ n o t : Nat, vs = [.int (n : Int)] ∧ 0 < n ∧ n = o * 2 ^ t ∧ o % 2 = 1 ∧ ∀ (p : Addr) (H' : Hp), Same H H' → H p = none → H' p = some (.tup (two o t)) → Q (.ref p) H'
/-- the common divisor of all -/
def gAll (ns : List Int) : Nat := ns.foldl (fun d x => Nat.gcd d x.natAbs) 0
theorem gAll_more (ns : List Int) (x : Int) : gAll (ns ++ [x]) = Nat.gcd (gAll ns) x.natAbs := by
  unfold gAll
  rw [List.foldl_append]
  rfl
theorem fold_dvd : ∀ (ns : List Int) (d : Nat), ns.foldl (fun d x => Nat.gcd d x.natAbs) d ∣ d ∧ ∀ x ∈ ns, ns.foldl (fun d x => Nat.gcd d x.natAbs) d ∣ x.natAbs
  | [], d => ⟨Nat.dvd_refl _, fun x hx => nomatch hx⟩
  | x :: r, d => by
    obtain ⟨a, b⟩ := fold_dvd r (Nat.gcd d x.natAbs)
    refine ⟨Nat.dvd_trans a (Nat.gcd_dvd_left _ _), fun y hy => ?_⟩
    rcases List.mem_cons.mp hy with e | hy
    · subst e
      exact Nat.dvd_trans a (Nat.gcd_dvd_right _ _)
    · exact b y hy
theorem gAll_dvd {ns : List Int} {x : Int} (h : x ∈ ns) : (gAll ns : Int) ∣ x := Int.dvd_natAbs.mp (Int.natCast_dvd_natCast.mpr ((fold_dvd ns 0).2 x h))
theorem dvd_sum {g : Int} : ∀ {ns : List Int}, (∀ x ∈ ns, g ∣ x) → g ∣ ns.sum
  | [], _ => Int.dvd_zero _
  | x :: r, h => by
    rw [List.sum_cons]
    exact Int.dvd_add (h x List.mem_cons_self) (dvd_sum fun y hy => h y (List.mem_cons_of_mem _ hy))
theorem gAll_sum (ns : List Int) : (gAll ns : Int) ∣ ns.sum := dvd_sum fun x hx => gAll_dvd hx
theorem gAll_pos {ns : List Int} (h : 0 < ns.sum) : 0 < gAll ns := by
  obtain ⟨c, hc⟩ := gAll_sum ns
  by_cases z : gAll ns = 0
  · rw [z] at hc
    simp at hc
    omega
  · omega
theorem gAll_le {ns : List Int} (h : 0 < ns.sum) : (gAll ns : Int) ≤ ns.sum := Int.le_of_dvd h (gAll_sum ns)
theorem gAll_getD (ns : List Int) (k : Nat) : (gAll ns : Int) ∣ ns.getD k 0 := by
  rw [List.getD_eq_getElem?_getD]
  cases e : ns[k]? with
  | none => exact Int.dvd_zero _
  | some v => exact gAll_dvd (List.mem_of_getElem? e)
/-- o is the odd part of the sum by the common divisor, tw the twos -/
structure OddOf (ns : List Int) (o tw : Nat) : Prop where
  eq : ns.sum = (gAll ns : Int) * ((o * 2 ^ tw : Nat) : Int)
  odd : o % 2 = 1
theorem OddOf.div {ns : List Int} {o tw : Nat} (h : OddOf ns o tw) (p : 0 < ns.sum) : ns.sum / (gAll ns : Int) = ((o * 2 ^ tw : Nat) : Int) := by
  have g := gAll_pos p
  rw [h.eq, Int.mul_ediv_cancel_left _ (by omega)]
theorem odd_some {ns : List Int} (p : 0 < ns.sum) : ∃ o tw, OddOf ns o tw := by
  obtain ⟨c, hc⟩ := gAll_sum ns
  have g := gAll_pos p
  have cp : 0 < c := by
    by_cases z : 0 < c
    · exact z
    · have := Int.mul_nonneg (show 0 ≤ (gAll ns : Int) by omega) (show 0 ≤ -c by omega)
      rw [Int.mul_neg] at this
      omega
  obtain ⟨o, t, e, ho⟩ := twos_some c.toNat (by omega)
  refine ⟨o, t, ?_, ho⟩
  rw [← e, hc, Int.toNat_of_nonneg (by omega)]
/-- what good heaps are -/
theorem hps_good {ns : List Int} (h : hpsB ns = true) : 2 ≤ ns.length ∧ ns.length ≤ 6 ∧ NN ns ∧ 0 < ns.sum ∧ ns.sum < 2 ^ 103 := by
  unfold hpsB at h
  simp only [Bool.and_eq_true, decide_eq_true_eq, List.all_eq_true, List.mem_map] at h
  obtain ⟨⟨h1, h2⟩, h3, h4⟩ := h
  have each : ∀ x ∈ ns, 0 ≤ x ∧ x ≤ 10 ^ 30 := fun x hx => by
    have := h3 _ ⟨x, hx, rfl⟩
    unfold inR at this
    simpa using this
  have le : ∀ (xs : List Int), (∀ x ∈ xs, 0 ≤ x ∧ x ≤ 10 ^ 30) → xs.sum ≤ xs.length * 10 ^ 30 := fun xs => by
    induction xs with
    | nil => intro _; simp
    | cons x r ih =>
      intro hx
      have := ih fun y hy => hx y (List.mem_cons_of_mem _ hy)
      have := (hx x List.mem_cons_self).2
      rw [List.sum_cons, List.length_cons]
      omega
  have := le ns each
  refine ⟨h1, h2, nn_of fun x hx => (each x hx).1, h4, ?_⟩
  omega
def spRed (K : PySem.W.Frag) : Sp := fun vs H Q _ => ∃ (t : Addr) (ns : List Int) (o tw : Nat), vs = [.ref t] ∧ SqT K H t (ns.map V.int) ∧ hpsB ns = true ∧ OddOf ns o tw ∧ ∀ (p : Addr) (H' : Hp), Same H H' → H p = none → H' p = some (.tup (two o tw)) → Q (.ref p) H'
def spOdd (K : PySem.W.Frag) : Sp := fun vs H Q _ => ∃ (t : Addr) (ns : List Int) (o tw : Nat), vs = [.ref t] ∧ SqT K H t (ns.map V.int) ∧ hpsB ns = true ∧ OddOf ns o tw ∧ ∀ (H' : Hp), Same H H' → Q (.int (o : Int)) H'
def spFilled (K : PySem.W.Frag) : Sp := fun vs H Q _ => ∃ (t : Addr) (ns : List Int), vs = [.ref t] ∧ SqT K H t (ns.map V.int) ∧ ns.length ≤ 6 ∧ ∀ (p : Addr) (H' : Hp), Same H H' → H p = none → H' p = some (.lst ((fil ns).map fun k : Nat => V.int (k : Int))) → Q (.ref p) H'
def spNear : Sp := fun vs H Q _ => ∃ b a : Int, vs = [.int b, .int a] ∧ 0 < a ∧ 0 ≤ b ∧ a < 2 ^ 103 ∧ b < 2 ^ 103 ∧ Q (.int ((2 * b + a - 1) / (2 * a))) H
def filTo (ns : List Int) (i : Nat) : List Nat := (List.range i).filter fun k => decide (0 < ns.getD k 0)
theorem filTo_succ (ns : List Int) (i : Nat) : filTo ns (i + 1) = filTo ns i ++ (if 0 < ns.getD i 0 then [i] else []) := by
  unfold filTo
  rw [List.range_succ, List.filter_append, List.filter_cons, List.filter_nil]
  by_cases h : 0 < ns.getD i 0
  · rw [if_pos (decide_eq_true h), if_pos h]
  · rw [if_neg (by rw [decide_eq_false h]; decide), if_neg h]
section
variable {P : Program} {w : World} {K : PySem.W.Frag} {mg : Str → Option Value} {base : Heap}
abbrev s_split_twos : Stmt := top 3
theorem sc_split_twos : FnScope ["number", "odd", "twos"] ["number"] (defScope s_split_twos) := ⟨rfl, rfl, rfl, by decide +kernel, rfl, by decide +kernel, by decide +kernel⟩
theorem ok_split_twos {f : Addr} {fd : FuncData} (F : Fun K "split_twos" "split_twos" s_split_twos f fd) : FnOk P w K mg base CX0 1 f fd ["number"] spSplit := by
  refine F.ok sc_split_twos (fun vs H Q E h => ?_) (fun cdv A outer s H vs Q E hr h => ?_)
  · obtain ⟨n, o, t, rfl, _⟩ := h
    rfl
  · obtain ⟨n, o, t, rfl, hn, e, ho, k⟩ := h
    refine ⟨_, (pss_cons (ps_set (i := 1) sc_split_twos.nd rfl (Or.inl rfl) (pv 0))
      (pss_cons (ps_set (i := 2) sc_split_twos.nd rfl (Or.inl rfl) pe_int)
      (pss_cons (ps_while PassesOwn.never (pt_cmpR op_eq (pe_op op_mod (pv 1) pe_int) pe_int (nomark _)) (pss_cons (ps_aug (i := 1) sc_split_twos.nd rfl (Or.inl rfl) pe_int iop_fdiv)
      (pss_one (ps_aug (i := 2) sc_split_twos.nd rfl (Or.inl rfl) pe_int ip_add))))
      (pss_one (ps_ret (pe_tup (pa_cons (pv 1) (pa_cons (pv 2) pa_nil)))))))), ?_⟩
    refine ⟨_, rfl, ?_⟩
    refine ⟨fun m σ H1 => ∃ u v : Nat, σ = [some (.int (n : Int)), some (.int (u : Int)), some (.int (v : Int))] ∧ H1 = H ∧ n = u * 2 ^ v ∧ 0 < u ∧ u = m, ⟨n, n, 0, rfl, rfl, by simp, hn, rfl⟩, ?_⟩
    rintro m σ H1 ⟨u, v, rfl, rfl, euv, hu, rfl⟩
    refine ⟨_, rfl, _, _, rfl, rfl, (by show (0 : Int) < 2; decide), rfl, _, rfl, ?_⟩
    rw [dec_int]
    refine ite2 (fun hz => ?_) (fun hz => ?_)
    · have hz' : u % 2 = 0 := by have := of_decide_eq_true hz; omega
      refine ⟨fun σ' H' => ∃ u' v' : Nat, σ' = [some (.int (n : Int)), some (.int (u' : Int)), some (.int (v' : Int))] ∧ H' = H1 ∧ n = u' * 2 ^ v' ∧ 0 < u' ∧ u' < u, fun σ' H' ⟨u', v', e1, e2, e3, e4, e5⟩ => ⟨u', e5, u', v', e1, e2, e3, e4, rfl⟩, ?_⟩
      refine ⟨_, rfl, _, _, rfl, rfl, ⟨by decide, by decide⟩, _, rfl, _, _, rfl, rfl, ?_⟩
      refine ⟨u / 2, v + 1, ?_, rfl, ?_, by omega, by omega⟩
      · show [some (V.int (n : Int)), some (V.int ((u : Int) / 2)), some (V.int ((v : Int) + 1))] = _
        rw [show ((u : Int) / 2) = ((u / 2 : Nat) : Int) by omega, show ((v : Int) + 1) = ((v + 1 : Nat) : Int) by omega]
      · rw [euv, Nat.pow_succ]
        have : u = u / 2 * 2 := by omega
        rw (occs := [1]) [this]
        rw [Nat.mul_assoc, Nat.mul_comm 2]
    · have hz' : u % 2 = 1 := by
        have : ¬ ((u : Int) % 2 = 0) := fun z => hz (decide_eq_true z)
        omega
      obtain ⟨e1, e2⟩ := part_one ho hz' (e.symm.trans euv)
      subst e1 e2
      refine ⟨_, rfl, _, rfl, by show 2 ≤ sizeLine; decide, fun p hp => ?_⟩
      exact k p _ (Same.new hp) hp upd_same
abbrev s_reduced_parts : Stmt := top 4
theorem sc_reduced_parts : FnScope ["numbers", "divisor", "number"] ["numbers"] (defScope s_reduced_parts) := ⟨rfl, rfl, rfl, by decide +kernel, rfl, by decide +kernel, by decide +kernel⟩
theorem ok_reduced_parts {f : Addr} {fd : FuncData} (F : Fun K "reduced_parts" "reduced_parts" s_reduced_parts f fd) (T : Tp K mg) (m_gcd : mg "gcd" = some (.builtin "math.gcd")) (C_split_twos : Cal P w K mg base CX0 1 "split_twos" ["number"] spSplit) : FnOk P w K mg base CX0 2 f fd ["numbers"] (spRed K) := by
  refine F.ok sc_reduced_parts (fun vs H Q E h => ?_) (fun cdv A outer s H vs Q E hr h => ?_)
  · obtain ⟨t, ns, o, tw, rfl, _⟩ := h
    rfl
  · obtain ⟨t, ns, o, tw, rfl, hS, hg, hO, k⟩ := h
    obtain ⟨g1, g2, g3, g4, g5⟩ := hps_good hg
    refine ⟨_, (pss_cons (ps_set (i := 1) sc_reduced_parts.nd rfl (Or.inl rfl) pe_int)
      (pss_cons (ps_for PassesOwn.never rfl (pi_tup (pv 0)) (pg_name (i := 2) sc_reduced_parts.nd rfl (Or.inl rfl))
      (pss_one (ps_set (i := 1) sc_reduced_parts.nd rfl (Or.inl rfl) (pe_callBfun cr_gcd rfl m_gcd (pa_cons (pv 1) (pa_cons (pv 2) pa_nil))))))
      (pss_one (ps_ret (pe_cal C_split_twos hr rfl pass0 (pa_cons (pe_op op_fdivW (pe_callB (cr_sumT rfl) (by rfl) T.sum (by decide +kernel) (pa_cons (pv 0) pa_nil)) (pv 1)) pa_nil)))))), ?_⟩
    refine ⟨_, rfl, t, rfl, ⟨_, hS⟩, for_tup (K := K) (a := t) (xs := ns.map V.int) (fun i σ H1 => ∃ v : Option V, σ = [some (.ref t), some (.int (gAll (ns.take i) : Int)), v] ∧ H1 = H) ⟨none, rfl, rfl⟩ (fun i σ H1 _ ⟨_, _, e⟩ => by rw [e]; exact hS) ?_ ?_⟩
    · rintro i x σ H1 hi ⟨v, rfl, rfl⟩
      obtain ⟨z, hz, rfl⟩ := int_at hi
      refine ⟨_, rfl, _, rfl, _, _, rfl, ?_⟩
      refine ⟨some (.int z), ?_, rfl⟩
      rw [List.take_add_one, hz]
      show _ = [some (V.ref t), some (V.int ((gAll (ns.take i ++ [z]) : Nat) : Int)), some (V.int z)]
      rw [gAll_more]
      rfl
    · rintro σ H1 ⟨v, rfl, rfl⟩
      rw [List.length_map, List.take_length]
      have q0 := gAll_pos g4
      have q1 := gAll_le g4
      have hd := hO.div g4
      have op : 0 < o * 2 ^ tw := Nat.mul_pos (by have := hO.odd; omega) (Nat.pow_pos (by decide))
      refine ⟨_, rfl, t, ns, rfl, hS, _, rfl, _, _, rfl, rfl, wide_div (b := 200) (by omega) (by omega) (by decide) (by decide), ?_⟩
      exact ⟨o * 2 ^ tw, o, tw, congrArg (fun z : Int => [V.int z]) hd, op, rfl, hO.odd, k⟩
abbrev s_odd_part : Stmt := top 20
theorem sc_odd_part : FnScope ["heaps", "odd", "_"] ["heaps"] (defScope s_odd_part) := ⟨rfl, rfl, rfl, by decide +kernel, rfl, by decide +kernel, by decide +kernel⟩
theorem ok_odd_part {f : Addr} {fd : FuncData} (F : Fun K "odd_part" "odd_part" s_odd_part f fd) (C_check_heaps : Cal P w K mg base CX0 3 "check_heaps" ["heaps"] (spChkHeaps K)) (C_reduced_parts : Cal P w K mg base CX0 2 "reduced_parts" ["numbers"] (spRed K)) : FnOk P w K mg base CX0 4 f fd ["heaps"] (spOdd K) := by
  refine F.ok sc_odd_part (fun vs H Q E h => ?_) (fun cdv A outer s H vs Q E hr h => ?_)
  · obtain ⟨t, ns, o, tw, rfl, _⟩ := h
    rfl
  · obtain ⟨t, ns, o, tw, rfl, hS, hg, hO, k⟩ := h
    refine ⟨_, (pss_cons (ps_expr (pe_cal C_check_heaps hr rfl pass0 (pa_cons (pv 0) pa_nil)))
      (pss_cons (ps_asg (pe_cal C_reduced_parts hr rfl pass0 (pa_cons (pv 0) pa_nil)) (pg_tup rfl (pgs_cons (pg_name (i := 1) sc_odd_part.nd rfl (Or.inl rfl)) (pgs_cons (pg_name (i := 2) sc_odd_part.nd rfl (Or.inl rfl)) pgs_nil))))
      (pss_one (ps_ret (pv 1))))), ?_⟩
    refine ⟨_, rfl, t, ns, rfl, hS, hg, fun H1 s1 => ?_⟩
    refine ⟨_, rfl, t, ns, o, tw, rfl, Same.tup s1 hS, hg, hO, fun p H2 s2 hp hp2 => ?_⟩
    exact ⟨p, _, rfl, SqT.of hp2, rfl, _, _, rfl, _, _, rfl, rfl, _, rfl, k _ (s1.trans s2)⟩
abbrev s_filled : Stmt := top 24
theorem sc_filled : FnScope ["heaps", "place", "heap"] ["heaps"] (defScope s_filled) := ⟨rfl, rfl, rfl, by decide +kernel, rfl, by decide +kernel, by decide +kernel⟩
theorem ok_filled {f : Addr} {fd : FuncData} (F : Fun K "filled" "filled" s_filled f fd) (T : Tp K mg) : FnOk P w K mg base CX0 1 f fd ["heaps"] (spFilled K) := by
  refine F.ok sc_filled (fun vs H Q E h => ?_) (fun cdv A outer s H vs Q E hr h => ?_)
  · obtain ⟨t, ns, rfl, _⟩ := h
    rfl
  · obtain ⟨t, ns, rfl, hS, hl, k⟩ := h
    refine ⟨_, (pss_one (ps_ret (pe_lc (own := [("place", 1), ("heap", 2)]) (g := gTup K 2 (gCons (gName 1) (gCons (gName 2) (gNil)))) (by rfl) sc_filled.nd (pi_enumT (by rfl) T.enumerate (pa_cons (pv 0) pa_nil)) (blkOk_by (own := [("place", 1), ("heap", 2)]) (N := ["heaps", "place", "heap"]) (sc := defScope s_filled) (by decide +kernel)) (fun _ _ _ _ _ => pg_tup (n := 2) rfl (pgs_cons (pg_name (i := 1) sc_filled.nd rfl (Or.inl rfl)) (pgs_cons (pg_name (i := 2) sc_filled.nd rfl (Or.inl rfl)) pgs_nil))) (fun _ _ _ _ _ => pts_one (pt_cmpR op_gt (pv 2) pe_int (nomark _))) (fun _ _ _ _ _ => (pv 1))))), ?_⟩
    refine ⟨_, rfl, t, _, rfl, hS, fun D hD => lc_it (walk_enumT (K := K) (a := t) (xs := ns.map V.int)) (fun i H1 => H1 D = some (.lst ((filTo ns i).map fun k : Nat => V.int (k : Int))) ∧ Same H H1) ⟨upd_same, Same.new hD⟩ (fun i H1 _ q => Same.tup q.2 hS) ?_ ?_⟩
    · rintro i x H1 H2 hi ⟨hL, s1⟩ ⟨TT, x1, x2, rfl, hT, rfl, e1, e2⟩
      rw [List.length_map] at hi
      have e1' := Option.some.inj e1
      subst e1'
      dsimp only at e2
      rw [getD_at hi] at e2
      have e2' := Option.some.inj e2
      subst e2'
      have s2 : Same H1 (upd H1 TT (.tup [.int (i : Nat), .int (ns.getD i 0)])) := Same.new hT
      refine ⟨TT, _, rfl, SqT.of upd_same, rfl, _, _, rfl, _, _, rfl, rfl, rfl, _, rfl, _, _, rfl, rfl, _, rfl, ?_⟩
      refine ite2 (fun hc => ?_) (fun hc => ?_)
      · refine ⟨_, rfl, _, s2 _ _ hL, ?_, ?_, same_upd (s1.trans s2) hD⟩
        · rw [List.length_map, sizeLine_eq]
          have := List.length_filter_le (fun k => decide (0 < ns.getD k 0)) (List.range i)
          rw [List.length_range] at this
          unfold filTo
          omega
        · rw [upd_same, filTo_succ, if_pos (of_decide_eq_true hc), List.map_append]
          rfl
      · refine ⟨?_, s1.trans s2⟩
        rw [filTo_succ, if_neg (fun z => hc (decide_eq_true z)), List.append_nil]
        exact s2 _ _ hL
    · rintro H1 ⟨hL, s1⟩
      rw [List.length_map] at hL
      exact k D H1 s1 hD hL
abbrev s_nearest_multiple : Stmt := top 31
theorem sc_nearest_multiple : FnScope ["number", "unit"] ["number", "unit"] (defScope s_nearest_multiple) := ⟨rfl, rfl, rfl, by decide +kernel, rfl, by decide +kernel, by decide +kernel⟩
theorem ok_nearest_multiple {f : Addr} {fd : FuncData} (F : Fun K "nearest_multiple" "nearest_multiple" s_nearest_multiple f fd) : FnOk P w K mg base CX0 1 f fd ["number", "unit"] spNear := by
  refine F.ok sc_nearest_multiple (fun vs H Q E h => ?_) (fun cdv A outer s H vs Q E hr h => ?_)
  · obtain ⟨b, a, rfl, _⟩ := h
    rfl
  · obtain ⟨b, a, rfl, ha, hb, ha2, hb2, k⟩ := h
    refine ⟨_, (pss_one (ps_ret (pe_op op_fdivW (pe_op op_sub (pe_op op_add (pe_op op_mul pe_int (pv 0)) (pv 1)) pe_int) (pe_op op_mul pe_int (pv 1))))), ?_⟩
    refine ⟨_, rfl, _, _, rfl, rfl, .inl ⟨by decide, by decide⟩, _, rfl, _, _, rfl, rfl, _, _, rfl, rfl, _, rfl, _, _, rfl, rfl, .inl ⟨by decide, by decide⟩, _, _, rfl, rfl, wide_div (b := 200) (by omega) (by omega) (by decide) (by decide), k⟩
end
end Hd
set_option maxHeartbeats 4000000
namespace Hd
open PySem PySem.Spec PyProof.Rows L2
theorem perm3 {l : List Nat} {x y z : Nat} (h : l.Perm [x, y, z]) (n1 : x ≠ y) (n2 : x ≠ z) (n3 : y ≠ z) : ∃ lo mi hi, l = [lo, mi, hi] ∧ (∀ k, In3 x y z k ↔ In3 lo mi hi k) ∧ lo ≠ mi ∧ lo ≠ hi ∧ mi ≠ hi := by
  have hl := h.length_eq
  match l, hl with
  | [lo, mi, hi], _ =>
    have nd : [lo, mi, hi].Nodup := h.nodup_iff.mpr (by simp [n1, n2, n3])
    simp at nd
    refine ⟨lo, mi, hi, rfl, fun k => ?_, nd.1.1, nd.1.2, nd.2⟩
    have := h.mem_iff (a := k)
    unfold In3
    simp at this
    exact this.symm
structure Tps (K : PySem.W.Frag) (mg : Str → Option Value) : Prop extends Tp K mg where
  sorted : mg "sorted" = none
  min : mg "min" = none
def spBySize (K : PySem.W.Frag) : Sp := fun vs H Q _ => ∃ (t u : Addr) (ns : List Int) (x y z : Nat), vs = [.ref t, .ref u] ∧ SqT K H t (ns.map V.int) ∧ SqT K H u [.int (x : Int), .int (y : Int), .int (z : Int)] ∧ Trio ns x y z ∧
  ∀ (l : Addr) (H' : Hp) (lo mi hi : Nat), Same H H' → H l = none → H' l = some (.lst [.int (lo : Int), .int (mi : Int), .int (hi : Int)]) → (∀ k, In3 x y z k ↔ In3 lo mi hi k) → lo ≠ mi → lo ≠ hi → mi ≠ hi → ns.getD lo 0 ≤ ns.getD mi 0 → ns.getD mi 0 ≤ ns.getD hi 0 → Q (.ref l) H'
def spHalving (K : PySem.W.Frag) : Sp := fun vs H Q _ => ∃ (t u : Addr) (ns : List Int) (x y z : Nat), vs = [.ref t, .ref u] ∧ SqT K H t (ns.map V.int) ∧ SqT K H u [.int (x : Int), .int (y : Int), .int (z : Int)] ∧ Trio ns x y z ∧ NN ns ∧ ns.sum < 2 ^ 103 ∧ (∀ k, In3 x y z k → 0 < ns.getD k 0) ∧
  ∀ (l : Addr) (H' : Hp) (qs : List Srow) (m : List Int) (lo mi hi : Nat), Same H H' → H l = none → PrL K H' l ns.length qs → (∀ k, In3 x y z k ↔ In3 lo mi hi k) → (∀ k, In3 x y z k → ns.getD lo 0 ≤ ns.getD k 0) → Halved ns lo mi hi (qs.map (·.2)) m → Q (.ref l) H'
section
variable {P : Program} {w : World} {K : PySem.W.Frag} {mg : Str → Option Value} {base : Heap}
abbrev s_by_size : Stmt := top 30
theorem sc_by_size : FnScope ["heaps", "trio", "sized", "heap", "place"] ["heaps", "trio"] (defScope s_by_size) := ⟨rfl, rfl, rfl, by decide +kernel, rfl, by decide +kernel, by decide +kernel⟩
theorem ok_by_size {f : Addr} {fd : FuncData} (F : Fun K "by_size" "by_size" s_by_size f fd) (T : Tps K mg) : FnOk P w K mg base CX0 1 f fd ["heaps", "trio"] (spBySize K) := by
  refine F.ok sc_by_size (fun vs H Q E h => ?_) (fun cdv A outer s H vs Q E hr h => ?_)
  · obtain ⟨t, u, ns, x, y, z, rfl, _⟩ := h
    rfl
  · obtain ⟨t, u, ns, x, y, z, rfl, hS, hU, hT, k⟩ := h
    refine ⟨_, (pss_cons (ps_set (i := 2) sc_by_size.nd rfl (Or.inl rfl) (pe_callB cr_sortedPO (by rfl) T.sorted (by decide +kernel) (pa_cons (pe_lc (own := [("place", 4)]) (g := gName 4) (by rfl) sc_by_size.nd (pi_tup (pv 1)) (blkOk_by (own := [("place", 4)]) (N := ["heaps", "trio", "sized", "heap", "place"]) (sc := defScope s_by_size) (by decide +kernel)) (fun _ _ _ _ _ => pg_name (i := 4) sc_by_size.nd rfl (Or.inl rfl)) (fun _ _ _ _ _ => pts_nil) (fun _ _ _ _ _ => (pe_tup (pa_cons (pe_ix (show IxR _ (rIxT K) from ix_tup) (pv 0) (pv 4) (fun _ _ => rfl)) (pa_cons (pv 4) pa_nil))))) pa_nil)))
      (pss_one (ps_ret (pe_lc (own := [("heap", 3), ("place", 4)]) (g := gTup K 2 (gCons (gName 3) (gCons (gName 4) (gNil)))) (by rfl) sc_by_size.nd (pi_list (pv 2)) (blkOk_by (own := [("heap", 3), ("place", 4)]) (N := ["heaps", "trio", "sized", "heap", "place"]) (sc := defScope s_by_size) (by decide +kernel)) (fun _ _ _ _ _ => pg_tup (n := 2) rfl (pgs_cons (pg_name (i := 3) sc_by_size.nd rfl (Or.inl rfl)) (pgs_cons (pg_name (i := 4) sc_by_size.nd rfl (Or.inl rfl)) pgs_nil))) (fun _ _ _ _ _ => pts_nil) (fun _ _ _ _ _ => (pv 4)))))), ?_⟩
    have tri : ∀ (i : Nat) (v : V), ([.int (x : Int), .int (y : Int), .int (z : Int)] : List V)[i]? = some v → ∃ p : Nat, [x, y, z][i]? = some p ∧ v = .int (p : Int) ∧ p < ns.length ∧ i < 3 := fun i v hv => by
      match i, hv with
      | 0, hv => exact ⟨x, rfl, (Option.some.inj hv).symm, hT.bx, by decide⟩
      | 1, hv => exact ⟨y, rfl, (Option.some.inj hv).symm, hT.by_, by decide⟩
      | 2, hv => exact ⟨z, rfl, (Option.some.inj hv).symm, hT.bz, by decide⟩
    -- sized
    refine ⟨_, rfl, u, rfl, ⟨_, hU⟩, fun D hD => ?_⟩
    refine lc_tup (K := K) (a := u) (xs := [.int (x : Int), .int (y : Int), .int (z : Int)]) (fun i H1 => ∃ ts : List Addr, H1 D = some (.lst (ts.map V.ref)) ∧ Same H H1 ∧ ts.length = i ∧ ts.Nodup ∧ (∀ (j : Nat) (a : Addr) (p : Nat), ts[j]? = some a → [x, y, z][j]? = some p → H1 a = some (.tup [.int (ns.getD p 0), .int (p : Int)]))) ⟨[], upd_same, Same.new hD, rfl, List.nodup_nil, fun j a p e => by simp at e⟩ (fun i H1 _ ⟨_, _, s1, _⟩ => Same.tup s1 hU) ?_ ?_
    · rintro i v H1 hv ⟨ts, hL, s1, hlen, hnd, hts⟩
      obtain ⟨p, hp, rfl, hpl, hi3⟩ := tri i v hv
      refine ⟨rfl, _, rfl, _, rfl, t, _, _, _, rfl, rfl, Same.tup s1 hS, at_of rfl (getD_at hpl), _, rfl, by show 2 ≤ sizeLine; decide, fun TT hTT => ?_⟩
      have nTD : TT ≠ D := (ne_of_none hL hTT).symm
      have s2 : Same H1 (upd H1 TT (.tup [.int (ns.getD p 0), .int (p : Int)])) := Same.new hTT
      refine ⟨_, s2 _ _ hL, by rw [List.length_map, sizeLine_eq]; omega, ts ++ [TT], by rw [upd_same, List.map_append]; rfl, same_upd (s1.trans s2) hD, by rw [List.length_append, hlen]; rfl, ?_, fun j a q hj hq => ?_⟩
      · rw [List.nodup_append]
        refine ⟨hnd, by simp, fun a ha b hb e => ?_⟩
        have eb : b = TT := by simpa using hb
        subst eb
        subst e
        obtain ⟨j, hj⟩ := List.mem_iff_getElem?.mp ha
        have hj3 : j < 3 := by
          have := (List.getElem?_eq_some_iff.mp hj).1
          omega
        have := hts j a _ hj (List.getElem?_eq_getElem (show j < [x, y, z].length from hj3))
        rw [hTT] at this
        cases this
      · by_cases c : j < ts.length
        · rw [List.getElem?_append_left c] at hj
          have q1 := hts j a q hj hq
          rw [upd_ne (ne_of q1 hL (by intro z; cases z))]
          exact s2 _ _ q1
        · have ej : j = ts.length := by
            have := (List.getElem?_eq_some_iff.mp hj).1
            rw [List.length_append] at this
            simp at this
            omega
          subst ej
          rw [List.getElem?_append_right (Nat.le_refl _), Nat.sub_self] at hj
          have ea : TT = a := Option.some.inj hj
          subst ea
          rw [hlen, hp] at hq
          have eq := Option.some.inj hq
          subst eq
          rw [upd_ne nTD, upd_same]
    · rintro H1 ⟨ts, hL, s1, hlen, hnd, hts⟩
      have hl3 : ts.length = 3 := hlen
      obtain ⟨A1, A2, A3, rfl⟩ : ∃ A1 A2 A3, ts = [A1, A2, A3] := by
        match ts, hl3 with
        | [A1, A2, A3], _ => exact ⟨A1, A2, A3, rfl⟩
      have nd := hnd
      simp at nd
      have t1 := hts 0 A1 x rfl rfl
      have t2 := hts 1 A2 y rfl rfl
      have t3 := hts 2 A3 z rfl rfl
      let pl : V → Nat := fun v => if v = .ref A1 then x else if v = .ref A2 then y else z
      let kk : V → Int × Int := fun v => (ns.getD (pl v) 0, ((pl v : Nat) : Int))
      have p1 : pl (.ref A1) = x := if_pos rfl
      have p2 : pl (.ref A2) = y := by
        show (if V.ref A2 = .ref A1 then x else if V.ref A2 = .ref A2 then y else z) = y
        rw [if_neg (fun e => nd.1.1 (V.ref.inj e).symm), if_pos rfl]
      have p3 : pl (.ref A3) = z := by
        show (if V.ref A3 = .ref A1 then x else if V.ref A3 = .ref A2 then y else z) = z
        rw [if_neg (fun e => nd.1.2 (V.ref.inj e).symm), if_neg (fun e => nd.2 (V.ref.inj e).symm)]
      have hk : ∀ v ∈ [A1, A2, A3].map V.ref, ∃ a, v = .ref a ∧ H1 a = some (.tup [.int (kk v).1, .int (kk v).2]) := fun v hv => by
        simp only [List.map_cons, List.map_nil, List.mem_cons, List.mem_nil_iff, or_false] at hv
        rcases hv with e | e | e <;> subst e
        · exact ⟨A1, rfl, by show H1 A1 = some (.tup [.int (ns.getD (pl (.ref A1)) 0), .int ((pl (.ref A1) : Nat) : Int)]); rw [p1]; exact t1⟩
        · exact ⟨A2, rfl, by show H1 A2 = some (.tup [.int (ns.getD (pl (.ref A2)) 0), .int ((pl (.ref A2) : Nat) : Int)]); rw [p2]; exact t2⟩
        · exact ⟨A3, rfl, by show H1 A3 = some (.tup [.int (ns.getD (pl (.ref A3)) 0), .int ((pl (.ref A3) : Nat) : Int)]); rw [p3]; exact t3⟩
      refine ⟨D, _, kk, rfl, SqL.of hL, hk, fun ys q hsr hst hq => ?_⟩
      have hperm : ys.Perm ([A1, A2, A3].map V.ref) := hst.perm
      have hpm : (ys.map pl).Perm [x, y, z] := by
        have := hperm.map pl
        simp only [List.map_cons, List.map_nil, p1, p2, p3] at this
        exact this
      obtain ⟨lo, mi, hi, em, hin, m1, m2, m3⟩ := perm3 hpm hT.n1 hT.n2 hT.n3
      have nqD : D ≠ q := ne_of_none hL hq
      have s2 : Same H1 (upd H1 q (.lst ys)) := Same.new hq
      have hy : ∀ v ∈ ys, ∃ a, v = .ref a ∧ (upd H1 q (.lst ys)) a = some (.tup [.int (kk v).1, .int (kk v).2]) := fun v hv => by
        obtain ⟨a, e, h1⟩ := hk v (hperm.mem_iff.mp hv)
        exact ⟨a, e, s2 _ _ h1⟩
      have hq0 : H q = none := by
        cases e : H q with
        | none => rfl
        | some o =>
          rw [s1 _ _ e] at hq
          cases hq
      have hyl : ys.length = 3 := hperm.length_eq
      have hq2 : (upd H1 q (.lst ys)) q = some (.lst ys) := upd_same
      generalize upd H1 q (.lst ys) = H2 at s2 hy hq2 ⊢
      have s12 : Same H H2 := s1.trans s2
      refine ⟨_, rfl, q, rfl, ⟨_, SqL.of hq2⟩, fun D2 hD2 => ?_⟩
      refine lc_list (K := K) (a := q) (xs := ys) (fun i H3 => H3 D2 = some (.lst ((ys.take i).map fun v => V.int ((pl v : Nat) : Int))) ∧ Same H2 H3) ⟨upd_same, Same.new hD2⟩ (fun i H1 _ z => SqL.of (z.2 _ _ hq2)) ?_ ?_
      · rintro i v H3 hv ⟨hL3, s3⟩
        obtain ⟨a, rfl, ha⟩ := hy v (List.mem_of_getElem? hv)
        have hi := (List.getElem?_eq_some_iff.mp hv).1
        refine ⟨a, _, rfl, SqT.of (s3 _ _ ha), rfl, _, _, rfl, _, _, rfl, rfl, rfl, _, rfl, _, hL3, ?_, ?_, same_upd s3 hD2⟩
        · rw [List.length_map, List.length_take, sizeLine_eq]
          omega
        · rw [upd_same, List.take_add_one, hv, List.map_append]
          rfl
      · rintro H3 ⟨hL3, s3⟩
        rw [List.take_length] at hL3
        have hD0 : H D2 = none := by
          cases e : H D2 with
          | none => rfl
          | some o =>
            rw [s12 _ _ e] at hD2
            cases hD2
        have em2 : (ys.map fun v => V.int ((pl v : Nat) : Int)) = [.int (lo : Int), .int (mi : Int), .int (hi : Int)] := by
          have : (ys.map fun v => V.int ((pl v : Nat) : Int)) = (ys.map pl).map fun n : Nat => V.int (n : Int) := by
            rw [List.map_map]
            rfl
          rw [this, em]
          rfl
        rw [em2] at hL3
        -- the order
        obtain ⟨y1, y2, y3, rfl⟩ : ∃ y1 y2 y3, ys = [y1, y2, y3] := by
          match ys, hyl with
          | [a, b, c], _ => exact ⟨a, b, c, rfl⟩
        simp only [List.map_cons, List.map_nil, List.cons.injEq, and_true] at em
        obtain ⟨e1, e2, e3⟩ := em
        have hp := hsr
        have o1 : ltP kk y2 y1 = false := (List.pairwise_cons.mp hp).1 y2 (by simp)
        have o2 : ltP kk y3 y2 = false := (List.pairwise_cons.mp (List.pairwise_cons.mp hp).2).1 y3 (by simp)
        have ord : ∀ a b : V, ltP kk b a = false → ns.getD (pl a) 0 ≤ ns.getD (pl b) 0 := fun a b h => by
          have := SrtO.lexB_no.mp h
          have h1 : (kk a).1 = ns.getD (pl a) 0 := rfl
          have h2 : (kk b).1 = ns.getD (pl b) 0 := rfl
          omega
        have v1 := ord _ _ o1
        have v2 := ord _ _ o2
        rw [e1, e2] at v1
        rw [e2, e3] at v2
        exact k D2 H3 lo mi hi (s12.trans s3) hD0 hL3 hin m1 m2 m3 v1 v2
end
end Hd
set_option maxHeartbeats 4000000
namespace Hd
open PySem PySem.Spec PyProof.Rows L2
theorem StAt.new {K : PySem.W.Frag} {H : Hp} {n i j : Nat} {p : Addr} (h : H p = some (.tup [.int (i : Int), .int (j : Int)])) (hi : i < n) (hj : j < n) (hij : i ≠ j) : StAt K H n (p, i, j) := ⟨SqT.of h, hi, hj, hij⟩
section
variable {P : Program} {w : World} {K : PySem.W.Frag} {mg : Str → Option Value} {base : Heap}
abbrev s_halving : Stmt := top 29
theorem sc_halving : FnScope ["heaps", "trio", "low", "middle", "high", "multiple", "turn", "figures", "short"] ["heaps", "trio"] (defScope s_halving) := ⟨rfl, rfl, rfl, by decide +kernel, rfl, by decide +kernel, by decide +kernel⟩
theorem ok_halving {f : Addr} {fd : FuncData} (F : Fun K "halving" "halving" s_halving f fd) (T : Tps K mg) (C_by_size : Cal P w K mg base CX0 1 "by_size" ["heaps", "trio"] (spBySize K)) (C_nearest_multiple : Cal P w K mg base CX0 1 "nearest_multiple" ["number", "unit"] spNear) : FnOk P w K mg base CX0 2 f fd ["heaps", "trio"] (spHalving K) := by
  refine F.ok sc_halving (fun vs H Q E h => ?_) (fun cdv A outer s H vs Q E hr h => ?_)
  · obtain ⟨t, u, ns, x, y, z, rfl, _⟩ := h
    rfl
  · obtain ⟨t, u, ns, x, y, z, rfl, hS, hU, hT, hN, hsum, hpos, k⟩ := h
    refine ⟨_, (pss_cons (ps_asg (pe_cal C_by_size hr rfl pass0 (pa_cons (pv 0) (pa_cons (pv 1) pa_nil))) (pg_unl (n := 3) rfl (pgs_cons (pg_name (i := 2) sc_halving.nd rfl (Or.inl rfl)) (pgs_cons (pg_name (i := 3) sc_halving.nd rfl (Or.inl rfl)) (pgs_cons (pg_name (i := 4) sc_halving.nd rfl (Or.inl rfl)) pgs_nil)))))
      (pss_cons (ps_set (i := 5) sc_halving.nd rfl (Or.inl rfl) (pe_cal C_nearest_multiple hr rfl pass0 (pa_cons (pe_ix ix_tup (pv 0) (pv 3) (fun _ _ => rfl)) (pa_cons (pe_ix ix_tup (pv 0) (pv 2) (fun _ _ => rfl)) pa_nil))))
      (pss_cons (ps_set (i := 6) sc_halving.nd rfl (Or.inl rfl) (pe_lst pa_nil))
      (pss_cons (ps_set (i := 7) sc_halving.nd rfl (Or.inl rfl) (pv 5))
      (pss_cons (ps_while PassesOwn.never (pt_cmpR op_gt (pv 7) pe_int (nomark _)) (pss_cons (ps_expr (pe_bm PySem.F.plainAttrs_list PySem.F.slot_list_append PySem.F.type_list_append mt_append (pv 6) (pa_cons (pe_tup (pa_cons (pe_ifExp (pt_cmpR op_eq (pe_op op_mod (pv 7) pe_int) pe_int (nomark _)) (pv 3) (pv 4)) (pa_cons (pv 2) pa_nil))) pa_nil)))
      (pss_one (ps_aug (i := 7) sc_halving.nd rfl (Or.inl rfl) pe_int iop_fdiv))))
      (pss_cons (ps_set (i := 8) sc_halving.nd rfl (Or.inl rfl) (pe_cmpR op_gt (pe_op op_mulW (pv 5) (pe_ix ix_tup (pv 0) (pv 2) (fun _ _ => rfl))) (pe_ix ix_tup (pv 0) (pv 3) (fun _ _ => rfl)) (nomark _)))
      (pss_cons (ps_expr (pe_bm PySem.F.plainAttrs_list PySem.F.slot_list_append PySem.F.type_list_append mt_append (pv 6) (pa_cons (pe_ifExp (pt_val (pv 8)) (pe_tup (pa_cons (pv 2) (pa_cons (pv 3) pa_nil))) (pe_tup (pa_cons (pv 3) (pa_cons (pv 2) pa_nil)))) pa_nil)))
      (pss_one (ps_ret (pv 6)))))))))), ?_⟩
    refine ⟨_, rfl, _, rfl, t, u, ns, x, y, z, rfl, hS, hU, hT, fun l1 H1 lo mi hi s1 hl1 hL1 hin n1 n2 n3 v1 v2 => ?_⟩
    refine ⟨l1, _, rfl, SqL.of hL1, rfl, _, _, rfl, _, _, rfl, _, _, rfl, rfl, ?_⟩
    have inb : ∀ j, In3 x y z j → j < ns.length := fun j hj => by
      rcases hj with e | e | e <;> subst e
      · exact hT.bx
      · exact hT.by_
      · exact hT.bz
    have blo := inb lo ((hin lo).mpr (.inl rfl))
    have bmi := inb mi ((hin mi).mpr (.inr (.inl rfl)))
    have bhi := inb hi ((hin hi).mpr (.inr (.inr rfl)))
    have T3 : Three ns lo mi hi := ⟨blo, bmi, bhi, n1, n2, n3, hpos lo ((hin lo).mpr (.inl rfl)), v1, v2⟩
    have a0 := T3.pos
    have ale := sum_one (i := lo) hN
    have ble := sum_one (i := mi) hN
    obtain ⟨q1, q2, q3⟩ := near_ok a0 v1
    refine ⟨_, rfl, _, rfl, t, _, _, _, rfl, rfl, Same.tup s1 hS, at_of rfl (getD_at bmi), _, rfl, _, rfl, t, _, _, _, rfl, rfl, Same.tup s1 hS, at_of rfl (getD_at blo), _, _, rfl, a0, by omega, by omega, by omega, ?_⟩
    generalize (2 * ns.getD mi 0 + ns.getD lo 0 - 1) / (2 * ns.getD lo 0) = p at q1 q2 q3 ⊢
    -- turn = []
    refine ⟨by show 0 ≤ sizeLine; decide, fun l hl => ?_⟩
    have s2 : Same H1 (upd H1 l (.lst [])) := Same.new hl
    have hl0 : H l = none := by
      cases e : H l with
      | none => rfl
      | some o =>
        rw [s1 _ _ e] at hl
        cases hl
    have hpa : (p - 1) * ns.getD lo 0 ≤ ns.getD mi 0 := by
      rw [Int.sub_mul, Int.one_mul]
      omega
    refine ⟨_, rfl, ?_⟩
    refine ⟨fun mm σ H2 => ∃ (q r e : Int) (ps : List Srow) (m : List Int), σ = [some (.ref t), some (.ref u), some (.int (lo : Int)), some (.int (mi : Int)), some (.int (hi : Int)), some (.int p), some (.ref l), some (.int q), none] ∧ Same H H2 ∧ PrL K H2 l ns.length ps ∧ Hv ns lo mi hi p q r e (ps.map (·.2)) m ∧ q.toNat = mm,
      ⟨p.toNat, p, 0, 1, [], ns, rfl, s1.trans s2, ⟨upd_same, fun p hp => nomatch hp⟩, Hv.start q1, rfl⟩, ?_⟩
    rintro mm σ H2 ⟨q, r, e, ps, m, rfl, s3, hP, hv, rfl⟩
    have lenb : ps.length < 104 := by
      have h1 := hv.len
      rw [List.length_map] at h1
      have h2 : e ≤ p := by
        have := hv.pq
        have := hv.r0
        have := Int.mul_le_mul_of_nonneg_right hv.q1 (show 0 ≤ e by have := hv.re; omega)
        omega
      have h3 : p * 1 ≤ p * ns.getD lo 0 := Int.mul_le_mul_of_nonneg_left (by omega) (by omega)
      have s3 := sum_three hN blo bmi bhi n1 n2 n3
      have h4 : (2 : Int) ^ ps.length ≤ 2 ^ 103 := by omega
      exact two_le (Int.le_of_lt (show (2 : Int) ^ ps.length < 2 ^ 103 + 1 by omega)) (by decide)
    refine ⟨_, rfl, _, _, rfl, rfl, _, rfl, ?_⟩
    refine ite2 (fun hz => ?_) (fun hz => ?_)
    · have hq1 : 1 < q := by have := of_decide_eq_true hz; omega
      refine ⟨fun σ' H' => ∃ (q' r e : Int) (ps : List Srow) (m : List Int), σ' = [some (.ref t), some (.ref u), some (.int (lo : Int)), some (.int (mi : Int)), some (.int (hi : Int)), some (.int p), some (.ref l), some (.int q'), none] ∧ Same H H' ∧ PrL K H' l ns.length ps ∧ Hv ns lo mi hi p q' r e (ps.map (·.2)) m ∧ q'.toNat < q.toNat,
        fun σ' H' ⟨q', r, e, ps, m, e1, e2, e3, e4, e5⟩ => ⟨q'.toNat, e5, q', r, e, ps, m, e1, e2, e3, e4, rfl⟩, ?_⟩
      -- what stands behind the append
      have fin : ∀ g : Nat, g = (if q % 2 = 1 then mi else hi) → g < ns.length → g ≠ lo → ∀ TT, H2 TT = none → ∃ (q' r e : Int) (ps' : List Srow) (m : List Int), ([some (.ref t), some (.ref u), some (.int (lo : Int)), some (.int (mi : Int)), some (.int (hi : Int)), some (.int p), some (.ref l), some (.int (q / 2)), none] : L2.St) = [some (.ref t), some (.ref u), some (.int (lo : Int)), some (.int (mi : Int)), some (.int (hi : Int)), some (.int p), some (.ref l), some (.int q'), none] ∧
          Same H (upd (upd H2 TT (.tup [.int (g : Int), .int (lo : Int)])) l (.lst (ps.map (fun p => V.ref p.1) ++ [.ref TT]))) ∧ PrL K (upd (upd H2 TT (.tup [.int (g : Int), .int (lo : Int)])) l (.lst (ps.map (fun p => V.ref p.1) ++ [.ref TT]))) l ns.length ps' ∧ Hv ns lo mi hi p q' r e (ps'.map (·.2)) m ∧ q'.toNat < q.toNat := fun g hg hgl hgn TT hTT => by
        have s4 : Same H2 (upd H2 TT (.tup [.int (g : Int), .int (lo : Int)])) := Same.new hTT
        refine ⟨q / 2, if q % 2 = 1 then r + e else r, 2 * e, ps ++ [(TT, g, lo)], mv m g lo, rfl, same_upd (s3.trans s4) hl0, (hP.same s4).more (qs := [(TT, g, lo)]) fun p hp => ?_, ?_, by omega⟩
        · have ep : p = (TT, g, lo) := by simpa using hp
          subst ep
          exact StAt.new upd_same hgl blo hgn
        · rw [List.map_append]
          exact hv.next T3 hpa hq1 g hg
      refine ⟨_, rfl, .inl ⟨rfl, _, SqL.of hP.ls⟩, _, rfl, _, _, rfl, rfl, (by show (0 : Int) < 2; decide), rfl, _, rfl, ?_⟩
      rw [dec_int]
      refine ite2 (fun hb => ?_) (fun hb => ?_)
      · have hb' : q % 2 = 1 := of_decide_eq_true hb
        refine ⟨_, rfl, _, rfl, by show 2 ≤ sizeLine; decide, fun TT hTT => ?_⟩
        have nTl : l ≠ TT := ne_of_none hP.ls hTT
        refine ⟨l, _, _, rfl, rfl, by rw [upd_ne nTl]; exact hP.ls, by rw [List.length_map, sizeLine_eq]; omega, ?_⟩
        exact ⟨_, rfl, _, _, rfl, rfl, ⟨by decide, by decide⟩, fin mi (by rw [if_pos hb']) bmi (Ne.symm n1) TT hTT⟩
      · have hb' : ¬ q % 2 = 1 := fun z => hb (decide_eq_true z)
        refine ⟨_, rfl, _, rfl, by show 2 ≤ sizeLine; decide, fun TT hTT => ?_⟩
        have nTl : l ≠ TT := ne_of_none hP.ls hTT
        refine ⟨l, _, _, rfl, rfl, by rw [upd_ne nTl]; exact hP.ls, by rw [List.length_map, sizeLine_eq]; omega, ?_⟩
        exact ⟨_, rfl, _, _, rfl, rfl, ⟨by decide, by decide⟩, fin hi (by rw [if_neg hb']) bhi (Ne.symm n2) TT hTT⟩
    · have hq1 : q = 1 := by
        have : ¬ ((1 : Int) < q) := fun z => hz (decide_eq_true z)
        have := hv.q1
        omega
      subst hq1
      have E' := hv.end hN T3 q2 q3
      have fin : ∀ (i j : Nat), (i, j) = (if p * ns.getD lo 0 > ns.getD mi 0 then (lo, mi) else (mi, lo)) → i < ns.length → j < ns.length → i ≠ j → ∀ TT, H2 TT = none → Q (.ref l) (upd (upd H2 TT (.tup [.int (i : Int), .int (j : Int)])) l (.lst (ps.map (fun p => V.ref p.1) ++ [.ref TT]))) := fun i j hg hil hjl hgn TT hTT => by
        have s4 : Same H2 (upd H2 TT (.tup [.int (i : Int), .int (j : Int)])) := Same.new hTT
        refine k l _ (ps ++ [(TT, i, j)]) (if p * ns.getD lo 0 > ns.getD mi 0 then mv m lo mi else mv m mi lo) lo mi hi (same_upd (s3.trans s4) hl0) hl0 ((hP.same s4).more (qs := [(TT, i, j)]) fun p hp => ?_) hin (fun j hj => ?_) ?_
        · have ep : p = (TT, i, j) := by simpa using hp
          subst ep
          exact StAt.new upd_same hil hjl hgn
        · rcases (hin j).mp hj with e | e | e <;> subst e <;> omega
        · rw [List.map_append]
          show Halved ns lo mi hi (ps.map (·.2) ++ [(i, j)]) _
          rw [hg]
          exact E'
      refine ⟨_, rfl, _, rfl, _, rfl, t, _, _, _, rfl, rfl, Same.tup s3 hS, at_of rfl (getD_at blo), _, _, rfl, rfl, ?_, _, rfl, _, rfl, t, _, _, _, rfl, rfl, Same.tup s3 hS, at_of rfl (getD_at bmi), _, _, rfl, rfl, ?_⟩
      · have h3 : p * 1 ≤ p * ns.getD lo 0 := Int.mul_le_mul_of_nonneg_left (by omega) (by omega)
        exact wide_mul (a := 200) (b := 200) (by omega) (by omega) (by decide) (by decide) (by decide)
      refine ⟨_, rfl, .inl ⟨rfl, _, SqL.of hP.ls⟩, _, rfl, _, rfl, ?_⟩
      refine ite2 (fun hb => ?_) (fun hb => ?_)
      · have hb' : p * ns.getD lo 0 > ns.getD mi 0 := of_decide_eq_true hb
        refine ⟨_, rfl, _, rfl, by show 2 ≤ sizeLine; decide, fun TT hTT => ?_⟩
        have nTl : l ≠ TT := ne_of_none hP.ls hTT
        refine ⟨l, _, _, rfl, rfl, by rw [upd_ne nTl]; exact hP.ls, by rw [List.length_map, sizeLine_eq]; omega, ?_⟩
        exact ⟨_, rfl, fin lo mi (by rw [if_pos hb']) blo bmi n1 TT hTT⟩
      · have hb' : ¬ p * ns.getD lo 0 > ns.getD mi 0 := fun z => hb (decide_eq_true z)
        refine ⟨_, rfl, _, rfl, by show 2 ≤ sizeLine; decide, fun TT hTT => ?_⟩
        have nTl : l ≠ TT := ne_of_none hP.ls hTT
        refine ⟨l, _, _, rfl, rfl, by rw [upd_ne nTl]; exact hP.ls, by rw [List.length_map, sizeLine_eq]; omega, ?_⟩
        exact ⟨_, rfl, fin mi lo (by rw [if_neg hb']) bmi blo (Ne.symm n1) TT hTT⟩
end
end Hd
set_option maxHeartbeats 4000000
namespace Hd
open PySem PySem.Spec PyProof.Rows L2
/-- heaps as they stand on the way -/
structure Way (ns : List Int) (F : Nat) : Prop where
  n6 : ns.length ≤ 6
  nn : NN ns
  sF : ns.sum < 2 ^ F
  F1 : F ≤ 103
theorem Way.big {ns : List Int} {F : Nat} (h : Way ns F) : ns.sum < 2 ^ 103 := by
  have h1 := h.sF
  have : (2 : Int) ^ F ≤ 2 ^ 103 := by
    have := Nat.pow_le_pow_right (show 0 < 2 by decide) h.F1
    have e : ∀ n : Nat, (2 : Int) ^ n = ((2 ^ n : Nat) : Int) := fun n => by simp
    rw [e, e]
    exact Int.ofNat_le.mpr this
  omega
theorem Way.next {ns m : List Int} {F : Nat} {ps : List (Nat × Nat)} (h : Way ns F) (g : Gone ns ps m) : Way m F := ⟨by rw [g.len]; exact h.n6, g.nn h.nn, by rw [g.sum]; exact h.sF, h.F1⟩
def spEmptying (K : PySem.W.Frag) : Sp := fun vs H Q _ => ∃ (t u : Addr) (ns : List Int) (x y z F : Nat), vs = [.ref t, .ref u] ∧ SqT K H t (ns.map V.int) ∧ SqT K H u [.int (x : Int), .int (y : Int), .int (z : Int)] ∧ Trio ns x y z ∧ Way ns F ∧ (∀ k, In3 x y z k → 0 < ns.getD k 0) ∧
  ∀ (l : Addr) (H' : Hp) (qs : List Srow) (m : List Int), Same H H' → H l = none → PrL K H' l ns.length qs → Emptied ns F (qs.map (·.2)) m → Q (.ref l) H'
def spShortest (K : PySem.W.Frag) : Sp := fun vs H Q _ => ∃ (t : Addr) (ns : List Int) (F : Nat), vs = [.ref t] ∧ SqT K H t (ns.map V.int) ∧ Way ns F ∧ 3 ≤ (fil ns).length ∧
  ∀ (l : Addr) (H' : Hp) (qs : List Srow) (m : List Int), Same H H' → H l = none → PrL K H' l ns.length qs → Emptied ns F (qs.map (·.2)) m → Q (.ref l) H'
theorem PrL.other {K : PySem.W.Frag} {H : Hp} {l t : Addr} {n : Nat} {ps : List Srow} {ys : List V} {o : HO} (h : PrL K H t n ps) (hl : H l = some (.lst ys)) (hne : t ≠ l) : PrL K (upd H l o) t n ps :=
  ⟨by rw [upd_ne hne]; exact h.ls, fun p hp => (h.st p hp).at_ hl⟩
theorem Same.free {H H' : Hp} {p : Addr} (s : Same H H') (h : H' p = none) : H p = none := by
  cases e : H p with
  | none => rfl
  | some o =>
    rw [s _ _ e] at h
    cases h
theorem fil_at {ns : List Int} {a : Nat} (h : a < (fil ns).length) : (fil ns).getD a 0 < ns.length ∧ 0 < ns.getD ((fil ns).getD a 0) 0 := by
  have e : (fil ns).getD a 0 = (fil ns)[a] := by simp [List.getD_eq_getElem?_getD, h]
  rw [e]
  exact mem_fil.mp (List.getElem_mem h)
theorem fil_incr {ns : List Int} {a b : Nat} (hab : a < b) (h : b < (fil ns).length) : (fil ns).getD a 0 < (fil ns).getD b 0 := by
  have e1 : (fil ns).getD a 0 = (fil ns)[a] := by simp [List.getD_eq_getElem?_getD, show a < (fil ns).length by omega]
  have e2 : (fil ns).getD b 0 = (fil ns)[b] := by simp [List.getD_eq_getElem?_getD, h]
  rw [e1, e2]
  exact List.pairwise_iff_getElem.mp (fil_sorted ns) a b (by omega) h hab
theorem fil_trio {ns : List Int} {a b c : Nat} (hab : a < b) (hbc : b < c) (h : c < (fil ns).length) : Trio ns ((fil ns).getD a 0) ((fil ns).getD b 0) ((fil ns).getD c 0) ∧ ∀ k, In3 ((fil ns).getD a 0) ((fil ns).getD b 0) ((fil ns).getD c 0) k → 0 < ns.getD k 0 := by
  have i1 := fil_incr (ns := ns) hab (by omega)
  have i2 := fil_incr (ns := ns) hbc h
  have a1 := fil_at (ns := ns) (a := a) (by omega)
  have a2 := fil_at (ns := ns) (a := b) (by omega)
  have a3 := fil_at (ns := ns) (a := c) h
  refine ⟨⟨a1.1, a2.1, a3.1, by omega, by omega, by omega⟩, ?_⟩
  rintro k (e | e | e) <;> subst e
  · exact a1.2
  · exact a2.2
  · exact a3.2
theorem int_getD {l : List Nat} {a : Nat} (h : a < l.length) : (l.map fun k : Nat => V.int (k : Int)).getD a .non = .int ((l.getD a 0 : Nat) : Int) := by
  simp [List.getD_eq_getElem?_getD, h]
section
variable {P : Program} {w : World} {K : PySem.W.Frag} {mg : Str → Option Value} {base : Heap}
abbrev s_emptying : Stmt := top 28
theorem sc_emptying : FnScope ["heaps", "trio", "plan", "stand", "turn", "place"] ["heaps", "trio"] (defScope s_emptying) := ⟨rfl, rfl, rfl, by decide +kernel, rfl, by decide +kernel, by decide +kernel⟩
theorem ok_emptying {f : Addr} {fd : FuncData} (F : Fun K "emptying" "emptying" s_emptying f fd) (T : Tps K mg) (C_halving : Cal P w K mg base CX0 2 "halving" ["heaps", "trio"] (spHalving K)) (C_behind_all : Cal P w K mg base CX0 3 "behind_all" ["heaps", "plan"] (spBehindAll K)) : FnOk P w K mg base CX0 4 f fd ["heaps", "trio"] (spEmptying K) := by
  refine F.ok sc_emptying (fun vs H Q E h => ?_) (fun cdv A outer s H vs Q E hr h => ?_)
  · obtain ⟨t, u, ns, x, y, z, F, rfl, _⟩ := h
    rfl
  · obtain ⟨t, u, ns, x, y, z, F, rfl, hS, hU, hT, hW, hpos, k⟩ := h
    refine ⟨_, (pss_cons (ps_set (i := 2) sc_emptying.nd rfl (Or.inl rfl) (pe_lst pa_nil))
      (pss_cons (ps_set (i := 3) sc_emptying.nd rfl (Or.inr rfl) (pv 0))
      (pss_cons (ps_while PassesOwn.never (pt_val (pe_callB (cr_all rfl) (by rfl) T.all (by decide +kernel) (pa_cons (pe_lc (own := [("place", 5)]) (g := gName 5) (by rfl) sc_emptying.nd (pi_tup (pv 1)) (blkOk_by (own := [("place", 5)]) (N := ["heaps", "trio", "plan", "stand", "turn", "place"]) (sc := defScope s_emptying) (by decide +kernel)) (fun _ _ _ _ _ => pg_name (i := 5) sc_emptying.nd rfl (Or.inl rfl)) (fun _ _ _ _ _ => pts_nil) (fun _ _ _ _ _ => (pe_cmpR op_gt (pe_ix (show IxR _ (rIxT K) from ix_tup) (pv 3) (pv 5) (fun _ _ => rfl)) pe_int (nomark _)))) pa_nil))) (pss_cons (ps_set (i := 4) sc_emptying.nd rfl (Or.inl rfl) (pe_cal C_halving hr rfl pass0 (pa_cons (pv 3) (pa_cons (pv 1) pa_nil))))
      (pss_cons (ps_expr (pe_bm PySem.F.plainAttrs_list PySem.F.slot_list_extend PySem.F.type_list_extend mt_extend (pv 2) (pa_cons (pv 4) pa_nil)))
      (pss_one (ps_set (i := 3) sc_emptying.nd rfl (Or.inr rfl) (pe_cal C_behind_all hr rfl pass0 (pa_cons (pv 3) (pa_cons (pv 4) pa_nil))))))))
      (pss_one (ps_ret (pv 2)))))), ?_⟩
    have tri : ∀ (i : Nat) (v : V), ([.int (x : Int), .int (y : Int), .int (z : Int)] : List V)[i]? = some v → ∃ p : Nat, [x, y, z][i]? = some p ∧ v = .int (p : Int) ∧ p < ns.length ∧ i < 3 := fun i v hv => by
      match i, hv with
      | 0, hv => exact ⟨x, rfl, (Option.some.inj hv).symm, hT.bx, by decide⟩
      | 1, hv => exact ⟨y, rfl, (Option.some.inj hv).symm, hT.by_, by decide⟩
      | 2, hv => exact ⟨z, rfl, (Option.some.inj hv).symm, hT.bz, by decide⟩
    refine ⟨by show 0 ≤ sizeLine; decide, fun l hl => ?_⟩
    refine ⟨_, rfl, ?_⟩
    refine ⟨fun mm σ H2 => ∃ (ta : Addr) (m : List Int) (ps : List Srow) (tt : Nat) (v : Option V), σ = [some (.ref t), some (.ref u), some (.ref l), some (.ref ta), v, none] ∧ Same H H2 ∧ SqT K H2 ta (m.map V.int) ∧ PrL K H2 l ns.length ps ∧ Em ns x y z F tt (ps.map (·.2)) m ∧ F - tt = mm,
      ⟨F, t, ns, [], 0, none, rfl, Same.new hl, Same.tup (Same.new hl) hS, ⟨upd_same, fun p hp => nomatch hp⟩, Em.start hW.nn, rfl⟩, ?_⟩
    rintro mm σ H2 ⟨ta, m, ps, tt, v, rfl, s2, hM, hP, hE, rfl⟩
    have hml := hE.go.len
    -- all([stand[place] > 0 for place in trio])
    refine ⟨_, rfl, u, rfl, ⟨_, Same.tup s2 hU⟩, fun D hD => lc_tup (K := K) (a := u) (xs := [.int (x : Int), .int (y : Int), .int (z : Int)]) (fun i H3 => H3 D = some (.lst ((([x, y, z].take i).map fun p => decide (0 < m.getD p 0)).map V.bl)) ∧ Same H2 H3) ⟨upd_same, Same.new hD⟩ (fun i H3 _ q => Same.tup (s2.trans q.2) hU) ?_ ?_⟩
    · rintro i v H3 hv ⟨hL, s3⟩
      obtain ⟨p, hp, rfl, hpl, hi3⟩ := tri i v hv
      refine ⟨rfl, _, rfl, _, rfl, ta, _, _, _, rfl, rfl, Same.tup s3 hM, at_of rfl (getD_at (by rw [hml]; exact hpl)), _, _, rfl, rfl, _, hL, ?_, ?_, same_upd s3 hD⟩
      · rw [List.length_map, List.length_map, List.length_take, sizeLine_eq]
        simp
        omega
      · rw [upd_same, List.take_add_one, hp]
        simp
    · rintro H3 ⟨hL, s3⟩
      have s23 := s2.trans s3
      refine ⟨D, _, rfl, SqL.of hL, _, rfl, ?_⟩
      have hT' : Trio m x y z := ⟨by rw [hml]; exact hT.bx, by rw [hml]; exact hT.by_, by rw [hml]; exact hT.bz, hT.n1, hT.n2, hT.n3⟩
      have hW' := hW.next hE.go
      cases ha : (([x, y, z].take ([.int (x : Int), .int (y : Int), .int (z : Int)] : List V).length).map fun p => decide (0 < m.getD p 0)).all id with
      | false =>
        have : ∃ k, In3 x y z k ∧ m.getD k 0 ≤ 0 := by
          simp only [List.length_cons, List.length_nil, List.take_succ_cons, List.take_zero, List.map_cons, List.map_nil, List.all_cons, List.all_nil, id, Bool.and_true, Bool.and_eq_false_iff, decide_eq_false_iff_not] at ha
          rcases ha with h | h | h
          · exact ⟨x, .inl rfl, by omega⟩
          · exact ⟨y, .inr (.inl rfl), by omega⟩
          · exact ⟨z, .inr (.inr rfl), by omega⟩
        obtain ⟨j, j1, j2⟩ := this
        exact iteF ⟨_, rfl, k l H3 ps m s23 hl (hP.same s3) (hE.end hW.nn hT hpos j j1 j2)⟩
      | true =>
        have hpos' : ∀ k, In3 x y z k → 0 < m.getD k 0 := by
          simp only [List.length_cons, List.length_nil, List.take_succ_cons, List.take_zero, List.map_cons, List.map_nil, List.all_cons, List.all_nil, id, Bool.and_true, Bool.and_eq_true, decide_eq_true_eq] at ha
          rintro k (e | e | e) <;> subst e
          · exact ha.1
          · exact ha.2.1
          · exact ha.2.2
        refine iteT ⟨fun σ' H' => ∃ (ta : Addr) (m : List Int) (ps : List Srow) (tt' : Nat) (v : Option V), σ' = [some (.ref t), some (.ref u), some (.ref l), some (.ref ta), v, none] ∧ Same H H' ∧ SqT K H' ta (m.map V.int) ∧ PrL K H' l ns.length ps ∧ Em ns x y z F tt' (ps.map (·.2)) m ∧ F - tt' < F - tt,
          fun σ' H' ⟨ta, m, ps, tt', v, e1, e2, e3, e4, e5, e6⟩ => ⟨F - tt', e6, ta, m, ps, tt', v, e1, e2, e3, e4, e5, rfl⟩, ?_⟩
        refine ⟨_, rfl, _, rfl, ta, u, m, x, y, z, rfl, Same.tup s3 hM, Same.tup s23 hU, hT', hW'.nn, hW'.big, hpos', fun lt H4 qs m' lo mi hi s4 hlt hPq hin hle hv => ?_⟩
        have hP4 := (hP.same s3).same s4
        have s24 := s23.trans s4
        have nl : lt ≠ l := fun e => by
          rw [e, (hP.same s3).ls] at hlt
          cases hlt
        obtain ⟨htF, hE'⟩ := hE.next hW.sF hpos' hin hle hv
        have hll : ps.length + qs.length ≤ 1000000 := by
          have h1 := hE'.len
          rw [List.length_append, List.length_map, List.length_map] at h1
          have h2 := Nat.mul_le_mul hE'.tF (Nat.le_refl F)
          have h3 := Nat.mul_le_mul hW.F1 hW.F1
          omega
        rw [hml] at hPq
        refine ⟨_, rfl, .inl ⟨rfl, _, SqL.of hP4.ls⟩, _, rfl, l, lt, _, _, rfl, rfl, hP4.ls, hPq.ls, by rw [List.length_map, List.length_map, sizeLine_eq]; omega, ?_⟩
        have hP5 := hP4.more hPq.st
        have hQ5 := hPq.other (o := .lst (ps.map (fun p => V.ref p.1) ++ qs.map fun p => V.ref p.1)) hP4.ls nl
        have hM5 := tup_at (o := .lst (ps.map (fun p => V.ref p.1) ++ qs.map fun p => V.ref p.1)) hP4.ls (Same.tup (s3.trans s4) hM)
        have s5 : Same H (upd H4 l (.lst (ps.map (fun p => V.ref p.1) ++ qs.map fun p => V.ref p.1))) := same_upd s24 hl
        generalize upd H4 l (.lst (ps.map (fun p => V.ref p.1) ++ qs.map fun p => V.ref p.1)) = H5 at hP5 hQ5 hM5 s5 ⊢
        refine ⟨_, rfl, _, rfl, ta, lt, m, m', qs, rfl, hM5, by rw [hml]; exact hQ5, hv.go.run, fun p H6 s6 hp => ?_⟩
        exact ⟨p, m', ps ++ qs, tt + 1, _, rfl, s5.trans s6, hp, hP5.same s6, by rw [List.map_append]; exact hE', by omega⟩
abbrev s_shortest_emptying : Stmt := top 27
theorem sc_shortest_emptying : FnScope ["heaps", "places", "trio"] ["heaps"] (defScope s_shortest_emptying) := ⟨rfl, rfl, rfl, by decide +kernel, rfl, by decide +kernel, by decide +kernel⟩
theorem ok_shortest_emptying {f : Addr} {fd : FuncData} (F : Fun K "shortest_emptying" "shortest_emptying" s_shortest_emptying f fd) (T : Tps K mg) (m_comb : mg "combinations" = some (.type "itertools.combinations")) (C_filled : Cal P w K mg base CX0 1 "filled" ["heaps"] (spFilled K)) (C_emptying : Cal P w K mg base CX0 4 "emptying" ["heaps", "trio"] (spEmptying K)) : FnOk P w K mg base CX0 5 f fd ["heaps"] (spShortest K) := by
  refine F.ok sc_shortest_emptying (fun vs H Q E h => ?_) (fun cdv A outer s H vs Q E hr h => ?_)
  · obtain ⟨t, ns, F, rfl, _⟩ := h
    rfl
  · obtain ⟨t, ns, F, rfl, hS, hW, h3, k⟩ := h
    refine ⟨_, (pss_cons (ps_set (i := 1) sc_shortest_emptying.nd rfl (Or.inl rfl) (pe_cal C_filled hr rfl pass0 (pa_cons (pv 0) pa_nil)))
      (pss_one (ps_ret (pe_minLen rfl (by rfl) T.min (by rfl) T.len (pa_cons (pe_lc (own := [("trio", 2)]) (g := gName 2) (by rfl) sc_shortest_emptying.nd (pi_comb rfl m_comb (pa_cons (pv 1) (pa_cons pe_int pa_nil))) (blkOk_by (own := [("trio", 2)]) (N := ["heaps", "places", "trio"]) (sc := defScope s_shortest_emptying) (by decide +kernel)) (fun _ _ _ _ _ => pg_name (i := 2) sc_shortest_emptying.nd rfl (Or.inl rfl)) (fun _ _ _ _ _ => pts_nil) (fun _ _ _ _ _ => (pe_cal C_emptying hr rfl pass0 (pa_cons (pv 0) (pa_cons (pv 2) pa_nil))))) pa_nil))))), ?_⟩
    refine ⟨_, rfl, t, ns, rfl, hS, hW.n6, fun p H1 s1 hp hp1 => ?_⟩
    have h6 : (fil ns).length ≤ 6 := Nat.le_trans (fil_le ns) hW.n6
    have hxl : ((fil ns).map fun k : Nat => V.int (k : Int)).length = (fil ns).length := List.length_map _
    refine ⟨_, rfl, p, _, rfl, SqL.of hp1, by rw [hxl]; exact h3, by rw [hxl]; exact h6, fun D hD => ?_⟩
    refine lc_it walk_comb (fun i H2 => ∃ ts : List Addr, H2 D = some (.lst (ts.map V.ref)) ∧ Same H1 H2 ∧ ts.length = i ∧ ∀ a ∈ ts, (H1 a = none ∧ a ≠ D) ∧ ∃ (qs : List Srow) (m : List Int), PrL K H2 a ns.length qs ∧ Emptied ns F (qs.map (·.2)) m) ⟨[], upd_same, Same.new hD, rfl, fun a ha => nomatch ha⟩ (fun _ _ _ _ => trivial) ?_ ?_
    · rintro i v H2 H3 hi ⟨ts, hL, s2, hlen, hts⟩ ⟨TT, rfl, hTT, rfl⟩
      have tin := trios_in _ (by rw [hxl]; exact h6) _ (trios_getD hi)
      have sT : Same H2 (upd H2 TT (.tup (triV ((fil ns).map fun k : Nat => V.int (k : Int)) i))) := Same.new hTT
      have hTu : (upd H2 TT (.tup (triV ((fil ns).map fun k : Nat => V.int (k : Int)) i))) TT = some (.tup (triV ((fil ns).map fun k : Nat => V.int (k : Int)) i)) := upd_same
      generalize upd H2 TT (.tup (triV ((fil ns).map fun k : Nat => V.int (k : Int)) i)) = H3 at sT hTu ⊢
      unfold triV at hTu
      generalize (trios ((fil ns).map fun k : Nat => V.int (k : Int)).length).getD i (0, 0, 0) = abc at tin hTu
      obtain ⟨a, b, c⟩ := abc
      obtain ⟨t1, t2, t3⟩ := tin
      dsimp only at t1 t2 t3 hTu
      rw [hxl] at t3
      rw [int_getD (show a < (fil ns).length by omega), int_getD (show b < (fil ns).length by omega), int_getD (show c < (fil ns).length by omega)] at hTu
      obtain ⟨f1, f2⟩ := fil_trio t1 t2 t3
      have s13 := s2.trans sT
      refine ⟨rfl, _, rfl, _, rfl, t, TT, ns, _, _, _, F, rfl, Same.tup (s1.trans s13) hS, SqT.of hTu, f1, hW, f2, fun l H4 qs m s4 hl hP hE => ?_⟩
      have hL4 := (sT.trans s4) _ _ hL
      have nDl : l ≠ D := fun e => by
        rw [e, sT _ _ hL] at hl
        cases hl
      refine ⟨_, hL4, ?_, ts ++ [l], by rw [upd_same, List.map_append]; rfl, same_upd (s13.trans s4) hD, by rw [List.length_append, hlen]; rfl, fun e he => ?_⟩
      · rw [List.length_map, sizeLine_eq]
        have : (trios ((fil ns).map fun k : Nat => V.int (k : Int)).length).length ≤ 1000 := by
          rw [hxl]
          have : (fil ns).length = 3 ∨ (fil ns).length = 4 ∨ (fil ns).length = 5 ∨ (fil ns).length = 6 := by omega
          rcases this with e | e | e | e <;> rw [e] <;> decide
        omega
      · rcases List.mem_append.mp he with he | he
        · obtain ⟨e1, qs', m', e2, e3⟩ := hts e he
          exact ⟨e1, qs', m', ((e2.same sT).same s4).other hL4 e1.2, e3⟩
        · have ee : e = l := by simpa using he
          subst ee
          exact ⟨⟨(s2.trans sT).free hl, nDl⟩, qs, m, hP.other hL4 nDl, hE⟩
    · rintro H2 ⟨ts, hL, s2, hlen, hts⟩
      have t0 := (trios_first (((fil ns).map fun k : Nat => V.int (k : Int)).length) (by rw [hxl]; exact h3) (by rw [hxl]; exact h6)).1
      refine ⟨D, ts, rfl, SqL.of hL, by omega, fun a ha => ?_, fun a ha => ?_⟩
      · obtain ⟨e1, qs', m', e2, e3⟩ := hts a ha
        exact ⟨_, SqL.of e2.ls⟩
      · obtain ⟨e1, qs', m', e2, e3⟩ := hts a ha
        exact k a H2 qs' m' (s1.trans s2) (s1.free e1.1) e2 e3
end
end Hd
set_option maxHeartbeats 4000000
namespace Hd
open PySem PySem.Spec PyProof.Rows L2
/-- a plan at t: a tuple of the steps' tuples -/
structure PlanAt (K : PySem.W.Frag) (H : Hp) (t : Addr) (n : Nat) (ps : List Srow) : Prop where
  tp : SqT K H t (ps.map fun p => V.ref p.1)
  st : ∀ p ∈ ps, StAt K H n p
theorem PlanAt.same {K : PySem.W.Frag} {H H' : Hp} {t : Addr} {n : Nat} {ps : List Srow} (e : Same H H') (h : PlanAt K H t n ps) : PlanAt K H' t n ps := ⟨Same.tup e h.tp, fun p hp => (h.st p hp).same e⟩
theorem Way.of {ns : List Int} {F : Nat} (h : hpsB ns = true) (hF : ns.sum < 2 ^ F) (h1 : F ≤ 103) : Way ns F := by
  obtain ⟨g1, g2, g3, g4, g5⟩ := hps_good h
  exact ⟨g2, g3, hF, h1⟩
theorem fil_some {ns : List Int} (N : NN ns) (h : 0 < ns.sum) : 0 < (fil ns).length := by
  by_cases c : 0 < (fil ns).length
  · exact c
  · have e : fil ns = [] := List.length_eq_zero_iff.mp (by omega)
    have := sum_zero ns fun k => by
      have n := N k
      by_cases hk : 0 < ns.getD k 0
      · have hkl : k < ns.length := by
          by_cases c : k < ns.length
          · exact c
          · rw [List.getD_eq_getElem?_getD, List.getElem?_eq_none (by omega)] at hk
            exact absurd hk (by decide)
        have := (mem_fil (ns := ns) (k := k)).mpr ⟨hkl, hk⟩
        rw [e] at this
        cases this
      · omega
    omega
theorem fil_all {ns : List Int} (h : ∀ k, k < ns.length → 0 < ns.getD k 0) : (fil ns).length = ns.length := by
  unfold fil
  rw [List.filter_eq_self.mpr fun k hk => decide_eq_true (h k (List.mem_range.mp hk)), List.length_range]
theorem ints_flat (ns : List Int) : (ns.map V.int).all flatV = true := List.all_eq_true.mpr fun v hv => by
  obtain ⟨n, _, rfl⟩ := List.mem_map.mp hv
  rfl
theorem in_zero (ns : List Int) : inV (.int 0) (ns.map V.int) = ns.any fun n => decide (n = 0) := by
  unfold inV
  rw [List.any_map]
  congr 1
def spEmptyPlan (K : PySem.W.Frag) : Sp := fun vs H Q _ => ∃ (t : Addr) (ns : List Int) (F : Nat), vs = [.ref t] ∧ SqT K H t (ns.map V.int) ∧ hpsB ns = true ∧ ns.sum < 2 ^ F ∧ F ≤ 103 ∧ 3 ≤ ns.length ∧
  ∀ (p : Addr) (H' : Hp) (qs : List Srow) (m : List Int), Same H H' → PlanAt K H' p ns.length qs → Gone ns (qs.map (·.2)) m → (∃ k, k < ns.length ∧ m.getD k 0 = 0) → qs.length ≤ F * F → Q (.ref p) H'
def spToPair (K : PySem.W.Frag) : Sp := fun vs H Q _ => ∃ (t : Addr) (ns : List Int) (F : Nat), vs = [.ref t] ∧ SqT K H t (ns.map V.int) ∧ Way ns F ∧
  ∀ (l : Addr) (H' : Hp) (qs : List Srow) (m : List Int), Same H H' → H l = none → PrL K H' l ns.length qs → Pr ns F (qs.map (·.2)) m → (fil m).length ≤ 2 → Q (.ref l) H'
def spPairPlan (K : PySem.W.Frag) : Sp := fun vs H Q _ => ∃ (t : Addr) (ns : List Int) (F : Nat), vs = [.ref t] ∧ SqT K H t (ns.map V.int) ∧ hpsB ns = true ∧ ns.sum < 2 ^ F ∧ F ≤ 103 ∧
  ∀ (p : Addr) (H' : Hp) (qs : List Srow) (m : List Int), Same H H' → PlanAt K H' p ns.length qs → Pr ns F (qs.map (·.2)) m → (fil m).length ≤ 2 → Q (.ref p) H'
def spWalkPair (K : PySem.W.Frag) : Sp := fun vs H Q _ => ∃ (t : Addr) (ns : List Int) (g : Int) (T : Nat), vs = [.ref t] ∧ SqT K H t (ns.map V.int) ∧ ns.length ≤ 6 ∧ NN ns ∧ 0 < g ∧ ns.sum = g * 2 ^ T ∧ T ≤ 103 ∧ (∀ k, g ∣ ns.getD k 0) ∧ (fil ns).length ≤ 2 ∧
  ∀ (l : Addr) (H' : Hp) (qs : List Srow) (m : List Int) (tt : Nat), Same H H' → H l = none → PrL K H' l ns.length qs → Wk ns g T tt (qs.map (·.2)) m → (fil m).length ≤ 1 → Q (.ref l) H'
def spOnePlan (K : PySem.W.Frag) : Sp := fun vs H Q _ => ∃ (t : Addr) (ns : List Int) (o tw F : Nat), vs = [.ref t] ∧ SqT K H t (ns.map V.int) ∧ hpsB ns = true ∧ ns.sum < 2 ^ F ∧ F ≤ 103 ∧ OddOf ns o tw ∧ (1 < o → ∀ H', Same H H' → Q .non H') ∧
  (o = 1 → ∀ (p : Addr) (H' : Hp) (qs : List Srow) (m : List Int), Same H H' → PlanAt K H' p ns.length qs → Gone ns (qs.map (·.2)) m → (fil m).length = 1 → qs.length ≤ F * F * ns.length → Q (.ref p) H')
section
variable {P : Program} {w : World} {K : PySem.W.Frag} {mg : Str → Option Value} {base : Heap}
abbrev s_empty_plan : Stmt := top 21
theorem sc_empty_plan : FnScope ["heaps"] ["heaps"] (defScope s_empty_plan) := ⟨rfl, rfl, rfl, by decide +kernel, rfl, by decide +kernel, by decide +kernel⟩
theorem ok_empty_plan {f : Addr} {fd : FuncData} (F : Fun K "empty_plan" "empty_plan" s_empty_plan f fd) (T : Tps K mg) (C_check_heaps : Cal P w K mg base CX0 3 "check_heaps" ["heaps"] (spChkHeaps K)) (C_shortest_emptying : Cal P w K mg base CX0 5 "shortest_emptying" ["heaps"] (spShortest K)) : FnOk P w K mg base CX0 6 f fd ["heaps"] (spEmptyPlan K) := by
  refine F.ok sc_empty_plan (fun vs H Q E h => ?_) (fun cdv A outer s H vs Q E hr h => ?_)
  · obtain ⟨t, ns, F, rfl, _⟩ := h
    rfl
  · obtain ⟨t, ns, F, rfl, hS, hg, hF, hF1, h3, k⟩ := h
    obtain ⟨g1, g2, g3, g4, g5⟩ := hps_good hg
    have hW := Way.of hg hF hF1
    refine ⟨_, (pss_cons (ps_expr (pe_cal C_check_heaps hr rfl pass0 (pa_cons (pv 0) pa_nil)))
      (pss_cons (ps_if (pt_cmpR op_lt (pe_callB call_len_seq (by rfl) T.len PySem.boot_len (pa_cons (pv 0) pa_nil)) pe_int (nomark _)) (pss_one ps_never) pss_nil)
      (pss_cons (ps_if (pt_cmpR op_in_seq pe_int (pv 0) (by rfl)) (pss_one (ps_ret (pe_tup pa_nil))) pss_nil)
      (pss_one (ps_ret (pe_callTy call_tuple_of (by rfl) T.tuple (by decide +kernel) (pa_cons (pe_cal C_shortest_emptying hr rfl pass0 (pa_cons (pv 0) pa_nil)) pa_nil))))))), ?_⟩
    refine ⟨_, rfl, t, ns, rfl, hS, hg, fun H1 s1 => ?_⟩
    refine ⟨_, rfl, t, _, rfl, .inr (Same.tup s1 hS), _, _, rfl, rfl, _, rfl, ?_⟩
    rw [List.length_map]
    rw [show decide ((ns.length : Int) < 3) = false from decide_eq_false (by omega)]
    refine iteF ?_
    refine ⟨_, rfl, t, _, rfl, .inr (Same.tup s1 hS), rfl, ints_flat ns, _, rfl, ?_⟩
    have e0 : (if false = true then !inV (.int 0) (ns.map V.int) else inV (.int 0) (ns.map V.int)) = ns.any fun n => decide (n = 0) := in_zero ns
    rw [e0]
    cases ha : ns.any fun n => decide (n = 0) with
    | true =>
      rw [List.any_eq_true] at ha
      obtain ⟨n, hn, e⟩ := ha
      obtain ⟨i, hi, ei⟩ := List.mem_iff_getElem.mp hn
      refine iteT ⟨by show 0 ≤ sizeLine; decide, fun p hp => ?_⟩
      refine k p _ [] ns (s1.trans (Same.new hp)) ⟨SqT.of upd_same, fun p hp => nomatch hp⟩ (.nil _) ⟨i, hi, ?_⟩ (Nat.zero_le _)
      rw [List.getD_eq_getElem?_getD, List.getElem?_eq_getElem hi, ei]
      exact of_decide_eq_true e
    | false =>
      have hp : ∀ j, j < ns.length → 0 < ns.getD j 0 := fun j hj => by
        have n := g3 j
        have e : ns.getD j 0 = ns[j] := by simp [List.getD_eq_getElem?_getD, hj]
        rw [List.any_eq_false] at ha
        have := ha ns[j] (List.getElem_mem hj)
        have : ¬ ns[j] = 0 := fun z => this (decide_eq_true z)
        omega
      refine iteF ⟨_, rfl, t, ns, F, rfl, Same.tup s1 hS, hW, by rw [fil_all hp]; exact h3, fun l H2 qs m s2 hl hP hE => ?_⟩
      refine ⟨l, _, rfl, .inl ⟨SqL.of hP.ls, fun p hp => ?_⟩⟩
      have s3 : Same H2 (upd H2 p (.tup (qs.map fun p => V.ref p.1))) := Same.new hp
      refine k p _ qs m ((s1.trans s2).trans s3) ⟨SqT.of upd_same, (hP.same s3).st⟩ hE.go hE.zero ?_
      have := hE.len
      rw [List.length_map] at this
      exact this
abbrev s_emptying_to_pair : Stmt := top 25
theorem sc_emptying_to_pair : FnScope ["heaps", "plan", "stand", "turn"] ["heaps"] (defScope s_emptying_to_pair) := ⟨rfl, rfl, rfl, by decide +kernel, rfl, by decide +kernel, by decide +kernel⟩
theorem ok_emptying_to_pair {f : Addr} {fd : FuncData} (F : Fun K "emptying_to_pair" "emptying_to_pair" s_emptying_to_pair f fd) (T : Tps K mg) (C_filled : Cal P w K mg base CX0 1 "filled" ["heaps"] (spFilled K)) (C_shortest_emptying : Cal P w K mg base CX0 5 "shortest_emptying" ["heaps"] (spShortest K)) (C_behind_all : Cal P w K mg base CX0 3 "behind_all" ["heaps", "plan"] (spBehindAll K)) : FnOk P w K mg base CX0 6 f fd ["heaps"] (spToPair K) := by
  refine F.ok sc_emptying_to_pair (fun vs H Q E h => ?_) (fun cdv A outer s H vs Q E hr h => ?_)
  · obtain ⟨t, ns, F, rfl, _⟩ := h
    rfl
  · obtain ⟨t, ns, F, rfl, hS, hW, k⟩ := h
    refine ⟨_, (pss_cons (ps_set (i := 1) sc_emptying_to_pair.nd rfl (Or.inl rfl) (pe_lst pa_nil))
      (pss_cons (ps_set (i := 2) sc_emptying_to_pair.nd rfl (Or.inl rfl) (pv 0))
      (pss_cons (ps_while PassesOwn.never (pt_cmpR op_gt (pe_callB call_len_seq (by rfl) T.len PySem.boot_len (pa_cons (pe_cal C_filled hr rfl pass0 (pa_cons (pv 2) pa_nil)) pa_nil)) pe_int (nomark _)) (pss_cons (ps_set (i := 3) sc_emptying_to_pair.nd rfl (Or.inl rfl) (pe_cal C_shortest_emptying hr rfl pass0 (pa_cons (pv 2) pa_nil)))
      (pss_cons (ps_expr (pe_bm PySem.F.plainAttrs_list PySem.F.slot_list_extend PySem.F.type_list_extend mt_extend (pv 1) (pa_cons (pv 3) pa_nil)))
      (pss_one (ps_set (i := 2) sc_emptying_to_pair.nd rfl (Or.inl rfl) (pe_cal C_behind_all hr rfl pass0 (pa_cons (pv 2) (pa_cons (pv 3) pa_nil))))))))
      (pss_one (ps_ret (pv 1)))))), ?_⟩
    refine ⟨by show 0 ≤ sizeLine; decide, fun l hl => ?_⟩
    refine ⟨_, rfl, ?_⟩
    refine ⟨fun mm σ H2 => ∃ (ta : Addr) (m : List Int) (ps : List Srow) (v : Option V), σ = [some (.ref t), some (.ref l), some (.ref ta), v] ∧ Same H H2 ∧ SqT K H2 ta (m.map V.int) ∧ PrL K H2 l ns.length ps ∧ Pr ns F (ps.map (·.2)) m ∧ (fil m).length = mm,
      ⟨(fil ns).length, t, ns, [], none, rfl, Same.new hl, Same.tup (Same.new hl) hS, ⟨upd_same, fun p hp => nomatch hp⟩, Pr.start ns F, rfl⟩, ?_⟩
    rintro mm σ H2 ⟨ta, m, ps, v, rfl, s2, hM, hP, hE, rfl⟩
    have hml := hE.go.len
    have hW' := hW.next hE.go
    refine ⟨_, rfl, ta, m, rfl, hM, hW'.n6, fun pf H3 s3 hpf hpf3 => ?_⟩
    have s23 := s2.trans s3
    refine ⟨pf, _, rfl, .inl (SqL.of hpf3), _, _, rfl, rfl, _, rfl, ?_⟩
    rw [List.length_map]
    refine ite2 (fun hz => ?_) (fun hz => ?_)
    · have h3 : 3 ≤ (fil m).length := by have := of_decide_eq_true hz; omega
      refine ⟨fun σ' H' => ∃ (ta : Addr) (m' : List Int) (ps : List Srow) (v : Option V), σ' = [some (.ref t), some (.ref l), some (.ref ta), v] ∧ Same H H' ∧ SqT K H' ta (m'.map V.int) ∧ PrL K H' l ns.length ps ∧ Pr ns F (ps.map (·.2)) m' ∧ (fil m').length < (fil m).length,
        fun σ' H' ⟨ta, m', ps, v, e1, e2, e3, e4, e5, e6⟩ => ⟨(fil m').length, e6, ta, m', ps, v, e1, e2, e3, e4, e5, rfl⟩, ?_⟩
      refine ⟨_, rfl, ta, m, F, rfl, Same.tup s3 hM, hW', h3, fun lt H4 qs m' s4 hlt hPq hv => ?_⟩
      have hP4 := (hP.same s3).same s4
      have s24 := s23.trans s4
      have nl : lt ≠ l := fun e => by
        rw [e, (hP.same s3).ls] at hlt
        cases hlt
      obtain ⟨hE', hlt'⟩ := hE.next hv
      have hll : ps.length + qs.length ≤ 1000000 := by
        have h1 := hE'.len
        rw [List.length_append, List.length_map, List.length_map] at h1
        have h2 := Nat.mul_le_mul (Nat.le_trans (fil_le ns) hW.n6) (Nat.mul_le_mul hW.F1 hW.F1)
        omega
      rw [hml] at hPq
      refine ⟨_, rfl, .inl ⟨rfl, _, SqL.of hP4.ls⟩, _, rfl, l, lt, _, _, rfl, rfl, hP4.ls, hPq.ls, by rw [List.length_map, List.length_map, sizeLine_eq]; omega, ?_⟩
      have hP5 := hP4.more hPq.st
      have hQ5 := hPq.other (o := .lst (ps.map (fun p => V.ref p.1) ++ qs.map fun p => V.ref p.1)) hP4.ls nl
      have hM5 := tup_at (o := .lst (ps.map (fun p => V.ref p.1) ++ qs.map fun p => V.ref p.1)) hP4.ls (Same.tup (s3.trans s4) hM)
      have s5 : Same H (upd H4 l (.lst (ps.map (fun p => V.ref p.1) ++ qs.map fun p => V.ref p.1))) := same_upd s24 hl
      generalize upd H4 l (.lst (ps.map (fun p => V.ref p.1) ++ qs.map fun p => V.ref p.1)) = H5 at hP5 hQ5 hM5 s5 ⊢
      refine ⟨_, rfl, _, rfl, ta, lt, m, m', qs, rfl, hM5, by rw [hml]; exact hQ5, hv.go.run, fun p H6 s6 hp => ?_⟩
      exact ⟨p, m', ps ++ qs, _, rfl, s5.trans s6, hp, hP5.same s6, by rw [List.map_append]; exact hE', hlt'⟩
    · have h2 : (fil m).length ≤ 2 := by
        have : ¬ ((2 : Int) < ((fil m).length : Int)) := fun z => hz (decide_eq_true z)
        omega
      exact ⟨_, rfl, k l H3 ps m s23 hl (hP.same s3) hE h2⟩
abbrev s_pair_plan : Stmt := top 22
theorem sc_pair_plan : FnScope ["heaps"] ["heaps"] (defScope s_pair_plan) := ⟨rfl, rfl, rfl, by decide +kernel, rfl, by decide +kernel, by decide +kernel⟩
theorem ok_pair_plan {f : Addr} {fd : FuncData} (F : Fun K "pair_plan" "pair_plan" s_pair_plan f fd) (T : Tps K mg) (C_check_heaps : Cal P w K mg base CX0 3 "check_heaps" ["heaps"] (spChkHeaps K)) (C_emptying_to_pair : Cal P w K mg base CX0 6 "emptying_to_pair" ["heaps"] (spToPair K)) : FnOk P w K mg base CX0 7 f fd ["heaps"] (spPairPlan K) := by
  refine F.ok sc_pair_plan (fun vs H Q E h => ?_) (fun cdv A outer s H vs Q E hr h => ?_)
  · obtain ⟨t, ns, F, rfl, _⟩ := h
    rfl
  · obtain ⟨t, ns, F, rfl, hS, hg, hF, hF1, k⟩ := h
    refine ⟨_, (pss_cons (ps_expr (pe_cal C_check_heaps hr rfl pass0 (pa_cons (pv 0) pa_nil)))
      (pss_one (ps_ret (pe_callTy call_tuple_of (by rfl) T.tuple (by decide +kernel) (pa_cons (pe_cal C_emptying_to_pair hr rfl pass0 (pa_cons (pv 0) pa_nil)) pa_nil))))), ?_⟩
    refine ⟨_, rfl, t, ns, rfl, hS, hg, fun H1 s1 => ?_⟩
    refine ⟨_, rfl, t, ns, F, rfl, Same.tup s1 hS, Way.of hg hF hF1, fun l H2 qs m s2 hl hP hE h2 => ?_⟩
    refine ⟨l, _, rfl, .inl ⟨SqL.of hP.ls, fun p hp => ?_⟩⟩
    have s3 : Same H2 (upd H2 p (.tup (qs.map fun p => V.ref p.1))) := Same.new hp
    exact k p _ qs m ((s1.trans s2).trans s3) ⟨SqT.of upd_same, (hP.same s3).st⟩ hE h2
abbrev s_walk_of_pair : Stmt := top 26
theorem sc_walk_of_pair : FnScope ["heaps", "plan", "stand", "places", "one", "other", "step"] ["heaps"] (defScope s_walk_of_pair) := ⟨rfl, rfl, rfl, by decide +kernel, rfl, by decide +kernel, by decide +kernel⟩
theorem ok_walk_of_pair {f : Addr} {fd : FuncData} (F : Fun K "walk_of_pair" "walk_of_pair" s_walk_of_pair f fd) (T : Tps K mg) (C_filled : Cal P w K mg base CX0 1 "filled" ["heaps"] (spFilled K)) (C_behind : Cal P w K mg base CX0 2 "behind" ["heaps", "step"] (spBehind K)) : FnOk P w K mg base CX0 3 f fd ["heaps"] (spWalkPair K) := by
  refine F.ok sc_walk_of_pair (fun vs H Q E h => ?_) (fun cdv A outer s H vs Q E hr h => ?_)
  · obtain ⟨t, ns, g, T, rfl, _⟩ := h
    rfl
  · obtain ⟨t, ns, g, TT, rfl, hS, h6, hN, g0, hsum, hT1, hdv, hf2, k⟩ := h
    refine ⟨_, (pss_cons (ps_set (i := 1) sc_walk_of_pair.nd rfl (Or.inl rfl) (pe_lst pa_nil))
      (pss_cons (ps_set (i := 2) sc_walk_of_pair.nd rfl (Or.inl rfl) (pv 0))
      (pss_cons (ps_set (i := 3) sc_walk_of_pair.nd rfl (Or.inl rfl) (pe_cal C_filled hr rfl pass0 (pa_cons (pv 2) pa_nil)))
      (pss_cons (ps_while PassesOwn.never (pt_cmpR op_gt (pe_callB call_len_seq (by rfl) T.len PySem.boot_len (pa_cons (pv 3) pa_nil)) pe_int (nomark _)) (pss_cons (ps_asg (pv 3) (pg_unl (n := 2) rfl (pgs_cons (pg_name (i := 4) sc_walk_of_pair.nd rfl (Or.inl rfl)) (pgs_cons (pg_name (i := 5) sc_walk_of_pair.nd rfl (Or.inl rfl)) pgs_nil))))
      (pss_cons (ps_set (i := 6) sc_walk_of_pair.nd rfl (Or.inl rfl) (pe_ifExp (pt_cmpR op_ge (pe_ix ix_tup (pv 2) (pv 4) (fun _ _ => rfl)) (pe_ix ix_tup (pv 2) (pv 5) (fun _ _ => rfl)) (nomark _)) (pe_tup (pa_cons (pv 4) (pa_cons (pv 5) pa_nil))) (pe_tup (pa_cons (pv 5) (pa_cons (pv 4) pa_nil)))))
      (pss_cons (ps_expr (pe_bm PySem.F.plainAttrs_list PySem.F.slot_list_append PySem.F.type_list_append mt_append (pv 1) (pa_cons (pv 6) pa_nil)))
      (pss_cons (ps_set (i := 2) sc_walk_of_pair.nd rfl (Or.inl rfl) (pe_cal C_behind hr rfl pass0 (pa_cons (pv 2) (pa_cons (pv 6) pa_nil))))
      (pss_one (ps_set (i := 3) sc_walk_of_pair.nd rfl (Or.inl rfl) (pe_cal C_filled hr rfl pass0 (pa_cons (pv 2) pa_nil)))))))))
      (pss_one (ps_ret (pv 1))))))), ?_⟩
    refine ⟨by show 0 ≤ sizeLine; decide, fun l hl => ?_⟩
    have s0 : Same H (upd H l (.lst [])) := Same.new hl
    refine ⟨_, rfl, ?_⟩
    refine ⟨_, rfl, t, ns, rfl, Same.tup s0 hS, h6, fun pf H1 s1 hpf hpf1 => ?_⟩
    refine ⟨fun mm σ H2 => ∃ (ta pa : Addr) (m : List Int) (ps : List Srow) (tt : Nat) (v1 v2 v3 : Option V), σ = [some (.ref t), some (.ref l), some (.ref ta), some (.ref pa), v1, v2, v3] ∧ Same H H2 ∧ SqT K H2 ta (m.map V.int) ∧ PrL K H2 l ns.length ps ∧ Wk ns g TT tt (ps.map (·.2)) m ∧ SqL K H2 pa ((fil m).map fun k : Nat => V.int (k : Int)) ∧ TT - tt = mm,
      ⟨TT, t, pf, ns, [], 0, none, none, none, rfl, s0.trans s1, Same.tup (s0.trans s1) hS, ⟨s1 _ _ upd_same, fun p hp => nomatch hp⟩, Wk.start hdv hf2, SqL.of hpf1, rfl⟩, ?_⟩
    rintro mm σ H2 ⟨ta, pa, m, ps, tt, v1, v2, v3, rfl, s2, hM, hP, hE, hF, rfl⟩
    have hml := hE.go.len
    refine ⟨_, rfl, pa, _, rfl, .inl hF, _, _, rfl, rfl, _, rfl, ?_⟩
    rw [List.length_map]
    refine ite2 (fun hz => ?_) (fun hz => ?_)
    · have h1 : 1 < (fil m).length := by have := of_decide_eq_true hz; omega
      obtain ⟨i, j, ef, hi, hj, hij, pi, pj, hs, hz0⟩ := hE.pair hN h1
      refine ⟨fun σ' H' => ∃ (ta pa : Addr) (m : List Int) (ps : List Srow) (tt' : Nat) (v1 v2 v3 : Option V), σ' = [some (.ref t), some (.ref l), some (.ref ta), some (.ref pa), v1, v2, v3] ∧ Same H H' ∧ SqT K H' ta (m.map V.int) ∧ PrL K H' l ns.length ps ∧ Wk ns g TT tt' (ps.map (·.2)) m ∧ SqL K H' pa ((fil m).map fun k : Nat => V.int (k : Int)) ∧ TT - tt' < TT - tt,
        fun σ' H' ⟨ta, pa, m, ps, tt', v1, v2, v3, e1, e2, e3, e4, e5, e6, e7⟩ => ⟨TT - tt', e7, ta, pa, m, ps, tt', v1, v2, v3, e1, e2, e3, e4, e5, e6, rfl⟩, ?_⟩
      rw [ef] at hF
      refine ⟨_, rfl, pa, _, rfl, hF, rfl, _, _, rfl, _, _, rfl, rfl, ?_⟩
      refine ⟨_, rfl, _, rfl, ta, _, _, _, rfl, rfl, hM, at_of rfl (getD_at hi), _, rfl, _, rfl, ta, _, _, _, rfl, rfl, hM, at_of rfl (getD_at hj), _, _, rfl, rfl, _, rfl, ?_⟩
      refine ite2 (fun hc => ?_) (fun hc => ?_)
      · have hle : m.getD j 0 ≤ m.getD i 0 := by have := of_decide_eq_true hc; omega
        refine ⟨_, rfl, _, rfl, by show 2 ≤ sizeLine; decide, fun U hU => ?_⟩
        have s3 : Same H2 (upd H2 U (.tup [.int (i : Int), .int (j : Int)])) := Same.new hU
        have hU3 : (upd H2 U (.tup [.int (i : Int), .int (j : Int)])) U = some (.tup [.int (i : Int), .int (j : Int)]) := upd_same
        generalize upd H2 U (.tup [.int (i : Int), .int (j : Int)]) = H3 at s3 hU3 ⊢
        obtain ⟨htT, hcan, hE'⟩ := hE.next g0 hsum hi hj hij pj hle hs hz0
        have hP3 := hP.same s3
        have hst : StAt K H3 ns.length (U, i, j) := StAt.new hU3 (by rw [← hml]; exact hi) (by rw [← hml]; exact hj) hij
        have hpl : ps.length ≤ 103 := by
          have := hE.len
          rw [List.length_map] at this
          omega
        refine ⟨_, rfl, .inl ⟨rfl, _, SqL.of hP3.ls⟩, _, rfl, l, _, _, rfl, rfl, hP3.ls, by rw [List.length_map, sizeLine_eq]; omega, ?_⟩
        have hP4 := hP3.more (qs := [(U, i, j)]) fun p hp => by
          have ep : p = (U, i, j) := by simpa using hp
          subst ep
          exact hst
        have hU4 := tup_at (o := .lst (ps.map (fun p => V.ref p.1) ++ [.ref U])) hP3.ls hst.1
        have hM4 := tup_at (o := .lst (ps.map (fun p => V.ref p.1) ++ [.ref U])) hP3.ls (Same.tup s3 hM)
        have s4 : Same H (upd H3 l (.lst (ps.map (fun p => V.ref p.1) ++ [.ref U]))) := same_upd (s2.trans s3) hl
        have hP4' : PrL K (upd H3 l (.lst (ps.map (fun p => V.ref p.1) ++ [.ref U]))) l ns.length (ps ++ [(U, i, j)]) := hP4
        generalize upd H3 l (.lst (ps.map (fun p => V.ref p.1) ++ [.ref U])) = H4 at hP4' hU4 hM4 s4 ⊢
        refine ⟨_, rfl, _, rfl, ta, U, m, i, j, rfl, hM4, hU4, hi, hj, hij, fun p H5 s5 hp hp5 => ?_⟩
        refine ⟨_, rfl, p, mv m i j, rfl, SqT.of hp5, by rw [len_mv, hml]; exact h6, fun q H6 s6 hq hq6 => ?_⟩
        exact ⟨p, q, mv m i j, ps ++ [(U, i, j)], tt + 1, _, _, _, rfl, (s4.trans s5).trans s6, SqT.of (s6 _ _ hp5), (hP4'.same s5).same s6, by rw [List.map_append]; exact hE', SqL.of hq6, by omega⟩
      · have hle : m.getD i 0 ≤ m.getD j 0 := by
          have : ¬ (m.getD j 0 ≤ m.getD i 0) := fun z => hc (decide_eq_true (by omega))
          omega
        refine ⟨_, rfl, _, rfl, by show 2 ≤ sizeLine; decide, fun U hU => ?_⟩
        have s3 : Same H2 (upd H2 U (.tup [.int (j : Int), .int (i : Int)])) := Same.new hU
        have hU3 : (upd H2 U (.tup [.int (j : Int), .int (i : Int)])) U = some (.tup [.int (j : Int), .int (i : Int)]) := upd_same
        generalize upd H2 U (.tup [.int (j : Int), .int (i : Int)]) = H3 at s3 hU3 ⊢
        obtain ⟨htT, hcan, hE'⟩ := hE.next g0 hsum hj hi (Ne.symm hij) pi hle (by omega) (fun k a b => hz0 k b a)
        have hP3 := hP.same s3
        have hst : StAt K H3 ns.length (U, j, i) := StAt.new hU3 (by rw [← hml]; exact hj) (by rw [← hml]; exact hi) (Ne.symm hij)
        have hpl : ps.length ≤ 103 := by
          have := hE.len
          rw [List.length_map] at this
          omega
        refine ⟨_, rfl, .inl ⟨rfl, _, SqL.of hP3.ls⟩, _, rfl, l, _, _, rfl, rfl, hP3.ls, by rw [List.length_map, sizeLine_eq]; omega, ?_⟩
        have hP4 := hP3.more (qs := [(U, j, i)]) fun p hp => by
          have ep : p = (U, j, i) := by simpa using hp
          subst ep
          exact hst
        have hU4 := tup_at (o := .lst (ps.map (fun p => V.ref p.1) ++ [.ref U])) hP3.ls hst.1
        have hM4 := tup_at (o := .lst (ps.map (fun p => V.ref p.1) ++ [.ref U])) hP3.ls (Same.tup s3 hM)
        have s4 : Same H (upd H3 l (.lst (ps.map (fun p => V.ref p.1) ++ [.ref U]))) := same_upd (s2.trans s3) hl
        have hP4' : PrL K (upd H3 l (.lst (ps.map (fun p => V.ref p.1) ++ [.ref U]))) l ns.length (ps ++ [(U, j, i)]) := hP4
        generalize upd H3 l (.lst (ps.map (fun p => V.ref p.1) ++ [.ref U])) = H4 at hP4' hU4 hM4 s4 ⊢
        refine ⟨_, rfl, _, rfl, ta, U, m, j, i, rfl, hM4, hU4, hj, hi, (Ne.symm hij), fun p H5 s5 hp hp5 => ?_⟩
        refine ⟨_, rfl, p, mv m j i, rfl, SqT.of hp5, by rw [len_mv, hml]; exact h6, fun q H6 s6 hq hq6 => ?_⟩
        exact ⟨p, q, mv m j i, ps ++ [(U, j, i)], tt + 1, _, _, _, rfl, (s4.trans s5).trans s6, SqT.of (s6 _ _ hp5), (hP4'.same s5).same s6, by rw [List.map_append]; exact hE', SqL.of hq6, by omega⟩
    · have h2 : (fil m).length ≤ 1 := by
        have : ¬ ((1 : Int) < ((fil m).length : Int)) := fun z => hz (decide_eq_true z)
        omega
      exact ⟨_, rfl, k l H2 ps m tt s2 hl hP hE h2⟩
abbrev s_one_plan : Stmt := top 23
theorem sc_one_plan : FnScope ["heaps", "plan"] ["heaps"] (defScope s_one_plan) := ⟨rfl, rfl, rfl, by decide +kernel, rfl, by decide +kernel, by decide +kernel⟩
theorem ok_one_plan {f : Addr} {fd : FuncData} (F : Fun K "one_plan" "one_plan" s_one_plan f fd) (T : Tps K mg) (C_odd_part : Cal P w K mg base CX0 4 "odd_part" ["heaps"] (spOdd K)) (C_emptying_to_pair : Cal P w K mg base CX0 6 "emptying_to_pair" ["heaps"] (spToPair K)) (C_walk_of_pair : Cal P w K mg base CX0 3 "walk_of_pair" ["heaps"] (spWalkPair K)) (C_behind_all : Cal P w K mg base CX0 3 "behind_all" ["heaps", "plan"] (spBehindAll K)) : FnOk P w K mg base CX0 7 f fd ["heaps"] (spOnePlan K) := by
  refine F.ok sc_one_plan (fun vs H Q E h => ?_) (fun cdv A outer s H vs Q E hr h => ?_)
  · obtain ⟨t, ns, o, tw, F, rfl, _⟩ := h
    rfl
  · obtain ⟨t, ns, o, tw, F, rfl, hS, hg, hF, hF1, hO, k1, k2⟩ := h
    obtain ⟨g1, g2, g3, g4, g5⟩ := hps_good hg
    have hW := Way.of hg hF hF1
    refine ⟨_, (pss_cons (ps_if (pt_cmpR op_gt (pe_cal C_odd_part hr rfl pass0 (pa_cons (pv 0) pa_nil)) pe_int (nomark _)) (pss_one (ps_ret pe_non)) pss_nil)
      (pss_cons (ps_set (i := 1) sc_one_plan.nd rfl (Or.inl rfl) (pe_cal C_emptying_to_pair hr rfl pass0 (pa_cons (pv 0) pa_nil)))
      (pss_cons (ps_expr (pe_bm PySem.F.plainAttrs_list PySem.F.slot_list_extend PySem.F.type_list_extend mt_extend (pv 1) (pa_cons (pe_cal C_walk_of_pair hr rfl pass0 (pa_cons (pe_cal C_behind_all hr rfl pass0 (pa_cons (pv 0) (pa_cons (pv 1) pa_nil))) pa_nil)) pa_nil)))
      (pss_one (ps_ret (pe_callTy call_tuple_of (by rfl) T.tuple (by decide +kernel) (pa_cons (pv 1) pa_nil))))))), ?_⟩
    refine ⟨_, rfl, t, ns, o, tw, rfl, hS, hg, hO, fun H1 s1 => ⟨_, _, rfl, rfl, _, rfl, ?_⟩⟩
    refine ite2 (fun hc => ?_) (fun hc => ?_)
    · have : 1 < o := by have := of_decide_eq_true hc; omega
      exact k1 this H1 s1
    · have ho : o = 1 := by
        have : ¬ ((1 : Int) < (o : Int)) := fun z => hc (decide_eq_true z)
        have := hO.odd
        omega
      subst ho
      refine ⟨_, rfl, t, ns, F, rfl, Same.tup s1 hS, hW, fun l H2 qs m s2 hl hP hE h2 => ?_⟩
      have hml := hE.go.len
      have s12 := s1.trans s2
      have hll : qs.length ≤ 100000 := by
        have h1 := hE.len
        rw [List.length_map] at h1
        have h2 := Nat.mul_le_mul (Nat.le_trans (fil_le ns) hW.n6) (Nat.mul_le_mul hW.F1 hW.F1)
        omega
      have G0 := gAll_pos g4
      have hsum : m.sum = (gAll ns : Int) * 2 ^ tw := by
        rw [hE.go.sum, hO.eq, Nat.one_mul]
        congr 1
      have hT : tw < F := by
        refine two_le (S := ns.sum) ?_ hF
        rw [← hE.go.sum, hsum]
        have : (1 : Int) * 2 ^ tw ≤ (gAll ns : Int) * 2 ^ tw := Int.mul_le_mul_of_nonneg_right (by omega) (Int.le_of_lt (Int.pow_pos (by decide)))
        omega
      refine ⟨_, rfl, .inl ⟨rfl, _, SqL.of hP.ls⟩, _, rfl, _, rfl, t, l, ns, m, qs, rfl, Same.tup s12 hS, hP, hE.go.run, fun p H3 s3 hp => ?_⟩
      refine ⟨p, m, (gAll ns : Int), tw, rfl, hp, by rw [hml]; exact g2, hE.go.nn g3, by omega, hsum, by omega, hE.go.dvd (gAll_getD ns), h2, fun lw H4 ws r tt s4 hlw hPw hWk h1 => ?_⟩
      have hP4 := (hP.same s3).same s4
      have s14 := (s12.trans s3).trans s4
      have nl : lw ≠ l := fun e => by
        rw [e, (hP.same s3).ls] at hlw
        cases hlw
      rw [hml] at hPw
      have hwl : ws.length ≤ tw := by
        have := hWk.len
        rw [List.length_map] at this
        have := hWk.tT
        omega
      refine ⟨l, lw, _, _, rfl, rfl, hP4.ls, hPw.ls, by rw [List.length_map, List.length_map, sizeLine_eq]; omega, ?_⟩
      have hP5 := hP4.more hPw.st
      have hl0 := s1.free hl
      have s5 : Same H (upd H4 l (.lst (qs.map (fun p => V.ref p.1) ++ ws.map fun p => V.ref p.1))) := same_upd s14 hl0
      generalize upd H4 l (.lst (qs.map (fun p => V.ref p.1) ++ ws.map fun p => V.ref p.1)) = H5 at hP5 s5 ⊢
      refine ⟨_, rfl, l, _, rfl, .inl ⟨SqL.of hP5.ls, fun u hu => ?_⟩⟩
      have s6 : Same H5 (upd H5 u (.tup ((qs ++ ws).map fun p => V.ref p.1))) := Same.new hu
      have hgo : Gone ns ((qs ++ ws).map (·.2)) r := by
        rw [List.map_append]
        exact hE.go.app hWk.go
      have hr1 : 0 < (fil r).length := fil_some (hgo.nn g3) (by rw [hgo.sum]; exact g4)
      refine k2 rfl u _ (qs ++ ws) r (s5.trans s6) ⟨SqT.of upd_same, (hP5.same s6).st⟩ hgo (by omega) ?_
      have e1 := hE.len
      have e2 := fil_some (hE.go.nn g3) (by rw [hE.go.sum]; exact g4)
      have e3 := fil_le ns
      rw [List.length_map] at e1
      have e4 := Nat.mul_le_mul_right (F * F) (show 1 ≤ (fil m).length from e2)
      have e5 := Nat.mul_le_mul_right (F * F) e3
      have e6 := Nat.mul_le_mul (show 1 ≤ F by omega) (Nat.le_refl F)
      rw [List.length_append, Nat.mul_comm (F * F)]
      omega
end
end Hd
set_option maxHeartbeats 4000000
namespace Hd
open PySem PySem.Spec PyProof.Rows L2
def spCan (K : PySem.W.Frag) : Sp := fun vs H Q _ => ∃ (t u : Addr) (ns : List Int) (i j : Nat), vs = [.ref t, .ref u] ∧ SqT K H t (ns.map V.int) ∧ SqT K H u [.int (i : Int), .int (j : Int)] ∧ i < ns.length ∧ j < ns.length ∧ Q (.bl (can ns i j)) H
/-- all pairs, in order -/
def row (n i : Nat) : List (Nat × Nat) := ((List.range n).filter fun j => decide (j ≠ i)).map fun j => (i, j)
def rowTo (i j : Nat) : List (Nat × Nat) := ((List.range j).filter fun j => decide (j ≠ i)).map fun j => (i, j)
def prsTo (n i : Nat) : List (Nat × Nat) := (List.range i).flatMap (row n)
def prs (n : Nat) : List (Nat × Nat) := prsTo n n
theorem prsTo_succ (n i : Nat) : prsTo n (i + 1) = prsTo n i ++ row n i := by
  unfold prsTo
  rw [List.range_succ, List.flatMap_append]
  simp
theorem rowTo_succ (i j : Nat) : rowTo i (j + 1) = rowTo i j ++ (if j = i then [] else [(i, j)]) := by
  unfold rowTo
  rw [List.range_succ, List.filter_append, List.map_append]
  by_cases h : j = i
  · subst h
    simp
  · simp [h]
theorem prs_len {n : Nat} (h2 : n ≤ 6) : (prs n).length = n * (n - 1) := by
  have : n = 0 ∨ n = 1 ∨ n = 2 ∨ n = 3 ∨ n = 4 ∨ n = 5 ∨ n = 6 := by omega
  rcases this with e | e | e | e | e | e | e <;> subst e <;> decide
theorem prsTo_short {n : Nat} (h2 : n ≤ 6) : ∀ i, i ≤ n → (prsTo n i).length ≤ 36 := by
  have : n = 0 ∨ n = 1 ∨ n = 2 ∨ n = 3 ∨ n = 4 ∨ n = 5 ∨ n = 6 := by omega
  rcases this with e | e | e | e | e | e | e <;> subst e <;> decide
def spPairs (K : PySem.W.Frag) : Sp := fun vs H Q _ => ∃ n : Nat, vs = [.int (n : Int)] ∧ n ≤ 6 ∧ ∀ (l : Addr) (qs : List (Addr × Nat × Nat)) (H' : Hp), Same H H' → H l = none → PrL K H' l n qs → qs.map (·.2) = prs n → Q (.ref l) H'
def pd (q : Addr × Nat × Nat) : PyData := .tuple [.int (q.2.1 : Int), .int (q.2.2 : Int)]
theorem pds_lay : ∀ qs : List (Addr × Nat × Nat), PyData.canLayAll0 (qs.map pd) = true
  | [] => by simp [PyData.canLayAll0]
  | q :: qs => by
    have e : (pd q).canLay0 = true := by simp [pd, PyData.canLay0, PyData.canLayAll0]
    simp [PyData.canLayAll0, e, pds_lay qs]
theorem pds_deep : ∀ qs : List (Addr × Nat × Nat), PyData.depthAll (qs.map pd) ≤ 1
  | [] => by simp [PyData.depthAll]
  | q :: qs => by
    have e : (pd q).depth = 1 := by simp [pd, PyData.depth, PyData.depthAll]
    have := pds_deep qs
    simp only [List.map_cons, PyData.depthAll]
    omega
theorem shaped_mk {d : PyData} (h1 : d.canLay0 = true) (h2 : d.depth ≤ 64) : SeqAt.shaped d = true := by
  unfold SeqAt.shaped
  rw [h1, decide_eq_true h2]
  rfl
theorem pds_shaped (qs : List (Addr × Nat × Nat)) : SeqAt.shaped (.list (qs.map pd)) = true := by
  refine shaped_mk ?_ ?_
  · simp only [PyData.canLay0]
    exact pds_lay qs
  · have := pds_deep qs
    simp only [PyData.depth]
    omega
theorem int_shaped (i : Int) : SeqAt.shaped (.int i) = true := shaped_mk (by simp only [PyData.canLay0]) (by simp only [PyData.depth]; omega)
theorem ints_lay : ∀ ns : List Int, PyData.canLayAll0 (ns.map PyData.int) = true
  | [] => by simp [PyData.canLayAll0]
  | n :: ns => by simp [PyData.canLayAll0, PyData.canLay0, ints_lay ns]
theorem ints_deep : ∀ ns : List Int, PyData.depthAll (ns.map PyData.int) = 0
  | [] => by simp [PyData.depthAll]
  | n :: ns => by
    have := ints_deep ns
    simp only [List.map_cons, PyData.depthAll, PyData.depth]
    omega
theorem tint_shaped (ns : List Int) : SeqAt.shaped (.tuple (ns.map PyData.int)) = true := by
  refine shaped_mk ?_ ?_
  · simp only [PyData.canLay0]
    exact ints_lay ns
  · have := ints_deep ns
    simp only [PyData.depth]
    omega
theorem dp_ints {K : PySem.W.Frag} {H : Hp} : ∀ ns : List Int, DpAll K H (ns.map V.int) (ns.map PyData.int)
  | [] => .nil
  | n :: ns => .cons (.int n) (dp_ints ns)
theorem dp_pds {K : PySem.W.Frag} {H : Hp} : ∀ qs : List (Addr × Nat × Nat), (∀ q ∈ qs, SqT K H q.1 [.int (q.2.1 : Int), .int (q.2.2 : Int)]) → DpAll K H (qs.map fun p => V.ref p.1) (qs.map pd)
  | [], _ => .nil
  | q :: qs, h => .cons (.tup (h q List.mem_cons_self) (.cons (.int _) (.cons (.int _) .nil))) (dp_pds qs fun x hx => h x (List.mem_cons_of_mem _ hx))
section
variable {P : Program} {w : World} {K : PySem.W.Frag} {mg : Str → Option Value} {base : Heap}
abbrev s_l_can : Stmt := top 36
theorem sc_l_can : FnScope ["_law_heaps_here", "_law_step"] ["_law_heaps_here", "_law_step"] (defScope s_l_can) := ⟨rfl, rfl, rfl, by decide +kernel, rfl, by decide +kernel, by decide +kernel⟩
theorem ok_l_can {f : Addr} {fd : FuncData} (F : Fun K "_law_can" "_law_can" s_l_can f fd) : FnOk P w K mg base CX0 1 f fd ["_law_heaps_here", "_law_step"] (spCan K) := by
  refine F.ok sc_l_can (fun vs H Q E h => ?_) (fun cdv A outer s H vs Q E hr h => ?_)
  · obtain ⟨t, u, ns, i, j, rfl, _⟩ := h
    rfl
  · obtain ⟨t, u, ns, i, j, rfl, hS, hU, hi, hj, k⟩ := h
    refine ⟨_, (pss_one (ps_ret (pe_chain op_lt op_le pe_int (pe_ix ix_tup (pv 0) (pe_ix ix_tup (pv 1) pe_int (fun _ _ => rfl)) (fun _ _ => rfl)) (pe_ix ix_tup (pv 0) (pe_ix ix_tup (pv 1) pe_int (fun _ _ => rfl)) (fun _ _ => rfl))))), ?_⟩
    refine ⟨_, rfl, _, rfl, u, _, _, _, rfl, rfl, hU, rfl, t, _, _, _, rfl, rfl, hS, at_of rfl (getD_at hj), _, _, rfl, rfl, _, rfl, ?_⟩
    unfold can at k
    cases hd : decide (0 < ns.getD j 0) with
    | false =>
      rw [hd] at k
      exact iteF k
    | true =>
      rw [hd] at k
      exact iteT ⟨_, rfl, _, rfl, u, _, _, _, rfl, rfl, hU, rfl, t, _, _, _, rfl, rfl, hS, at_of rfl (getD_at hi), _, _, rfl, rfl, k⟩
abbrev s_l_behind : Stmt := top 37
theorem sc_l_behind : FnScope ["_law_heaps_here", "_law_step", "_law_row"] ["_law_heaps_here", "_law_step"] (defScope s_l_behind) := ⟨rfl, rfl, rfl, by decide +kernel, rfl, by decide +kernel, by decide +kernel⟩
theorem ok_l_behind {f : Addr} {fd : FuncData} (F : Fun K "_law_behind" "_law_behind" s_l_behind f fd) (T : Tx K mg) : FnOk P w K mg base CX0 1 f fd ["_law_heaps_here", "_law_step"] (spBehind K) := by
  refine F.ok sc_l_behind (fun vs H Q E h => ?_) (fun cdv A outer s H vs Q E hr h => ?_)
  · obtain ⟨t, u, ns, i, j, rfl, _⟩ := h
    rfl
  · obtain ⟨t, u, ns, i, j, rfl, hS, hU, hi, hj, hij, k⟩ := h
    refine ⟨_, (pss_cons (ps_set (i := 2) sc_l_behind.nd rfl (Or.inl rfl) (pe_callTy call_list_of (by rfl) T.list (by decide +kernel) (pa_cons (pv 0) pa_nil)))
      (pss_cons (ps_asg (pe_op op_sub (pe_ix ix_list (pv 2) (pe_ix ix_tup (pv 1) pe_int (fun _ _ => rfl)) (fun _ _ => rfl)) (pe_ix ix_tup (pv 0) (pe_ix ix_tup (pv 1) pe_int (fun _ _ => rfl)) (fun _ _ => rfl))) (pg_sub (pv 2) (pe_ix ix_tup (pv 1) pe_int (fun _ _ => rfl)) set_list))
      (pss_cons (ps_asg (pe_op op_add (pe_ix ix_list (pv 2) (pe_ix ix_tup (pv 1) pe_int (fun _ _ => rfl)) (fun _ _ => rfl)) (pe_ix ix_tup (pv 0) (pe_ix ix_tup (pv 1) pe_int (fun _ _ => rfl)) (fun _ _ => rfl))) (pg_sub (pv 2) (pe_ix ix_tup (pv 1) pe_int (fun _ _ => rfl)) set_list))
      (pss_one (ps_ret (pe_callTy call_tuple_of (by rfl) T.tuple (by decide +kernel) (pa_cons (pv 2) pa_nil))))))), ?_⟩
    refine ⟨_, rfl, t, _, rfl, .inr hS, fun l hl => ?_⟩
    have s1 : Same H (upd H l (.lst (ns.map V.int))) := Same.new hl
    refine ⟨_, rfl, _, rfl, u, _, _, _, rfl, rfl, Same.tup s1 hU, rfl, l, _, _, _, rfl, rfl, SqL.of upd_same, at_of rfl (getD_at hi), _, rfl, _, rfl, u, _, _, _, rfl, rfl, Same.tup s1 hU, rfl, t, _, _, _, rfl, rfl, Same.tup s1 hS, at_of rfl (getD_at hj), _, _, rfl, rfl, ?_⟩
    refine ⟨_, rfl, _, rfl, u, _, _, _, rfl, rfl, Same.tup s1 hU, rfl, l, _, _, i, rfl, rfl, upd_same, (by rw [List.length_map]; exact ixN_nat hi), ?_⟩
    rw [upd_upd]
    have s2 : Same H (upd H l (.lst ((ns.map V.int).set i (.int (ns.getD i 0 - ns.getD j 0))))) := Same.new hl
    refine ⟨_, rfl, _, rfl, u, _, _, _, rfl, rfl, Same.tup s2 hU, rfl, l, _, _, _, rfl, rfl, SqL.of upd_same, at_of rfl (by rw [List.getElem?_set_ne hij]; exact getD_at hj), _, rfl, _, rfl, u, _, _, _, rfl, rfl, Same.tup s2 hU, rfl, t, _, _, _, rfl, rfl, Same.tup s2 hS, at_of rfl (getD_at hj), _, _, rfl, rfl, ?_⟩
    refine ⟨_, rfl, _, rfl, u, _, _, _, rfl, rfl, Same.tup s2 hU, rfl, l, _, _, j, rfl, rfl, upd_same, (by rw [List.length_set, List.length_map]; exact ixN_nat hj), ?_⟩
    rw [upd_upd]
    refine ⟨_, rfl, l, _, rfl, .inl ⟨SqL.of upd_same, fun p hp => ?_⟩⟩
    have hpl : p ≠ l := fun e => by
      rw [e, upd_same] at hp
      cases hp
    have hp0 : H p = none := by
      rw [upd_ne hpl] at hp
      exact hp
    refine k p _ (same_upd (Same.new hl) hp0) hp0 ?_
    rw [upd_same]
    unfold mv shf
    rw [List.map_set, List.map_set]
abbrev s_l_pairs : Stmt := top 38
theorem sc_l_pairs : FnScope ["_law_size", "_law_found", "_law_one", "_law_other"] ["_law_size"] (defScope s_l_pairs) := ⟨rfl, rfl, rfl, by decide +kernel, rfl, by decide +kernel, by decide +kernel⟩
theorem ok_l_pairs {f : Addr} {fd : FuncData} (F : Fun K "_law_pairs" "_law_pairs" s_l_pairs f fd) (T : Tx K mg) : FnOk P w K mg base CX0 1 f fd ["_law_size"] (spPairs K) := by
  refine F.ok sc_l_pairs (fun vs H Q E h => ?_) (fun cdv A outer s H vs Q E hr h => ?_)
  · obtain ⟨n, rfl, _⟩ := h
    rfl
  · obtain ⟨n, rfl, hn, k⟩ := h
    refine ⟨_, (pss_cons (ps_set (i := 1) sc_l_pairs.nd rfl (Or.inl rfl) (pe_lst pa_nil))
      (pss_cons (ps_for PassesOwn.never rfl (pi_range1 rfl T.range (pa_cons (pv 0) pa_nil)) (pg_name (i := 2) sc_l_pairs.nd rfl (Or.inr rfl))
      (pss_one (ps_set (i := 1) sc_l_pairs.nd rfl (Or.inl rfl) (pe_op op_cat (pv 1) (pe_lc (own := [("_law_other", 3)]) (g := gName 3) (by rfl) sc_l_pairs.nd (pi_range1 rfl T.range (pa_cons (pv 0) pa_nil)) (blkOk_by (own := [("_law_other", 3)]) (N := ["_law_size", "_law_found", "_law_one", "_law_other"]) (sc := defScope s_l_pairs) (by decide +kernel)) (fun _ _ _ _ _ => pg_name (i := 3) sc_l_pairs.nd rfl (Or.inl rfl)) (fun _ _ _ _ _ => pts_one (pt_cmpR op_ne (pv 3) (pv 2) (nomark _))) (fun _ _ _ _ _ => (pe_tup (pa_cons (pv 2) (pa_cons (pv 3) pa_nil)))))))))
      (pss_one (ps_ret (pv 1))))), ?_⟩
    refine ⟨by show 0 ≤ sizeLine; decide, fun l0 hl0 => ?_⟩
    refine ⟨_, rfl, _, rfl, by omega, by omega, ?_⟩
    rw [Int.toNat_natCast]
    refine for_range (lo := 0) (n := n) (fun i σ H1 => ∃ (l : Addr) (qs : List (Addr × Nat × Nat)) (v1 v2 : Option V), σ = [some (.int (n : Int)), some (.ref l), v1, v2] ∧ Same H H1 ∧ H l = none ∧ PrL K H1 l n qs ∧ qs.map (·.2) = prsTo n i) ⟨l0, [], none, none, rfl, Same.new hl0, hl0, ⟨upd_same, fun p hp => (nomatch hp)⟩, rfl⟩ ?_ ?_
    · rintro i σ H1 hi ⟨l, qs, v1, v2, rfl, s1, hl, hP, hq⟩
      rw [Int.zero_add]
      have hql : qs.length ≤ 36 := by
        have e := congrArg List.length hq
        rw [List.length_map] at e
        rw [e]
        exact prsTo_short hn i (by omega)
      refine ⟨_, rfl, _, rfl, _, rfl, by omega, by omega, ?_⟩
      rw [Int.toNat_natCast]
      intro D hD
      refine lc_range (lo := 0) (n := n) (fun j H2 => ∃ rs : List (Addr × Nat × Nat), Same H1 H2 ∧ PrL K H2 D n rs ∧ rs.map (·.2) = rowTo i j) ⟨[], Same.new hD, ⟨upd_same, fun p hp => (nomatch hp)⟩, rfl⟩ ?_ ?_
      · rintro j H2 hj ⟨rs, s2, hR, hr2⟩
        rw [Int.zero_add]
        refine ⟨rfl, _, rfl, _, rfl, rfl, _, rfl, ?_⟩
        rw [dec_int]
        have hrl : rs.length ≤ j := by
          have e := congrArg List.length hr2
          rw [List.length_map] at e
          rw [e]
          unfold rowTo
          rw [List.length_map]
          exact Nat.le_trans (List.length_filter_le _ _) (by rw [List.length_range]; exact Nat.le_refl _)
        by_cases hji : j = i
        · have z : decide ((j : Int) = (i : Int)) = true := decide_eq_true (by omega)
          rw [z]
          refine iteF ⟨rs, s2, hR, ?_⟩
          rw [rowTo_succ, if_pos hji, List.append_nil]
          exact hr2
        · have z : decide ((j : Int) = (i : Int)) = false := decide_eq_false (by omega)
          rw [z]
          refine iteT ⟨_, rfl, _, rfl, by show 2 ≤ sizeLine; decide, fun TT hT => ?_⟩
          have s3 : Same H2 (upd H2 TT (.tup [.int (i : Int), .int (j : Int)])) := Same.new hT
          refine ⟨_, s3 _ _ hR.ls, ?_, rs ++ [(TT, i, j)], same_upd (s2.trans s3) hD, ⟨?_, fun p hp => ?_⟩, ?_⟩
          · rw [List.length_map, sizeLine_eq]
            omega
          · rw [upd_same, List.map_append]
            rfl
          · have nTD : TT ≠ D := (ne_of_none hR.ls hT).symm
            rcases List.mem_append.mp hp with hp | hp
            · obtain ⟨a, b⟩ := hR.st p hp
              refine ⟨?_, b⟩
              have a3 := Same.tup s3 a
              have a4 : SqT K (upd (upd H2 TT (.tup [.int (i : Int), .int (j : Int)])) D (.lst (rs.map (fun p => V.ref p.1) ++ [V.ref TT]))) p.1 [.int (p.2.1 : Int), .int (p.2.2 : Int)] := by
                rcases a3 with (a3 | ⟨o, a3⟩) | a3
                · exact .inl (.inl (by rw [upd_ne (ne_of a3 (s3 _ _ hR.ls) (by intro z; cases z))]; exact a3))
                · exact .inl (.inr ⟨o, by rw [upd_ne (ne_of a3 (s3 _ _ hR.ls) (by intro z; cases z))]; exact a3⟩)
                · exact .inr a3
              exact a4
            · have ep : p = (TT, i, j) := by simpa using hp
              subst ep
              exact ⟨SqT.of (by rw [upd_ne nTD, upd_same]), hi, hj, fun z => hji z.symm⟩
          · rw [List.map_append, hr2, rowTo_succ, if_neg hji]
            rfl
      · rintro H2 ⟨rs, s2, hR, hr2⟩
        refine ⟨l, D, _, _, rfl, rfl, s2 _ _ hP.ls, hR.ls, ?_, fun p hp => ?_⟩
        · have e := congrArg List.length hr2
          rw [List.length_map] at e
          unfold rowTo at e
          rw [List.length_map] at e
          have := List.length_filter_le (fun j => decide (j ≠ i)) (List.range n)
          rw [List.length_range] at this
          rw [List.length_map, List.length_map, sizeLine_eq]
          omega
        have s3 : Same H2 (upd H2 p (.lst (qs.map (fun p => V.ref p.1) ++ rs.map (fun p => V.ref p.1)))) := Same.new hp
        have s4 := (s1.trans s2).trans s3
        refine ⟨p, qs ++ rs, _, _, rfl, s4, (s1.trans s2).free hp, ⟨by rw [upd_same, List.map_append], fun q hq' => ?_⟩, by rw [List.map_append, hq, hr2, prsTo_succ]; rfl⟩
        rcases List.mem_append.mp hq' with hq' | hq'
        · exact (hP.same (s2.trans s3)).st q hq'
        · exact (hR.same s3).st q hq'
    · rintro σ H1 ⟨l, qs, v1, v2, rfl, s1, hl, hP, hq⟩
      exact ⟨_, rfl, k l qs H1 s1 hl hP hq⟩
end
end Hd
set_option maxHeartbeats 4000000
namespace Hd
open PySem PySem.Spec PyProof.Rows L2
theorem units65 {k : Nat} {A : Around} (r : Room k A) : A.units + 65 < cLine := by
  have := r.un
  omega
/-! ### numbers -/
theorem prs_in {n i j : Nat} (hi : i < n) (hj : j < n) (hij : i ≠ j) : (i, j) ∈ prs n := by
  unfold prs prsTo
  rw [List.mem_flatMap]
  refine ⟨i, List.mem_range.mpr hi, ?_⟩
  unfold row
  rw [List.mem_map]
  exact ⟨j, List.mem_filter.mpr ⟨List.mem_range.mpr hj, decide_eq_true (Ne.symm hij)⟩, rfl⟩
theorem pd_self (q : Srow) (i j : Nat) (h : q.2 = (i, j)) : PyData.eqv (pd q) (.tuple [.int (i : Int), .int (j : Int)]) = true := by
  obtain ⟨a, b, c⟩ := q
  cases h
  simp [pd, PyData.eqv, PyData.eqvAll]
theorem pair_shaped (i j : Nat) : SeqAt.shaped (.tuple [.int (i : Int), .int (j : Int)]) = true := shaped_mk (by simp [PyData.canLay0, PyData.canLayAll0]) (by simp [PyData.depth, PyData.depthAll])
structure Tk (K : PySem.W.Frag) (mg : Str → Option Value) : Prop where
  isinstance : mg "isinstance" = none
  tuple : mg "tuple" = none
  len : mg "len" = none
  sum : mg "sum" = none
  max : mg "max" = none
  min : mg "min" = none
def spGone (K : PySem.W.Frag) : Sp := fun vs H Q _ => ∃ (t u : Addr) (ns m : List Int) (ps : List Srow), vs = [.ref t, .ref u] ∧ SqT K H t (ns.map V.int) ∧ ns.length ≤ 6 ∧ PlanAt K H u ns.length ps ∧ run ns (ps.map (·.2)) = some m ∧ ∀ (p : Addr) (H' : Hp), Same H H' → SqT K H' p (m.map V.int) → Q (.ref p) H'
def spPart : Sp := fun vs H Q _ => ∃ a b : Nat, vs = [.int (a : Int), .int (b : Int)] ∧ a < 2 ^ 200 ∧ b < 2 ^ 200 ∧ Q (.int ((Nat.gcd a b : Nat) : Int)) H
def spLOdd (K : PySem.W.Frag) : Sp := fun vs H Q _ => ∃ (t : Addr) (ns : List Int) (o tw : Nat), vs = [.ref t] ∧ SqT K H t (ns.map V.int) ∧ hpsB ns = true ∧ OddOf ns o tw ∧ Q (.int (o : Int)) H
def spFull (K : PySem.W.Frag) : Sp := fun vs H Q _ => ∃ (t : Addr) (ns : List Int), vs = [.ref t] ∧ SqT K H t (ns.map V.int) ∧ ns.length ≤ 6 ∧ ∀ H', Same H H' → Q (.int ((fil ns).length : Int)) H'
theorem fil_cnt : ∀ ns : List Int, (ns.filter fun n => decide (0 < n)).length = (fil ns).length := fun ns => by
  unfold fil
  have e : ns = (List.range ns.length).map fun k => ns.getD k 0 := by
    refine List.ext_getElem (by simp) fun k h1 h2 => ?_
    simp [List.getD_eq_getElem?_getD, h1]
  have e2 : (((List.range ns.length).map fun k => ns.getD k 0).filter fun n => decide (0 < n)).length = ((List.range ns.length).filter fun k => decide (0 < ns.getD k 0)).length := by
    rw [List.filter_map, List.length_map]
    rfl
  rw [← e2, ← e]
section
variable {P : Program} {w : World} {K : PySem.W.Frag} {mg : Str → Option Value} {base : Heap}
abbrev s_l_gone : Stmt := top 39
theorem sc_l_gone : FnScope ["_law_heaps_here", "_law_plan", "_law_pairs_here", "_law_step"] ["_law_heaps_here", "_law_plan"] (defScope s_l_gone) := ⟨rfl, rfl, rfl, by decide +kernel, rfl, by decide +kernel, by decide +kernel⟩
theorem ok_l_gone {f : Addr} {fd : FuncData} (F : Fun K "_law_gone" "_law_gone" s_l_gone f fd) (T : Tk K mg) (C_l_can : Cal P w K mg base CX0 1 "_law_can" ["_law_heaps_here", "_law_step"] (spCan K)) (C_l_behind : Cal P w K mg base CX0 1 "_law_behind" ["_law_heaps_here", "_law_step"] (spBehind K)) (C_l_pairs : Cal P w K mg base CX0 1 "_law_pairs" ["_law_size"] (spPairs K)) : FnOk P w K mg base CX0 2 f fd ["_law_heaps_here", "_law_plan"] (spGone K) := by
  refine F.ok sc_l_gone (fun vs H Q E h => ?_) (fun cdv A outer s H vs Q E hr h => ?_)
  · obtain ⟨t, u, ns, m, ps, rfl, _⟩ := h
    rfl
  · obtain ⟨t, u, ns, m, ps, rfl, hS, h6, hP, hrun, k⟩ := h
    have hu65 := units65 hr
    refine ⟨_, (pss_cons (ps_if (pt_not (pt_val (pe_callB call_isi (by rfl) T.isinstance (by decide +kernel) (pa_cons (pv 1) (pa_cons (pe_bltn (v := .ty "tuple") (u := .type "tuple") (by rfl) T.tuple (by decide +kernel) rfl) pa_nil))))) (pss_one (ps_ret pe_non)) pss_nil)
      (pss_cons (ps_set (i := 2) sc_l_gone.nd rfl (Or.inl rfl) (pe_cal C_l_pairs hr rfl pass0 (pa_cons (pe_callB call_len_seq (by rfl) T.len PySem.boot_len (pa_cons (pv 0) pa_nil)) pa_nil)))
      (pss_cons (ps_for PassesOwn.never rfl (pi_tup (pv 1)) (pg_name (i := 3) sc_l_gone.nd rfl (Or.inl rfl))
      (pss_cons (ps_if (PW.pt (pw_or (pt_cmpR (op_notInD hu65) (pv 3) (pv 2) (by rfl)) (pw_or1 (pt_not (pt_val (pe_cal C_l_can hr rfl pass0 (pa_cons (pv 0) (pa_cons (pv 3) pa_nil)))))))) (pss_one (ps_ret pe_non)) pss_nil)
      (pss_one (ps_set (i := 0) sc_l_gone.nd rfl (Or.inl rfl) (pe_cal C_l_behind hr rfl pass0 (pa_cons (pv 0) (pa_cons (pv 3) pa_nil)))))))
      (pss_one (ps_ret (pv 0)))))), ?_⟩
    refine ⟨_, rfl, _, _, _, _, true, rfl, ClsV.ty _, tyx_tup hP.tp, kit_ty (by decide +kernel), _, rfl, ?_⟩
    refine iteF ?_
    refine ⟨_, rfl, t, _, rfl, .inr hS, ns.length, by rw [List.length_map], h6, fun l qs H1 s1 hl hL hqs => ?_⟩
    refine ⟨_, rfl, u, rfl, ⟨_, Same.tup s1 hP.tp⟩, for_tup (K := K) (a := u) (xs := ps.map fun p => V.ref p.1) (fun i σ H3 => ∃ (ta : Addr) (a : List Int) (v : Option V), σ = [some (.ref ta), some (.ref u), some (.ref l), v] ∧ Same H1 H3 ∧ SqT K H3 ta (a.map V.int) ∧ run ns ((ps.map (·.2)).take i) = some a)
        ⟨t, ns, none, rfl, Same.refl _, Same.tup s1 hS, rfl⟩ (fun i σ H3 _ ⟨_, _, _, _, s3, _⟩ => Same.tup (s1.trans s3) hP.tp) ?_ ?_⟩
    · rintro i x σ H3 hx ⟨ta, a, v, rfl, s3, hT, hja⟩
      rw [List.getElem?_map] at hx
      obtain ⟨p, hp, rfl⟩ := Option.map_eq_some_iff.mp hx
      obtain ⟨hi, ep⟩ := List.getElem?_eq_some_iff.mp hp
      subst ep
      obtain ⟨q1, q2, q3, q4⟩ := ((hP.same s1).same s3).st ps[i] (List.getElem_mem hi)
      have hi' : i < (ps.map (·.2)).length := by rw [List.length_map]; exact hi
      have eg : (ps.map (·.2))[i] = ps[i].2 := List.getElem_map _
      obtain ⟨hc, N⟩ := run_take hrun hi' hja
      rw [eg] at N hc
      have hlen := run_len _ _ _ hja
      have hL3 := hL.same s3
      refine ⟨_, rfl, _, rfl, .tuple [.int (ps[i].2.1 : Int), .int (ps[i].2.2 : Int)], qs.map pd, .tup q1 (.cons (.int _) (.cons (.int _) .nil)), .lst (SqL.of hL3.ls) (dp_pds qs fun q hq => (hL3.st q hq).1), pair_shaped _ _, pds_shaped qs, _, rfl, ?_⟩
      have hin : ((qs.map pd).any fun z => PyData.eqv z (.tuple [.int (ps[i].2.1 : Int), .int (ps[i].2.2 : Int)])) = true := by
        rw [List.any_map, List.any_eq_true]
        have : ps[i].2 ∈ qs.map (·.2) := by
          rw [hqs]
          exact prs_in q2 q3 q4
        obtain ⟨q, hq, e⟩ := List.mem_map.mp this
        exact ⟨q, hq, pd_self q _ _ e⟩
      rw [hin]
      refine iteF ⟨_, rfl, _, rfl, ta, ps[i].1, a, _, _, rfl, hT, q1, by rw [hlen]; exact q2, by rw [hlen]; exact q3, _, rfl, ?_⟩
      rw [hc]
      refine iteF ⟨_, rfl, _, rfl, ta, ps[i].1, a, _, _, rfl, hT, q1, by rw [hlen]; exact q2, by rw [hlen]; exact q3, q4, fun p H5 s5 hp hp5 => ?_⟩
      exact ⟨p, mv a ps[i].2.1 ps[i].2.2, _, rfl, s3.trans s5, SqT.of hp5, N⟩
    · rintro σ H3 ⟨ta, a, v, rfl, s3, hT, hja⟩
      rw [List.length_map, List.take_of_length_le (by rw [List.length_map]; exact Nat.le_refl _), hrun] at hja
      have em := Option.some.inj hja
      subst em
      exact ⟨_, rfl, k ta H3 (s1.trans s3) hT⟩
abbrev s_l_part : Stmt := top 40
theorem sc_l_part : FnScope ["_law_one", "_law_other"] ["_law_one", "_law_other"] (defScope s_l_part) := ⟨rfl, rfl, rfl, by decide +kernel, rfl, by decide +kernel, by decide +kernel⟩
theorem ok_l_part {f : Addr} {fd : FuncData} (F : Fun K "_law_part" "_law_part" s_l_part f fd) : FnOk P w K mg base CX0 1 f fd ["_law_one", "_law_other"] spPart := by
  refine F.ok sc_l_part (fun vs H Q E h => ?_) (fun cdv A outer s H vs Q E hr h => ?_)
  · obtain ⟨a, b, rfl, _⟩ := h
    rfl
  · obtain ⟨a, b, rfl, ha, hb, k⟩ := h
    refine ⟨_, (pss_cons (ps_while PassesOwn.never (pt_cmpR op_ne (pv 1) pe_int (nomark _)) (pss_one (ps_par (i := 0) (j := 1) (by rfl) sc_l_part.nd rfl rfl (by decide) rfl rfl (pa_cons (pv 1) (pa_cons (pe_op op_sub (pv 0) (pe_op op_mulW (pe_op op_fdivW (pv 0) (pv 1)) (pv 1))) pa_nil)) (by rfl))))
      (pss_one (ps_ret (pv 0)))), ?_⟩
    refine ⟨fun mm σ H1 => ∃ u v : Nat, σ = [some (.int (u : Int)), some (.int (v : Int))] ∧ H1 = H ∧ Nat.gcd u v = Nat.gcd a b ∧ u < 2 ^ 200 ∧ v < 2 ^ 200 ∧ v = mm, ⟨b, a, b, rfl, rfl, rfl, ha, hb, rfl⟩, ?_⟩
    rintro mm σ H1 ⟨u, v, rfl, rfl, hg, hu, hv, rfl⟩
    refine ⟨_, rfl, rfl, _, rfl, ?_⟩
    rw [dec_int]
    by_cases hz : v = 0
    · subst hz
      rw [decide_eq_true (show ((0 : Nat) : Int) = 0 from rfl)]
      rw [Nat.gcd_zero_right] at hg
      refine iteF ⟨_, rfl, ?_⟩
      rw [hg]
      exact k
    · rw [decide_eq_false (show ¬ ((v : Int) = 0) by omega)]
      refine iteT ⟨fun σ' H' => ∃ u' v' : Nat, σ' = [some (.int (u' : Int)), some (.int (v' : Int))] ∧ H' = H1 ∧ Nat.gcd u' v' = Nat.gcd a b ∧ u' < 2 ^ 200 ∧ v' < 2 ^ 200 ∧ v' < v, fun σ' H' ⟨u', v', e1, e2, e3, e4, e5, e6⟩ => ⟨v', e6, u', v', e1, e2, e3, e4, e5, rfl⟩, ?_⟩
      have hml := Nat.mod_lt u (show 0 < v by omega)
      refine ⟨_, rfl, _, rfl, _, rfl, _, rfl, _, _, rfl, rfl, wide_div (b := 200) (by omega) (by omega) (by decide) (by decide), _, rfl, _, _, rfl, rfl, wide_mul (a := 200) (b := 200) ?_ (by omega) (by decide) (by decide) (by decide), _, _, rfl, rfl, _, _, rfl, ?_⟩
      · have : ((u : Int) / (v : Int)) = ((u / v : Nat) : Int) := by omega
        rw [this, Int.natAbs_natCast]
        exact Nat.lt_of_le_of_lt (Nat.div_le_self _ _) hu
      · refine ⟨v, u % v, ?_, rfl, ?_, hv, by omega, hml⟩
        · show [some (V.int (v : Int)), some (V.int ((u : Int) - (u : Int) / (v : Int) * (v : Int)))] = _
          have : (u : Int) - (u : Int) / (v : Int) * (v : Int) = ((u % v : Nat) : Int) := by
            rw [Int.natCast_emod, Int.emod_def, Int.mul_comm]
          rw [this]
        · rw [← hg, Nat.gcd_comm u v, Nat.gcd_rec v u, Nat.gcd_comm]
abbrev s_l_odd : Stmt := top 41
theorem sc_l_odd : FnScope ["_law_heaps_here", "_law_part_here", "_law_x", "_law_left"] ["_law_heaps_here"] (defScope s_l_odd) := ⟨rfl, rfl, rfl, by decide +kernel, rfl, by decide +kernel, by decide +kernel⟩
theorem ok_l_odd {f : Addr} {fd : FuncData} (F : Fun K "_law_odd" "_law_odd" s_l_odd f fd) (T : Tk K mg) (C_l_part : Cal P w K mg base CX0 1 "_law_part" ["_law_one", "_law_other"] spPart) : FnOk P w K mg base CX0 2 f fd ["_law_heaps_here"] (spLOdd K) := by
  refine F.ok sc_l_odd (fun vs H Q E h => ?_) (fun cdv A outer s H vs Q E hr h => ?_)
  · obtain ⟨t, ns, o, tw, rfl, _⟩ := h
    rfl
  · obtain ⟨t, ns, o, tw, rfl, hS, hg, hO, k⟩ := h
    obtain ⟨g1, g2, g3, g4, g5⟩ := hps_good hg
    refine ⟨_, (pss_cons (ps_set (i := 1) sc_l_odd.nd rfl (Or.inl rfl) pe_int)
      (pss_cons (ps_for PassesOwn.never rfl (pi_tup (pv 0)) (pg_name (i := 2) sc_l_odd.nd rfl (Or.inl rfl))
      (pss_one (ps_set (i := 1) sc_l_odd.nd rfl (Or.inl rfl) (pe_cal C_l_part hr rfl pass0 (pa_cons (pv 1) (pa_cons (pv 2) pa_nil))))))
      (pss_cons (ps_set (i := 3) sc_l_odd.nd rfl (Or.inl rfl) (pe_op op_fdivW (pe_callB (cr_sumT rfl) (by rfl) T.sum (by decide +kernel) (pa_cons (pv 0) pa_nil)) (pv 1)))
      (pss_cons (ps_while PassesOwn.never (pt_cmpR op_eq (pe_op op_mul (pe_op op_fdiv (pv 3) pe_int) pe_int) (pv 3) (nomark _)) (pss_one (ps_set (i := 3) sc_l_odd.nd rfl (Or.inl rfl) (pe_op op_fdiv (pv 3) pe_int))))
      (pss_one (ps_ret (pv 3))))))), ?_⟩
    have hle : ∀ i, gAll (ns.take i) < 2 ^ 200 := fun i => by
      have a := (fold_dvd (ns.take i) 0).2
      by_cases c : ∃ x ∈ ns.take i, x ≠ 0
      · obtain ⟨x, hx, h0⟩ := c
        have d := a x hx
        have := Nat.le_of_dvd (by omega) d
        obtain ⟨j, hj, ej⟩ := List.mem_iff_getElem.mp (List.mem_of_mem_take hx)
        have e : ns.getD j 0 = x := by simp [List.getD_eq_getElem?_getD, hj, ej]
        have := sum_one (i := j) g3
        have := g3 j
        show (ns.take i).foldl _ 0 < _
        omega
      · have z : ∀ (l : List Int) (d : Nat), (∀ x ∈ l, x = 0) → l.foldl (fun d x => Nat.gcd d x.natAbs) d = d := fun l => by
          induction l with
          | nil => intro d _; rfl
          | cons x r ih =>
            intro d h
            rw [List.foldl_cons, h x List.mem_cons_self, Int.natAbs_zero, Nat.gcd_zero_right]
            exact ih d fun y hy => h y (List.mem_cons_of_mem _ hy)
        have : gAll (ns.take i) = 0 := z _ 0 fun x hx => Classical.byContradiction fun h => c ⟨x, hx, h⟩
        rw [this]
        decide
    refine ⟨_, rfl, t, rfl, ⟨_, hS⟩, for_tup (K := K) (a := t) (xs := ns.map V.int) (fun i σ H1 => ∃ v : Option V, σ = [some (.ref t), some (.int (gAll (ns.take i) : Int)), v, none] ∧ H1 = H) ⟨none, rfl, rfl⟩ (fun i σ H1 _ ⟨_, _, e⟩ => by rw [e]; exact hS) ?_ ?_⟩
    · rintro i x σ H1 hi ⟨v, rfl, rfl⟩
      rw [List.getElem?_map] at hi
      obtain ⟨z, hz, rfl⟩ := Option.map_eq_some_iff.mp hi
      obtain ⟨hil, ez⟩ := List.getElem?_eq_some_iff.mp hz
      have e : ns.getD i 0 = z := by simp [List.getD_eq_getElem?_getD, hil, ez]
      have z0 := g3 i
      have z1 := sum_one (i := i) g3
      rw [e] at z0 z1
      obtain ⟨zn, rfl⟩ := Int.eq_ofNat_of_zero_le z0
      refine ⟨_, rfl, _, rfl, gAll (ns.take i), zn, rfl, hle i, by omega, some (.int (zn : Int)), ?_, rfl⟩
      rw [List.take_add_one, hz]
      show _ = [some (V.ref t), some (V.int ((gAll (ns.take i ++ [(zn : Int)]) : Nat) : Int)), some (V.int (zn : Int)), none]
      rw [gAll_more]
      rfl
    · rintro σ H1 ⟨v, rfl, rfl⟩
      rw [List.length_map, List.take_length]
      have q0 := gAll_pos g4
      have q1 := gAll_le g4
      have hd := hO.div g4
      have op : 0 < o * 2 ^ tw := Nat.mul_pos (by have := hO.odd; omega) (Nat.pow_pos (by decide))
      refine ⟨_, rfl, t, ns, rfl, hS, _, rfl, _, _, rfl, rfl, wide_div (b := 200) (by omega) (by omega) (by decide) (by decide), ?_⟩
      refine ⟨fun m σ H2 => ∃ u v1 : Nat, σ = [some (.ref t), some (.int (gAll ns : Int)), v, some (.int (u : Int))] ∧ H2 = H1 ∧ o * 2 ^ tw = u * 2 ^ v1 ∧ 0 < u ∧ u = m, ⟨o * 2 ^ tw, o * 2 ^ tw, 0, congrArg (fun z : Int => [some (V.ref t), some (V.int (gAll ns : Int)), v, some (V.int z)]) hd, rfl, by simp, op, rfl⟩, ?_⟩
      rintro m σ H2 ⟨u, v1, rfl, rfl, euv, hu, rfl⟩
      refine ⟨_, rfl, _, _, rfl, rfl, ⟨by decide, by decide⟩, _, _, rfl, rfl, .inr ⟨by decide, by decide⟩, _, rfl, rfl, _, rfl, ?_⟩
      rw [dec_int]
      refine ite2 (fun hz => ?_) (fun hz => ?_)
      · have hz' : u % 2 = 0 := by have := of_decide_eq_true hz; omega
        refine ⟨fun σ' H' => ∃ u' v' : Nat, σ' = [some (.ref t), some (.int (gAll ns : Int)), v, some (.int (u' : Int))] ∧ H' = H2 ∧ o * 2 ^ tw = u' * 2 ^ v' ∧ 0 < u' ∧ u' < u, fun σ' H' ⟨u', v', e1, e2, e3, e4, e5⟩ => ⟨u', e5, u', v', e1, e2, e3, e4, rfl⟩, ?_⟩
        refine ⟨_, rfl, _, _, rfl, rfl, ⟨by decide, by decide⟩, u / 2, v1 + 1, ?_, rfl, ?_, by omega, by omega⟩
        · show [some (V.ref t), some (V.int (gAll ns : Int)), v, some (V.int ((u : Int) / 2))] = _
          rw [show ((u : Int) / 2) = ((u / 2 : Nat) : Int) by omega]
        · rw [euv, Nat.pow_succ]
          have : u = u / 2 * 2 := by omega
          rw (occs := [1]) [this]
          rw [Nat.mul_assoc, Nat.mul_comm 2]
      · have hz' : u % 2 = 1 := by
          have : ¬ ((u : Int) / 2 * 2 = (u : Int)) := fun z => hz (decide_eq_true z)
          omega
        obtain ⟨e1, e2⟩ := part_one hO.odd hz' euv
        subst e1 e2
        exact ⟨_, rfl, k⟩
abbrev s_l_full : Stmt := top 43
theorem sc_l_full : FnScope ["_law_heaps_here", "_law_x"] ["_law_heaps_here"] (defScope s_l_full) := ⟨rfl, rfl, rfl, by decide +kernel, rfl, by decide +kernel, by decide +kernel⟩
theorem ok_l_full {f : Addr} {fd : FuncData} (F : Fun K "_law_full" "_law_full" s_l_full f fd) (T : Tk K mg) : FnOk P w K mg base CX0 1 f fd ["_law_heaps_here"] (spFull K) := by
  refine F.ok sc_l_full (fun vs H Q E h => ?_) (fun cdv A outer s H vs Q E hr h => ?_)
  · obtain ⟨t, ns, rfl, _⟩ := h
    rfl
  · obtain ⟨t, ns, rfl, hS, h6, k⟩ := h
    refine ⟨_, (pss_one (ps_ret (pe_callB call_len_seq (by rfl) T.len PySem.boot_len (pa_cons (pe_lc (own := [("_law_x", 1)]) (g := gName 1) (by rfl) sc_l_full.nd (pi_tup (pv 0)) (blkOk_by (own := [("_law_x", 1)]) (N := ["_law_heaps_here", "_law_x"]) (sc := defScope s_l_full) (by decide +kernel)) (fun _ _ _ _ _ => pg_name (i := 1) sc_l_full.nd rfl (Or.inl rfl)) (fun _ _ _ _ _ => pts_one (pt_cmpR op_gt (pv 1) pe_int (nomark _))) (fun _ _ _ _ _ => (pv 1))) pa_nil)))), ?_⟩
    refine ⟨_, rfl, t, rfl, ⟨_, hS⟩, fun D hD => lc_tup (K := K) (a := t) (xs := ns.map V.int) (fun i H1 => H1 D = some (.lst (((ns.take i).filter fun n => decide (0 < n)).map V.int)) ∧ Same H H1) ⟨upd_same, Same.new hD⟩ (fun i H1 _ q => Same.tup q.2 hS) ?_ ?_⟩
    · rintro i v H1 hv ⟨hL, s1⟩
      obtain ⟨z, hz, rfl⟩ := int_at hv
      refine ⟨rfl, _, rfl, _, _, rfl, rfl, _, rfl, ?_⟩
      have hl := List.length_filter_le (fun n : Int => decide (0 < n)) (ns.take i)
      rw [List.length_take] at hl
      refine ite2 (fun hc => ?_) (fun hc => ?_)
      · refine ⟨_, rfl, _, hL, by rw [List.length_map, sizeLine_eq]; omega, ?_, same_upd s1 hD⟩
        rw [upd_same, List.take_add_one, hz, List.filter_append, List.map_append]
        show some (HO.lst (_ ++ [V.int z])) = some (HO.lst (_ ++ (([z] : List Int).filter fun n => decide (0 < n)).map V.int))
        rw [List.filter_cons, if_pos hc]
        rfl
      · refine ⟨?_, s1⟩
        rw [List.take_add_one, hz, List.filter_append, List.map_append]
        show H1 D = some (HO.lst (_ ++ (([z] : List Int).filter fun n => decide (0 < n)).map V.int))
        rw [List.filter_cons, if_neg hc]
        simpa using hL
    · rintro H1 ⟨hL, s1⟩
      rw [List.length_map, List.take_length] at hL
      refine ⟨D, _, rfl, .inl (SqL.of hL), ?_⟩
      rw [List.length_map, fil_cnt]
      exact k H1 s1
end
end Hd
set_option maxHeartbeats 1000000
namespace Hd
open PySem PySem.Spec PyProof.Rows L2
theorem heaps_ok {ns : List Int} (h : HeapsOk 2 6 ns) : hpsB ns = true := by
  have hs : ∀ (l : List Int), (∀ n ∈ l, 0 ≤ n) → 0 ≤ l.sum ∧ ∀ n ∈ l, n ≤ l.sum := by
    intro l
    induction l with
    | nil => intro _; exact ⟨Int.le_refl _, fun n hn => (nomatch hn)⟩
    | cons a r ih =>
      intro hg
      obtain ⟨i1, i2⟩ := ih fun n hn => hg n (List.mem_cons_of_mem _ hn)
      have ha := hg a List.mem_cons_self
      rw [List.sum_cons]
      refine ⟨by omega, fun n hn => ?_⟩
      rcases List.mem_cons.mp hn with e | hn
      · subst e
        omega
      · have := i2 n hn
        omega
  obtain ⟨n, hn, hp⟩ := h.pos
  have := (hs ns h.ge).2 n hn
  unfold hpsB
  simp only [Bool.and_eq_true, decide_eq_true_eq, List.all_eq_true, List.mem_map]
  refine ⟨⟨h.lo, h.hi⟩, fun x ⟨y, hy, e⟩ => ?_, by omega⟩
  subst e
  unfold inR
  simp only [id, Bool.and_eq_true, decide_eq_true_eq]
  exact ⟨h.ge y hy, h.le y hy⟩
theorem fold_max : ∀ (ns : List Int) (n : Int), n ≤ ns.foldl max n ∧ ∀ x ∈ ns, x ≤ ns.foldl max n
  | [], n => ⟨Int.le_refl _, fun x hx => nomatch hx⟩
  | y :: r, n => by
    obtain ⟨a, b⟩ := fold_max r (max n y)
    rw [List.foldl_cons]
    refine ⟨by omega, fun x hx => ?_⟩
    rcases List.mem_cons.mp hx with e | hx
    · subst e
      omega
    · exact b x hx
theorem fold_min : ∀ (ns : List Int) (n : Int), (ns.foldl min n ≤ n) ∧ ∀ x ∈ ns, ns.foldl min n ≤ x
  | [], n => ⟨Int.le_refl _, fun x hx => nomatch hx⟩
  | y :: r, n => by
    obtain ⟨a, b⟩ := fold_min r (min n y)
    rw [List.foldl_cons]
    refine ⟨by omega, fun x hx => ?_⟩
    rcases List.mem_cons.mp hx with e | hx
    · subst e
      omega
    · exact b x hx
/-- the row of heaps whose sum is a power of two -/
theorem row_ok {x y whole part : Int} {r : List Int} (h : HeapsOk 2 6 (x :: y :: r)) (hw : (x :: y :: r).sum ≤ whole) (hw2 : whole ≤ 2 * (x :: y :: r).sum) (ht : x + whole - (x :: y :: r).sum ≤ 10 ^ 30) (hp : 1 ≤ part) (hp2 : part ≤ 10) (hp3 : part = 1 ∨ ∀ n ∈ x :: y :: r, n ≤ 10 ^ 9) :
    HeapsOk 2 6 (((x + whole - (x :: y :: r).sum) :: y :: r).map fun n => part * n) := by
  have x0 := h.ge x List.mem_cons_self
  have len := h.hi
  refine ⟨by simp, by simpa using h.hi, fun n hn => ?_, fun n hn => ?_, ?_⟩
  · obtain ⟨z, hz, rfl⟩ := List.mem_map.mp hn
    refine Int.mul_nonneg (by omega) ?_
    rcases List.mem_cons.mp hz with e | hz
    · omega
    · exact h.ge z (List.mem_cons_of_mem _ hz)
  · obtain ⟨z, hz, rfl⟩ := List.mem_map.mp hn
    rcases hp3 with e | hb
    · subst e
      rw [Int.one_mul]
      rcases List.mem_cons.mp hz with e | hz
      · omega
      · exact h.le z (List.mem_cons_of_mem _ hz)
    · have le : ∀ (xs : List Int), (∀ n ∈ xs, n ≤ 10 ^ 9) → xs.sum ≤ xs.length * 10 ^ 9 := fun xs => by
        induction xs with
        | nil => intro _; simp
        | cons x r ih =>
          intro hx
          have := ih fun y hy => hx y (List.mem_cons_of_mem _ hy)
          have := hx x List.mem_cons_self
          rw [List.sum_cons, List.length_cons]
          omega
      have b1 := le _ hb
      have b2 := hb x List.mem_cons_self
      have zb : z ≤ 10 ^ 11 := by
        rcases List.mem_cons.mp hz with e | hz
        · omega
        · have := hb z (List.mem_cons_of_mem _ hz)
          omega
      have z0 : 0 ≤ z := by
        rcases List.mem_cons.mp hz with e | hz
        · omega
        · exact h.ge z (List.mem_cons_of_mem _ hz)
      have := Int.mul_le_mul_of_nonneg_right hp2 z0
      omega
  · obtain ⟨n, hn, pn⟩ := h.pos
    by_cases c : 0 < x + whole - (x :: y :: r).sum
    · exact ⟨_, List.mem_map.mpr ⟨_, List.mem_cons_self, rfl⟩, Int.mul_pos (by omega) c⟩
    · rcases List.mem_cons.mp hn with e | hn
      · omega
      · exact ⟨_, List.mem_map.mpr ⟨n, List.mem_cons_of_mem _ hn, rfl⟩, Int.mul_pos (by omega) pn⟩
end Hd
set_option maxHeartbeats 4000000
namespace Hd
open PySem PySem.Spec PyProof.Rows L2
theorem at0 (x : Int) (r : List Int) : atI ((x :: r).map V.int) 0 = some (V.int x) := at_of (j := 0) rfl rfl
theorem two_up {ns : List Int} (h : 2 ≤ ns.length) : ∃ x y r, ns = x :: y :: r := by
  cases ns with
  | nil => simp at h
  | cons x r =>
    cases r with
    | nil => simp at h
    | cons y r => exact ⟨x, y, r, rfl⟩
def spSome (K : PySem.W.Frag) : Sp := fun vs H Q _ => ∃ (h c : Addr), vs = [.ref h] ∧ DrawAt H h c ∧ ∀ (t : Addr) (ns : List Int) (H' : Hp), hpsB ns = true → SqT K H' t (ns.map V.int) → Q (.ref t) H'
def spLaw (K : PySem.W.Frag) : Sp := fun vs H Q _ => ∃ (a : Addr) (ns : List Int), vs = [.ref a] ∧ SqL K H a (ns.map V.int) ∧ ns.length ≤ 63 ∧ ∀ H', Q (.bl true) H'
section
variable {P : Program} {w : World} {K : PySem.W.Frag} {mg : Str → Option Value} {base : Heap}
abbrev s_l_some : Stmt := top 42
theorem sc_l_some : FnScope ["_law_h", "_law_heaps_here", "_law_whole", "_law_part_here", "_law_row", "_law_x"] ["_law_h"] (defScope s_l_some) := ⟨rfl, rfl, rfl, by decide +kernel, rfl, by decide +kernel, by decide +kernel⟩
theorem ok_l_some {f : Addr} {fd : FuncData} (F : Fun K "_law_some" "_law_some" s_l_some f fd) (T : Tk K mg) (C_l_next : Cal P w K mg base CX0 1 "_law_next" ["_law_h", "_law_bound"] spNext) (C_l_heaps : Cal P w K mg base CX0 2 "_law_heaps" ["_law_h", "_law_least", "_law_most"] spHeaps) : FnOk P w K mg base CX0 3 f fd ["_law_h"] (spSome K) := by
  refine F.ok sc_l_some (fun vs H Q E h => ?_) (fun cdv A outer s H vs Q E hr h => ?_)
  · obtain ⟨h, c, rfl, _⟩ := h
    rfl
  · obtain ⟨h, c, rfl, D, k⟩ := h
    refine ⟨_, (pss_cons (ps_set (i := 1) sc_l_some.nd rfl (Or.inl rfl) (pe_cal C_l_heaps hr rfl pass0 (pa_cons (pv 0) (pa_cons pe_int (pa_cons pe_int pa_nil)))))
      (pss_cons (ps_if (pt_cmpR op_eq (pe_cal C_l_next hr rfl pass0 (pa_cons (pv 0) (pa_cons pe_int pa_nil))) pe_int (nomark _)) (pss_one (ps_ret (pv 1))) pss_nil)
      (pss_cons (ps_set (i := 2) sc_l_some.nd rfl (Or.inl rfl) pe_int)
      (pss_cons (ps_while PassesOwn.never (pt_cmpR op_lt (pv 2) (pe_callB (cr_sumT rfl) (by rfl) T.sum (by decide +kernel) (pa_cons (pv 1) pa_nil)) (nomark _)) (pss_one (ps_set (i := 2) sc_l_some.nd rfl (Or.inl rfl) (pe_op op_mul (pv 2) pe_int))))
      (pss_cons (ps_if (pt_cmpR op_gt (pe_op op_sub (pe_op op_add (pe_ix ix_tup (pv 1) pe_int (fun _ _ => rfl)) (pv 2)) (pe_callB (cr_sumT rfl) (by rfl) T.sum (by decide +kernel) (pa_cons (pv 1) pa_nil))) (pe_op op_pow pe_int pe_int) (nomark _)) (pss_one (ps_ret (pv 1))) pss_nil)
      (pss_cutM (ps_set (i := 3) sc_l_some.nd rfl (Or.inr rfl) (pe_ifExp (pt_cmpR op_gt (pe_callB (cr_maxT rfl hr.units) (by rfl) T.max (by decide +kernel) (pa_cons (pv 1) pa_nil)) (pe_op op_pow pe_int pe_int) (nomark _)) pe_int (pe_ix ix_list (pe_lst (pa_cons pe_int (pa_cons pe_int (pa_cons pe_int pa_nil)))) (pe_cal C_l_next hr rfl pass0 (pa_cons (pv 0) (pa_cons pe_int pa_nil))) (fun _ _ => rfl))))
      (pss_cons (ps_set (i := 4) sc_l_some.nd rfl (Or.inl rfl) (pe_op op_catT (pe_tup (pa_cons (pe_op op_sub (pe_op op_add (pe_ix ix_tup (pv 1) pe_int (fun _ _ => rfl)) (pv 2)) (pe_callB (cr_sumT rfl) (by rfl) T.sum (by decide +kernel) (pa_cons (pv 1) pa_nil))) pa_nil)) (pe_slice sl_tup (pv 1) (po_some pe_int) po_none)))
      (pss_one (ps_ret (pe_callTy call_tuple_of (by rfl) T.tuple (by decide +kernel) (pa_cons (pe_lc (own := [("_law_x", 5)]) (g := gName 5) (by rfl) sc_l_some.nd (pi_tup (pv 4)) (blkOk_by (own := [("_law_x", 5)]) (N := ["_law_h", "_law_heaps_here", "_law_whole", "_law_part_here", "_law_row", "_law_x"]) (sc := defScope s_l_some) (by decide +kernel)) (fun _ _ _ _ _ => pg_name (i := 5) sc_l_some.nd rfl (Or.inl rfl)) (fun _ _ _ _ _ => pts_nil) (fun _ _ _ _ _ => (pe_op op_mul (pv 3) (pv 5)))) pa_nil))))))))))), ?_⟩
    refine ⟨_, rfl, h, c, 2, 6, rfl, D, by decide, by decide, by decide, fun t ns H1 O ht ht2 D1 k1 => ?_⟩
    refine ⟨_, rfl, h, c, 2, rfl, D1, by decide, by decide, fun n2 H2 l2 u2 D2 k2 => ⟨rfl, _, rfl, ?_⟩⟩
    have hS2 : SqT K H2 t (ns.map V.int) := k2.tup D1 (SqT.of ht2)
    refine ite2 (fun _ => ⟨_, rfl, k t ns H2 (heaps_ok O) hS2⟩) (fun _ => ?_)
    obtain ⟨x, y, r, rfl⟩ := two_up O.lo
    obtain ⟨g1, g2, g3, g4, g5⟩ := hps_good (heaps_ok O)
    -- _law_whole
    refine ⟨fun mm σ H3 => ∃ wh : Int, σ = [some (.ref h), some (.ref t), some (.int wh), none, none, none] ∧ H3 = H2 ∧ 1 ≤ wh ∧ wh ≤ 2 * (x :: y :: r).sum ∧ (2 * (x :: y :: r).sum - wh).toNat = mm, ⟨_, 1, rfl, rfl, by decide, by omega, rfl⟩, ?_⟩
    rintro mm σ H3 ⟨wh, rfl, rfl, w1, w2, rfl⟩
    refine ⟨_, rfl, _, rfl, t, _, rfl, hS2, _, _, rfl, rfl, _, rfl, ?_⟩
    refine ite2 (fun hc => ?_) (fun hc => ?_)
    · have hc' := of_decide_eq_true hc
      refine ⟨fun σ' H' => ∃ wh' : Int, σ' = [some (.ref h), some (.ref t), some (.int wh'), none, none, none] ∧ H' = H3 ∧ 1 ≤ wh' ∧ wh' ≤ 2 * (x :: y :: r).sum ∧ (2 * (x :: y :: r).sum - wh').toNat < (2 * (x :: y :: r).sum - wh).toNat, fun σ' H' ⟨wh', e1, e2, e3, e4, e5⟩ => ⟨_, e5, wh', e1, e2, e3, e4, rfl⟩, ?_⟩
      exact ⟨_, rfl, _, _, rfl, rfl, .inr ⟨by decide, by decide⟩, wh * 2, rfl, rfl, by omega, by omega, by omega⟩
    · have hc' : (x :: y :: r).sum ≤ wh := by
        have : ¬ (wh < (x :: y :: r).sum) := fun z => hc (decide_eq_true z)
        omega
      refine ⟨_, rfl, t, _, _, _, rfl, rfl, hS2, at0 x (y :: r), _, rfl, _, _, rfl, rfl, _, rfl, t, _, rfl, hS2, _, _, rfl, rfl, _, _, rfl, rfl, ⟨by decide, by decide, by decide⟩, _, _, rfl, rfl, _, rfl, ?_⟩
      have etest : decide ((10 : Int) ^ (30 : Int).toNat < x + wh - (x :: y :: r).sum) = decide ((10 : Int) ^ 30 < x + wh - (x :: y :: r).sum) := rfl
      refine ite2 (fun hc => ⟨_, rfl, k t _ H3 (heaps_ok O) hS2⟩) (fun ht => ?_)
      have ht' : x + wh - (x :: y :: r).sum ≤ 10 ^ 30 := by
        have : ¬ ((10 : Int) ^ 30 < x + wh - (x :: y :: r).sum) := fun z => ht (decide_eq_true z)
        omega
      -- _law_part_here
      refine ⟨fun σ' H' => ∃ part : Int, σ' = [some (.ref h), some (.ref t), some (.int wh), some (.int part), none, none] ∧ SqT K H' t ((x :: y :: r).map V.int) ∧ 1 ≤ part ∧ part ≤ 10 ∧ (part = 1 ∨ ∀ n ∈ x :: y :: r, n ≤ 10 ^ 9), ?_, ?_⟩
      · refine ⟨_, rfl, t, x, y :: r, rfl, hS2, _, _, rfl, rfl, ⟨by decide, by decide, by decide⟩, _, _, rfl, rfl, _, rfl, ?_⟩
        refine ite2 (fun _ => ⟨1, rfl, hS2, by decide, by decide, .inl rfl⟩) (fun hm => ?_)
        have hm' : (y :: r).foldl max x ≤ 10 ^ 9 := by
          have : ¬ ((10 : Int) ^ 9 < (y :: r).foldl max x) := fun z => hm (decide_eq_true z)
          omega
        obtain ⟨f1, f2⟩ := fold_max (y :: r) x
        refine ⟨by show 3 ≤ sizeLine; decide, fun p hp => ?_⟩
        refine ⟨_, rfl, h, c, 3, rfl, D2.new hp, by decide, by decide, fun n4 H4 l4 u4 D4 k4 => ?_⟩
        obtain ⟨mp1, mp2⟩ := D2.nots hp
        obtain ⟨pt, e4, pt_in⟩ : ∃ z, atI [V.int 1, V.int 3, V.int 10] n4 = some (V.int z) ∧ z ∈ [(1 : Int), 3, 10] := by
          have : n4 = 0 ∨ n4 = 1 ∨ n4 = 2 := by omega
          rcases this with e | e | e <;> subst e <;> exact ⟨_, rfl, by simp⟩
        refine ⟨p, _, _, _, rfl, rfl, SqL.of (k4 p _ upd_same mp1 mp2), e4, ?_⟩
        have hb : 1 ≤ pt ∧ pt ≤ 10 := by
          simp only [List.mem_cons, List.mem_nil_iff, or_false] at pt_in
          rcases pt_in with e | e | e <;> subst e <;> decide
        refine ⟨pt, rfl, k4.tup (D2.new hp) (Same.tup (Same.new hp) hS2), hb.1, hb.2, .inr fun n hn => ?_⟩
        rcases List.mem_cons.mp hn with e | hn
        · omega
        · have := f2 n hn
          omega
      · rintro σ' H' ⟨part, rfl, hS5, p1, p2, p3⟩
        -- _law_row
        refine ⟨_, rfl, t, _, _, _, rfl, rfl, hS5, at0 x (y :: r), _, rfl, _, _, rfl, rfl, _, rfl, t, _, rfl, hS5, _, _, rfl, rfl, by show 1 ≤ sizeLine; decide, fun a1 ha1 => ?_⟩
        have sa : Same H' (upd H' a1 (.tup [.int (x + wh - (x :: y :: r).sum)])) := Same.new ha1
        have ta : SqT K (upd H' a1 (.tup [.int (x + wh - (x :: y :: r).sum)])) a1 [.int (x + wh - (x :: y :: r).sum)] := SqT.of upd_same
        generalize upd H' a1 (.tup [.int (x + wh - (x :: y :: r).sum)]) = H6 at sa ta ⊢
        have ecut : cutV ((x :: y :: r).map V.int) (some 1) none = (y :: r).map V.int := by
          unfold cutV
          rw [HT.sIx_none]
          have : HT.sIx ((x :: y :: r).map V.int).length 0 (some 1) = 1 := by
            rw [show (1 : Int) = ((1 : Nat) : Int) from rfl, HT.sIx_nat, List.length_map, List.length_cons, List.length_cons]
            omega
          rw [this]
          show ((y :: r).map V.int).take _ = _
          rw [List.take_of_length_le]
          simp
        refine ⟨_, rfl, 1, rfl, t, _, rfl, Same.tup sa hS5, ?_, fun p hp => ?_⟩
        · intro z
          have := z.1
          rw [show (1 : Int) = ((1 : Nat) : Int) from rfl, HT.sIx_nat, List.length_map, List.length_cons, List.length_cons] at this
          omega
        rw [ecut]
        have sp : Same H6 (upd H6 p (.tup ((y :: r).map V.int))) := Same.new hp
        have tp : SqT K (upd H6 p (.tup ((y :: r).map V.int))) p ((y :: r).map V.int) := SqT.of upd_same
        generalize upd H6 p (.tup ((y :: r).map V.int)) = H7 at sp tp ⊢
        have hl6 := O.hi
        simp only [List.length_cons] at hl6
        refine ⟨a1, p, _, _, rfl, rfl, Same.tup sp ta, tp, (fun z => nomatch z), ?_, (fun z => nomatch z), fun _ q hq => ?_⟩
        · rw [List.length_map, sizeLine_eq]
          simp only [List.length_cons, List.length_nil]
          omega
        have erow : [V.int (x + wh - (x :: y :: r).sum)] ++ (y :: r).map V.int = (((x + wh - (x :: y :: r).sum) :: y :: r) : List Int).map V.int := rfl
        rw [erow]
        have hrow := row_ok O hc' w2 ht' p1 p2 p3
        generalize (x + wh - (x :: y :: r).sum) :: y :: r = row at hrow ⊢
        have tq : SqT K (upd H7 q (.tup (row.map V.int))) q (row.map V.int) := SqT.of upd_same
        generalize upd H7 q (.tup (row.map V.int)) = H8 at tq ⊢
        have hrl := hrow.hi
        rw [List.length_map] at hrl
        refine ⟨_, rfl, q, rfl, ⟨_, tq⟩, fun DD hDD => lc_tup (K := K) (a := q) (xs := row.map V.int) (fun i H9 => H9 DD = some (.lst (((row.take i).map fun n => part * n).map V.int)) ∧ Same H8 H9) ⟨upd_same, Same.new hDD⟩ (fun i H9 _ z => Same.tup z.2 tq) ?_ ?_⟩
        · rintro i v H9 hv ⟨hL, s9⟩
          obtain ⟨z, hz, rfl⟩ := int_at hv
          refine ⟨rfl, _, rfl, _, rfl, _, _, rfl, rfl, .inl ⟨by omega, by omega⟩, _, hL, ?_, ?_, same_upd s9 hDD⟩
          · rw [List.length_map, List.length_map, List.length_take, sizeLine_eq]
            omega
          · rw [upd_same, List.take_add_one, hz, List.map_append, List.map_append]
            rfl
        · rintro H9 ⟨hL, s9⟩
          rw [List.length_map, List.take_length] at hL
          refine ⟨DD, _, rfl, .inl ⟨SqL.of hL, fun u hu => ?_⟩⟩
          exact k u (row.map fun n => part * n) _ (heaps_ok hrow) (SqT.of upd_same)
end
end Hd
set_option maxHeartbeats 4000000
namespace Hd
open PySem PySem.Spec PyProof.Rows L2
theorem half_lt {S : Int} {f : Nat} (h : S / 2 ^ f = 0) (h0 : 0 ≤ S) : S < 2 ^ f := by
  have := Int.lt_mul_ediv_self_add (x := S) (show (0 : Int) < 2 ^ f from Int.pow_pos (by decide))
  rw [h] at this
  omega
theorem half_next {S : Int} {f : Nat} : S / 2 ^ f / 2 = S / 2 ^ (f + 1) := by
  rw [Int.ediv_ediv_of_nonneg (Int.le_of_lt (Int.pow_pos (by decide))), Int.pow_succ]
theorem half_some {S : Int} {f : Nat} (h : 0 < S / 2 ^ f) : (2 : Int) ^ f ≤ S := by
  have hp : (0 : Int) < 2 ^ f := Int.pow_pos (by decide)
  have h1 := Int.mul_ediv_add_emod S (2 ^ f)
  have h2 := Int.emod_nonneg S (Int.ne_of_gt hp)
  have h3 := Int.mul_le_mul_of_nonneg_left (show 1 ≤ S / 2 ^ f by omega) (Int.le_of_lt hp)
  omega
theorem min_zero {m : List Int} {k : Nat} (N : NN m) (hk : k < m.length) (hz : m.getD k 0 = 0) : ∃ n r, m = n :: r ∧ r.foldl min n = 0 := by
  cases m with
  | nil => simp at hk
  | cons n r =>
    refine ⟨n, r, rfl, ?_⟩
    obtain ⟨a, b⟩ := fold_min r n
    have lo : ∀ (r : List Int) (n : Int), 0 ≤ n → (∀ x ∈ r, 0 ≤ x) → 0 ≤ r.foldl min n := fun r => by
      induction r with
      | nil => intro n hn _; exact hn
      | cons y r ih =>
        intro n hn hr
        rw [List.foldl_cons]
        refine ih _ ?_ fun x hx => hr x (List.mem_cons_of_mem _ hx)
        have := hr y List.mem_cons_self
        omega
    have hm := N.mem
    have l0 := lo r n (hm n List.mem_cons_self) fun x hx => hm x (List.mem_cons_of_mem _ hx)
    cases k with
    | zero =>
      have : n = 0 := hz
      omega
    | succ k =>
      have hk' : k < r.length := by simpa using hk
      have e : r[k] = 0 := by
        have : (n :: r).getD (k + 1) 0 = r[k] := by simp [List.getD_eq_getElem?_getD, hk']
        rw [← this]
        exact hz
      have := b r[k] (List.getElem_mem hk')
      omega
section
variable {P : Program} {w : World} {K : PySem.W.Frag} {mg : Str → Option Value} {base : Heap}
abbrev s_law : Stmt := top 44
theorem sc_law : FnScope ["_law_script", "_law_h", "_law_heaps_here", "_law_figures", "_law_left", "_law_most", "_law_plan", "_law_end"] ["_law_script"] (defScope s_law) := ⟨rfl, rfl, rfl, by decide +kernel, rfl, by decide +kernel, by decide +kernel⟩
theorem ok_law {f : Addr} {fd : FuncData} (F : Fun K "law" "law" s_law f fd) (T : Tk K mg) (C_l_mix : Cal P w K mg base CX0 1 "_law_mix" ["_law_script", "_law_seed"] (spMix K)) (C_l_some : Cal P w K mg base CX0 3 "_law_some" ["_law_h"] (spSome K))
    (C_odd_part : Cal P w K mg base CX0 4 "odd_part" ["heaps"] (spOdd K)) (C_l_odd : Cal P w K mg base CX0 2 "_law_odd" ["_law_heaps_here"] (spLOdd K)) (C_empty_plan : Cal P w K mg base CX0 6 "empty_plan" ["heaps"] (spEmptyPlan K)) (C_pair_plan : Cal P w K mg base CX0 7 "pair_plan" ["heaps"] (spPairPlan K))
    (C_one_plan : Cal P w K mg base CX0 7 "one_plan" ["heaps"] (spOnePlan K)) (C_l_gone : Cal P w K mg base CX0 2 "_law_gone" ["_law_heaps_here", "_law_plan"] (spGone K)) (C_l_full : Cal P w K mg base CX0 1 "_law_full" ["_law_heaps_here"] (spFull K)) :
    FnOk P w K mg base CX0 8 f fd ["_law_script"] (spLaw K) := by
  refine F.ok sc_law (fun vs H Q E h => ?_) (fun cdv A outer s H vs Q E hr h => ?_)
  · obtain ⟨a, ns, rfl, _⟩ := h
    rfl
  · obtain ⟨a, zs, rfl, hS, hlen, k⟩ := h
    refine ⟨_, (pss_cons (ps_set (i := 1) sc_law.nd rfl (Or.inl rfl) (pe_cal C_l_mix hr rfl pass0 (pa_cons (pv 0) (pa_cons pe_int pa_nil))))
      (pss_cons (ps_set (i := 2) sc_law.nd rfl (Or.inl rfl) (pe_cal C_l_some hr rfl pass0 (pa_cons (pv 1) pa_nil)))
      (pss_cons (ps_par (i := 3) (j := 4) (by rfl) sc_law.nd rfl rfl (by decide) rfl rfl (pa_cons pe_int (pa_cons (pe_callB (cr_sumT rfl) (by rfl) T.sum (by decide +kernel) (pa_cons (pv 2) pa_nil)) pa_nil)) (by rfl))
      (pss_cons (ps_while PassesOwn.never (pt_cmpR op_gt (pv 4) pe_int (nomark _)) (pss_one (ps_par (i := 3) (j := 4) (by rfl) sc_law.nd rfl rfl (by decide) rfl rfl (pa_cons (pe_op op_add (pv 3) pe_int) (pa_cons (pe_op op_fdiv (pv 4) pe_int) pa_nil)) (by rfl))))
      (pss_cons (ps_set (i := 5) sc_law.nd rfl (Or.inl rfl) (pe_op op_mul (pv 3) (pv 3)))
      (pss_cons (ps_if (pt_cmpR op_ne (pe_cal C_odd_part hr rfl pass0 (pa_cons (pv 2) pa_nil)) (pe_cal C_l_odd hr rfl pass0 (pa_cons (pv 2) pa_nil)) (nomark _)) (pss_one (ps_ret pe_bl)) pss_nil)
      (pss_cutM (ps_if (pt_cmpR op_gt (pe_callB call_len_seq (by rfl) T.len PySem.boot_len (pa_cons (pv 2) pa_nil)) pe_int (nomark _)) (pss_cons (ps_set (i := 6) sc_law.nd rfl (Or.inl rfl) (pe_cal C_empty_plan hr rfl pass0 (pa_cons (pv 2) pa_nil)))
      (pss_cons (ps_set (i := 7) sc_law.nd rfl (Or.inl rfl) (pe_cal C_l_gone hr rfl pass0 (pa_cons (pv 2) (pa_cons (pv 6) pa_nil))))
      (pss_one (ps_if (PW.pt (pw_or (pt_cmpR op_isN (pv 7) pe_non (nomark _)) (pw_or (pt_cmpR op_gt (pe_callB (cr_minT rfl hr.units) (by rfl) T.min (by decide +kernel) (pa_cons (pv 7) pa_nil)) pe_int (nomark _)) (pw_or1 (pt_cmpR op_gt (pe_callB call_len_seq (by rfl) T.len PySem.boot_len (pa_cons (pv 6) pa_nil)) (pv 5) (nomark _)))))) (pss_one (ps_ret pe_bl)) pss_nil)))) pss_nil)
      (pss_cons (ps_set (i := 6) sc_law.nd rfl (Or.inl rfl) (pe_cal C_pair_plan hr rfl pass0 (pa_cons (pv 2) pa_nil)))
      (pss_cons (ps_set (i := 7) sc_law.nd rfl (Or.inl rfl) (pe_cal C_l_gone hr rfl pass0 (pa_cons (pv 2) (pa_cons (pv 6) pa_nil))))
      (pss_cons (ps_if (PW.pt (pw_or (pt_cmpR op_isN (pv 7) pe_non (nomark _)) (pw_or (pt_cmpR op_gt (pe_cal C_l_full hr rfl pass0 (pa_cons (pv 7) pa_nil)) pe_int (nomark _)) (pw_or1 (pt_cmpR op_gt (pe_callB call_len_seq (by rfl) T.len PySem.boot_len (pa_cons (pv 6) pa_nil)) (pe_op op_mul (pv 5) (pe_callB call_len_seq (by rfl) T.len PySem.boot_len (pa_cons (pv 2) pa_nil))) (nomark _)))))) (pss_one (ps_ret pe_bl)) pss_nil)
      (pss_cons (ps_set (i := 6) sc_law.nd rfl (Or.inl rfl) (pe_cal C_one_plan hr rfl pass0 (pa_cons (pv 2) pa_nil)))
      (pss_cons (ps_if (pt_cmpR op_gt (pe_cal C_l_odd hr rfl pass0 (pa_cons (pv 2) pa_nil)) pe_int (nomark _)) (pss_one (ps_ret (pe_cmpR op_isN (pv 6) pe_non (nomark _)))) pss_nil)
      (pss_cons (ps_set (i := 7) sc_law.nd rfl (Or.inl rfl) (pe_cal C_l_gone hr rfl pass0 (pa_cons (pv 2) (pa_cons (pv 6) pa_nil))))
      (pss_one (ps_ret (pe_and (pe_cmpR op_notN (pv 7) pe_non (nomark _)) (pe_and (pe_cmpR op_eq (pe_cal C_l_full hr rfl pass0 (pa_cons (pv 7) pa_nil)) pe_int (nomark _)) (pe_one (pe_cmpR op_le (pe_callB call_len_seq (by rfl) T.len PySem.boot_len (pa_cons (pv 6) pa_nil)) (pe_op op_mul (pv 5) (pe_callB call_len_seq (by rfl) T.len PySem.boot_len (pa_cons (pv 2) pa_nil))) (nomark _)))))))))))))))))))), ?_⟩
    refine ⟨_, rfl, a, zs, 4, rfl, hS, hlen, fun h c H1 _ _ s1 D1 => ?_⟩
    refine ⟨_, rfl, h, c, rfl, D1, fun t ns H2 hg hT => ?_⟩
    obtain ⟨g1, g2, g3, g4, g5⟩ := hps_good hg
    obtain ⟨o, tw, hO⟩ := odd_some g4
    -- _law_figures, _law_left
    refine ⟨_, rfl, t, ns, rfl, hT, _, _, rfl, ?_⟩
    refine ⟨fun mm σ H3 => ∃ fg : Nat, σ = [some (.ref a), some (.ref h), some (.ref t), some (.int (fg : Int)), some (.int (ns.sum / 2 ^ fg)), none, none, none] ∧ H3 = H2 ∧ fg ≤ 103 ∧ (ns.sum / 2 ^ fg).toNat = mm, ⟨_, 0, ?_, rfl, by decide, rfl⟩, ?_⟩
    · have : ns.sum = ns.sum / 2 ^ 0 := by simp
      exact congrArg (fun z : Int => [some (V.ref a), some (V.ref h), some (V.ref t), some (V.int 0), some (V.int z), none, none, none]) this
    rintro mm σ H3 ⟨fg, rfl, rfl, hf, rfl⟩
    refine ⟨_, rfl, _, _, rfl, rfl, _, rfl, ?_⟩
    refine ite2 (fun hc => ?_) (fun hc => ?_)
    · have hc' := of_decide_eq_true hc
      have hlt := two_le (half_some hc') g5
      refine ⟨fun σ' H' => ∃ fg' : Nat, σ' = [some (.ref a), some (.ref h), some (.ref t), some (.int (fg' : Int)), some (.int (ns.sum / 2 ^ fg')), none, none, none] ∧ H' = H3 ∧ fg' ≤ 103 ∧ (ns.sum / 2 ^ fg').toNat < (ns.sum / 2 ^ fg).toNat, fun σ' H' ⟨fg', e1, e2, e3, e4⟩ => ⟨_, e4, fg', e1, e2, e3, rfl⟩, ?_⟩
      refine ⟨_, rfl, _, _, rfl, rfl, _, rfl, _, _, rfl, rfl, ⟨by decide, by decide⟩, _, _, rfl, fg + 1, ?_, rfl, hlt, ?_⟩
      · exact congrArg (fun z : Int => [some (V.ref a), some (V.ref h), some (V.ref t), some (V.int ((fg : Int) + 1)), some (V.int z), none, none, none]) half_next
      · rw [← half_next]
        omega
    · have hz : ns.sum / 2 ^ fg = 0 := by
        have : ¬ (0 < ns.sum / 2 ^ fg) := fun z => hc (decide_eq_true z)
        have := Int.ediv_nonneg (Int.le_of_lt g4) (Int.le_of_lt (show (0 : Int) < 2 ^ fg from Int.pow_pos (by decide)))
        omega
      have hF := half_lt hz (Int.le_of_lt g4)
      have emost : (fg : Int) * (fg : Int) = ((fg * fg : Nat) : Int) := (Int.natCast_mul _ _).symm
      have hm2 := Nat.mul_le_mul hf hf
      refine ⟨_, rfl, _, rfl, _, _, rfl, rfl, .inl ⟨by omega, by omega⟩, ?_⟩
      refine ⟨_, rfl, t, ns, o, tw, rfl, hT, hg, hO, fun H4 s4 => ?_⟩
      have hT4 := Same.tup s4 hT
      refine ⟨_, rfl, t, ns, o, tw, rfl, hT4, hg, hO, rfl, _, rfl, ?_⟩
      rw [dec_int, decide_eq_true rfl]
      refine iteF ?_
      -- if len(_law_heaps_here) > 2
      refine ⟨fun σ' H' => ∃ v5 v6 : Option V, σ' = [some (.ref a), some (.ref h), some (.ref t), some (.int (fg : Int)), some (.int (ns.sum / 2 ^ fg)), some (.int ((fg : Int) * (fg : Int))), v5, v6] ∧ SqT K H' t (ns.map V.int), ?_, ?_⟩
      · refine ⟨_, rfl, t, _, rfl, .inr hT4, _, _, rfl, rfl, _, rfl, ?_⟩
        rw [List.length_map]
        refine ite2 (fun h3 => ?_) (fun _ => ⟨_, _, rfl, hT4⟩)
        have h3' : 3 ≤ ns.length := by have := of_decide_eq_true h3; omega
        refine ⟨_, rfl, t, ns, fg, rfl, hT4, hg, hF, hf, h3', fun p H5 qs m s5 hP hG hz0 hl => ?_⟩
        have hT5 := Same.tup s5 hT4
        refine ⟨_, rfl, _, rfl, t, p, ns, m, qs, rfl, hT5, g2, hP, hG.run, fun e H6 s6 he => ?_⟩
        have hT6 := Same.tup s6 hT5
        obtain ⟨kz, kz1, kz2⟩ := hz0
        obtain ⟨n, r, em, emin⟩ := min_zero (hG.nn g3) (by rw [hG.len]; exact kz1) kz2
        rw [em] at he
        refine ⟨_, rfl, rfl, _, rfl, iteF ⟨_, rfl, e, n, r, rfl, he, _, _, rfl, rfl, _, rfl, ?_⟩⟩
        rw [emin]
        refine iteF ⟨_, rfl, p, _, rfl, .inr (Same.tup s6 hP.tp), _, rfl, _, _, rfl, rfl, _, rfl, ?_⟩
        rw [List.length_map, decide_eq_false (show ¬ ((fg : Int) * (fg : Int) < (qs.length : Int)) by rw [emost]; omega)]
        exact iteF ⟨_, _, rfl, hT6⟩
      · rintro σ' H5 ⟨v5, v6, rfl, hT5⟩
        -- pair_plan
        refine ⟨_, rfl, t, ns, fg, rfl, hT5, hg, hF, hf, fun p H6 qs m s6 hP hE h2 => ?_⟩
        have hT6 := Same.tup s6 hT5
        have hml := hE.go.len
        refine ⟨_, rfl, _, rfl, t, p, ns, m, qs, rfl, hT6, g2, hP, hE.go.run, fun e H7 s7 he => ?_⟩
        have hT7 := Same.tup s7 hT6
        refine ⟨_, rfl, rfl, _, rfl, iteF ⟨_, rfl, e, m, rfl, he, by rw [hml]; exact g2, fun H8 s8 => ⟨_, _, rfl, rfl, _, rfl, ?_⟩⟩⟩
        have hT8 := Same.tup s8 hT7
        rw [decide_eq_false (show ¬ ((2 : Int) < ((fil m).length : Int)) by omega)]
        have hle : qs.length ≤ fg * fg * ns.length := by
          have h1 := hE.len
          rw [List.length_map] at h1
          have h2 := Nat.mul_le_mul_right (fg * fg) (fil_le ns)
          rw [Nat.mul_comm (fg * fg)]
          omega
        have elen : ∀ x : Nat, x ≤ fg * fg * ns.length → ¬ ((fg : Int) * (fg : Int) * ((ns.map V.int).length : Int) < (x : Int)) := fun x hx => by
          rw [List.length_map, emost, ← Int.natCast_mul]
          omega
        refine iteF ⟨_, rfl, p, _, rfl, .inr (Same.tup (s7.trans s8) hP.tp), _, rfl, _, rfl, t, _, rfl, .inr hT8, _, _, rfl, rfl, .inl ⟨by rw [emost]; omega, by rw [emost]; omega⟩, _, _, rfl, rfl, _, rfl, ?_⟩
        rw [decide_eq_false (elen _ (by rw [List.length_map]; exact hle))]
        refine iteF ?_
        -- one_plan
        refine ⟨_, rfl, t, ns, o, tw, fg, rfl, hT8, hg, hF, hf, hO, fun ho H9 s9 => ?_, fun ho p2 H9 ws r s9 hP2 hG h1 hl => ?_⟩
        · have hT9 := Same.tup s9 hT8
          refine ⟨_, rfl, t, ns, o, tw, rfl, hT9, hg, hO, _, _, rfl, rfl, _, rfl, ?_⟩
          rw [decide_eq_true (show (1 : Int) < (o : Int) by omega)]
          exact iteT ⟨_, rfl, rfl, k _⟩
        · have hT9 := Same.tup s9 hT8
          have hrl := hG.len
          refine ⟨_, rfl, t, ns, o, tw, rfl, hT9, hg, hO, _, _, rfl, rfl, _, rfl, ?_⟩
          rw [decide_eq_false (show ¬ ((1 : Int) < (o : Int)) by omega)]
          refine iteF ⟨_, rfl, _, rfl, t, p2, ns, r, ws, rfl, hT9, g2, hP2, hG.run, fun e2 H10 s10 he2 => ?_⟩
          refine ⟨_, rfl, rfl, _, rfl, iteT ⟨_, rfl, e2, r, rfl, he2, by rw [hrl]; exact g2, fun H11 s11 => ⟨rfl, _, rfl, ?_⟩⟩⟩
          rw [dec_int, h1, decide_eq_true (show ((1 : Nat) : Int) = 1 from rfl)]
          have hT11 := Same.tup (s10.trans s11) hT9
          refine iteT ⟨_, rfl, p2, _, rfl, .inr (Same.tup (s10.trans s11) hP2.tp), _, rfl, _, rfl, t, _, rfl, .inr hT11, _, _, rfl, rfl, .inl ⟨by rw [emost]; omega, by rw [emost]; omega⟩, _, _, rfl, rfl, ?_⟩
          have : decide (((ws.map fun p => V.ref p.1).length : Int) ≤ (fg : Int) * (fg : Int) * ((ns.map V.int).length : Int)) = true := decide_eq_true (by rw [List.length_map, List.length_map, emost, ← Int.natCast_mul]; omega)
          have k' := k H11
          rw [← this] at k'
          exact k'
end
end Hd
set_option maxHeartbeats 8000000
namespace Hd
open PySem PySem.Spec PyProof.Rows L2
theorem all_mk {l : PySem.W.OpenLaw} {w : World} {K : PySem.W.Frag} {h : Heap} {mg : Str → Option Value} {fa : Addr} (X : K.In h) (G : h.Ns mainGlobals mg) (hfa : mg "law" = some (.ref fa))
    {od_is_integer an_is_integer : Option Addr} {sl_is_integer : Array (Option Value)} {oc_is_integer kV_is_integer dc_is_integer pm_is_integer cd_is_integer ct_is_integer : Value} {f_is_integer : Addr}
    (a_is_integer : PySem.W.nsIn K mainGlobals "is_integer" = some (some (.ref f_is_integer)))
    (l_is_integer : K.lookup f_is_integer = some ⟨oc_is_integer, od_is_integer, .func (PySem.W.fnOf "is_integer" "is_integer" (defArgs s_is_integer) (defBody s_is_integer) (defScope s_is_integer) .none kV_is_integer dc_is_integer pm_is_integer an_is_integer cd_is_integer ct_is_integer), sl_is_integer⟩)
    (c_is_integer : PySem.W.codeIn K cd_is_integer "is_integer" = true) (k_is_integer : PySem.W.keepIn K (.ref f_is_integer) = true)
    {od_is_heaps an_is_heaps : Option Addr} {sl_is_heaps : Array (Option Value)} {oc_is_heaps kV_is_heaps dc_is_heaps pm_is_heaps cd_is_heaps ct_is_heaps : Value} {f_is_heaps : Addr}
    (a_is_heaps : PySem.W.nsIn K mainGlobals "is_heaps" = some (some (.ref f_is_heaps)))
    (l_is_heaps : K.lookup f_is_heaps = some ⟨oc_is_heaps, od_is_heaps, .func (PySem.W.fnOf "is_heaps" "is_heaps" (defArgs s_is_heaps) (defBody s_is_heaps) (defScope s_is_heaps) .none kV_is_heaps dc_is_heaps pm_is_heaps an_is_heaps cd_is_heaps ct_is_heaps), sl_is_heaps⟩)
    (c_is_heaps : PySem.W.codeIn K cd_is_heaps "is_heaps" = true) (k_is_heaps : PySem.W.keepIn K (.ref f_is_heaps) = true)
    {od_check_heaps an_check_heaps : Option Addr} {sl_check_heaps : Array (Option Value)} {oc_check_heaps kV_check_heaps dc_check_heaps pm_check_heaps cd_check_heaps ct_check_heaps : Value} {f_check_heaps : Addr}
    (a_check_heaps : PySem.W.nsIn K mainGlobals "check_heaps" = some (some (.ref f_check_heaps)))
    (l_check_heaps : K.lookup f_check_heaps = some ⟨oc_check_heaps, od_check_heaps, .func (PySem.W.fnOf "check_heaps" "check_heaps" (defArgs s_check_heaps) (defBody s_check_heaps) (defScope s_check_heaps) .none kV_check_heaps dc_check_heaps pm_check_heaps an_check_heaps cd_check_heaps ct_check_heaps), sl_check_heaps⟩)
    (c_check_heaps : PySem.W.codeIn K cd_check_heaps "check_heaps" = true) (k_check_heaps : PySem.W.keepIn K (.ref f_check_heaps) = true)
    {od_shifted an_shifted : Option Addr} {sl_shifted : Array (Option Value)} {oc_shifted kV_shifted dc_shifted pm_shifted cd_shifted ct_shifted : Value} {f_shifted : Addr}
    (a_shifted : PySem.W.nsIn K mainGlobals "shifted" = some (some (.ref f_shifted)))
    (l_shifted : K.lookup f_shifted = some ⟨oc_shifted, od_shifted, .func (PySem.W.fnOf "shifted" "shifted" (defArgs s_shifted) (defBody s_shifted) (defScope s_shifted) .none kV_shifted dc_shifted pm_shifted an_shifted cd_shifted ct_shifted), sl_shifted⟩)
    (c_shifted : PySem.W.codeIn K cd_shifted "shifted" = true) (k_shifted : PySem.W.keepIn K (.ref f_shifted) = true)
    {od_behind an_behind : Option Addr} {sl_behind : Array (Option Value)} {oc_behind kV_behind dc_behind pm_behind cd_behind ct_behind : Value} {f_behind : Addr}
    (a_behind : PySem.W.nsIn K mainGlobals "behind" = some (some (.ref f_behind)))
    (l_behind : K.lookup f_behind = some ⟨oc_behind, od_behind, .func (PySem.W.fnOf "behind" "behind" (defArgs s_behind) (defBody s_behind) (defScope s_behind) .none kV_behind dc_behind pm_behind an_behind cd_behind ct_behind), sl_behind⟩)
    (c_behind : PySem.W.codeIn K cd_behind "behind" = true) (k_behind : PySem.W.keepIn K (.ref f_behind) = true)
    {od_behind_all an_behind_all : Option Addr} {sl_behind_all : Array (Option Value)} {oc_behind_all kV_behind_all dc_behind_all pm_behind_all cd_behind_all ct_behind_all : Value} {f_behind_all : Addr}
    (a_behind_all : PySem.W.nsIn K mainGlobals "behind_all" = some (some (.ref f_behind_all)))
    (l_behind_all : K.lookup f_behind_all = some ⟨oc_behind_all, od_behind_all, .func (PySem.W.fnOf "behind_all" "behind_all" (defArgs s_behind_all) (defBody s_behind_all) (defScope s_behind_all) .none kV_behind_all dc_behind_all pm_behind_all an_behind_all cd_behind_all ct_behind_all), sl_behind_all⟩)
    (c_behind_all : PySem.W.codeIn K cd_behind_all "behind_all" = true) (k_behind_all : PySem.W.keepIn K (.ref f_behind_all) = true)
    {od_split_twos an_split_twos : Option Addr} {sl_split_twos : Array (Option Value)} {oc_split_twos kV_split_twos dc_split_twos pm_split_twos cd_split_twos ct_split_twos : Value} {f_split_twos : Addr}
    (a_split_twos : PySem.W.nsIn K mainGlobals "split_twos" = some (some (.ref f_split_twos)))
    (l_split_twos : K.lookup f_split_twos = some ⟨oc_split_twos, od_split_twos, .func (PySem.W.fnOf "split_twos" "split_twos" (defArgs s_split_twos) (defBody s_split_twos) (defScope s_split_twos) .none kV_split_twos dc_split_twos pm_split_twos an_split_twos cd_split_twos ct_split_twos), sl_split_twos⟩)
    (c_split_twos : PySem.W.codeIn K cd_split_twos "split_twos" = true) (k_split_twos : PySem.W.keepIn K (.ref f_split_twos) = true)
    {od_reduced_parts an_reduced_parts : Option Addr} {sl_reduced_parts : Array (Option Value)} {oc_reduced_parts kV_reduced_parts dc_reduced_parts pm_reduced_parts cd_reduced_parts ct_reduced_parts : Value} {f_reduced_parts : Addr}
    (a_reduced_parts : PySem.W.nsIn K mainGlobals "reduced_parts" = some (some (.ref f_reduced_parts)))
    (l_reduced_parts : K.lookup f_reduced_parts = some ⟨oc_reduced_parts, od_reduced_parts, .func (PySem.W.fnOf "reduced_parts" "reduced_parts" (defArgs s_reduced_parts) (defBody s_reduced_parts) (defScope s_reduced_parts) .none kV_reduced_parts dc_reduced_parts pm_reduced_parts an_reduced_parts cd_reduced_parts ct_reduced_parts), sl_reduced_parts⟩)
    (c_reduced_parts : PySem.W.codeIn K cd_reduced_parts "reduced_parts" = true) (k_reduced_parts : PySem.W.keepIn K (.ref f_reduced_parts) = true)
    {od_odd_part an_odd_part : Option Addr} {sl_odd_part : Array (Option Value)} {oc_odd_part kV_odd_part dc_odd_part pm_odd_part cd_odd_part ct_odd_part : Value} {f_odd_part : Addr}
    (a_odd_part : PySem.W.nsIn K mainGlobals "odd_part" = some (some (.ref f_odd_part)))
    (l_odd_part : K.lookup f_odd_part = some ⟨oc_odd_part, od_odd_part, .func (PySem.W.fnOf "odd_part" "odd_part" (defArgs s_odd_part) (defBody s_odd_part) (defScope s_odd_part) .none kV_odd_part dc_odd_part pm_odd_part an_odd_part cd_odd_part ct_odd_part), sl_odd_part⟩)
    (c_odd_part : PySem.W.codeIn K cd_odd_part "odd_part" = true) (k_odd_part : PySem.W.keepIn K (.ref f_odd_part) = true)
    {od_filled an_filled : Option Addr} {sl_filled : Array (Option Value)} {oc_filled kV_filled dc_filled pm_filled cd_filled ct_filled : Value} {f_filled : Addr}
    (a_filled : PySem.W.nsIn K mainGlobals "filled" = some (some (.ref f_filled)))
    (l_filled : K.lookup f_filled = some ⟨oc_filled, od_filled, .func (PySem.W.fnOf "filled" "filled" (defArgs s_filled) (defBody s_filled) (defScope s_filled) .none kV_filled dc_filled pm_filled an_filled cd_filled ct_filled), sl_filled⟩)
    (c_filled : PySem.W.codeIn K cd_filled "filled" = true) (k_filled : PySem.W.keepIn K (.ref f_filled) = true)
    {od_nearest_multiple an_nearest_multiple : Option Addr} {sl_nearest_multiple : Array (Option Value)} {oc_nearest_multiple kV_nearest_multiple dc_nearest_multiple pm_nearest_multiple cd_nearest_multiple ct_nearest_multiple : Value} {f_nearest_multiple : Addr}
    (a_nearest_multiple : PySem.W.nsIn K mainGlobals "nearest_multiple" = some (some (.ref f_nearest_multiple)))
    (l_nearest_multiple : K.lookup f_nearest_multiple = some ⟨oc_nearest_multiple, od_nearest_multiple, .func (PySem.W.fnOf "nearest_multiple" "nearest_multiple" (defArgs s_nearest_multiple) (defBody s_nearest_multiple) (defScope s_nearest_multiple) .none kV_nearest_multiple dc_nearest_multiple pm_nearest_multiple an_nearest_multiple cd_nearest_multiple ct_nearest_multiple), sl_nearest_multiple⟩)
    (c_nearest_multiple : PySem.W.codeIn K cd_nearest_multiple "nearest_multiple" = true) (k_nearest_multiple : PySem.W.keepIn K (.ref f_nearest_multiple) = true)
    {od_by_size an_by_size : Option Addr} {sl_by_size : Array (Option Value)} {oc_by_size kV_by_size dc_by_size pm_by_size cd_by_size ct_by_size : Value} {f_by_size : Addr}
    (a_by_size : PySem.W.nsIn K mainGlobals "by_size" = some (some (.ref f_by_size)))
    (l_by_size : K.lookup f_by_size = some ⟨oc_by_size, od_by_size, .func (PySem.W.fnOf "by_size" "by_size" (defArgs s_by_size) (defBody s_by_size) (defScope s_by_size) .none kV_by_size dc_by_size pm_by_size an_by_size cd_by_size ct_by_size), sl_by_size⟩)
    (c_by_size : PySem.W.codeIn K cd_by_size "by_size" = true) (k_by_size : PySem.W.keepIn K (.ref f_by_size) = true)
    {od_halving an_halving : Option Addr} {sl_halving : Array (Option Value)} {oc_halving kV_halving dc_halving pm_halving cd_halving ct_halving : Value} {f_halving : Addr}
    (a_halving : PySem.W.nsIn K mainGlobals "halving" = some (some (.ref f_halving)))
    (l_halving : K.lookup f_halving = some ⟨oc_halving, od_halving, .func (PySem.W.fnOf "halving" "halving" (defArgs s_halving) (defBody s_halving) (defScope s_halving) .none kV_halving dc_halving pm_halving an_halving cd_halving ct_halving), sl_halving⟩)
    (c_halving : PySem.W.codeIn K cd_halving "halving" = true) (k_halving : PySem.W.keepIn K (.ref f_halving) = true)
    {od_emptying an_emptying : Option Addr} {sl_emptying : Array (Option Value)} {oc_emptying kV_emptying dc_emptying pm_emptying cd_emptying ct_emptying : Value} {f_emptying : Addr}
    (a_emptying : PySem.W.nsIn K mainGlobals "emptying" = some (some (.ref f_emptying)))
    (l_emptying : K.lookup f_emptying = some ⟨oc_emptying, od_emptying, .func (PySem.W.fnOf "emptying" "emptying" (defArgs s_emptying) (defBody s_emptying) (defScope s_emptying) .none kV_emptying dc_emptying pm_emptying an_emptying cd_emptying ct_emptying), sl_emptying⟩)
    (c_emptying : PySem.W.codeIn K cd_emptying "emptying" = true) (k_emptying : PySem.W.keepIn K (.ref f_emptying) = true)
    {od_shortest_emptying an_shortest_emptying : Option Addr} {sl_shortest_emptying : Array (Option Value)} {oc_shortest_emptying kV_shortest_emptying dc_shortest_emptying pm_shortest_emptying cd_shortest_emptying ct_shortest_emptying : Value} {f_shortest_emptying : Addr}
    (a_shortest_emptying : PySem.W.nsIn K mainGlobals "shortest_emptying" = some (some (.ref f_shortest_emptying)))
    (l_shortest_emptying : K.lookup f_shortest_emptying = some ⟨oc_shortest_emptying, od_shortest_emptying, .func (PySem.W.fnOf "shortest_emptying" "shortest_emptying" (defArgs s_shortest_emptying) (defBody s_shortest_emptying) (defScope s_shortest_emptying) .none kV_shortest_emptying dc_shortest_emptying pm_shortest_emptying an_shortest_emptying cd_shortest_emptying ct_shortest_emptying), sl_shortest_emptying⟩)
    (c_shortest_emptying : PySem.W.codeIn K cd_shortest_emptying "shortest_emptying" = true) (k_shortest_emptying : PySem.W.keepIn K (.ref f_shortest_emptying) = true)
    {od_empty_plan an_empty_plan : Option Addr} {sl_empty_plan : Array (Option Value)} {oc_empty_plan kV_empty_plan dc_empty_plan pm_empty_plan cd_empty_plan ct_empty_plan : Value} {f_empty_plan : Addr}
    (a_empty_plan : PySem.W.nsIn K mainGlobals "empty_plan" = some (some (.ref f_empty_plan)))
    (l_empty_plan : K.lookup f_empty_plan = some ⟨oc_empty_plan, od_empty_plan, .func (PySem.W.fnOf "empty_plan" "empty_plan" (defArgs s_empty_plan) (defBody s_empty_plan) (defScope s_empty_plan) .none kV_empty_plan dc_empty_plan pm_empty_plan an_empty_plan cd_empty_plan ct_empty_plan), sl_empty_plan⟩)
    (c_empty_plan : PySem.W.codeIn K cd_empty_plan "empty_plan" = true) (k_empty_plan : PySem.W.keepIn K (.ref f_empty_plan) = true)
    {od_emptying_to_pair an_emptying_to_pair : Option Addr} {sl_emptying_to_pair : Array (Option Value)} {oc_emptying_to_pair kV_emptying_to_pair dc_emptying_to_pair pm_emptying_to_pair cd_emptying_to_pair ct_emptying_to_pair : Value} {f_emptying_to_pair : Addr}
    (a_emptying_to_pair : PySem.W.nsIn K mainGlobals "emptying_to_pair" = some (some (.ref f_emptying_to_pair)))
    (l_emptying_to_pair : K.lookup f_emptying_to_pair = some ⟨oc_emptying_to_pair, od_emptying_to_pair, .func (PySem.W.fnOf "emptying_to_pair" "emptying_to_pair" (defArgs s_emptying_to_pair) (defBody s_emptying_to_pair) (defScope s_emptying_to_pair) .none kV_emptying_to_pair dc_emptying_to_pair pm_emptying_to_pair an_emptying_to_pair cd_emptying_to_pair ct_emptying_to_pair), sl_emptying_to_pair⟩)
    (c_emptying_to_pair : PySem.W.codeIn K cd_emptying_to_pair "emptying_to_pair" = true) (k_emptying_to_pair : PySem.W.keepIn K (.ref f_emptying_to_pair) = true)
    {od_pair_plan an_pair_plan : Option Addr} {sl_pair_plan : Array (Option Value)} {oc_pair_plan kV_pair_plan dc_pair_plan pm_pair_plan cd_pair_plan ct_pair_plan : Value} {f_pair_plan : Addr}
    (a_pair_plan : PySem.W.nsIn K mainGlobals "pair_plan" = some (some (.ref f_pair_plan)))
    (l_pair_plan : K.lookup f_pair_plan = some ⟨oc_pair_plan, od_pair_plan, .func (PySem.W.fnOf "pair_plan" "pair_plan" (defArgs s_pair_plan) (defBody s_pair_plan) (defScope s_pair_plan) .none kV_pair_plan dc_pair_plan pm_pair_plan an_pair_plan cd_pair_plan ct_pair_plan), sl_pair_plan⟩)
    (c_pair_plan : PySem.W.codeIn K cd_pair_plan "pair_plan" = true) (k_pair_plan : PySem.W.keepIn K (.ref f_pair_plan) = true)
    {od_walk_of_pair an_walk_of_pair : Option Addr} {sl_walk_of_pair : Array (Option Value)} {oc_walk_of_pair kV_walk_of_pair dc_walk_of_pair pm_walk_of_pair cd_walk_of_pair ct_walk_of_pair : Value} {f_walk_of_pair : Addr}
    (a_walk_of_pair : PySem.W.nsIn K mainGlobals "walk_of_pair" = some (some (.ref f_walk_of_pair)))
    (l_walk_of_pair : K.lookup f_walk_of_pair = some ⟨oc_walk_of_pair, od_walk_of_pair, .func (PySem.W.fnOf "walk_of_pair" "walk_of_pair" (defArgs s_walk_of_pair) (defBody s_walk_of_pair) (defScope s_walk_of_pair) .none kV_walk_of_pair dc_walk_of_pair pm_walk_of_pair an_walk_of_pair cd_walk_of_pair ct_walk_of_pair), sl_walk_of_pair⟩)
    (c_walk_of_pair : PySem.W.codeIn K cd_walk_of_pair "walk_of_pair" = true) (k_walk_of_pair : PySem.W.keepIn K (.ref f_walk_of_pair) = true)
    {od_one_plan an_one_plan : Option Addr} {sl_one_plan : Array (Option Value)} {oc_one_plan kV_one_plan dc_one_plan pm_one_plan cd_one_plan ct_one_plan : Value} {f_one_plan : Addr}
    (a_one_plan : PySem.W.nsIn K mainGlobals "one_plan" = some (some (.ref f_one_plan)))
    (l_one_plan : K.lookup f_one_plan = some ⟨oc_one_plan, od_one_plan, .func (PySem.W.fnOf "one_plan" "one_plan" (defArgs s_one_plan) (defBody s_one_plan) (defScope s_one_plan) .none kV_one_plan dc_one_plan pm_one_plan an_one_plan cd_one_plan ct_one_plan), sl_one_plan⟩)
    (c_one_plan : PySem.W.codeIn K cd_one_plan "one_plan" = true) (k_one_plan : PySem.W.keepIn K (.ref f_one_plan) = true)
    {od_l_mix an_l_mix : Option Addr} {sl_l_mix : Array (Option Value)} {oc_l_mix kV_l_mix dc_l_mix pm_l_mix cd_l_mix ct_l_mix : Value} {f_l_mix : Addr}
    (a_l_mix : PySem.W.nsIn K mainGlobals "_law_mix" = some (some (.ref f_l_mix)))
    (l_l_mix : K.lookup f_l_mix = some ⟨oc_l_mix, od_l_mix, .func (PySem.W.fnOf "_law_mix" "_law_mix" (defArgs s_l_mix) (defBody s_l_mix) (defScope s_l_mix) .none kV_l_mix dc_l_mix pm_l_mix an_l_mix cd_l_mix ct_l_mix), sl_l_mix⟩)
    (c_l_mix : PySem.W.codeIn K cd_l_mix "_law_mix" = true) (k_l_mix : PySem.W.keepIn K (.ref f_l_mix) = true)
    {od_l_next an_l_next : Option Addr} {sl_l_next : Array (Option Value)} {oc_l_next kV_l_next dc_l_next pm_l_next cd_l_next ct_l_next : Value} {f_l_next : Addr}
    (a_l_next : PySem.W.nsIn K mainGlobals "_law_next" = some (some (.ref f_l_next)))
    (l_l_next : K.lookup f_l_next = some ⟨oc_l_next, od_l_next, .func (PySem.W.fnOf "_law_next" "_law_next" (defArgs s_l_next) (defBody s_l_next) (defScope s_l_next) .none kV_l_next dc_l_next pm_l_next an_l_next cd_l_next ct_l_next), sl_l_next⟩)
    (c_l_next : PySem.W.codeIn K cd_l_next "_law_next" = true) (k_l_next : PySem.W.keepIn K (.ref f_l_next) = true)
    {od_l_heaps an_l_heaps : Option Addr} {sl_l_heaps : Array (Option Value)} {oc_l_heaps kV_l_heaps dc_l_heaps pm_l_heaps cd_l_heaps ct_l_heaps : Value} {f_l_heaps : Addr}
    (a_l_heaps : PySem.W.nsIn K mainGlobals "_law_heaps" = some (some (.ref f_l_heaps)))
    (l_l_heaps : K.lookup f_l_heaps = some ⟨oc_l_heaps, od_l_heaps, .func (PySem.W.fnOf "_law_heaps" "_law_heaps" (defArgs s_l_heaps) (defBody s_l_heaps) (defScope s_l_heaps) .none kV_l_heaps dc_l_heaps pm_l_heaps an_l_heaps cd_l_heaps ct_l_heaps), sl_l_heaps⟩)
    (c_l_heaps : PySem.W.codeIn K cd_l_heaps "_law_heaps" = true) (k_l_heaps : PySem.W.keepIn K (.ref f_l_heaps) = true)
    {od_l_can an_l_can : Option Addr} {sl_l_can : Array (Option Value)} {oc_l_can kV_l_can dc_l_can pm_l_can cd_l_can ct_l_can : Value} {f_l_can : Addr}
    (a_l_can : PySem.W.nsIn K mainGlobals "_law_can" = some (some (.ref f_l_can)))
    (l_l_can : K.lookup f_l_can = some ⟨oc_l_can, od_l_can, .func (PySem.W.fnOf "_law_can" "_law_can" (defArgs s_l_can) (defBody s_l_can) (defScope s_l_can) .none kV_l_can dc_l_can pm_l_can an_l_can cd_l_can ct_l_can), sl_l_can⟩)
    (c_l_can : PySem.W.codeIn K cd_l_can "_law_can" = true) (k_l_can : PySem.W.keepIn K (.ref f_l_can) = true)
    {od_l_behind an_l_behind : Option Addr} {sl_l_behind : Array (Option Value)} {oc_l_behind kV_l_behind dc_l_behind pm_l_behind cd_l_behind ct_l_behind : Value} {f_l_behind : Addr}
    (a_l_behind : PySem.W.nsIn K mainGlobals "_law_behind" = some (some (.ref f_l_behind)))
    (l_l_behind : K.lookup f_l_behind = some ⟨oc_l_behind, od_l_behind, .func (PySem.W.fnOf "_law_behind" "_law_behind" (defArgs s_l_behind) (defBody s_l_behind) (defScope s_l_behind) .none kV_l_behind dc_l_behind pm_l_behind an_l_behind cd_l_behind ct_l_behind), sl_l_behind⟩)
    (c_l_behind : PySem.W.codeIn K cd_l_behind "_law_behind" = true) (k_l_behind : PySem.W.keepIn K (.ref f_l_behind) = true)
    {od_l_pairs an_l_pairs : Option Addr} {sl_l_pairs : Array (Option Value)} {oc_l_pairs kV_l_pairs dc_l_pairs pm_l_pairs cd_l_pairs ct_l_pairs : Value} {f_l_pairs : Addr}
    (a_l_pairs : PySem.W.nsIn K mainGlobals "_law_pairs" = some (some (.ref f_l_pairs)))
    (l_l_pairs : K.lookup f_l_pairs = some ⟨oc_l_pairs, od_l_pairs, .func (PySem.W.fnOf "_law_pairs" "_law_pairs" (defArgs s_l_pairs) (defBody s_l_pairs) (defScope s_l_pairs) .none kV_l_pairs dc_l_pairs pm_l_pairs an_l_pairs cd_l_pairs ct_l_pairs), sl_l_pairs⟩)
    (c_l_pairs : PySem.W.codeIn K cd_l_pairs "_law_pairs" = true) (k_l_pairs : PySem.W.keepIn K (.ref f_l_pairs) = true)
    {od_l_gone an_l_gone : Option Addr} {sl_l_gone : Array (Option Value)} {oc_l_gone kV_l_gone dc_l_gone pm_l_gone cd_l_gone ct_l_gone : Value} {f_l_gone : Addr}
    (a_l_gone : PySem.W.nsIn K mainGlobals "_law_gone" = some (some (.ref f_l_gone)))
    (l_l_gone : K.lookup f_l_gone = some ⟨oc_l_gone, od_l_gone, .func (PySem.W.fnOf "_law_gone" "_law_gone" (defArgs s_l_gone) (defBody s_l_gone) (defScope s_l_gone) .none kV_l_gone dc_l_gone pm_l_gone an_l_gone cd_l_gone ct_l_gone), sl_l_gone⟩)
    (c_l_gone : PySem.W.codeIn K cd_l_gone "_law_gone" = true) (k_l_gone : PySem.W.keepIn K (.ref f_l_gone) = true)
    {od_l_part an_l_part : Option Addr} {sl_l_part : Array (Option Value)} {oc_l_part kV_l_part dc_l_part pm_l_part cd_l_part ct_l_part : Value} {f_l_part : Addr}
    (a_l_part : PySem.W.nsIn K mainGlobals "_law_part" = some (some (.ref f_l_part)))
    (l_l_part : K.lookup f_l_part = some ⟨oc_l_part, od_l_part, .func (PySem.W.fnOf "_law_part" "_law_part" (defArgs s_l_part) (defBody s_l_part) (defScope s_l_part) .none kV_l_part dc_l_part pm_l_part an_l_part cd_l_part ct_l_part), sl_l_part⟩)
    (c_l_part : PySem.W.codeIn K cd_l_part "_law_part" = true) (k_l_part : PySem.W.keepIn K (.ref f_l_part) = true)
    {od_l_odd an_l_odd : Option Addr} {sl_l_odd : Array (Option Value)} {oc_l_odd kV_l_odd dc_l_odd pm_l_odd cd_l_odd ct_l_odd : Value} {f_l_odd : Addr}
    (a_l_odd : PySem.W.nsIn K mainGlobals "_law_odd" = some (some (.ref f_l_odd)))
    (l_l_odd : K.lookup f_l_odd = some ⟨oc_l_odd, od_l_odd, .func (PySem.W.fnOf "_law_odd" "_law_odd" (defArgs s_l_odd) (defBody s_l_odd) (defScope s_l_odd) .none kV_l_odd dc_l_odd pm_l_odd an_l_odd cd_l_odd ct_l_odd), sl_l_odd⟩)
    (c_l_odd : PySem.W.codeIn K cd_l_odd "_law_odd" = true) (k_l_odd : PySem.W.keepIn K (.ref f_l_odd) = true)
    {od_l_some an_l_some : Option Addr} {sl_l_some : Array (Option Value)} {oc_l_some kV_l_some dc_l_some pm_l_some cd_l_some ct_l_some : Value} {f_l_some : Addr}
    (a_l_some : PySem.W.nsIn K mainGlobals "_law_some" = some (some (.ref f_l_some)))
    (l_l_some : K.lookup f_l_some = some ⟨oc_l_some, od_l_some, .func (PySem.W.fnOf "_law_some" "_law_some" (defArgs s_l_some) (defBody s_l_some) (defScope s_l_some) .none kV_l_some dc_l_some pm_l_some an_l_some cd_l_some ct_l_some), sl_l_some⟩)
    (c_l_some : PySem.W.codeIn K cd_l_some "_law_some" = true) (k_l_some : PySem.W.keepIn K (.ref f_l_some) = true)
    {od_l_full an_l_full : Option Addr} {sl_l_full : Array (Option Value)} {oc_l_full kV_l_full dc_l_full pm_l_full cd_l_full ct_l_full : Value} {f_l_full : Addr}
    (a_l_full : PySem.W.nsIn K mainGlobals "_law_full" = some (some (.ref f_l_full)))
    (l_l_full : K.lookup f_l_full = some ⟨oc_l_full, od_l_full, .func (PySem.W.fnOf "_law_full" "_law_full" (defArgs s_l_full) (defBody s_l_full) (defScope s_l_full) .none kV_l_full dc_l_full pm_l_full an_l_full cd_l_full ct_l_full), sl_l_full⟩)
    (c_l_full : PySem.W.codeIn K cd_l_full "_law_full" = true) (k_l_full : PySem.W.keepIn K (.ref f_l_full) = true)
    {od_law an_law : Option Addr} {sl_law : Array (Option Value)} {oc_law kV_law dc_law pm_law cd_law ct_law : Value} {f_law : Addr}
    (a_law : PySem.W.nsIn K mainGlobals "law" = some (some (.ref f_law)))
    (l_law : K.lookup f_law = some ⟨oc_law, od_law, .func (PySem.W.fnOf "law" "law" (defArgs s_law) (defBody s_law) (defScope s_law) .none kV_law dc_law pm_law an_law cd_law ct_law), sl_law⟩)
    (c_law : PySem.W.codeIn K cd_law "law" = true) (k_law : PySem.W.keepIn K (.ref f_law) = true)
    (z_int : PySem.W.nsIn K mainGlobals "int" = some none)
    (z_bool : PySem.W.nsIn K mainGlobals "bool" = some none)
    (z_list : PySem.W.nsIn K mainGlobals "list" = some none)
    (z_len : PySem.W.nsIn K mainGlobals "len" = some none)
    (z_tuple : PySem.W.nsIn K mainGlobals "tuple" = some none)
    (z_isinstance : PySem.W.nsIn K mainGlobals "isinstance" = some none)
    (z_all : PySem.W.nsIn K mainGlobals "all" = some none)
    (z_sum : PySem.W.nsIn K mainGlobals "sum" = some none)
    (z_enumerate : PySem.W.nsIn K mainGlobals "enumerate" = some none)
    (z_range : PySem.W.nsIn K mainGlobals "range" = some none)
    (z_max : PySem.W.nsIn K mainGlobals "max" = some none)
    (z_min : PySem.W.nsIn K mainGlobals "min" = some none)
    (z_sorted : PySem.W.nsIn K mainGlobals "sorted" = some none)
    {tk_FEWEST_HEAPS : Tok} (w_FEWEST_HEAPS : PySem.W.nsIn K mainGlobals "FEWEST_HEAPS" = some (some (.int 2 tk_FEWEST_HEAPS)))
    {tk_MOST_HEAPS : Tok} (w_MOST_HEAPS : PySem.W.nsIn K mainGlobals "MOST_HEAPS" = some (some (.int 6 tk_MOST_HEAPS)))
    {tk_GREATEST : Tok} (w_GREATEST : PySem.W.nsIn K mainGlobals "GREATEST" = some (some (.int 1000000000000000000000000000000 tk_GREATEST)))
    (gG : PySem.W.nsIn K mainGlobals "gcd" = some (some (.builtin "math.gcd")))
    (gC : PySem.W.nsIn K mainGlobals "combinations" = some (some (.type "itertools.combinations")))
    : ∃ fd : FuncData, (∀ (s : Shared) (v : Value), BindsTo s fd ⟨[v], []⟩ [("_law_script", v)]) ∧ ∀ base : Heap, K.In base → base.Ns mainGlobals mg → FnOk l.prog w K mg base CX0 8 fa fd ["_law_script"] (spLaw K) := by
  have e := hfa.symm.trans (PySem.W.mg_of X G a_law)
  cases e
  have F_is_integer := fun_mk (st := s_is_integer) l_is_integer c_is_integer k_is_integer
  have b_is_integer := F_is_integer.binds (ps := ["value", "least", "greatest"]) fun _ _ _ _ _ _ us hl => match us, hl with | [_, _, _], _ => rfl
  have F_is_heaps := fun_mk (st := s_is_heaps) l_is_heaps c_is_heaps k_is_heaps
  have b_is_heaps := F_is_heaps.binds (ps := ["value"]) fun _ _ _ _ _ _ us hl => match us, hl with | [_], _ => rfl
  have F_check_heaps := fun_mk (st := s_check_heaps) l_check_heaps c_check_heaps k_check_heaps
  have b_check_heaps := F_check_heaps.binds (ps := ["heaps"]) fun _ _ _ _ _ _ us hl => match us, hl with | [_], _ => rfl
  have F_shifted := fun_mk (st := s_shifted) l_shifted c_shifted k_shifted
  have b_shifted := F_shifted.binds (ps := ["heaps", "step", "many"]) fun _ _ _ _ _ _ us hl => match us, hl with | [_, _, _], _ => rfl
  have F_behind := fun_mk (st := s_behind) l_behind c_behind k_behind
  have b_behind := F_behind.binds (ps := ["heaps", "step"]) fun _ _ _ _ _ _ us hl => match us, hl with | [_, _], _ => rfl
  have F_behind_all := fun_mk (st := s_behind_all) l_behind_all c_behind_all k_behind_all
  have b_behind_all := F_behind_all.binds (ps := ["heaps", "plan"]) fun _ _ _ _ _ _ us hl => match us, hl with | [_, _], _ => rfl
  have F_split_twos := fun_mk (st := s_split_twos) l_split_twos c_split_twos k_split_twos
  have b_split_twos := F_split_twos.binds (ps := ["number"]) fun _ _ _ _ _ _ us hl => match us, hl with | [_], _ => rfl
  have F_reduced_parts := fun_mk (st := s_reduced_parts) l_reduced_parts c_reduced_parts k_reduced_parts
  have b_reduced_parts := F_reduced_parts.binds (ps := ["numbers"]) fun _ _ _ _ _ _ us hl => match us, hl with | [_], _ => rfl
  have F_odd_part := fun_mk (st := s_odd_part) l_odd_part c_odd_part k_odd_part
  have b_odd_part := F_odd_part.binds (ps := ["heaps"]) fun _ _ _ _ _ _ us hl => match us, hl with | [_], _ => rfl
  have F_filled := fun_mk (st := s_filled) l_filled c_filled k_filled
  have b_filled := F_filled.binds (ps := ["heaps"]) fun _ _ _ _ _ _ us hl => match us, hl with | [_], _ => rfl
  have F_nearest_multiple := fun_mk (st := s_nearest_multiple) l_nearest_multiple c_nearest_multiple k_nearest_multiple
  have b_nearest_multiple := F_nearest_multiple.binds (ps := ["number", "unit"]) fun _ _ _ _ _ _ us hl => match us, hl with | [_, _], _ => rfl
  have F_by_size := fun_mk (st := s_by_size) l_by_size c_by_size k_by_size
  have b_by_size := F_by_size.binds (ps := ["heaps", "trio"]) fun _ _ _ _ _ _ us hl => match us, hl with | [_, _], _ => rfl
  have F_halving := fun_mk (st := s_halving) l_halving c_halving k_halving
  have b_halving := F_halving.binds (ps := ["heaps", "trio"]) fun _ _ _ _ _ _ us hl => match us, hl with | [_, _], _ => rfl
  have F_emptying := fun_mk (st := s_emptying) l_emptying c_emptying k_emptying
  have b_emptying := F_emptying.binds (ps := ["heaps", "trio"]) fun _ _ _ _ _ _ us hl => match us, hl with | [_, _], _ => rfl
  have F_shortest_emptying := fun_mk (st := s_shortest_emptying) l_shortest_emptying c_shortest_emptying k_shortest_emptying
  have b_shortest_emptying := F_shortest_emptying.binds (ps := ["heaps"]) fun _ _ _ _ _ _ us hl => match us, hl with | [_], _ => rfl
  have F_empty_plan := fun_mk (st := s_empty_plan) l_empty_plan c_empty_plan k_empty_plan
  have b_empty_plan := F_empty_plan.binds (ps := ["heaps"]) fun _ _ _ _ _ _ us hl => match us, hl with | [_], _ => rfl
  have F_emptying_to_pair := fun_mk (st := s_emptying_to_pair) l_emptying_to_pair c_emptying_to_pair k_emptying_to_pair
  have b_emptying_to_pair := F_emptying_to_pair.binds (ps := ["heaps"]) fun _ _ _ _ _ _ us hl => match us, hl with | [_], _ => rfl
  have F_pair_plan := fun_mk (st := s_pair_plan) l_pair_plan c_pair_plan k_pair_plan
  have b_pair_plan := F_pair_plan.binds (ps := ["heaps"]) fun _ _ _ _ _ _ us hl => match us, hl with | [_], _ => rfl
  have F_walk_of_pair := fun_mk (st := s_walk_of_pair) l_walk_of_pair c_walk_of_pair k_walk_of_pair
  have b_walk_of_pair := F_walk_of_pair.binds (ps := ["heaps"]) fun _ _ _ _ _ _ us hl => match us, hl with | [_], _ => rfl
  have F_one_plan := fun_mk (st := s_one_plan) l_one_plan c_one_plan k_one_plan
  have b_one_plan := F_one_plan.binds (ps := ["heaps"]) fun _ _ _ _ _ _ us hl => match us, hl with | [_], _ => rfl
  have F_l_mix := fun_mk (st := s_l_mix) l_l_mix c_l_mix k_l_mix
  have b_l_mix := F_l_mix.binds (ps := ["_law_script", "_law_seed"]) fun _ _ _ _ _ _ us hl => match us, hl with | [_, _], _ => rfl
  have F_l_next := fun_mk (st := s_l_next) l_l_next c_l_next k_l_next
  have b_l_next := F_l_next.binds (ps := ["_law_h", "_law_bound"]) fun _ _ _ _ _ _ us hl => match us, hl with | [_, _], _ => rfl
  have F_l_heaps := fun_mk (st := s_l_heaps) l_l_heaps c_l_heaps k_l_heaps
  have b_l_heaps := F_l_heaps.binds (ps := ["_law_h", "_law_least", "_law_most"]) fun _ _ _ _ _ _ us hl => match us, hl with | [_, _, _], _ => rfl
  have F_l_can := fun_mk (st := s_l_can) l_l_can c_l_can k_l_can
  have b_l_can := F_l_can.binds (ps := ["_law_heaps_here", "_law_step"]) fun _ _ _ _ _ _ us hl => match us, hl with | [_, _], _ => rfl
  have F_l_behind := fun_mk (st := s_l_behind) l_l_behind c_l_behind k_l_behind
  have b_l_behind := F_l_behind.binds (ps := ["_law_heaps_here", "_law_step"]) fun _ _ _ _ _ _ us hl => match us, hl with | [_, _], _ => rfl
  have F_l_pairs := fun_mk (st := s_l_pairs) l_l_pairs c_l_pairs k_l_pairs
  have b_l_pairs := F_l_pairs.binds (ps := ["_law_size"]) fun _ _ _ _ _ _ us hl => match us, hl with | [_], _ => rfl
  have F_l_gone := fun_mk (st := s_l_gone) l_l_gone c_l_gone k_l_gone
  have b_l_gone := F_l_gone.binds (ps := ["_law_heaps_here", "_law_plan"]) fun _ _ _ _ _ _ us hl => match us, hl with | [_, _], _ => rfl
  have F_l_part := fun_mk (st := s_l_part) l_l_part c_l_part k_l_part
  have b_l_part := F_l_part.binds (ps := ["_law_one", "_law_other"]) fun _ _ _ _ _ _ us hl => match us, hl with | [_, _], _ => rfl
  have F_l_odd := fun_mk (st := s_l_odd) l_l_odd c_l_odd k_l_odd
  have b_l_odd := F_l_odd.binds (ps := ["_law_heaps_here"]) fun _ _ _ _ _ _ us hl => match us, hl with | [_], _ => rfl
  have F_l_some := fun_mk (st := s_l_some) l_l_some c_l_some k_l_some
  have b_l_some := F_l_some.binds (ps := ["_law_h"]) fun _ _ _ _ _ _ us hl => match us, hl with | [_], _ => rfl
  have F_l_full := fun_mk (st := s_l_full) l_l_full c_l_full k_l_full
  have b_l_full := F_l_full.binds (ps := ["_law_heaps_here"]) fun _ _ _ _ _ _ us hl => match us, hl with | [_], _ => rfl
  have F_law := fun_mk (st := s_law) l_law c_law k_law
  have b_law := F_law.binds (ps := ["_law_script"]) fun _ _ _ _ _ _ us hl => match us, hl with | [_], _ => rfl
  have T : Tp K mg := ⟨PySem.W.mg_none_of X G z_int, PySem.W.mg_none_of X G z_bool, PySem.W.mg_none_of X G z_list, PySem.W.mg_none_of X G z_len, PySem.W.mg_none_of X G z_tuple, PySem.W.mg_none_of X G z_isinstance, PySem.W.mg_none_of X G z_all, PySem.W.mg_none_of X G z_sum, PySem.W.mg_none_of X G z_enumerate, PySem.W.mg_none_of X G z_range, ⟨_, PySem.W.mg_of X G w_FEWEST_HEAPS⟩, ⟨_, PySem.W.mg_of X G w_MOST_HEAPS⟩, ⟨_, PySem.W.mg_of X G w_GREATEST⟩⟩
  have U : Tx K mg := ⟨PySem.W.mg_none_of X G z_int, PySem.W.mg_none_of X G z_list, PySem.W.mg_none_of X G z_max, PySem.W.mg_none_of X G z_len, PySem.W.mg_none_of X G z_tuple, PySem.W.mg_none_of X G z_range⟩
  have TS : Tps K mg := ⟨T, PySem.W.mg_none_of X G z_sorted, PySem.W.mg_none_of X G z_min⟩
  have TK : Tk K mg := ⟨PySem.W.mg_none_of X G z_isinstance, PySem.W.mg_none_of X G z_tuple, PySem.W.mg_none_of X G z_len, PySem.W.mg_none_of X G z_sum, PySem.W.mg_none_of X G z_max, PySem.W.mg_none_of X G z_min⟩
  refine ⟨PySem.W.fnOf "law" "law" (defArgs s_law) (defBody s_law) (defScope s_law) .none kV_law dc_law pm_law an_law cd_law ct_law, fun s v => .of_eq rfl, fun base KB GB => ?_⟩
  have C_is_integer : Cal l.prog w K mg base CX0 1 "is_integer" ["value", "least", "greatest"] (spIsInt) := ⟨_, _, PySem.W.mg_of X G a_is_integer, k_is_integer, b_is_integer, ok_is_integer F_is_integer T⟩
  have C_is_heaps : Cal l.prog w K mg base CX0 2 "is_heaps" ["value"] (spIsHeaps K) := ⟨_, _, PySem.W.mg_of X G a_is_heaps, k_is_heaps, b_is_heaps, ok_is_heaps F_is_heaps T C_is_integer⟩
  have C_check_heaps : Cal l.prog w K mg base CX0 3 "check_heaps" ["heaps"] (spChkHeaps K) := ⟨_, _, PySem.W.mg_of X G a_check_heaps, k_check_heaps, b_check_heaps, ok_check_heaps F_check_heaps T C_is_heaps⟩
  have C_shifted : Cal l.prog w K mg base CX0 1 "shifted" ["heaps", "step", "many"] (spShifted K) := ⟨_, _, PySem.W.mg_of X G a_shifted, k_shifted, b_shifted, ok_shifted F_shifted T⟩
  have C_behind : Cal l.prog w K mg base CX0 2 "behind" ["heaps", "step"] (spBehind K) := ⟨_, _, PySem.W.mg_of X G a_behind, k_behind, b_behind, ok_behind F_behind C_shifted⟩
  have C_behind_all : Cal l.prog w K mg base CX0 3 "behind_all" ["heaps", "plan"] (spBehindAll K) := ⟨_, _, PySem.W.mg_of X G a_behind_all, k_behind_all, b_behind_all, ok_behind_all F_behind_all C_behind⟩
  have C_split_twos : Cal l.prog w K mg base CX0 1 "split_twos" ["number"] (spSplit) := ⟨_, _, PySem.W.mg_of X G a_split_twos, k_split_twos, b_split_twos, ok_split_twos F_split_twos⟩
  have C_reduced_parts : Cal l.prog w K mg base CX0 2 "reduced_parts" ["numbers"] (spRed K) := ⟨_, _, PySem.W.mg_of X G a_reduced_parts, k_reduced_parts, b_reduced_parts, ok_reduced_parts F_reduced_parts T (PySem.W.mg_of X G gG) C_split_twos⟩
  have C_odd_part : Cal l.prog w K mg base CX0 4 "odd_part" ["heaps"] (spOdd K) := ⟨_, _, PySem.W.mg_of X G a_odd_part, k_odd_part, b_odd_part, ok_odd_part F_odd_part C_check_heaps C_reduced_parts⟩
  have C_filled : Cal l.prog w K mg base CX0 1 "filled" ["heaps"] (spFilled K) := ⟨_, _, PySem.W.mg_of X G a_filled, k_filled, b_filled, ok_filled F_filled T⟩
  have C_nearest_multiple : Cal l.prog w K mg base CX0 1 "nearest_multiple" ["number", "unit"] (spNear) := ⟨_, _, PySem.W.mg_of X G a_nearest_multiple, k_nearest_multiple, b_nearest_multiple, ok_nearest_multiple F_nearest_multiple⟩
  have C_by_size : Cal l.prog w K mg base CX0 1 "by_size" ["heaps", "trio"] (spBySize K) := ⟨_, _, PySem.W.mg_of X G a_by_size, k_by_size, b_by_size, ok_by_size F_by_size TS⟩
  have C_halving : Cal l.prog w K mg base CX0 2 "halving" ["heaps", "trio"] (spHalving K) := ⟨_, _, PySem.W.mg_of X G a_halving, k_halving, b_halving, ok_halving F_halving TS C_by_size C_nearest_multiple⟩
  have C_emptying : Cal l.prog w K mg base CX0 4 "emptying" ["heaps", "trio"] (spEmptying K) := ⟨_, _, PySem.W.mg_of X G a_emptying, k_emptying, b_emptying, ok_emptying F_emptying TS C_halving C_behind_all⟩
  have C_shortest_emptying : Cal l.prog w K mg base CX0 5 "shortest_emptying" ["heaps"] (spShortest K) := ⟨_, _, PySem.W.mg_of X G a_shortest_emptying, k_shortest_emptying, b_shortest_emptying, ok_shortest_emptying F_shortest_emptying TS (PySem.W.mg_of X G gC) C_filled C_emptying⟩
  have C_empty_plan : Cal l.prog w K mg base CX0 6 "empty_plan" ["heaps"] (spEmptyPlan K) := ⟨_, _, PySem.W.mg_of X G a_empty_plan, k_empty_plan, b_empty_plan, ok_empty_plan F_empty_plan TS C_check_heaps C_shortest_emptying⟩
  have C_emptying_to_pair : Cal l.prog w K mg base CX0 6 "emptying_to_pair" ["heaps"] (spToPair K) := ⟨_, _, PySem.W.mg_of X G a_emptying_to_pair, k_emptying_to_pair, b_emptying_to_pair, ok_emptying_to_pair F_emptying_to_pair TS C_filled C_shortest_emptying C_behind_all⟩
  have C_pair_plan : Cal l.prog w K mg base CX0 7 "pair_plan" ["heaps"] (spPairPlan K) := ⟨_, _, PySem.W.mg_of X G a_pair_plan, k_pair_plan, b_pair_plan, ok_pair_plan F_pair_plan TS C_check_heaps C_emptying_to_pair⟩
  have C_walk_of_pair : Cal l.prog w K mg base CX0 3 "walk_of_pair" ["heaps"] (spWalkPair K) := ⟨_, _, PySem.W.mg_of X G a_walk_of_pair, k_walk_of_pair, b_walk_of_pair, ok_walk_of_pair F_walk_of_pair TS C_filled C_behind⟩
  have C_one_plan : Cal l.prog w K mg base CX0 7 "one_plan" ["heaps"] (spOnePlan K) := ⟨_, _, PySem.W.mg_of X G a_one_plan, k_one_plan, b_one_plan, ok_one_plan F_one_plan TS C_odd_part C_emptying_to_pair C_walk_of_pair C_behind_all⟩
  have C_l_mix : Cal l.prog w K mg base CX0 1 "_law_mix" ["_law_script", "_law_seed"] (spMix K) := ⟨_, _, PySem.W.mg_of X G a_l_mix, k_l_mix, b_l_mix, ok_mix F_l_mix U⟩
  have C_l_next : Cal l.prog w K mg base CX0 1 "_law_next" ["_law_h", "_law_bound"] (spNext) := ⟨_, _, PySem.W.mg_of X G a_l_next, k_l_next, b_l_next, ok_next F_l_next U⟩
  have C_l_heaps : Cal l.prog w K mg base CX0 2 "_law_heaps" ["_law_h", "_law_least", "_law_most"] (spHeaps) := ⟨_, _, PySem.W.mg_of X G a_l_heaps, k_l_heaps, b_l_heaps, ok_heaps F_l_heaps U C_l_next⟩
  have C_l_can : Cal l.prog w K mg base CX0 1 "_law_can" ["_law_heaps_here", "_law_step"] (spCan K) := ⟨_, _, PySem.W.mg_of X G a_l_can, k_l_can, b_l_can, ok_l_can F_l_can⟩
  have C_l_behind : Cal l.prog w K mg base CX0 1 "_law_behind" ["_law_heaps_here", "_law_step"] (spBehind K) := ⟨_, _, PySem.W.mg_of X G a_l_behind, k_l_behind, b_l_behind, ok_l_behind F_l_behind U⟩
  have C_l_pairs : Cal l.prog w K mg base CX0 1 "_law_pairs" ["_law_size"] (spPairs K) := ⟨_, _, PySem.W.mg_of X G a_l_pairs, k_l_pairs, b_l_pairs, ok_l_pairs F_l_pairs U⟩
  have C_l_gone : Cal l.prog w K mg base CX0 2 "_law_gone" ["_law_heaps_here", "_law_plan"] (spGone K) := ⟨_, _, PySem.W.mg_of X G a_l_gone, k_l_gone, b_l_gone, ok_l_gone F_l_gone TK C_l_can C_l_behind C_l_pairs⟩
  have C_l_part : Cal l.prog w K mg base CX0 1 "_law_part" ["_law_one", "_law_other"] (spPart) := ⟨_, _, PySem.W.mg_of X G a_l_part, k_l_part, b_l_part, ok_l_part F_l_part⟩
  have C_l_odd : Cal l.prog w K mg base CX0 2 "_law_odd" ["_law_heaps_here"] (spLOdd K) := ⟨_, _, PySem.W.mg_of X G a_l_odd, k_l_odd, b_l_odd, ok_l_odd F_l_odd TK C_l_part⟩
  have C_l_some : Cal l.prog w K mg base CX0 3 "_law_some" ["_law_h"] (spSome K) := ⟨_, _, PySem.W.mg_of X G a_l_some, k_l_some, b_l_some, ok_l_some F_l_some TK C_l_next C_l_heaps⟩
  have C_l_full : Cal l.prog w K mg base CX0 1 "_law_full" ["_law_heaps_here"] (spFull K) := ⟨_, _, PySem.W.mg_of X G a_l_full, k_l_full, b_l_full, ok_l_full F_l_full TK⟩
  exact ok_law F_law TK C_l_mix C_l_some C_odd_part C_l_odd C_empty_plan C_pair_plan C_one_plan C_l_gone C_l_full
theorem walk {l : PySem.W.OpenLaw} {q : Program} {loose : List Str} {XP : (Str → Option Value) → Heap → Prop} {YP : World → Heap → Prop} {d : DefRec} {K : Params → PySem.W.Frag} (hn : l.most = some 63) (hdf : d.params.defaults = [])
    (hY : ∀ (w : World) (h : Heap), YP w h → (K w.params).In h)
    (F : ∀ (w : World) (mg : Str → Option Value) (fa : Addr) (h : Heap), (K w.params).In h → h.Ns mainGlobals mg → mg d.name = some (.ref fa) →
      ∃ fd : FuncData, (∀ (s : Shared) (u : Value), BindsTo s fd ⟨[u], []⟩ [("_law_script", u)]) ∧ ∀ base : Heap, (K w.params).In base → base.Ns mainGlobals mg → FnOk l.prog w (K w.params) mg base CX0 8 fa fd ["_law_script"] (spLaw (K w.params))) :
    PySem.W.WalkO q loose XP YP l.row.toRowW d [] (fun f vs => PySem.call f vs) :=
  L2.walk_of (n := 63) (k := 8) (x := "_law_script") (CX := fun _ => CX0) (sp := fun w => spLaw (K w.params)) hn (by decide) hdf ⟨rfl, by decide, by decide⟩ hY F (fun _ _ a ns hl _ hS => ⟨a, ns, rfl, hS, hl, fun _ => rfl⟩) fun _ _ _ _ _ z => z
end Hd
open PySem PySem.W PyProof.Rows
set_option maxRecDepth 100000 in
set_option maxHeartbeats 0 in
theorem PySem.Challenge.cw_heapsdouble_k04_whole_plans_that_empty_holds : PySem.Challenge.rw_heapsdouble_k04_whole_plans_that_empty.Holds := by
  w_on; o_law; k_head; (case hw => w_witness2)
  k_fill
  refine Hd.walk (l := PySem.Challenge.rw_heapsdouble_k04_whole_plans_that_empty) rfl rfl (fun w h Y => PySem.W.kIn_of Y) ?F
  case F =>
    intro w mg fa h KX G hmg
    refine' Hd.all_mk KX G hmg ?a_is_integer ?l_is_integer ?c_is_integer ?k_is_integer ?a_is_heaps ?l_is_heaps ?c_is_heaps ?k_is_heaps ?a_check_heaps ?l_check_heaps ?c_check_heaps ?k_check_heaps ?a_shifted ?l_shifted ?c_shifted ?k_shifted ?a_behind ?l_behind ?c_behind ?k_behind ?a_behind_all ?l_behind_all ?c_behind_all ?k_behind_all ?a_split_twos ?l_split_twos ?c_split_twos ?k_split_twos ?a_reduced_parts ?l_reduced_parts ?c_reduced_parts ?k_reduced_parts ?a_odd_part ?l_odd_part ?c_odd_part ?k_odd_part ?a_filled ?l_filled ?c_filled ?k_filled ?a_nearest_multiple ?l_nearest_multiple ?c_nearest_multiple ?k_nearest_multiple ?a_by_size ?l_by_size ?c_by_size ?k_by_size ?a_halving ?l_halving ?c_halving ?k_halving ?a_emptying ?l_emptying ?c_emptying ?k_emptying ?a_shortest_emptying ?l_shortest_emptying ?c_shortest_emptying ?k_shortest_emptying ?a_empty_plan ?l_empty_plan ?c_empty_plan ?k_empty_plan ?a_emptying_to_pair ?l_emptying_to_pair ?c_emptying_to_pair ?k_emptying_to_pair ?a_pair_plan ?l_pair_plan ?c_pair_plan ?k_pair_plan ?a_walk_of_pair ?l_walk_of_pair ?c_walk_of_pair ?k_walk_of_pair ?a_one_plan ?l_one_plan ?c_one_plan ?k_one_plan ?a_l_mix ?l_l_mix ?c_l_mix ?k_l_mix ?a_l_next ?l_l_next ?c_l_next ?k_l_next ?a_l_heaps ?l_l_heaps ?c_l_heaps ?k_l_heaps ?a_l_can ?l_l_can ?c_l_can ?k_l_can ?a_l_behind ?l_l_behind ?c_l_behind ?k_l_behind ?a_l_pairs ?l_l_pairs ?c_l_pairs ?k_l_pairs ?a_l_gone ?l_l_gone ?c_l_gone ?k_l_gone ?a_l_part ?l_l_part ?c_l_part ?k_l_part ?a_l_odd ?l_l_odd ?c_l_odd ?k_l_odd ?a_l_some ?l_l_some ?c_l_some ?k_l_some ?a_l_full ?l_l_full ?c_l_full ?k_l_full ?a_law ?l_law ?c_law ?k_law ?z_int ?z_bool ?z_list ?z_len ?z_tuple ?z_isinstance ?z_all ?z_sum ?z_enumerate ?z_range ?z_max ?z_min ?z_sorted ?w_FEWEST_HEAPS ?w_MOST_HEAPS ?w_GREATEST ?gG ?gC
    (case a_is_integer => k_is)
    (case l_is_integer => k_is)
    (case c_is_integer => k_is)
    (case k_is_integer => k_is)
    (case a_is_heaps => k_is)
    (case l_is_heaps => k_is)
    (case c_is_heaps => k_is)
    (case k_is_heaps => k_is)
    (case a_check_heaps => k_is)
    (case l_check_heaps => k_is)
    (case c_check_heaps => k_is)
    (case k_check_heaps => k_is)
    (case a_shifted => k_is)
    (case l_shifted => k_is)
    (case c_shifted => k_is)
    (case k_shifted => k_is)
    (case a_behind => k_is)
    (case l_behind => k_is)
    (case c_behind => k_is)
    (case k_behind => k_is)
    (case a_behind_all => k_is)
    (case l_behind_all => k_is)
    (case c_behind_all => k_is)
    (case k_behind_all => k_is)
    (case a_split_twos => k_is)
    (case l_split_twos => k_is)
    (case c_split_twos => k_is)
    (case k_split_twos => k_is)
    (case a_reduced_parts => k_is)
    (case l_reduced_parts => k_is)
    (case c_reduced_parts => k_is)
    (case k_reduced_parts => k_is)
    (case a_odd_part => k_is)
    (case l_odd_part => k_is)
    (case c_odd_part => k_is)
    (case k_odd_part => k_is)
    (case a_filled => k_is)
    (case l_filled => k_is)
    (case c_filled => k_is)
    (case k_filled => k_is)
    (case a_nearest_multiple => k_is)
    (case l_nearest_multiple => k_is)
    (case c_nearest_multiple => k_is)
    (case k_nearest_multiple => k_is)
    (case a_by_size => k_is)
    (case l_by_size => k_is)
    (case c_by_size => k_is)
    (case k_by_size => k_is)
    (case a_halving => k_is)
    (case l_halving => k_is)
    (case c_halving => k_is)
    (case k_halving => k_is)
    (case a_emptying => k_is)
    (case l_emptying => k_is)
    (case c_emptying => k_is)
    (case k_emptying => k_is)
    (case a_shortest_emptying => k_is)
    (case l_shortest_emptying => k_is)
    (case c_shortest_emptying => k_is)
    (case k_shortest_emptying => k_is)
    (case a_empty_plan => k_is)
    (case l_empty_plan => k_is)
    (case c_empty_plan => k_is)
    (case k_empty_plan => k_is)
    (case a_emptying_to_pair => k_is)
    (case l_emptying_to_pair => k_is)
    (case c_emptying_to_pair => k_is)
    (case k_emptying_to_pair => k_is)
    (case a_pair_plan => k_is)
    (case l_pair_plan => k_is)
    (case c_pair_plan => k_is)
    (case k_pair_plan => k_is)
    (case a_walk_of_pair => k_is)
    (case l_walk_of_pair => k_is)
    (case c_walk_of_pair => k_is)
    (case k_walk_of_pair => k_is)
    (case a_one_plan => k_is)
    (case l_one_plan => k_is)
    (case c_one_plan => k_is)
    (case k_one_plan => k_is)
    (case a_l_mix => k_is)
    (case l_l_mix => k_is)
    (case c_l_mix => k_is)
    (case k_l_mix => k_is)
    (case a_l_next => k_is)
    (case l_l_next => k_is)
    (case c_l_next => k_is)
    (case k_l_next => k_is)
    (case a_l_heaps => k_is)
    (case l_l_heaps => k_is)
    (case c_l_heaps => k_is)
    (case k_l_heaps => k_is)
    (case a_l_can => k_is)
    (case l_l_can => k_is)
    (case c_l_can => k_is)
    (case k_l_can => k_is)
    (case a_l_behind => k_is)
    (case l_l_behind => k_is)
    (case c_l_behind => k_is)
    (case k_l_behind => k_is)
    (case a_l_pairs => k_is)
    (case l_l_pairs => k_is)
    (case c_l_pairs => k_is)
    (case k_l_pairs => k_is)
    (case a_l_gone => k_is)
    (case l_l_gone => k_is)
    (case c_l_gone => k_is)
    (case k_l_gone => k_is)
    (case a_l_part => k_is)
    (case l_l_part => k_is)
    (case c_l_part => k_is)
    (case k_l_part => k_is)
    (case a_l_odd => k_is)
    (case l_l_odd => k_is)
    (case c_l_odd => k_is)
    (case k_l_odd => k_is)
    (case a_l_some => k_is)
    (case l_l_some => k_is)
    (case c_l_some => k_is)
    (case k_l_some => k_is)
    (case a_l_full => k_is)
    (case l_l_full => k_is)
    (case c_l_full => k_is)
    (case k_l_full => k_is)
    (case a_law => k_is)
    (case l_law => k_is)
    (case c_law => k_is)
    (case k_law => k_is)
    (case z_int => k_is)
    (case z_bool => k_is)
    (case z_list => k_is)
    (case z_len => k_is)
    (case z_tuple => k_is)
    (case z_isinstance => k_is)
    (case z_all => k_is)
    (case z_sum => k_is)
    (case z_enumerate => k_is)
    (case z_range => k_is)
    (case z_max => k_is)
    (case z_min => k_is)
    (case z_sorted => k_is)
    (case w_FEWEST_HEAPS => k_is)
    (case w_MOST_HEAPS => k_is)
    (case w_GREATEST => k_is)
    (case gG => k_is)
    (case gC => k_is)
