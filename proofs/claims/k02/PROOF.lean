import PyProof.Rows.All
import Wide.All
import OpenK.AllK
import Wide.FinOn
import HandS.ForMost
import HandS.Exc
import HandS.TryOnly
import HandS.ExcOwn
import HandS.WordsExc
import HandS.ExcInit
import HandS.ExcField
import HandS.IsInst
import HandS.Deep
import HandS.Walk
import HandS.Wide
import HandS.Style
import KE.KTupSum
import KE.GoesEnum
import PySem.Challenge.RW_heapsdouble_k02_whole_plans_judged
set_option Elab.async false
set_option linter.all false
set_option maxRecDepth 100000
set_option maxHeartbeats 2000000
/-! Rules of our own: xs[i] read for op=, sum of a tuple, enumerate of a tuple. -/
namespace Hd
open PySem PySem.Spec PyProof.Rows L2

theorem Same.tup {K : PySem.W.Frag} {H H' : Hp} {a : Addr} {xs : List V} (e : Same H H') (h : SqT K H a xs) : SqT K H' a xs := by
  rcases h with (h | ⟨o, h⟩) | h
  · exact .inl (.inl (e _ _ h))
  · exact .inl (.inr ⟨o, e _ _ h⟩)
  · exact .inr h
theorem Same.new {H : Hp} {p : Addr} {o : HO} (h : H p = none) : Same H (upd H p o) := fun a u e => by
  rw [upd_ne (ne_of_none e h)]
  exact e
theorem same_upd {H H' : Hp} {p : Addr} {o : HO} (e : Same H H') (h : H p = none) : Same H (upd H' p o) := fun a u ha => by
  rw [upd_ne (ne_of_none ha h)]
  exact e a u ha

/-- a def of one's own by its name: what a caller needs -/
structure Cal (P : Program) (w : World) (K : PySem.W.Frag) (mg : Str → Option Value) (base : Heap) (CX : CXT) (k : Nat) (x : Str) (ps : List Str) (sp : Sp) : Prop where
  ex : ∃ (f : Addr) (fd : FuncData), mg x = some (.ref f) ∧ PySem.W.keepIn K (.ref f) = true ∧ Binds K fd ps [] ∧ FnOk P w K mg base CX k f fd ps sp
def tCal (sp : Sp) (E : XK) (t : TA) : TE := fun σ H Q => t σ H fun vs H1 => sp vs H1 Q E
section
variable {X : Cx}
theorem pe_cal {CX : CXT} {j k : Nat} {x : Str} {ps : List Str} {sp : Sp} {E : XK} {e : Expr} {es : List Expr} {t : TA} {p pos : Pos} (C : Cal X.prog X.w X.K X.mg X.base CX j x ps sp) (hr : Room k X.A) (hg : Gl X x) (hx : Passes CX X E)
    (ha : PA X (e :: es) t) (hk : j ≤ k := by decide) (hdb : (x == ("__debug__" : Str)) = false := by decide) (he : starEach (e :: es) X.env = (false, eval e X.env) :: starEach es X.env := by rfl) (hpl : (backTo pos (starEach es X.env)).any (·.1) = false := by rfl) :
    PE X (.Call (.Name x p) (e :: es) [] pos) (tCal sp E t) := by
  obtain ⟨f, fd, hm, kp, hb, F⟩ := C.ex
  refine ⟨fun pins s σ H Q I h => (pe_call (dvs := []) F (hr.mono hk) hg hm kp hb .nil hx ha hdb he hpl).run pins s σ H Q I ?_⟩
  have e1 : (tCall sp [] E t) = tCal sp E t := by
    funext σ H Q
    unfold tCall tCal
    congr 1
    funext vs H1
    rw [List.append_nil]
  rw [e1]
  exact h
end

/-- a block cut behind its first statement: R is what every way through it brings -/
def tCutM (t u : TS) : TS := fun D σ H => ∃ R : L2.St → Hp → Prop, t { D with nx := R } σ H ∧ ∀ σ' H', R σ' H' → u D σ' H'
theorem pss_cutM {X : Cx} {st : Stmt} {rest : List Stmt} {t u : TS} (a : PS X st t) (b : PSs X rest u) : PSs X (st :: rest) (tCutM t u) := by
  refine ⟨fun pins s σ H D I hh => ?_⟩
  obtain ⟨R, hR, go⟩ := hh
  refine wpAny_execs_cons (thn (a.run pins s σ H { D with nx := R } I hR) fun f s1 q => ?_)
  cases f with
  | next =>
    obtain ⟨σ1, H1, I1, q1⟩ := q
    exact b.run pins s1 σ1 H1 D I1 (go σ1 H1 q1)
  | ret _ => exact q
  | brk => exact q
  | cont => exact q
section
variable {X : Cx}
/-- xs[k], 0 ≤ k, read for xs[k] op= e -/
def rGetL (K : PySem.W.Frag) : V → V → Hp → VK → Prop := fun o i H Q => ∃ p xs k v, o = .ref p ∧ i = .int k ∧ SqL K H p xs ∧ 0 ≤ k ∧ xs[k.toNat]? = some v ∧ Q v H
theorem pget_list : PGet X (rGetL X.K) := by
  intro pins s σ H o i ov iv Q I ro ri h
  obtain ⟨p, xs, k, v, rfl, rfl, hq, h0, he, q⟩ := h
  cases ro
  obtain ⟨t, rfl⟩ := ri
  obtain ⟨its, r, pl, hz⟩ := I.list hq
  obtain ⟨w, ew, rw'⟩ := r.get he
  have hl := r.length
  have hlt : k.toNat < its.length := (List.getElem?_eq_some_iff.mp ew).1
  have hb : k < 2 ^ 63 := by
    rw [sizeLine_eq] at hz
    omega
  exact wpAny_getItem_list pl.isList h0 hb (by simpa using ew) ⟨v, H, I, rw', q⟩

/-- sum(t) of a tuple of ints -/
def rSumT (K : PySem.W.Frag) : List V → Hp → VK → Prop := fun vs H Q => ∃ (a : Addr) (ns : List Int), vs = [V.ref a] ∧ SqT K H a (ns.map V.int) ∧ Q (.int ns.sum) H
theorem cr_sumT (hc : X.calm = true) : CallR X (.builtin "sum") (rSumT X.K) := by
  intro pins s σ H vs us Q I r h
  obtain ⟨a, ns, rfl, hs, q⟩ := h
  obtain ⟨its, rv, hl, _⟩ := I.tuple hs
  rw [Vals.ref1 r]
  have hi := rv.ints
  obtain ⟨xs, e⟩ := hi.allInts.items
  have hn : numsOf (intItems xs).toList = ns := by rw [← e]; exact hi.numsOf
  rw [nums_intItems] at hn
  rw [e] at hl
  refine PySem.W.ktm_sumG (I.ok.hd hc) hl fun h' tk t' hk => ?_
  rw [PySem.preSum_eq, List.take_of_length_le (by simp), hn]
  exact ⟨.int _, H, I.kept hk, ⟨_, rfl⟩, q⟩
end
end Hd
set_option maxHeartbeats 4000000
/-! enumerate of a tuple. -/
namespace Hd
open PySem PySem.Spec PyProof.Rows L2
open AutoSeq1 (wpAny_loadPart')
theorem enumNewT (q : Addr) (zs : Array Value) (m : Nat) (od : Option Addr) (so : Array (Option Value)) :
    Meets (Builtin.«enumerate.__new__» ⟨[.type "enumerate", .ref q], []⟩) (fun _ R s =>
      s.heap.get? q = some { cls := .type "tuple", dict := od, data := .seq zs m, slots := so } ∧
      R (.ok (.ret (.ref (s.heap.push { cls := .type "tuple_iterator", data := .fields #[.ref q, .int 0 0] }).objs.size)))
        ⟨(s.heap.push { cls := .type "tuple_iterator", data := .fields #[.ref q, .int 0 0] }).push
              { cls := .type "enumerate", data := .fields #[.none, .bool false, .ref s.heap.objs.size, rawInt 0, .none, .none] }, s.gens, s.drawn, s.toks, s.os⟩) :=
  .of_wp fun P0 w0 A0 R0 s0 k0 => by
    obtain ⟨h0, g0, d0, t0, o0⟩ := s0
    obtain ⟨hq, k0⟩ := k0
    have subE := sub_enumerate
    have isT : Heap.IsTuple (Shared.heap ⟨h0, g0, d0, t0, o0⟩) q zs := ⟨_, hq, rfl, m, rfl⟩
    wp_walk using wpAny_loadPart' hq
    refine wpAny_stack_any fun _ => wpAny_pure ?_
    split
    · rename_i c _ _ _ _ _
      cases (c == Value.type "enumerate") <;> (wp_walk using wpAny_loadPart' hq, wpAny_pyIter_tuple isT; exact ⟨_, rfl, k0⟩)
    · wp_walk using wpAny_loadPart' hq, wpAny_pyIter_tuple isT
      exact ⟨_, rfl, k0⟩
theorem enumCallT {prog : Program} {w : World} {A : Around} {E : Value → Shared → Prop} {s : Shared} {q : Addr} {zs : Array Value} {Q : Value → Shared → Prop} (isT : s.heap.IsTuple q zs)
    (k : ∀ h', IsEnum h' (s.heap.objs.size + 1) s.heap.objs.size 0 .none → h'.IsTupleIter s.heap.objs.size q 0 → (∀ b o, s.heap.get? b = some o → h'.get? b = some o) → Q (.ref (s.heap.objs.size + 1)) { s with heap := h' }) :
    wpAny (model prog w) A (call (.type "enumerate") [.ref q]) Q E s := by
  obtain ⟨⟨oc, od, dt, so⟩, hq, hc, m, hd⟩ := isT
  replace hc : oc = .type "tuple" := hc
  replace hd : dt = .seq zs m := hd
  subst hc hd
  refine callType_new F.called_enumerate (by decide) (F.typeCall_enumerate_1 _) (F.newCall_enumerate_1 _)
    (fun obj => F.args_object_init_2 obj _) F.entry_enumerate_new (enumNewT q zs m od so) ⟨hq, ?_⟩
  have hz : (s.heap.push { cls := .type "tuple_iterator", data := .fields #[.ref q, .int 0 0] }).objs.size = s.heap.objs.size + 1 := Heap.size_push ..
  show _ ∧ _
  rw [hz]
  have he : IsEnum ((s.heap.push { cls := .type "tuple_iterator", data := .fields #[.ref q, .int 0 0] }).push
      { cls := .type "enumerate", data := .fields #[.none, .bool false, .ref s.heap.objs.size, rawInt 0, .none, .none] })
      (s.heap.objs.size + 1) s.heap.objs.size 0 .none := by
    have := Heap.get?_push_size (s.heap.push { cls := .type "tuple_iterator", data := .fields #[.ref q, .int 0 0] })
      (o := { cls := .type "enumerate", data := .fields #[.none, .bool false, .ref s.heap.objs.size, rawInt 0, .none, .none] }) rfl
    rw [hz] at this
    exact this
  exact ⟨⟨_, he, rfl⟩, k _ he ⟨({ cls := .type "tuple_iterator", data := .fields #[.ref q, .int 0 0] } : Obj), Heap.get?_push_of_some _ (Heap.get?_push_size _ rfl), rfl, rfl⟩
    fun b o x => Heap.get?_push_of_some _ (Heap.get?_push_of_some _ x)⟩
/-- the tuple at a, each item in a new pair -/
def IteT (K : PySem.W.Frag) (a : Addr) : It where
  go := fun i H => ∃ (xs : List V) (x : V), SqT K H a xs ∧ xs[i]? = some x
  yld := fun i H v H' => ∃ T x, v = .ref T ∧ H T = none ∧ H' = upd H T (.tup [.int (i : Nat), x]) ∧ ∀ xs, SqT K H a xs → xs[i]? = some x
  stop := fun i H => ∃ xs : List V, SqT K H a xs ∧ xs.length = i
theorem tupNe {h : Heap} {a it : Addr} {zs : Array Value} {i : Nat} (t : h.IsTuple a zs) (j : h.IsTupleIter it a i) : a ≠ it := fun z => by
  obtain ⟨o, h1, h2, _⟩ := t
  obtain ⟨o', h3, h4, _⟩ := j
  rw [z, h3] at h1
  cases h1
  rw [h2] at h4
  injection h4 with h5
  exact absurd h5 (by decide)
theorem enumNe {h : Heap} {a e it : Addr} {zs : Array Value} {c : Int} {v : Value} (t : h.IsTuple a zs) (j : IsEnum h e it c v) : e ≠ a := fun z => by
  obtain ⟨o, h1, h2, _⟩ := t
  have j' : h.get? e = some _ := j
  rw [z, h1] at j'
  have j2 := Option.some.inj j'
  rw [j2] at h2
  injection h2 with h5
  exact absurd h5 (by decide)
theorem turn_enumT {P : Program} {w : World} {K : PySem.W.Frag} {elts : List Expr} {kk : Nat} {tpos : Pos} (a e it : Addr) :
    Turn P w K (.Tuple elts kk tpos) (IteT K a) [e, it] e (fun i h => (∃ old, IsEnum h e it ((i : Nat) : Int) old) ∧ h.IsTupleIter it a i ∧ e ≠ it) where
  mem := List.mem_cons_self
  obj := fun i h st b hb => by
    obtain ⟨⟨old, he⟩, ⟨o, ho, hc, hd⟩, _⟩ := st
    rcases (show b = e ∨ b = it by simpa using hb) with z | z
    · subst z
      exact ⟨_, he, fun v q => nomatch q⟩
    · subst z
      exact ⟨o, ho, fun v q => by rw [hd] at q; cases q⟩
  keep := fun i h h' st k => by
    obtain ⟨⟨old, he⟩, hi, hne⟩ := st
    exact ⟨⟨old, k e (by simp) _ he⟩, hi.at fun o q => k it (by simp) o q, hne⟩
  item := by
    intro X hP hw hK hc i pins s σ H E I hf st hg
    subst hP hw hK
    obtain ⟨⟨old, he⟩, hit, hne⟩ := st
    obtain ⟨xs, x, hq, hx⟩ := hg
    obtain ⟨its, rv, p, hz⟩ := I.tuple hq
    have isT : s.heap.IsTuple a its.toArray := p
    have hel : e < s.heap.objs.size := Heap.lt_size he
    have hil : it < s.heap.objs.size := by
      obtain ⟨_, q, _⟩ := hit
      exact Heap.lt_size q
    have hai := tupNe isT hit
    have hea := enumNe isT he
    have hlt : i < its.toArray.size := by
      have z := (List.getElem?_eq_some_iff.mp hx).1
      have l := rv.length
      simp
      omega
    have D := Draws.tuple (prog := X.prog) (w := X.w) (A := X.A.in1) (I.ok.hd hc) it a hai its.toArray
    refine wpAny_pyNext_enum_itemC D he ⟨hit, isT⟩ hlt hne (by simp [hne, hea]) fun u h' tk hu ho st' hT hsz hk => ?_
    refine ⟨_, rfl, wpAny_letOwnedTupleGo_enum (s := { s with heap := h', toks := tk + 1 }) ho fun h'' he' sb => ?_⟩
    obtain ⟨u', hu', ru⟩ := rv.get hx
    have euu : u' = u := by
      have z : its[i]? = some u := by simpa using hu
      rw [hu'] at z
      exact Option.some.inj z
    subst euu
    have hT2 : h''.get? s.heap.objs.size = some { cls := .type "tuple", data := .seq #[.int i tk, u'] } := (sb.2 _ (Nat.ne_of_gt hel)).trans hT
    have new : ObjOk X.prog X.w (upd H s.heap.objs.size (.tup [.int (i : Nat), x])) h'' s.heap.objs.size (.tup [.int (i : Nat), x]) :=
      ⟨by show 2 ≤ sizeLine; decide, [.int i tk, u'], .cons ⟨_, rfl⟩ (.cons ru .nil), ⟨_, hT2, rfl, _, rfl⟩⟩
    have J : Inv X pins σ (upd H s.heap.objs.size (.tup [.int (i : Nat), x])) { s with heap := h'', toks := tk + 1 } :=
      I.turnedNew (ch := [e, it]) (fun b ob hb q => (sb.2 b fun z => hb (by simp [z])).trans (hk b ob (fun z => hb (by simp [z])) (fun z => hb (by simp [z])) q)) hf (Nat.le_refl _) new
    refine ⟨.ref s.heap.objs.size, _, J, rfl, ⟨_, x, rfl, I.hok.fresh (Nat.le_refl _), rfl, fun ys hy => by rw [I.tuple_inj hy hq]; exact hx⟩,
      ⟨⟨u', ?_⟩, st'.1.at fun o q => (sb.2 it (Ne.symm hne)).trans q, hne⟩, fun b hb => ?_⟩
    · have e1 : ((i + 1 : Nat) : Int) = (i : Int) + 1 := by omega
      rw [e1]
      exact he'
    · have hb' : b < s.heap.objs.size := by
        rcases (show b = e ∨ b = it by simpa using hb) with z | z
        · rw [z]
          exact hel
        · rw [z]
          exact hil
      rw [upd_ne (Nat.ne_of_lt hb')]
      exact (hf b hb).1
  done := by
    intro X hP hw hK hc i pins s σ H E I hf st hg
    subst hP hw hK
    obtain ⟨⟨old, he⟩, hit, hne⟩ := st
    obtain ⟨xs, hq, hx⟩ := hg
    obtain ⟨its, rv, p, hz⟩ := I.tuple hq
    have isT : s.heap.IsTuple a its.toArray := p
    have hai := tupNe isT hit
    obtain ⟨f0, f1, f2, f3, f4, f5⟩ := hf it (by simp)
    have D := Draws.tuple (prog := X.prog) (w := X.w) (A := X.A.in1) (I.ok.hd hc) it a hai its.toArray
    have ei : its.toArray.size = i := by
      have l := rv.length
      simp
      omega
    refine wpAny_pyNext_enum_endD D he ⟨by rw [ei]; exact hit, isT⟩ fun h' eb => ⟨rfl, ?_⟩
    exact I.turned (t' := s.toks) (fun b o hb q => eb b o hb q) f0 f1 f3 f4 f5
  self := fun A i s Q E st k => by
    obtain ⟨⟨_, he⟩, _⟩ := st
    exact wpAny_pyIter_enum he k
def iEnumT (K : PySem.W.Frag) (ta : TA) : TI := fun σ H R => ta σ H fun vs H1 => ∃ a xs, vs = [.ref a] ∧ SqT K H1 a xs ∧ R (IteT K a) H1
theorem pi_enumT {X : Cx} {e : Expr} {ta : TA} {p pos tpos : Pos} {elts : List Expr} {kk : Nat} (hg : Gl X "enumerate") (hm : X.mg "enumerate" = none) (ha : PA X [e] ta)
    (hs : starEach [e] X.env = [(false, eval e X.env)] := by rfl) : PI X (.Tuple elts kk tpos) (.Call (.Name "enumerate" p) [e] [] pos) (iEnumT X.K ta) := by
  refine ⟨fun pins s σ H R I h => ?_⟩
  refine Call_ (ld_blt I hg hm boot_enumerate (PyProof.Rows.callWith_type1 (thn (ha.run pos pins s σ H _ I h) fun us s1 hh => ?_) hs rfl))
  obtain ⟨vs, H1, I1, r1, a, xs, ex, hq, q⟩ := hh
  subst ex
  rw [Vals.ref1 r1]
  obtain ⟨its, rv, p', hz⟩ := I1.tuple hq
  refine enumCallT (show s1.heap.IsTuple a its.toArray from p') fun h' he hit hk => wpAny_pyIter_enum he ?_
  have I2 : Inv X pins σ H1 { s1 with heap := h' } := I1.kept (t' := s1.toks) hk
  refine ⟨s1.heap.objs.size + 1, [s1.heap.objs.size + 1, s1.heap.objs.size], _, _, H1, rfl, I2, turn_enumT a (s1.heap.objs.size + 1) s1.heap.objs.size,
    ⟨⟨.none, he⟩, hit, Nat.succ_ne_self _⟩, fun b hb => ?_, q⟩
  have hle : s1.heap.objs.size ≤ b := by
    rcases (show b = s1.heap.objs.size + 1 ∨ b = s1.heap.objs.size by simpa using hb) with z | z
    · rw [z]
      exact Nat.le_add_right _ _
    · rw [z]
      exact Nat.le_refl _
  exact I1.fpOk hle (I1.hok.fresh hle)
theorem walk_enumT {K : PySem.W.Frag} {a : Addr} {xs : List V} : Walk (IteT K a) xs.length (fun H => SqT K H a xs) (YPair (fun i => some (.int (i : Nat))) (fun i => xs[i]?)) := by
  refine ⟨fun i _ hi q => ⟨xs, xs[i], q, by simp [hi]⟩, fun _ q => ⟨xs, q, rfl⟩, fun i H v H' _ q y => ?_⟩
  obtain ⟨T, x, h1, h2, h3, h4⟩ := y
  exact ⟨T, .int (i : Nat), x, h1, h2, h3, rfl, h4 xs q⟩
end Hd
set_option maxHeartbeats 4000000
namespace Hd
open PySem PySem.Spec PyProof.Rows L2
def top (i : Nat) : Stmt := PySem.Challenge.pw_heapsdouble_k02_whole_plans_judged.main.body.getD i (.Pass ⟨0, 0, 0, 0⟩)
/-! ### the draws -/
structure Tx (K : PySem.W.Frag) (mg : Str → Option Value) : Prop where
  int : mg "int" = none
  list : mg "list" = none
  max : mg "max" = none
  len : mg "len" = none
  tuple : mg "tuple" = none
  range : mg "range" = none
/-- the source of draws at h: [state, cells, index], the cells at c -/
structure DrawAt (H : Hp) (h c : Addr) : Prop where
  ex : ∃ (st ix : Int) (cells : List Int), H h = some (.lst [.int st, .ref c, .int ix]) ∧ H c = some (.lst (cells.map V.int)) ∧ cells.length ≤ 63
  ne : h ≠ c
/-- all but the source stands as it stood -/
def Kept (h c : Addr) (H H' : Hp) : Prop := ∀ a o, H a = some o → a ≠ h → a ≠ c → H' a = some o
theorem Kept.refl {h c : Addr} {H : Hp} : Kept h c H H := fun _ _ e _ _ => e
theorem Kept.of {h c : Addr} {H H' : Hp} (e : Same H H') : Kept h c H H' := fun a o q _ _ => e a o q
theorem Kept.trans {h c : Addr} {H H1 H2 : Hp} (a : Kept h c H H1) (b : Kept h c H1 H2) : Kept h c H H2 := fun x o e n m => b x o (a x o e n m) n m
theorem Kept.new {h c : Addr} {H H1 : Hp} {p : Addr} {o : HO} (a : Kept h c H H1) (hp : H p = none) : Kept h c H (upd H1 p o) := fun x u e n m => by
  rw [upd_ne (ne_of_none e hp)]
  exact a x u e n m
theorem Kept.at_h {h c : Addr} {H H1 : Hp} {o : HO} (a : Kept h c H H1) : Kept h c H (upd H1 h o) := fun x u e n m => by
  rw [upd_ne n]
  exact a x u e n m
theorem Kept.at_c {h c : Addr} {H H1 : Hp} {o : HO} (a : Kept h c H H1) : Kept h c H (upd H1 c o) := fun x u e n m => by
  rw [upd_ne m]
  exact a x u e n m
theorem DrawAt.new {H : Hp} {h c p : Addr} {o : HO} (d : DrawAt H h c) (hp : H p = none) : DrawAt (upd H p o) h c := by
  obtain ⟨⟨st, ix, cells, h1, h2, h3⟩, ne⟩ := d
  exact ⟨⟨st, ix, cells, by rw [upd_ne (ne_of_none h1 hp)]; exact h1, by rw [upd_ne (ne_of_none h2 hp)]; exact h2, h3⟩, ne⟩
theorem DrawAt.upd {H : Hp} {h c p : Addr} {o : HO} (d : DrawAt H h c) (hh : p ≠ h) (hc : p ≠ c) : DrawAt (upd H p o) h c := by
  obtain ⟨⟨st, ix, cells, h1, h2, h3⟩, ne⟩ := d
  exact ⟨⟨st, ix, cells, by rw [upd_ne (Ne.symm hh)]; exact h1, by rw [upd_ne (Ne.symm hc)]; exact h2, h3⟩, ne⟩
theorem DrawAt.same {H H' : Hp} {h c : Addr} (d : DrawAt H h c) (e : Same H H') : DrawAt H' h c := by
  obtain ⟨⟨st, ix, cells, h1, h2, h3⟩, ne⟩ := d
  exact ⟨⟨st, ix, cells, e _ _ h1, e _ _ h2, h3⟩, ne⟩
theorem DrawAt.nots {H : Hp} {h c p : Addr} (d : DrawAt H h c) (hp : H p = none) : p ≠ h ∧ p ≠ c := by
  obtain ⟨⟨st, ix, cells, h1, h2, h3⟩, ne⟩ := d
  exact ⟨(ne_of_none h1 hp).symm, (ne_of_none h2 hp).symm⟩
theorem Kept.free {h c p : Addr} {H H' : Hp} (k : Kept h c H H') (d : DrawAt H' h c) (hp : H' p = none) : H p = none := by
  obtain ⟨n1, n2⟩ := d.nots hp
  cases e : H p with
  | none => rfl
  | some o =>
    rw [k p o e n1 n2] at hp
    cases hp
theorem Kept.tup {K : PySem.W.Frag} {h c a : Addr} {H H' : Hp} {xs : List V} (k : Kept h c H H') (d : DrawAt H h c) (q : SqT K H a xs) : SqT K H' a xs := by
  obtain ⟨⟨st, ix, cells, h1, h2, h3⟩, ne⟩ := d
  rcases q with (q | ⟨o, q⟩) | q
  · exact .inl (.inl (k _ _ q (ne_of q h1 (by intro z; cases z)) (ne_of q h2 (by intro z; cases z))))
  · exact .inl (.inr ⟨o, k _ _ q (ne_of q h1 (by intro z; cases z)) (ne_of q h2 (by intro z; cases z))⟩)
  · exact .inr q
def spMix (K : PySem.W.Frag) : Sp := fun vs H Q _ => ∃ (a : Addr) (ns : List Int) (seed : Int), vs = [.ref a, .int seed] ∧ SqL K H a (ns.map V.int) ∧ ns.length ≤ 63 ∧
  ∀ (h c : Addr) (H' : Hp), H h = none → H c = none → Same H H' → DrawAt H' h c → Q (.ref h) H'
def spNext : Sp := fun vs H Q _ => ∃ (h c : Addr) (b : Int), vs = [.ref h, .int b] ∧ DrawAt H h c ∧ 0 < b ∧ b < 2 ^ 200 ∧
  ∀ (n : Int) (H' : Hp), 0 ≤ n → n < b → DrawAt H' h c → Kept h c H H' → Q (.int n) H'
/-- the place of the drawn cell -/
theorem draw_ix (cells : List Int) (ix : Int) : ∃ (j : Nat) (z : Int), ix % (if (cells.length : Int) > 1 then (cells.length : Int) else 1) = (j : Int) ∧ (cells.map V.int ++ [V.int 0])[j]? = some (.int z) ∧ (cells = [] → z = 0) ∧ (cells ≠ [] → j < cells.length ∧ (if (cells.length : Int) > 1 then (cells.length : Int) else 1) = (cells.length : Int)) := by
  have hm : 0 < (if (cells.length : Int) > 1 then (cells.length : Int) else 1) := by split <;> omega
  have h0 := Int.emod_nonneg ix (Int.ne_of_gt hm)
  have h1 := Int.emod_lt_of_pos ix hm
  obtain ⟨j, hj⟩ := Int.eq_ofNat_of_zero_le h0
  rw [hj] at h1
  cases cells with
  | nil =>
    refine ⟨j, 0, hj, ?_, fun _ => rfl, fun h => absurd rfl h⟩
    simp at h1
    have : j = 0 := by omega
    subst this
    rfl
  | cons x r =>
    have hm2 : (if (((x :: r).length : Nat) : Int) > 1 then (((x :: r).length : Nat) : Int) else 1) = (((x :: r).length : Nat) : Int) := by
      split
      · rfl
      · have : (((x :: r).length : Nat) : Int) ≥ 1 := by rw [List.length_cons]; omega
        omega
    rw [hm2] at h1
    have hlt : j < (x :: r).length := by omega
    refine ⟨j, (x :: r)[j], hj, ?_, fun h => (nomatch h), fun _ => ⟨hlt, hm2⟩⟩
    rw [List.getElem?_append_left (by rw [List.length_map]; exact hlt), List.getElem?_map, List.getElem?_eq_getElem hlt]
    rfl
theorem int_at {ns : List Int} {i : Nat} {y : V} (hi : (ns.map V.int)[i]? = some y) : ∃ z, ns[i]? = some z ∧ y = V.int z := by
  rw [List.getElem?_map] at hi
  cases e : ns[i]? with
  | none =>
    rw [e] at hi
    cases hi
  | some z =>
    rw [e] at hi
    exact ⟨z, rfl, (Option.some.inj hi).symm⟩
section
variable {P : Program} {w : World} {K : PySem.W.Frag} {mg : Str → Option Value} {base : Heap}
abbrev s_l_mix : Stmt := top 23
theorem sc_l_mix : FnScope ["_law_script", "_law_seed", "_law_state", "_law_cell"] ["_law_script", "_law_seed"] (defScope s_l_mix) := ⟨rfl, rfl, rfl, by decide +kernel, rfl, by decide +kernel, by decide +kernel⟩
theorem ok_mix {f : Addr} {fd : FuncData} (F : Fun K "_law_mix" "_law_mix" s_l_mix f fd) (T : Tx K mg) : FnOk P w K mg base CX0 1 f fd ["_law_script", "_law_seed"] (spMix K) := by
  refine F.ok sc_l_mix (fun vs H Q E h => ?_) (fun cdv A outer s H vs Q E hr h => ?_)
  · obtain ⟨a, ns, seed, rfl, _⟩ := h
    rfl
  · obtain ⟨a, ns, seed, rfl, hS, hlen, k⟩ := h
    refine ⟨_, (pss_cons (ps_set (i := 2) sc_l_mix.nd rfl (Or.inl rfl) (pv 1))
      (pss_cons (ps_for PassesOwn.never rfl (pi_list (pv 0)) (pg_name (i := 3) sc_l_mix.nd rfl (Or.inl rfl))
      (pss_one (ps_set (i := 2) sc_l_mix.nd rfl (Or.inl rfl) (pe_op op_mod (pe_callTy call_int1 (by rfl) T.int (by decide +kernel) (pa_cons (pe_op op_add (pe_op op_add (pe_op op_mul (pv 2) pe_int) (pe_op op_mod (pe_callTy call_int1 (by rfl) T.int (by decide +kernel) (pa_cons (pv 3) pa_nil)) pe_int)) pe_int) pa_nil)) pe_int))))
      (pss_one (ps_ret (pe_lst (pa_cons (pv 2) (pa_cons (pe_callTy call_list_of (by rfl) T.list (by decide +kernel) (pa_cons (pv 0) pa_nil)) (pa_cons pe_int pa_nil)))))))), ?_⟩
    refine ⟨_, rfl, _, rfl, a, rfl, ⟨_, hS⟩, for_list (K := K) (a := a) (xs := ns.map V.int) (fun i σ H2 => ∃ (st : Int) (v : Option V), σ = [some (.ref a), some (.int seed), some (.int st), v] ∧ H2 = H)
      ⟨seed, none, rfl, rfl⟩ (fun i σ H2 _ ⟨_, _, _, e⟩ => by rw [e]; exact hS) ?_ ?_⟩
    · rintro i y σ H2 hi ⟨st, v, rfl, rfl⟩
      obtain ⟨z, _, rfl⟩ := int_at hi
      refine ⟨_, rfl, _, _, rfl, rfl, .inr ⟨by decide, by decide⟩, _, rfl, .inl ⟨_, rfl, _, _, rfl, rfl, (by show (0 : Int) < 2147483629; decide), _, _, rfl, rfl, _, _, rfl, rfl, .inl ⟨_, rfl, _, _, rfl, rfl, (by show (0 : Int) < 2147483647; decide), ?_⟩⟩⟩
      exact ⟨_, _, rfl, rfl⟩
    · rintro σ H2 ⟨st, v, rfl, rfl⟩
      refine ⟨_, rfl, _, rfl, a, _, rfl, .inl hS, fun c hc => ⟨by show 3 ≤ sizeLine; decide, fun h hh => ?_⟩⟩
      have hch : h ≠ c := fun e => by
        rw [e, upd_same] at hh
        cases hh
      have hh0 : H2 h = none := by
        rw [upd_ne hch] at hh
        exact hh
      refine k h c _ hh0 hc (same_upd (same_upd (Same.refl _) hc) hh0) ⟨⟨st, 0, ns, upd_same, by rw [upd_ne hch.symm, upd_same], hlen⟩, hch⟩
abbrev s_l_next : Stmt := top 24
theorem sc_l_next : FnScope ["_law_h", "_law_bound", "_law_cell", "_law_cells"] ["_law_h", "_law_bound"] (defScope s_l_next) := ⟨rfl, rfl, rfl, by decide +kernel, rfl, by decide +kernel, by decide +kernel⟩
theorem ok_next {f : Addr} {fd : FuncData} (F : Fun K "_law_next" "_law_next" s_l_next f fd) (T : Tx K mg) : FnOk P w K mg base CX0 1 f fd ["_law_h", "_law_bound"] spNext := by
  refine F.ok sc_l_next (fun vs H Q E h => ?_) (fun cdv A outer s H vs Q E hr h => ?_)
  · obtain ⟨a, c, b, rfl, _⟩ := h
    rfl
  · obtain ⟨h, c, b, rfl, D, hb, hb2, k⟩ := h
    obtain ⟨⟨st, ix, cells, hh, hc, hl⟩, hne0⟩ := id D
    refine ⟨_, (pss_cons (ps_set (i := 2) sc_l_next.nd rfl (Or.inl rfl) (pe_ix ix_list (pe_op op_cat (pe_ix ix_list (pv 0) pe_int (fun _ _ => rfl)) (pe_lst (pa_cons pe_int pa_nil))) (pe_op op_mod (pe_callTy call_int1 (by rfl) T.int (by decide +kernel) (pa_cons (pe_ix ix_list (pv 0) pe_int (fun _ _ => rfl)) pa_nil)) (pe_callB (call_max2 rfl) (by rfl) T.max (by decide +kernel) (pa_cons pe_int (pa_cons (pe_callB call_len_seq (by rfl) T.len PySem.boot_len (pa_cons (pe_ix ix_list (pv 0) pe_int (fun _ _ => rfl)) pa_nil)) pa_nil)))) (fun _ _ => rfl)))
      (pss_cons (ps_if (pt_cmpR op_ge (pv 2) (pe_op op_pow pe_int pe_int) (nomark _)) (pss_cons (ps_set (i := 3) sc_l_next.nd rfl (Or.inl rfl) (pe_ix ix_list (pv 0) pe_int (fun _ _ => rfl)))
      (pss_cons (ps_asg (pe_op op_fdivW (pv 2) (pv 1)) (pg_sub (pv 3) (pe_op op_mod (pe_callTy call_int1 (by rfl) T.int (by decide +kernel) (pa_cons (pe_ix ix_list (pv 0) pe_int (fun _ _ => rfl)) pa_nil)) (pe_callB call_len_seq (by rfl) T.len PySem.boot_len (pa_cons (pv 3) pa_nil))) set_list))
      (pss_one (ps_ret (pe_op op_mod (pe_callTy call_int1 (by rfl) T.int (by decide +kernel) (pa_cons (pv 2) pa_nil)) (pv 1)))))) pss_nil)
      (pss_cons (ps_asg (pe_op op_mod (pe_callTy call_int1 (by rfl) T.int (by decide +kernel) (pa_cons (pe_op op_add (pe_op op_add (pe_op op_mul (pe_ix ix_list (pv 0) pe_int (fun _ _ => rfl)) pe_int) (pe_op op_mul (pv 2) pe_int)) pe_int) pa_nil)) pe_int) (pg_sub (pv 0) pe_int set_list))
      (pss_cons (ps_asg (pe_op op_add (pe_ix ix_list (pv 0) pe_int (fun _ _ => rfl)) pe_int) (pg_sub (pv 0) pe_int set_list))
      (pss_one (ps_ret (pe_op op_mod (pe_callTy call_int1 (by rfl) T.int (by decide +kernel) (pa_cons (pe_op op_fdiv (pe_ix ix_list (pv 0) pe_int (fun _ _ => rfl)) pe_int) pa_nil)) (pv 1)))))))), ?_⟩
    obtain ⟨j, z, ej, ez, e0, e1⟩ := draw_ix cells ix
    -- _law_cell
    refine ⟨_, rfl, h, _, _, _, rfl, rfl, SqL.of hh, rfl, by show 1 ≤ sizeLine; decide, fun p hp => ?_⟩
    have nph : h ≠ p := ne_of_none hh hp
    have npc : c ≠ p := ne_of_none hc hp
    refine ⟨c, p, _, _, rfl, rfl, by rw [upd_ne npc]; exact hc, upd_same, ?_, fun q hq => ?_⟩
    · rw [List.length_map, sizeLine_eq]
      show cells.length + 1 ≤ _
      omega
    have nqp : p ≠ q := ne_of_none upd_same hq
    have hq' : H q = none := by
      rw [upd_ne nqp.symm] at hq
      exact hq
    have nqh : h ≠ q := ne_of_none hh hq'
    have nqc : c ≠ q := ne_of_none hc hq'
    have hh2 : (upd (upd H p (.lst [.int 0])) q (.lst (cells.map V.int ++ [.int 0]))) h = some (.lst [.int st, .ref c, .int ix]) := by rw [upd_ne nqh, upd_ne nph]; exact hh
    have hc2 : (upd (upd H p (.lst [.int 0])) q (.lst (cells.map V.int ++ [.int 0]))) c = some (.lst (cells.map V.int)) := by rw [upd_ne nqc, upd_ne npc]; exact hc
    have hq2 : (upd (upd H p (.lst [.int 0])) q (.lst (cells.map V.int ++ [.int 0]))) q = some (.lst (cells.map V.int ++ [.int 0])) := upd_same
    have kk : Kept h c H (upd (upd H p (.lst [.int 0])) q (.lst (cells.map V.int ++ [.int 0]))) := (Kept.refl.new hp).new hq'
    generalize upd (upd H p (.lst [.int 0])) q (.lst (cells.map V.int ++ [.int 0])) = H2 at hh2 hc2 hq2 kk ⊢
    refine ⟨_, rfl, h, _, _, _, rfl, rfl, SqL.of hh2, rfl, .inl ⟨_, rfl, _, rfl, h, _, _, _, rfl, rfl, SqL.of hh2, rfl, c, _, rfl, .inl (SqL.of hc2), _, _, rfl, ?_⟩⟩
    rw [List.length_map]
    refine ⟨_, _, rfl, rfl, (by split <;> omega), q, _, _, _, rfl, rfl, SqL.of hq2, at_of ej ez, ?_⟩
    -- if _law_cell >= 10 ** 18
    refine ⟨_, rfl, _, _, rfl, rfl, ⟨by decide, by decide, by decide⟩, _, _, rfl, rfl, _, rfl, ?_⟩
    refine ite2 (fun hge => ?_) (fun _ => ?_)
    · have hz : (10 : Int) ^ 18 ≤ z := of_decide_eq_true hge
      have hz0 : z ≠ 0 := by omega
      have hne : cells ≠ [] := fun e => hz0 (e0 e)
      obtain ⟨hj, em⟩ := e1 hne
      rw [em] at ej
      refine ⟨_, rfl, h, _, _, _, rfl, rfl, SqL.of hh2, rfl, _, rfl, _, rfl, _, _, rfl, rfl, wide_div hb (b := 200) ?_ (by decide) (by decide), ?_⟩
      · omega
      refine ⟨_, rfl, _, rfl, h, _, _, _, rfl, rfl, SqL.of hh2, rfl, .inl ⟨_, rfl, _, rfl, c, _, rfl, .inl (SqL.of hc2), _, _, rfl, rfl, ?_, ?_⟩⟩
      · rw [List.length_map]
        omega
      refine ⟨c, _, _, j, rfl, rfl, hc2, ?_, ?_⟩
      · rw [List.length_map, ej]
        unfold ixN
        rw [if_pos (by omega), if_pos (by omega)]
        simp
      refine ⟨_, rfl, .inl ⟨_, rfl, _, rfl, _, _, rfl, rfl, hb, ?_⟩⟩
      refine k _ _ (Int.emod_nonneg _ (by omega)) (Int.emod_lt_of_pos _ hb) ⟨⟨st, ix, cells.set j (z / b), ?_, ?_, by rw [List.length_set]; exact hl⟩, hne0⟩ kk.at_c
      · rw [upd_ne hne0]
        exact hh2
      · rw [upd_same, List.map_set]
    · -- _law_h[0] = ..
      refine ⟨_, rfl, h, _, _, _, rfl, rfl, SqL.of hh2, rfl, _, _, rfl, rfl, .inr ⟨by decide, by decide⟩, _, rfl, _, _, rfl, rfl, .inr ⟨by decide, by decide⟩, _, _, rfl, rfl, _, _, rfl, rfl, .inl ⟨_, rfl, _, _, rfl, rfl, (by show (0 : Int) < 2147483647; decide), ?_⟩⟩
      refine ⟨_, rfl, h, _, _, 0, rfl, rfl, hh2, rfl, ?_⟩
      -- _law_h[2] = _law_h[2] + 1
      refine ⟨_, rfl, h, _, _, _, rfl, rfl, SqL.of upd_same, rfl, _, _, rfl, rfl, _, rfl, h, _, _, 2, rfl, rfl, upd_same, rfl, ?_⟩
      refine ⟨_, rfl, h, _, _, _, rfl, rfl, SqL.of upd_same, rfl, _, _, rfl, rfl, ⟨by decide, by decide⟩, .inl ⟨_, rfl, _, rfl, _, _, rfl, rfl, hb, ?_⟩⟩
      refine k _ _ (Int.emod_nonneg _ (by omega)) (Int.emod_lt_of_pos _ hb) ⟨⟨_, _, cells, upd_same, ?_, hl⟩, hne0⟩ kk.at_h.at_h
      rw [upd_ne hne0.symm, upd_ne hne0.symm]
      exact hc2
/-- heaps are drawn: so many, none below 0, not all empty -/
structure HeapsOk (least most : Nat) (ns : List Int) : Prop where
  lo : least ≤ ns.length
  hi : ns.length ≤ most
  ge : ∀ n ∈ ns, 0 ≤ n
  le : ∀ n ∈ ns, n ≤ 10 ^ 30
  pos : ∃ n ∈ ns, 0 < n
def spHeaps : Sp := fun vs H Q _ => ∃ (h c : Addr) (least most : Nat), vs = [.ref h, .int (least : Int), .int (most : Int)] ∧ DrawAt H h c ∧ 1 ≤ least ∧ least ≤ most ∧ most ≤ 6 ∧
  ∀ (t : Addr) (ns : List Int) (H' : Hp), HeapsOk least most ns → H t = none → H' t = some (.tup (ns.map V.int)) → DrawAt H' h c → Kept h c H H' → Q (.ref t) H'
theorem pick5 {x0 x1 x2 x3 x4 : Int} {n : Int} (h0 : 0 ≤ n) (h5 : n < 5) : ∃ z, atI [V.int x0, V.int x1, V.int x2, V.int x3, V.int x4] n = some (V.int z) ∧ z ∈ [x0, x1, x2, x3, x4] := by
  have : n = 0 ∨ n = 1 ∨ n = 2 ∨ n = 3 ∨ n = 4 := by omega
  rcases this with e | e | e | e | e <;> subst e <;> exact ⟨_, rfl, by simp⟩
abbrev s_l_heaps : Stmt := top 25
theorem sc_l_heaps : FnScope ["_law_h", "_law_least", "_law_most", "_law_size", "_law_far", "_law_part", "_law_found", "_law_k"] ["_law_h", "_law_least", "_law_most"] (defScope s_l_heaps) := ⟨rfl, rfl, rfl, by decide +kernel, rfl, by decide +kernel, by decide +kernel⟩
theorem ok_heaps {f : Addr} {fd : FuncData} (F : Fun K "_law_heaps" "_law_heaps" s_l_heaps f fd) (T : Tx K mg) (C_l_next : Cal P w K mg base CX0 1 "_law_next" ["_law_h", "_law_bound"] spNext) : FnOk P w K mg base CX0 2 f fd ["_law_h", "_law_least", "_law_most"] spHeaps := by
  refine F.ok sc_l_heaps (fun vs H Q E h => ?_) (fun cdv A outer s H vs Q E hr h => ?_)
  · obtain ⟨a, c, l, m, rfl, _⟩ := h
    rfl
  · obtain ⟨h, c, least, most, rfl, D, h1, h2, h3, k⟩ := h
    refine ⟨_, (pss_cons (ps_set (i := 3) sc_l_heaps.nd rfl (Or.inl rfl) (pe_op op_add (pv 1) (pe_cal C_l_next hr rfl pass0 (pa_cons (pv 0) (pa_cons (pe_op op_add (pe_op op_sub (pv 2) (pv 1)) pe_int) pa_nil)))))
      (pss_cons (ps_set (i := 4) sc_l_heaps.nd rfl (Or.inr rfl) (pe_ix ix_list (pe_lst (pa_cons pe_int (pa_cons pe_int (pa_cons pe_int (pa_cons (pe_op op_pow pe_int pe_int) (pa_cons (pe_op op_pow pe_int pe_int) pa_nil)))))) (pe_cal C_l_next hr rfl pass0 (pa_cons (pv 0) (pa_cons pe_int pa_nil))) (fun _ _ => rfl)))
      (pss_cons (ps_set (i := 5) sc_l_heaps.nd rfl (Or.inr rfl) (pe_ix ix_list (pe_lst (pa_cons pe_int (pa_cons pe_int (pa_cons pe_int (pa_cons pe_int (pa_cons pe_int pa_nil)))))) (pe_cal C_l_next hr rfl pass0 (pa_cons (pv 0) (pa_cons pe_int pa_nil))) (fun _ _ => rfl)))
      (pss_cons (ps_setLc (i := 6) (own := [("_law_k", 7)]) (g := gName 7) (by rfl) sc_l_heaps.nd rfl rfl (sw_true rfl rfl rfl (by decide +kernel)) (pi_range1 rfl T.range (pa_cons (pv 3) pa_nil)) (blkOk_by (own := [("_law_k", 7)]) (N := ["_law_h", "_law_least", "_law_most", "_law_size", "_law_far", "_law_part", "_law_found", "_law_k"]) (sc := defScope s_l_heaps) (by decide +kernel)) (fun _ _ _ _ _ => pg_name (i := 7) sc_l_heaps.nd rfl (Or.inl rfl)) (fun _ _ _ _ _ => pts_nil) (fun _ _ _ _ _ => (pe_op op_mul (pv 5) (pe_cal C_l_next hr rfl pass0 (pa_cons (pv 0) (pa_cons (pv 4) pa_nil))))))
      (pss_cons (ps_if (pt_cmpR op_eq (pe_callB (cr_max rfl) (by rfl) T.max (by decide +kernel) (pa_cons (pv 6) pa_nil)) pe_int (nomark _)) (pss_one (ps_asg (pv 5) (pg_sub (pv 6) (pe_cal C_l_next hr rfl pass0 (pa_cons (pv 0) (pa_cons (pv 3) pa_nil))) set_list))) pss_nil)
      (pss_one (ps_ret (pe_callTy call_tuple_of (by rfl) T.tuple (by decide +kernel) (pa_cons (pv 6) pa_nil))))))))), ?_⟩
    -- _law_size
    refine ⟨_, rfl, _, rfl, _, rfl, _, rfl, _, _, rfl, rfl, _, _, rfl, rfl, h, c, _, rfl, D, by omega, by omega, fun n1 H1 l1 u1 D1 k1 => ⟨_, _, rfl, rfl, ?_⟩⟩
    obtain ⟨n1, rfl⟩ := Int.eq_ofNat_of_zero_le l1
    -- _law_far
    refine ⟨_, _, rfl, rfl, ⟨by decide, by decide, by decide⟩, _, _, rfl, rfl, ⟨by decide, by decide, by decide⟩, by show 5 ≤ sizeLine; decide, fun p hp => ?_⟩
    refine ⟨_, rfl, h, c, _, rfl, D1.new hp, by omega, by omega, fun n2 H2 l2 u2 D2 k2 => ?_⟩
    obtain ⟨np1, np2⟩ := D1.nots hp
    obtain ⟨far, e2, far_in⟩ := pick5 (x0 := 4) (x1 := 9) (x2 := 60) (x3 := 10 ^ (15 : Int).toNat) (x4 := 10 ^ (29 : Int).toNat) l2 u2
    refine ⟨p, _, _, _, rfl, rfl, SqL.of (k2 p _ upd_same np1 np2), e2, ?_⟩
    have hfar : 0 < far ∧ far ≤ 10 ^ 29 := by
      simp only [List.mem_cons, List.mem_nil_iff, or_false] at far_in
      rcases far_in with e | e | e | e | e <;> subst e <;> decide
    have k2' : Kept h c H H2 := (k1.new (k1.free D1 hp)).trans k2
    -- _law_part
    refine ⟨by show 5 ≤ sizeLine; decide, fun p3 hp3 => ?_⟩
    refine ⟨_, rfl, h, c, _, rfl, D2.new hp3, by omega, by omega, fun n3 H3 l3 u3 D3 k3 => ?_⟩
    obtain ⟨mp1, mp2⟩ := D2.nots hp3
    obtain ⟨part, e3, part_in⟩ := pick5 (x0 := 1) (x1 := 1) (x2 := 2) (x3 := 3) (x4 := 8) l3 u3
    refine ⟨p3, _, _, _, rfl, rfl, SqL.of (k3 p3 _ upd_same mp1 mp2), e3, ?_⟩
    have hpart : 1 ≤ part ∧ part ≤ 8 := by
      simp only [List.mem_cons, List.mem_nil_iff, or_false] at part_in
      rcases part_in with e | e | e | e | e <;> subst e <;> decide
    have k3' : Kept h c H H3 := (k2'.new (k2'.free D2 hp3)).trans k3
    -- _law_found
    refine ⟨_, rfl, _, rfl, by omega, by omega, ?_⟩
    have esz : ((least : Int) + (n1 : Int)).toNat = least + n1 := by omega
    rw [esz]
    intro DD hDD
    obtain ⟨dd1, dd2⟩ := D3.nots hDD
    refine lc_range (lo := 0) (n := least + n1) (fun i H4 => ∃ ms : List Int, H4 DD = some (.lst (ms.map V.int)) ∧ ms.length = i ∧ (∀ m ∈ ms, 0 ≤ m ∧ m ≤ 8 * 10 ^ 29) ∧ DrawAt H4 h c ∧ Kept h c H H4) ?_ ?_ ?_
    · exact ⟨[], upd_same, rfl, fun m hm => (nomatch hm), D3.new hDD, k3'.new (k3'.free D3 hDD)⟩
    · rintro i H4 hi ⟨ms, hms, hlen, hb, D4, k4⟩
      refine ⟨rfl, _, rfl, _, rfl, _, rfl, h, c, far, rfl, D4, hfar.1, by omega, fun n H5 l5 u5 D5 k5 => ⟨_, _, rfl, rfl, .inl ⟨by omega, by omega⟩, ms.map V.int, k5 DD _ hms dd1 dd2, ?_, ?_⟩⟩
      · rw [List.length_map, sizeLine_eq]
        omega
      refine ⟨ms ++ [part * n], by rw [upd_same, List.map_append]; rfl, by rw [List.length_append, hlen]; rfl, fun m hm => ?_, D5.upd dd1 dd2, (k4.trans k5).new (k3'.free D3 hDD)⟩
      rcases List.mem_append.mp hm with hm | hm
      · exact hb m hm
      · have em : m = part * n := by simpa using hm
        subst em
        refine ⟨Int.mul_nonneg (by omega) l5, ?_⟩
        have q := Int.mul_le_mul (a := part) (b := n) (c := 8) (d := 10 ^ 29) hpart.2 (by omega) l5 (by omega)
        exact q
    · rintro H4 ⟨ms, hms, hlen, hb, D4, k4⟩
      have hlen' : ms.length ≤ most := by omega
      have hpos : 0 < ms.length := by omega
      refine ⟨_, rfl, DD, ms, rfl, SqL.of hms, hpos, fun m hm hle => ⟨rfl, _, rfl, ?_⟩⟩
      refine ite2 (fun hz => ?_) (fun hz => ?_)
      · refine ⟨_, rfl, _, rfl, _, rfl, _, rfl, h, c, _, rfl, D4, by omega, by omega, fun n H5 l5 u5 D5 k5 => ?_⟩
        obtain ⟨n, rfl⟩ := Int.eq_ofNat_of_zero_le l5
        have hn : n < ms.length := by omega
        refine ⟨DD, _, _, n, rfl, rfl, k5 DD _ hms dd1 dd2, ?_, ?_⟩
        · rw [List.length_map]
          unfold ixN
          rw [if_pos (by omega), if_pos (by omega)]
          simp
        refine ⟨_, rfl, DD, _, rfl, .inl ⟨SqL.of upd_same, fun t ht => ?_⟩⟩
        have htD : t ≠ DD := fun e => by
          rw [e, upd_same] at ht
          cases ht
        have D6 := D5.upd (o := .lst ((ms.map V.int).set n (.int part))) dd1 dd2
        have k6 : Kept h c H (upd H5 DD (.lst ((ms.map V.int).set n (.int part)))) := (k4.trans k5).new (k3'.free D3 hDD)
        refine k t (ms.set n part) _ ⟨by rw [List.length_set]; omega, by rw [List.length_set]; omega, fun y hy => ?_, fun y hy => ?_, ⟨part, ?_, by omega⟩⟩ (k6.free D6 ht) (by rw [upd_same, List.map_set]) (D6.new ht) (k6.new (k6.free D6 ht))
        · rcases List.mem_or_eq_of_mem_set hy with hy | hy
          · exact (hb y hy).1
          · omega
        · rcases List.mem_or_eq_of_mem_set hy with hy | hy
          · have := (hb y hy).2
            omega
          · omega
        · exact List.mem_iff_getElem?.mpr ⟨n, by rw [List.getElem?_set_self hn]⟩
      · refine ⟨_, rfl, DD, _, rfl, .inl ⟨SqL.of hms, fun t ht => ?_⟩⟩
        have hm0 : m ≠ 0 := fun e => hz (decide_eq_true (by rw [e]))
        have := (hb m hm).1
        refine k t ms _ ⟨by omega, hlen', fun y hy => (hb y hy).1, fun y hy => ?_, ⟨m, hm, by omega⟩⟩ (k4.free D4 ht) upd_same (D4.new ht) (k4.new (k4.free D4 ht))
        have := (hb y hy).2
        omega
end
end Hd
set_option maxHeartbeats 4000000
namespace Hd
open PySem PySem.Spec PyProof.Rows L2
theorem pe_gint {X : Cx} {x : Str} {v : Int} {pos : Pos} (hg : Gl X x) (hm : ∃ t, X.mg x = some (.int v t)) (hd : (x == ("__debug__" : Str)) = false := by decide) : PE X (.Name x pos) (tC (.int v)) := by
  obtain ⟨t, hm⟩ := hm
  exact pe_glob hg hm ⟨t, rfl⟩ hd
theorem tyx_tup {K : PySem.W.Frag} {H : Hp} {a : Addr} {xs : List V} (h : SqT K H a xs) : TyX K H (.ref a) (.type "tuple") := by
  rcases h with (h | ⟨o, h⟩) | ⟨o, its, n, hk, hc, _⟩
  · exact .base (.tup h)
  · exact .fTuple h
  · exact .kTuple hk hc
/-- what the program's top gives its defs -/
structure Tp (K : PySem.W.Frag) (mg : Str → Option Value) : Prop where
  int : mg "int" = none
  bool : mg "bool" = none
  list : mg "list" = none
  len : mg "len" = none
  tuple : mg "tuple" = none
  isinstance : mg "isinstance" = none
  all : mg "all" = none
  sum : mg "sum" = none
  enumerate : mg "enumerate" = none
  range : mg "range" = none
  c_FEWEST_HEAPS : ∃ t, mg "FEWEST_HEAPS" = some (.int 2 t)
  c_MOST_HEAPS : ∃ t, mg "MOST_HEAPS" = some (.int 6 t)
  c_GREATEST : ∃ t, mg "GREATEST" = some (.int (10 ^ 30) t)
/-! ### the mirror -/
def inR (l g v : Int) : Bool := decide (l ≤ v) && decide (v ≤ g)
def hpsB (ns : List Int) : Bool := (decide (2 ≤ ns.length) && decide (ns.length ≤ 6)) && ((ns.map (inR 0 (10 ^ 30))).all id && decide (0 < ns.sum))
theorem getD_at {ns : List Int} {i : Nat} (h : i < ns.length) : (ns.map V.int)[i]? = some (.int (ns.getD i 0)) := by
  rw [List.getElem?_map, List.getElem?_eq_getElem h]
  show some (V.int ns[i]) = _
  congr 2
  rw [List.getD_eq_getElem?_getD, List.getElem?_eq_getElem h]
  rfl
theorem ixN_nat {n i : Nat} (h : i < n) : ixN n (i : Int) = some i := by
  unfold ixN
  rw [if_pos (by omega), if_pos (by omega)]
  simp
/-! ### the promises -/
def spIsInt : Sp := fun vs H Q _ => ∃ v l g : Int, vs = [.int v, .int l, .int g] ∧ Q (.bl (inR l g v)) H
def spIsHeaps (K : PySem.W.Frag) : Sp := fun vs H Q _ => ∃ (t : Addr) (ns : List Int), vs = [.ref t] ∧ SqT K H t (ns.map V.int) ∧ ns.length ≤ 1000 ∧ ∀ H', Same H H' → Q (.bl (hpsB ns)) H'
def spChkHeaps (K : PySem.W.Frag) : Sp := fun vs H Q _ => ∃ (t : Addr) (ns : List Int), vs = [.ref t] ∧ SqT K H t (ns.map V.int) ∧ hpsB ns = true ∧ ∀ H', Same H H' → Q .non H'
section
variable {P : Program} {w : World} {K : PySem.W.Frag} {mg : Str → Option Value} {base : Heap}
abbrev s_is_integer : Stmt := top 14
theorem sc_is_integer : FnScope ["value", "least", "greatest"] ["value", "least", "greatest"] (defScope s_is_integer) := ⟨rfl, rfl, rfl, by decide +kernel, rfl, by decide +kernel, by decide +kernel⟩
theorem ok_is_integer {f : Addr} {fd : FuncData} (F : Fun K "is_integer" "is_integer" s_is_integer f fd) (T : Tp K mg) : FnOk P w K mg base CX0 1 f fd ["value", "least", "greatest"] spIsInt := by
  refine F.ok sc_is_integer (fun vs H Q E h => ?_) (fun cdv A outer s H vs Q E hr h => ?_)
  · obtain ⟨v, l, g, rfl, _⟩ := h
    rfl
  · obtain ⟨v, l, g, rfl, k⟩ := h
    refine ⟨_, (pss_cons (ps_if (PW.pt (pw_or (pt_val (pe_callB call_isi (by rfl) T.isinstance (by decide +kernel) (pa_cons (pv 0) (pa_cons (pe_bltn (v := .ty "bool") (u := .type "bool") (by rfl) T.bool (by decide +kernel) rfl) pa_nil)))) (pw_or1 (pt_not (pt_val (pe_callB call_isi (by rfl) T.isinstance (by decide +kernel) (pa_cons (pv 0) (pa_cons (pe_bltn (v := .ty "int") (u := .type "int") (by rfl) T.int (by decide +kernel) rfl) pa_nil)))))))) (pss_one (ps_ret pe_bl)) pss_nil)
      (pss_one (ps_ret (pe_chain op_le op_le (pv 1) (pv 0) (pv 2))))), ?_⟩
    refine ⟨_, rfl, _, _, _, _, false, rfl, ClsV.ty _, .base (.int _), kit_ty (by decide +kernel), _, rfl, ?_⟩
    refine iteF ⟨_, rfl, _, _, _, _, true, rfl, ClsV.ty _, .base (.int _), kit_ty (by decide +kernel), _, rfl, ?_⟩
    refine iteF ?_
    refine ⟨_, rfl, _, rfl, _, _, rfl, rfl, _, rfl, ?_⟩
    unfold inR at k
    cases hd : decide (l ≤ v) with
    | false =>
      rw [hd] at k
      exact iteF k
    | true =>
      rw [hd] at k
      exact iteT ⟨_, rfl, _, _, rfl, rfl, k⟩
abbrev s_is_heaps : Stmt := top 15
theorem sc_is_heaps : FnScope ["value", "heap"] ["value"] (defScope s_is_heaps) := ⟨rfl, rfl, rfl, by decide +kernel, rfl, by decide +kernel, by decide +kernel⟩
theorem ok_is_heaps {f : Addr} {fd : FuncData} (F : Fun K "is_heaps" "is_heaps" s_is_heaps f fd) (T : Tp K mg) (C_is_integer : Cal P w K mg base CX0 1 "is_integer" ["value", "least", "greatest"] spIsInt) : FnOk P w K mg base CX0 2 f fd ["value"] (spIsHeaps K) := by
  refine F.ok sc_is_heaps (fun vs H Q E h => ?_) (fun cdv A outer s H vs Q E hr h => ?_)
  · obtain ⟨t, ns, rfl, _⟩ := h
    rfl
  · obtain ⟨t, ns, rfl, hS, hl, k⟩ := h
    refine ⟨_, (pss_cons (ps_if (PW.pt (pw_or (pt_not (pt_val (pe_callB call_isi (by rfl) T.isinstance (by decide +kernel) (pa_cons (pv 0) (pa_cons (pe_bltn (v := .ty "tuple") (u := .type "tuple") (by rfl) T.tuple (by decide +kernel) rfl) pa_nil))))) (pw_or1 (pt_not (pt_chain op_le op_le (pe_gint rfl T.c_FEWEST_HEAPS) (pe_callB call_len_seq (by rfl) T.len PySem.boot_len (pa_cons (pv 0) pa_nil)) (pe_gint rfl T.c_MOST_HEAPS)))))) (pss_one (ps_ret pe_bl)) pss_nil)
      (pss_one (ps_ret (pe_and (pe_callB (cr_all rfl) (by rfl) T.all (by decide +kernel) (pa_cons (pe_lc (own := [("heap", 1)]) (g := gName 1) (by rfl) sc_is_heaps.nd (pi_tup (pv 0)) (blkOk_by (own := [("heap", 1)]) (N := ["value", "heap"]) (sc := defScope s_is_heaps) (by decide +kernel)) (fun _ _ _ _ _ => pg_name (i := 1) sc_is_heaps.nd rfl (Or.inl rfl)) (fun _ _ _ _ _ => pts_nil) (fun _ _ _ _ _ => (pe_cal C_is_integer hr rfl pass0 (pa_cons (pv 1) (pa_cons pe_int (pa_cons (pe_gint rfl T.c_GREATEST) pa_nil)))))) pa_nil)) (pe_one (pe_cmpR op_gt (pe_callB (cr_sumT rfl) (by rfl) T.sum (by decide +kernel) (pa_cons (pv 0) pa_nil)) pe_int (nomark _))))))), ?_⟩
    refine ⟨_, rfl, _, _, _, _, true, rfl, ClsV.ty _, tyx_tup hS, kit_ty (by decide +kernel), _, rfl, ?_⟩
    refine iteF ?_
    refine ⟨_, rfl, t, _, rfl, .inr hS, _, _, rfl, rfl, _, rfl, ?_⟩
    unfold hpsB at k
    rw [List.length_map]
    cases h2 : decide (2 ≤ ns.length) with
    | false =>
      have z : decide ((2 : Int) ≤ (ns.length : Int)) = false := decide_eq_false fun z => (of_decide_eq_false h2) (by omega)
      rw [z]
      refine iteF ⟨_, rfl, iteT ?_⟩
      rw [h2] at k
      exact k H (Same.refl _)
    | true =>
      have z : decide ((2 : Int) ≤ (ns.length : Int)) = true := decide_eq_true (by have := of_decide_eq_true h2; omega)
      rw [z]
      refine iteT ⟨_, _, rfl, rfl, _, rfl, ?_⟩
      cases h6 : decide (ns.length ≤ 6) with
      | false =>
        have z : decide ((ns.length : Int) ≤ 6) = false := decide_eq_false fun z => (of_decide_eq_false h6) (by omega)
        rw [z]
        refine iteT ?_
        rw [h2, h6] at k
        exact k H (Same.refl _)
      | true =>
        have z : decide ((ns.length : Int) ≤ 6) = true := decide_eq_true (by have := of_decide_eq_true h6; omega)
        rw [z]
        refine iteF ?_
        rw [h2, h6] at k
        refine ⟨_, rfl, t, rfl, ⟨_, hS⟩, fun D hD => lc_tup (K := K) (a := t) (xs := ns.map V.int) (fun i H1 => H1 D = some (.lst (((ns.take i).map (inR 0 (10 ^ 30))).map V.bl)) ∧ Same H H1) ⟨upd_same, Same.new hD⟩ (fun i H1 _ q => Same.tup q.2 hS) ?_ ?_⟩
        · rintro i x H1 hi ⟨hL, s1⟩
          obtain ⟨z, hz, rfl⟩ := int_at hi
          refine ⟨rfl, _, rfl, z, 0, 10 ^ 30, rfl, _, hL, ?_, ?_⟩
          · rw [List.length_map, List.length_map, List.length_take, sizeLine_eq]
            omega
          · refine ⟨?_, same_upd s1 hD⟩
            rw [upd_same, List.take_add_one, hz]
            simp
        · rintro H1 ⟨hL, s1⟩
          rw [List.length_map, List.take_length] at hL
          refine ⟨D, _, rfl, SqL.of hL, _, rfl, ?_⟩
          cases ha : (ns.map (inR 0 (10 ^ 30))).all id with
          | false =>
            rw [ha] at k
            exact iteF (k _ s1)
          | true =>
            rw [ha] at k
            exact iteT ⟨_, rfl, t, _, rfl, Same.tup s1 hS, _, _, rfl, rfl, k _ s1⟩
abbrev s_check_heaps : Stmt := top 17
theorem sc_check_heaps : FnScope ["heaps"] ["heaps"] (defScope s_check_heaps) := ⟨rfl, rfl, rfl, by decide +kernel, rfl, by decide +kernel, by decide +kernel⟩
theorem ok_check_heaps {f : Addr} {fd : FuncData} (F : Fun K "check_heaps" "check_heaps" s_check_heaps f fd) (T : Tp K mg) (C_is_heaps : Cal P w K mg base CX0 2 "is_heaps" ["value"] (spIsHeaps K)) : FnOk P w K mg base CX0 3 f fd ["heaps"] (spChkHeaps K) := by
  refine F.ok sc_check_heaps (fun vs H Q E h => ?_) (fun cdv A outer s H vs Q E hr h => ?_)
  · obtain ⟨t, ns, rfl, _⟩ := h
    rfl
  · obtain ⟨t, ns, rfl, hS, hg, k⟩ := h
    refine ⟨_, (pss_one (ps_if (pt_not (pt_val (pe_cal C_is_heaps hr rfl pass0 (pa_cons (pv 0) pa_nil)))) (pss_one ps_never) pss_nil)), ?_⟩
    refine ⟨_, rfl, t, ns, rfl, hS, ?_, fun H1 s1 => ⟨_, rfl, ?_⟩⟩
    · unfold hpsB at hg
      simp only [Bool.and_eq_true, decide_eq_true_eq] at hg
      omega
    rw [hg]
    exact iteF (k _ s1)
end
end Hd
set_option maxHeartbeats 4000000
namespace Hd
open PySem PySem.Spec PyProof.Rows L2
def can (ns : List Int) (i j : Nat) : Bool := decide (0 < ns.getD j 0) && decide (ns.getD j 0 ≤ ns.getD i 0)
def shf (ns : List Int) (i j : Nat) (m : Int) : List Int := (ns.set i (ns.getD i 0 - m)).set j (ns.getD j 0 + m)
def mv (ns : List Int) (i j : Nat) : List Int := shf ns i j (ns.getD j 0)
/-- a plan at t: each step's tuple, its two numbers -/
structure PlanAt (K : PySem.W.Frag) (H : Hp) (t : Addr) (n : Nat) (ps : List (Addr × Nat × Nat)) : Prop where
  tp : SqT K H t (ps.map fun p => V.ref p.1)
  st : ∀ p ∈ ps, SqT K H p.1 [.int (p.2.1 : Int), .int (p.2.2 : Int)] ∧ p.2.1 < n ∧ p.2.2 < n ∧ p.2.1 ≠ p.2.2
theorem PlanAt.same {K : PySem.W.Frag} {H H' : Hp} {t : Addr} {n : Nat} {ps : List (Addr × Nat × Nat)} (e : Same H H') (h : PlanAt K H t n ps) : PlanAt K H' t n ps :=
  ⟨Same.tup e h.tp, fun p hp => let ⟨a, b⟩ := h.st p hp; ⟨Same.tup e a, b⟩⟩
/-- the first step that can't be made, and the heaps ahead of it (behind all) -/
def jd : List Int → List (Nat × Nat) → Nat → Option Nat × List Int
  | ns, [], _ => (none, ns)
  | ns, s :: r, k => if can ns s.1 s.2 = true then jd (mv ns s.1 s.2) r (k + 1) else (some k, ns)
theorem jd_app : ∀ (ps : List (Nat × Nat)) (ns : List Int) (k : Nat) (s : Nat × Nat), jd ns (ps ++ [s]) k = (match jd ns ps k with
    | (none, m) => if can m s.1 s.2 = true then (none, mv m s.1 s.2) else (some (k + ps.length), m)
    | (some b, m) => (some b, m))
  | [], ns, k, s => by
    show (if can ns s.1 s.2 = true then jd (mv ns s.1 s.2) [] (k + 1) else (some k, ns)) = _
    rfl
  | p :: r, ns, k, s => by
    show (if can ns p.1 p.2 = true then jd (mv ns p.1 p.2) (r ++ [s]) (k + 1) else (some k, ns)) = _
    by_cases h : can ns p.1 p.2 = true
    · rw [if_pos h, jd_app r _ (k + 1) s]
      have e : jd ns (p :: r) k = jd (mv ns p.1 p.2) r (k + 1) := if_pos h
      rw [e]
      have e2 : k + 1 + r.length = k + (p :: r).length := by
        rw [List.length_cons]
        omega
      rw [e2]
    · rw [if_neg h]
      have e : jd ns (p :: r) k = (some k, ns) := if_neg h
      rw [e]
theorem len_mv (ns : List Int) (i j : Nat) : (mv ns i j).length = ns.length := by
  unfold mv shf
  rw [List.length_set, List.length_set]
theorem len_jd : ∀ (ps : List (Nat × Nat)) (ns : List Int) (k : Nat), (jd ns ps k).2.length = ns.length
  | [], _, _ => rfl
  | p :: r, ns, k => by
    show (if can ns p.1 p.2 = true then jd (mv ns p.1 p.2) r (k + 1) else (some k, ns)).2.length = _
    split
    · rw [len_jd r, len_mv]
    · rfl
def spIsPair (K : PySem.W.Frag) : Sp := fun vs H Q _ => ∃ (t : Addr) (n a b : Int), vs = [.int n, .ref t] ∧ SqT K H t [.int a, .int b] ∧ Q (.bl (inR 0 (n - 1) a && (inR 0 (n - 1) b && !decide (a = b)))) H
def spChkPlan (K : PySem.W.Frag) : Sp := fun vs H Q _ => ∃ (t : Addr) (n : Nat) (ps : List (Addr × Nat × Nat)), vs = [.int (n : Int), .ref t] ∧ PlanAt K H t n ps ∧ ps.length ≤ 20000 ∧ ∀ H', Same H H' → Q .non H'
def spCan (K : PySem.W.Frag) : Sp := fun vs H Q _ => ∃ (t u : Addr) (ns : List Int) (i j : Nat), vs = [.ref t, .ref u] ∧ SqT K H t (ns.map V.int) ∧ SqT K H u [.int (i : Int), .int (j : Int)] ∧ i < ns.length ∧ j < ns.length ∧ Q (.bl (can ns i j)) H
def spShifted (K : PySem.W.Frag) : Sp := fun vs H Q _ => ∃ (t u : Addr) (ns : List Int) (i j : Nat) (m : Int), vs = [.ref t, .ref u, .int m] ∧ SqT K H t (ns.map V.int) ∧ SqT K H u [.int (i : Int), .int (j : Int)] ∧ i < ns.length ∧ j < ns.length ∧ i ≠ j ∧
  ∀ (p : Addr) (H' : Hp), Same H H' → H p = none → H' p = some (.tup ((shf ns i j m).map V.int)) → Q (.ref p) H'
def spBehind (K : PySem.W.Frag) : Sp := fun vs H Q _ => ∃ (t u : Addr) (ns : List Int) (i j : Nat), vs = [.ref t, .ref u] ∧ SqT K H t (ns.map V.int) ∧ SqT K H u [.int (i : Int), .int (j : Int)] ∧ i < ns.length ∧ j < ns.length ∧ i ≠ j ∧
  ∀ (p : Addr) (H' : Hp), Same H H' → H p = none → H' p = some (.tup ((mv ns i j).map V.int)) → Q (.ref p) H'
section
variable {P : Program} {w : World} {K : PySem.W.Frag} {mg : Str → Option Value} {base : Heap}
abbrev s_is_pair_of : Stmt := top 16
theorem sc_is_pair_of : FnScope ["many", "value", "one", "other"] ["many", "value"] (defScope s_is_pair_of) := ⟨rfl, rfl, rfl, by decide +kernel, rfl, by decide +kernel, by decide +kernel⟩
theorem ok_is_pair_of {f : Addr} {fd : FuncData} (F : Fun K "is_pair_of" "is_pair_of" s_is_pair_of f fd) (T : Tp K mg) (C_is_integer : Cal P w K mg base CX0 1 "is_integer" ["value", "least", "greatest"] spIsInt) : FnOk P w K mg base CX0 2 f fd ["many", "value"] (spIsPair K) := by
  refine F.ok sc_is_pair_of (fun vs H Q E h => ?_) (fun cdv A outer s H vs Q E hr h => ?_)
  · obtain ⟨t, n, a, b, rfl, _⟩ := h
    rfl
  · obtain ⟨t, n, a, b, rfl, hS, k⟩ := h
    refine ⟨_, (pss_cons (ps_if (PW.pt (pw_or (pt_not (pt_val (pe_callB call_isi (by rfl) T.isinstance (by decide +kernel) (pa_cons (pv 1) (pa_cons (pe_bltn (v := .ty "tuple") (u := .type "tuple") (by rfl) T.tuple (by decide +kernel) rfl) pa_nil))))) (pw_or1 (pt_cmpR op_ne (pe_callB call_len_seq (by rfl) T.len PySem.boot_len (pa_cons (pv 1) pa_nil)) pe_int (nomark _))))) (pss_one (ps_ret pe_bl)) pss_nil)
      (pss_cons (ps_asg (pv 1) (pg_tup rfl (pgs_cons (pg_name (i := 2) sc_is_pair_of.nd rfl (Or.inl rfl)) (pgs_cons (pg_name (i := 3) sc_is_pair_of.nd rfl (Or.inl rfl)) pgs_nil))))
      (pss_one (ps_ret (pe_and (pe_cal C_is_integer hr rfl pass0 (pa_cons (pv 2) (pa_cons pe_int (pa_cons (pe_op op_sub (pv 0) pe_int) pa_nil)))) (pe_and (pe_cal C_is_integer hr rfl pass0 (pa_cons (pv 3) (pa_cons pe_int (pa_cons (pe_op op_sub (pv 0) pe_int) pa_nil)))) (pe_one (pe_cmpR op_ne (pv 2) (pv 3) (nomark _))))))))), ?_⟩
    refine ⟨_, rfl, _, _, _, _, true, rfl, ClsV.ty _, tyx_tup hS, kit_ty (by decide +kernel), _, rfl, ?_⟩
    refine iteF ?_
    refine ⟨_, rfl, t, _, rfl, .inr hS, rfl, _, rfl, iteNS rfl ?_⟩
    refine ⟨_, rfl, t, _, rfl, hS, rfl, _, _, rfl, _, _, rfl, rfl, ?_⟩
    refine ⟨_, rfl, _, rfl, _, _, rfl, rfl, _, _, _, rfl, _, rfl, ?_⟩
    cases ha : inR 0 (n - 1) a with
    | false =>
      rw [ha] at k
      exact iteF k
    | true =>
      rw [ha] at k
      refine iteT ⟨_, rfl, _, rfl, _, _, rfl, rfl, _, _, _, rfl, _, rfl, ?_⟩
      cases hb : inR 0 (n - 1) b with
      | false =>
        rw [hb] at k
        exact iteF k
      | true =>
        rw [hb] at k
        refine iteT ⟨_, rfl, _, rfl, rfl, ?_⟩
        have e : decide (V.int a = V.int b) = decide (a = b) := by
          by_cases z : a = b
          · subst z
            rw [decide_eq_true rfl, decide_eq_true rfl]
          · rw [decide_eq_false z, decide_eq_false fun q => z (V.int.inj q)]
        rw [e]
        exact k
abbrev s_check_plan : Stmt := top 18
theorem sc_check_plan : FnScope ["many", "plan", "index", "step"] ["many", "plan"] (defScope s_check_plan) := ⟨rfl, rfl, rfl, by decide +kernel, rfl, by decide +kernel, by decide +kernel⟩
theorem ok_check_plan {f : Addr} {fd : FuncData} (F : Fun K "check_plan" "check_plan" s_check_plan f fd) (T : Tp K mg) (c_LP : ∃ t, mg "LONGEST_PLAN" = some (.int 20000 t)) (C_is_pair_of : Cal P w K mg base CX0 2 "is_pair_of" ["many", "value"] (spIsPair K)) : FnOk P w K mg base CX0 3 f fd ["many", "plan"] (spChkPlan K) := by
  refine F.ok sc_check_plan (fun vs H Q E h => ?_) (fun cdv A outer s H vs Q E hr h => ?_)
  · obtain ⟨t, n, ps, rfl, _⟩ := h
    rfl
  · obtain ⟨t, n, ps, rfl, hP, hl, k⟩ := h
    refine ⟨_, (pss_cons (ps_if (PW.pt (pw_or (pt_not (pt_val (pe_callB call_isi (by rfl) T.isinstance (by decide +kernel) (pa_cons (pv 1) (pa_cons (pe_bltn (v := .ty "tuple") (u := .type "tuple") (by rfl) T.tuple (by decide +kernel) rfl) pa_nil))))) (pw_or1 (pt_cmpR op_gt (pe_callB call_len_seq (by rfl) T.len PySem.boot_len (pa_cons (pv 1) pa_nil)) (pe_gint rfl c_LP) (nomark _))))) (pss_one ps_never) pss_nil)
      (pss_one (ps_for PassesOwn.never rfl (pi_enumT (by rfl) T.enumerate (pa_cons (pv 1) pa_nil)) (pg_tup rfl (pgs_cons (pg_name (i := 2) sc_check_plan.nd rfl (Or.inl rfl)) (pgs_cons (pg_name (i := 3) sc_check_plan.nd rfl (Or.inl rfl)) pgs_nil)))
      (pss_one (ps_if (pt_not (pt_val (pe_cal C_is_pair_of hr rfl pass0 (pa_cons (pv 0) (pa_cons (pv 3) pa_nil))))) (pss_one ps_never) pss_nil))))), ?_⟩
    refine ⟨_, rfl, _, _, _, _, true, rfl, ClsV.ty _, tyx_tup hP.tp, kit_ty (by decide +kernel), _, rfl, ?_⟩
    refine iteF ?_
    refine ⟨_, rfl, t, _, rfl, .inr hP.tp, _, _, rfl, rfl, _, rfl, ?_⟩
    rw [List.length_map]
    have z : decide ((20000 : Int) < (ps.length : Int)) = false := decide_eq_false (by omega)
    rw [z]
    refine iteF ?_
    refine ⟨_, rfl, t, _, rfl, hP.tp, for_it (walk_enumT (K := K) (a := t) (xs := ps.map fun p => V.ref p.1)) (fun i σ H1 => ∃ v1 v2 : Option V, σ = [some (.int (n : Int)), some (.ref t), v1, v2] ∧ Same H H1) ⟨none, none, rfl, Same.refl _⟩ (fun i σ H1 _ ⟨_, _, _, s1⟩ => Same.tup s1 hP.tp) ?_ ?_⟩
    · rintro i x σ H1 H2 hi ⟨v1, v2, rfl, s1⟩ ⟨TT, x1, x2, rfl, hT, rfl, e1, e2⟩
      rw [List.length_map] at hi
      have e1' := Option.some.inj e1
      subst e1'
      dsimp only at e2
      rw [List.getElem?_map, List.getElem?_eq_getElem hi] at e2
      have e2' := Option.some.inj e2
      subst e2'
      have s2 : Same H (upd H1 TT (.tup [.int (i : Nat), .ref ps[i].1])) := s1.trans (Same.new hT)
      obtain ⟨q1, q2, q3, q4⟩ := hP.st ps[i] (List.getElem_mem hi)
      refine ⟨TT, _, rfl, SqT.of upd_same, rfl, _, _, rfl, _, _, rfl, rfl, ?_⟩
      refine ⟨_, rfl, _, rfl, ps[i].1, _, _, _, rfl, Same.tup s2 q1, _, rfl, ?_⟩
      have g : (inR 0 ((n : Int) - 1) (ps[i].2.1 : Int) && (inR 0 ((n : Int) - 1) (ps[i].2.2 : Int) && !decide ((ps[i].2.1 : Int) = (ps[i].2.2 : Int)))) = true := by
        unfold inR
        simp only [Bool.and_eq_true, decide_eq_true_eq, Bool.not_eq_true', decide_eq_false_iff_not]
        omega
      rw [g]
      exact iteF ⟨_, _, rfl, s2⟩
    · rintro σ H1 ⟨v1, v2, rfl, s1⟩
      exact k _ s1
abbrev s_can_be_made : Stmt := top 5
theorem sc_can_be_made : FnScope ["heaps", "step", "one", "other"] ["heaps", "step"] (defScope s_can_be_made) := ⟨rfl, rfl, rfl, by decide +kernel, rfl, by decide +kernel, by decide +kernel⟩
theorem ok_can_be_made {f : Addr} {fd : FuncData} (F : Fun K "can_be_made" "can_be_made" s_can_be_made f fd) : FnOk P w K mg base CX0 1 f fd ["heaps", "step"] (spCan K) := by
  refine F.ok sc_can_be_made (fun vs H Q E h => ?_) (fun cdv A outer s H vs Q E hr h => ?_)
  · obtain ⟨t, u, ns, i, j, rfl, _⟩ := h
    rfl
  · obtain ⟨t, u, ns, i, j, rfl, hS, hU, hi, hj, k⟩ := h
    refine ⟨_, (pss_cons (ps_asg (pv 1) (pg_tup rfl (pgs_cons (pg_name (i := 2) sc_can_be_made.nd rfl (Or.inl rfl)) (pgs_cons (pg_name (i := 3) sc_can_be_made.nd rfl (Or.inl rfl)) pgs_nil))))
      (pss_one (ps_ret (pe_chain op_lt op_le pe_int (pe_ix ix_tup (pv 0) (pv 3) (fun _ _ => rfl)) (pe_ix ix_tup (pv 0) (pv 2) (fun _ _ => rfl)))))), ?_⟩
    refine ⟨_, rfl, u, _, rfl, hU, rfl, _, _, rfl, _, _, rfl, rfl, ?_⟩
    refine ⟨_, rfl, _, rfl, t, _, _, _, rfl, rfl, hS, at_of rfl (getD_at hj), _, _, rfl, rfl, _, rfl, ?_⟩
    unfold can at k
    cases hd : decide (0 < ns.getD j 0) with
    | false =>
      rw [hd] at k
      exact iteF k
    | true =>
      rw [hd] at k
      exact iteT ⟨_, rfl, _, rfl, t, _, _, _, rfl, rfl, hS, at_of rfl (getD_at hi), _, _, rfl, rfl, k⟩
abbrev s_shifted : Stmt := top 6
theorem sc_shifted : FnScope ["heaps", "step", "many", "one", "other", "stand"] ["heaps", "step", "many"] (defScope s_shifted) := ⟨rfl, rfl, rfl, by decide +kernel, rfl, by decide +kernel, by decide +kernel⟩
theorem ok_shifted {f : Addr} {fd : FuncData} (F : Fun K "shifted" "shifted" s_shifted f fd) (T : Tp K mg) : FnOk P w K mg base CX0 1 f fd ["heaps", "step", "many"] (spShifted K) := by
  refine F.ok sc_shifted (fun vs H Q E h => ?_) (fun cdv A outer s H vs Q E hr h => ?_)
  · obtain ⟨t, u, ns, i, j, m, rfl, _⟩ := h
    rfl
  · obtain ⟨t, u, ns, i, j, m, rfl, hS, hU, hi, hj, hij, k⟩ := h
    refine ⟨_, (pss_cons (ps_asg (pv 1) (pg_tup rfl (pgs_cons (pg_name (i := 3) sc_shifted.nd rfl (Or.inl rfl)) (pgs_cons (pg_name (i := 4) sc_shifted.nd rfl (Or.inl rfl)) pgs_nil))))
      (pss_cons (ps_set (i := 5) sc_shifted.nd rfl (Or.inl rfl) (pe_callTy call_list_of (by rfl) T.list (by decide +kernel) (pa_cons (pv 0) pa_nil)))
      (pss_cons (ps_augS (pv 5) (pv 3) pget_list (pv 2) ip_sub set_list)
      (pss_cons (ps_augS (pv 5) (pv 4) pget_list (pv 2) ip_add set_list)
      (pss_one (ps_ret (pe_callTy call_tuple_of (by rfl) T.tuple (by decide +kernel) (pa_cons (pv 5) pa_nil)))))))), ?_⟩
    refine ⟨_, rfl, u, _, rfl, hU, rfl, _, _, rfl, _, _, rfl, rfl, ?_⟩
    refine ⟨_, rfl, t, _, rfl, .inr hS, fun l hl => ?_⟩
    refine ⟨_, rfl, _, rfl, l, _, _, _, rfl, rfl, SqL.of upd_same, by omega, (by rw [Int.toNat_natCast]; exact getD_at hi), _, rfl, _, _, rfl, rfl, l, _, _, i, rfl, rfl, upd_same, (by rw [List.length_map]; exact ixN_nat hi), ?_⟩
    rw [upd_upd]
    refine ⟨_, rfl, _, rfl, l, _, _, _, rfl, rfl, SqL.of upd_same, by omega, (by rw [Int.toNat_natCast, List.getElem?_set_ne hij]; exact getD_at hj), _, rfl, _, _, rfl, rfl, l, _, _, j, rfl, rfl, upd_same, (by rw [List.length_set, List.length_map]; exact ixN_nat hj), ?_⟩
    rw [upd_upd]
    refine ⟨_, rfl, l, _, rfl, .inl ⟨SqL.of upd_same, fun p hp => ?_⟩⟩
    have hpl : p ≠ l := fun e => by
      rw [e, upd_same] at hp
      cases hp
    have hp0 : H p = none := by
      rw [upd_ne hpl] at hp
      exact hp
    refine k p _ (same_upd (Same.new hl) hp0) hp0 ?_
    rw [upd_same]
    unfold shf
    rw [List.map_set, List.map_set]
abbrev s_behind : Stmt := top 7
theorem sc_behind : FnScope ["heaps", "step"] ["heaps", "step"] (defScope s_behind) := ⟨rfl, rfl, rfl, by decide +kernel, rfl, by decide +kernel, by decide +kernel⟩
theorem ok_behind {f : Addr} {fd : FuncData} (F : Fun K "behind" "behind" s_behind f fd) (C_shifted : Cal P w K mg base CX0 1 "shifted" ["heaps", "step", "many"] (spShifted K)) : FnOk P w K mg base CX0 2 f fd ["heaps", "step"] (spBehind K) := by
  refine F.ok sc_behind (fun vs H Q E h => ?_) (fun cdv A outer s H vs Q E hr h => ?_)
  · obtain ⟨t, u, ns, i, j, rfl, _⟩ := h
    rfl
  · obtain ⟨t, u, ns, i, j, rfl, hS, hU, hi, hj, hij, k⟩ := h
    refine ⟨_, (pss_one (ps_ret (pe_cal C_shifted hr rfl pass0 (pa_cons (pv 0) (pa_cons (pv 1) (pa_cons (pe_ix ix_tup (pv 0) (pe_ix ix_tup (pv 1) pe_int (fun _ _ => rfl)) (fun _ _ => rfl)) pa_nil)))))), ?_⟩
    exact ⟨_, rfl, _, rfl, _, rfl, _, rfl, u, _, _, _, rfl, rfl, hU, rfl, t, _, _, _, rfl, rfl, hS, at_of rfl (getD_at hj), t, u, ns, i, j, _, rfl, hS, hU, hi, hj, hij, k⟩
end
end Hd
set_option maxHeartbeats 4000000
namespace Hd
open PySem PySem.Spec PyProof.Rows L2
def jv : Option Nat → V
  | none => .non
  | some k => .int (k : Int)
theorem jd_append : ∀ (l r : List (Nat × Nat)) (ns : List Int) (k : Nat), jd ns (l ++ r) k = (match jd ns l k with
    | (none, m) => jd m r (k + l.length)
    | (some b, m) => (some b, m))
  | [], r, ns, k => rfl
  | p :: l, r, ns, k => by
    show (if can ns p.1 p.2 = true then jd (mv ns p.1 p.2) (l ++ r) (k + 1) else (some k, ns)) = _
    by_cases h : can ns p.1 p.2 = true
    · have e : jd ns (p :: l) k = jd (mv ns p.1 p.2) l (k + 1) := if_pos h
      have e2 : k + 1 + l.length = k + (p :: l).length := by
        rw [List.length_cons]
        omega
      rw [if_pos h, e, jd_append l r _ (k + 1), e2]
    · have e : jd ns (p :: l) k = (some k, ns) := if_neg h
      rw [if_neg h, e]
/-- one step further along a plan -/
theorem jd_next {ns m : List Int} {ps : List (Nat × Nat)} {i : Nat} (hi : i < ps.length) (h : jd ns (ps.take i) 0 = (none, m)) :
    (can m ps[i].1 ps[i].2 = true → jd ns (ps.take (i + 1)) 0 = (none, mv m ps[i].1 ps[i].2)) ∧ (can m ps[i].1 ps[i].2 = false → jd ns ps 0 = (some i, m)) := by
  have el : (ps.take i).length = i := by
    rw [List.length_take]
    omega
  refine ⟨fun hc => ?_, fun hc => ?_⟩
  · rw [List.take_add_one, List.getElem?_eq_getElem hi]
    show jd ns (ps.take i ++ [ps[i]]) 0 = _
    rw [jd_app, h]
    show (if can m ps[i].1 ps[i].2 = true then _ else _) = _
    rw [if_pos hc]
  · have e : ps = ps.take i ++ (ps[i] :: ps.drop (i + 1)) := by
      rw [← List.drop_eq_getElem_cons hi, List.take_append_drop]
    have e2 : jd ns (ps.take i ++ (ps[i] :: ps.drop (i + 1))) 0 = (some i, m) := by
      rw [jd_append, h]
      show jd m (ps[i] :: ps.drop (i + 1)) (0 + (ps.take i).length) = _
      show (if can m ps[i].1 ps[i].2 = true then _ else (some (0 + (ps.take i).length), m)) = _
      rw [hc, if_neg (by decide), el, Nat.zero_add]
    rw [← e] at e2
    exact e2
theorem jd_all {ns m : List Int} {ps : List (Nat × Nat)} {i : Nat} {a : List Int} (hi : i < ps.length) (h : jd ns ps 0 = (none, m)) (ha : jd ns (ps.take i) 0 = (none, a)) : can a ps[i].1 ps[i].2 = true := by
  cases hc : can a ps[i].1 ps[i].2 with
  | true => rfl
  | false =>
    have := (jd_next hi ha).2 hc
    rw [h] at this
    cases this
def spJudge (K : PySem.W.Frag) : Sp := fun vs H Q _ => ∃ (t u : Addr) (ns : List Int) (ps : List (Addr × Nat × Nat)), vs = [.ref t, .ref u] ∧ SqT K H t (ns.map V.int) ∧ hpsB ns = true ∧ PlanAt K H u ns.length ps ∧ ps.length ≤ 20000 ∧
  ∀ H', Same H H' → Q (jv (jd ns (ps.map (·.2)) 0).1) H'
def spBehindAll (K : PySem.W.Frag) : Sp := fun vs H Q _ => ∃ (t u : Addr) (ns m : List Int) (ps : List (Addr × Nat × Nat)), vs = [.ref t, .ref u] ∧ SqT K H t (ns.map V.int) ∧ PlanAt K H u ns.length ps ∧ jd ns (ps.map (·.2)) 0 = (none, m) ∧
  ∀ (p : Addr) (H' : Hp), Same H H' → SqT K H' p (m.map V.int) → Q (.ref p) H'
def spMade (K : PySem.W.Frag) (C : Addr) : Sp := fun vs H Q E => ∃ (t u : Addr) (ns : List Int) (ps : List (Addr × Nat × Nat)), vs = [.ref t, .ref u] ∧ SqT K H t (ns.map V.int) ∧ hpsB ns = true ∧ PlanAt K H u ns.length ps ∧ ps.length ≤ 20000 ∧
  (∀ m, jd ns (ps.map (·.2)) 0 = (none, m) → ∀ p H', Same H H' → SqT K H' p (m.map V.int) → Q (.ref p) H') ∧
  (∀ b m, jd ns (ps.map (·.2)) 0 = (some b, m) → ∀ d H', Same H H' → H' d = some (.xd [(("index" : Str), V.int (b : Int))]) → E (.ref C) (some d) H')
def spBpInit (K : PySem.W.Frag) : Sp := fun vs H Q _ => ∃ (a C : Addr) (v : V), vs = [.ref a, v] ∧ OexC K C ∧ PySem.W.findIn K (.ref C) "index" = some none ∧ H a = some (exo a C none) ∧
  ∀ dx, H dx = none → dx ≠ a → Q .non (upd (upd H dx (exd dx [(("index" : Str), v)])) a (exo a C (some dx)))
/-- what the top has of BadPlan -/
structure BpT (P : Program) (w : World) (K : PySem.W.Frag) (mg : Str → Option Value) (base : Heap) (C : Addr) : Prop where
  gC : mg "BadPlan" = some (.ref C)
  ox : OexC K C
  no : PySem.W.findIn K (.ref C) "index" = some none
  xf : XfC K C
  te : PySem.W.exmOne K (.ref C) (.ref C) = some true
  init : ∃ (fI : Addr) (fdI : FuncData), PySem.W.findIn K (.ref C) "__init__" = some (some (.ref fI)) ∧ PySem.W.typeIn K (.ref fI) = some (.type "function") ∧ Binds K fdI ["self", "index"] [] ∧ FnOk P w K mg base CX0 1 fI fdI ["self", "index"] (spBpInit K)
/-- an error is caught by its own class's name -/
theorem exm_self {K : PySem.W.Frag} {S : Addr} (b : PySem.W.subIn K (.ref S) (.type "BaseException") = some true) (i : PySem.W.isClsIn K S = true)
    (t : PySem.W.typeIn K (.ref S) = some (.type "type")) (s : PySem.W.subIn K (.ref S) (.ref S) = some true) : PySem.W.exmOne K (.ref S) (.ref S) = some true := by
  have i' : (PySem.W.clsIn K S).isSome = true := i
  have g1 : (PySem.W.subIn K (.ref S) (.type "BaseException") == some true) = true := by rw [b]; rfl
  have g2 : ((PySem.W.clsIn K S).isSome && PySem.W.typeIn K (.ref S) == some (.type "type")) = true := by rw [i', t]; rfl
  show (if (_ : Bool) = true then (if (_ : Bool) = true then PySem.W.subIn K (.ref S) (.ref S) else none) else none) = some true
  rw [if_pos g1, if_pos g2]
  exact s
theorem hpsB_len {ns : List Int} (h : hpsB ns = true) : 2 ≤ ns.length ∧ ns.length ≤ 6 := by
  unfold hpsB at h
  simp only [Bool.and_eq_true, decide_eq_true_eq] at h
  exact h.1
section
variable {P : Program} {w : World} {K : PySem.W.Frag} {mg : Str → Option Value} {base : Heap}
abbrev s_BadPlan_init : Stmt := inClass (top 3) 0
theorem sc_BadPlan_init : FnScope ["self", "index"] ["self", "index"] (defScope s_BadPlan_init) := ⟨rfl, rfl, rfl, by decide +kernel, rfl, by decide +kernel, by decide +kernel⟩
theorem ok_bp_init {f : Addr} {fd : FuncData} (F : Fun K "__init__" "BadPlan.__init__" s_BadPlan_init f fd) : FnOk P w K mg base CX0 1 f fd ["self", "index"] (spBpInit K) := by
  refine F.ok sc_BadPlan_init (fun vs H Q E h => ?_) (fun cdv A outer s H vs Q E hr h => ?_)
  · obtain ⟨a, C, v, rfl, _⟩ := h
    rfl
  · obtain ⟨a, C, v, rfl, O, no, ha, k⟩ := h
    refine ⟨_, pss_one (ps_ost (pv 0) (pv 1)), ?_⟩
    exact ⟨_, rfl, _, rfl, a, C, rfl, O, no, .inl ⟨ha, fun dx hd hne => k dx hd hne⟩⟩
abbrev s_judge : Stmt := top 20
theorem sc_judge : FnScope ["heaps", "plan", "stand", "index", "step"] ["heaps", "plan"] (defScope s_judge) := ⟨rfl, rfl, rfl, by decide +kernel, rfl, by decide +kernel, by decide +kernel⟩
theorem ok_judge {f : Addr} {fd : FuncData} (F : Fun K "judge" "judge" s_judge f fd) (T : Tp K mg) (C_check_heaps : Cal P w K mg base CX0 3 "check_heaps" ["heaps"] (spChkHeaps K)) (C_check_plan : Cal P w K mg base CX0 3 "check_plan" ["many", "plan"] (spChkPlan K))
    (C_can_be_made : Cal P w K mg base CX0 1 "can_be_made" ["heaps", "step"] (spCan K)) (C_behind : Cal P w K mg base CX0 2 "behind" ["heaps", "step"] (spBehind K)) : FnOk P w K mg base CX0 4 f fd ["heaps", "plan"] (spJudge K) := by
  refine F.ok sc_judge (fun vs H Q E h => ?_) (fun cdv A outer s H vs Q E hr h => ?_)
  · obtain ⟨t, u, ns, ps, rfl, _⟩ := h
    rfl
  · obtain ⟨t, u, ns, ps, rfl, hS, hg, hP, hl, k⟩ := h
    refine ⟨_, (pss_cons (ps_expr (pe_cal C_check_heaps hr rfl pass0 (pa_cons (pv 0) pa_nil)))
      (pss_cons (ps_expr (pe_cal C_check_plan hr rfl pass0 (pa_cons (pe_callB call_len_seq (by rfl) T.len PySem.boot_len (pa_cons (pv 0) pa_nil)) (pa_cons (pv 1) pa_nil))))
      (pss_cons (ps_set (i := 2) sc_judge.nd rfl (Or.inl rfl) (pv 0))
      (pss_cons (ps_for PassesOwn.never rfl (pi_enumT (by rfl) T.enumerate (pa_cons (pv 1) pa_nil)) (pg_tup rfl (pgs_cons (pg_name (i := 3) sc_judge.nd rfl (Or.inl rfl)) (pgs_cons (pg_name (i := 4) sc_judge.nd rfl (Or.inl rfl)) pgs_nil)))
      (pss_cons (ps_if (pt_not (pt_val (pe_cal C_can_be_made hr rfl pass0 (pa_cons (pv 2) (pa_cons (pv 4) pa_nil))))) (pss_one (ps_ret (pv 3))) pss_nil)
      (pss_one (ps_set (i := 2) sc_judge.nd rfl (Or.inl rfl) (pe_cal C_behind hr rfl pass0 (pa_cons (pv 2) (pa_cons (pv 4) pa_nil)))))))
      (pss_one (ps_ret pe_non)))))), ?_⟩
    refine ⟨_, rfl, t, ns, rfl, hS, hg, fun H1 s1 => ?_⟩
    refine ⟨_, rfl, t, _, rfl, .inr (Same.tup s1 hS), _, rfl, u, ns.length, ps, by rw [List.length_map], hP.same s1, hl, fun H2 s2 => ?_⟩
    have s2' := s1.trans s2
    refine ⟨_, rfl, _, rfl, u, _, rfl, Same.tup s2' hP.tp, for_it (walk_enumT (K := K) (a := u) (xs := ps.map fun p => V.ref p.1)) (fun i σ H3 => ∃ (ta : Addr) (m : List Int) (v1 v2 : Option V), σ = [some (.ref t), some (.ref u), some (.ref ta), v1, v2] ∧ Same H H3 ∧ SqT K H3 ta (m.map V.int) ∧ m.length = ns.length ∧ jd ns ((ps.map (·.2)).take i) 0 = (none, m))
      ⟨t, ns, none, none, rfl, s2', Same.tup s2' hS, rfl, rfl⟩ (fun i σ H1 _ ⟨_, _, _, _, _, s1, _⟩ => Same.tup s1 hP.tp) ?_ ?_⟩
    · rintro i x σ H3 H4 hi ⟨ta, m, v1, v2, rfl, s3, hT, hlen, hj⟩ ⟨TT, x1, x2, rfl, hTT, rfl, e1, e2⟩
      rw [List.length_map] at hi
      have e1' := Option.some.inj e1
      subst e1'
      dsimp only at e2
      rw [List.getElem?_map, List.getElem?_eq_getElem hi] at e2
      have e2' := Option.some.inj e2
      subst e2'
      have s4 : Same H3 (upd H3 TT (.tup [.int (i : Nat), .ref ps[i].1])) := Same.new hTT
      obtain ⟨q1, q2, q3, q4⟩ := hP.st ps[i] (List.getElem_mem hi)
      have hi' : i < (ps.map (·.2)).length := by rw [List.length_map]; exact hi
      have eg : (ps.map (·.2))[i] = ps[i].2 := List.getElem_map _
      have N := jd_next hi' hj
      rw [eg] at N
      refine ⟨TT, _, rfl, SqT.of upd_same, rfl, _, _, rfl, _, _, rfl, rfl, ?_⟩
      refine ⟨_, rfl, _, rfl, ta, ps[i].1, m, _, _, rfl, Same.tup s4 hT, Same.tup (s3.trans s4) q1, by rw [hlen]; exact q2, by rw [hlen]; exact q3, _, rfl, ?_⟩
      cases hc : can m ps[i].2.1 ps[i].2.2 with
      | false =>
        refine iteT ⟨_, rfl, ?_⟩
        have e := N.2 hc
        rw [e] at k
        exact k _ (s3.trans s4)
      | true =>
        refine iteF ⟨_, rfl, _, rfl, ta, ps[i].1, m, _, _, rfl, Same.tup s4 hT, Same.tup (s3.trans s4) q1, by rw [hlen]; exact q2, by rw [hlen]; exact q3, q4, fun p H5 s5 hp hp5 => ?_⟩
        exact ⟨p, mv m ps[i].2.1 ps[i].2.2, _, _, rfl, (s3.trans s4).trans s5, SqT.of hp5, by rw [len_mv]; exact hlen, N.1 hc⟩
    · rintro σ H3 ⟨ta, m, v1, v2, rfl, s3, hT, hlen, hj⟩
      rw [List.length_map, List.take_of_length_le (by rw [List.length_map]; exact Nat.le_refl _)] at hj
      rw [hj] at k
      exact k _ s3
abbrev s_behind_all : Stmt := top 8
theorem sc_behind_all : FnScope ["heaps", "plan", "stand", "step"] ["heaps", "plan"] (defScope s_behind_all) := ⟨rfl, rfl, rfl, by decide +kernel, rfl, by decide +kernel, by decide +kernel⟩
theorem ok_behind_all {f : Addr} {fd : FuncData} (F : Fun K "behind_all" "behind_all" s_behind_all f fd) (C_behind : Cal P w K mg base CX0 2 "behind" ["heaps", "step"] (spBehind K)) : FnOk P w K mg base CX0 3 f fd ["heaps", "plan"] (spBehindAll K) := by
  refine F.ok sc_behind_all (fun vs H Q E h => ?_) (fun cdv A outer s H vs Q E hr h => ?_)
  · obtain ⟨t, u, ns, m, ps, rfl, _⟩ := h
    rfl
  · obtain ⟨t, u, ns, m, ps, rfl, hS, hP, hj, k⟩ := h
    refine ⟨_, (pss_cons (ps_set (i := 2) sc_behind_all.nd rfl (Or.inl rfl) (pv 0))
      (pss_cons (ps_for PassesOwn.never rfl (pi_tup (pv 1)) (pg_name (i := 3) sc_behind_all.nd rfl (Or.inl rfl))
      (pss_one (ps_set (i := 2) sc_behind_all.nd rfl (Or.inl rfl) (pe_cal C_behind hr rfl pass0 (pa_cons (pv 2) (pa_cons (pv 3) pa_nil))))))
      (pss_one (ps_ret (pv 2))))), ?_⟩
    refine ⟨_, rfl, _, rfl, u, rfl, ⟨_, hP.tp⟩, for_tup (K := K) (a := u) (xs := ps.map fun p => V.ref p.1) (fun i σ H3 => ∃ (ta : Addr) (a : List Int) (v : Option V), σ = [some (.ref t), some (.ref u), some (.ref ta), v] ∧ Same H H3 ∧ SqT K H3 ta (a.map V.int) ∧ a.length = ns.length ∧ jd ns ((ps.map (·.2)).take i) 0 = (none, a))
        ⟨t, ns, none, rfl, Same.refl _, hS, rfl, rfl⟩ (fun i σ H1 _ ⟨_, _, _, _, s1, _⟩ => Same.tup s1 hP.tp) ?_ ?_⟩
    · rintro i x σ H3 hx ⟨ta, a, v, rfl, s3, hT, hlen, hja⟩
      rw [List.getElem?_map] at hx
      obtain ⟨p, hp, rfl⟩ := Option.map_eq_some_iff.mp hx
      obtain ⟨hi, ep⟩ := List.getElem?_eq_some_iff.mp hp
      subst ep
      obtain ⟨q1, q2, q3, q4⟩ := hP.st ps[i] (List.getElem_mem hi)
      have hi' : i < (ps.map (·.2)).length := by rw [List.length_map]; exact hi
      have eg : (ps.map (·.2))[i] = ps[i].2 := List.getElem_map _
      have N := jd_next hi' hja
      have hc := jd_all hi' hj hja
      rw [eg] at N hc
      refine ⟨_, rfl, _, rfl, ta, ps[i].1, a, _, _, rfl, hT, Same.tup s3 q1, by rw [hlen]; exact q2, by rw [hlen]; exact q3, q4, fun p H5 s5 hp hp5 => ?_⟩
      exact ⟨p, mv a ps[i].2.1 ps[i].2.2, _, rfl, s3.trans s5, SqT.of hp5, by rw [len_mv]; exact hlen, N.1 hc⟩
    · rintro σ H3 ⟨ta, a, v, rfl, s3, hT, hlen, hja⟩
      rw [List.length_map, List.take_of_length_le (by rw [List.length_map]; exact Nat.le_refl _)] at hja
      rw [hj] at hja
      have em := (Prod.mk.inj hja).2
      subst em
      exact ⟨_, rfl, k ta H3 s3 hT⟩
abbrev s_made : Stmt := top 21
theorem sc_made : FnScope ["heaps", "plan", "failed"] ["heaps", "plan"] (defScope s_made) := ⟨rfl, rfl, rfl, by decide +kernel, rfl, by decide +kernel, by decide +kernel⟩
theorem ok_made {f C : Addr} {fd : FuncData} (F : Fun K "made" "made" s_made f fd) (B : BpT P w K mg base C) (C_judge : Cal P w K mg base CX0 4 "judge" ["heaps", "plan"] (spJudge K)) (C_behind_all : Cal P w K mg base CX0 3 "behind_all" ["heaps", "plan"] (spBehindAll K)) :
    FnOk P w K mg base (L2.CX P w) 5 f fd ["heaps", "plan"] (spMade K C) := by
  refine F.okX sc_made (fun vs H Q E h => ?_) (fun cdv A outer s H vs Q E hr h => ?_)
  · obtain ⟨t, u, ns, ps, rfl, _⟩ := h
    rfl
  · obtain ⟨t, u, ns, ps, rfl, hS, hg, hP, hl, k1, k2⟩ := h
    obtain ⟨fI, fdI, iI, tI, bI, GI⟩ := B.init
    refine ⟨_, (pss_cons (ps_set (i := 2) sc_made.nd rfl (Or.inl rfl) (pe_cal C_judge hr rfl pass0 (pa_cons (pv 0) (pa_cons (pv 1) pa_nil))))
      (pss_cons (ps_if (pt_cmpR op_notN (pv 2) pe_non (nomark _)) (pss_one (ps_raise rfl (takes_of rfl rfl rfl rfl) (pmk_oex B.ox iI tI GI (hr.mono (by decide)) bI .nil pass0 rfl B.gC (pa_cons (pv 2) pa_nil)))) pss_nil)
      (pss_one (ps_ret (pe_cal C_behind_all hr rfl pass0 (pa_cons (pv 0) (pa_cons (pv 1) pa_nil))))))), ?_⟩
    refine ⟨_, rfl, _, rfl, t, u, ns, ps, rfl, hS, hg, hP, hl, fun H1 s1 => ?_⟩
    cases hj : jd ns (ps.map (·.2)) 0 with
    | mk b m =>
    cases b with
    | some b =>
      refine ⟨_, rfl, rfl, _, rfl, iteT ?_⟩
      refine ⟨_, rfl, (by show 1 ≤ 1000; decide), fun a ha => ⟨a, C, _, rfl, B.ox, B.no, upd_same, fun dx hd hne => ⟨rfl, dx, _, upd_same, (by rw [upd_ne hne]; exact upd_same), ?_, ?_⟩⟩⟩
      · rw [upd_ne hne] at hd
        exact hd
      · rw [upd_ne hne] at hd
        refine k2 b m hj dx _ (fun x o e => ?_) upd_same
        have e1 := s1 x o e
        have n1 : x ≠ dx := ne_of_none e1 hd
        have n2 : x ≠ a := ne_of_none e1 ha
        rw [upd_ne n1, del_ne n2, upd_ne n2, upd_ne n1, upd_ne n2]
        exact e1
    | none =>
      refine ⟨_, rfl, rfl, _, rfl, iteF ?_⟩
      exact ⟨_, rfl, _, rfl, t, u, ns, m, ps, rfl, Same.tup s1 hS, hP.same s1, hj, fun p H' s' q => k1 m hj p H' (s1.trans s') q⟩
end
end Hd
set_option maxHeartbeats 4000000
namespace Hd
open PySem PySem.Spec PyProof.Rows L2
/-- a list at l of steps' tuples -/
structure PrL (K : PySem.W.Frag) (H : Hp) (l : Addr) (n : Nat) (ps : List (Addr × Nat × Nat)) : Prop where
  ls : H l = some (.lst (ps.map fun p => V.ref p.1))
  st : ∀ p ∈ ps, SqT K H p.1 [.int (p.2.1 : Int), .int (p.2.2 : Int)] ∧ p.2.1 < n ∧ p.2.2 < n ∧ p.2.1 ≠ p.2.2
theorem PrL.same {K : PySem.W.Frag} {H H' : Hp} {t : Addr} {n : Nat} {ps : List (Addr × Nat × Nat)} (e : Same H H') (h : PrL K H t n ps) : PrL K H' t n ps :=
  ⟨e _ _ h.ls, fun p hp => let ⟨a, b⟩ := h.st p hp; ⟨Same.tup e a, b⟩⟩
theorem PrL.kept {K : PySem.W.Frag} {H H' : Hp} {t h c : Addr} {n : Nat} {ps : List (Addr × Nat × Nat)} (e : Kept h c H H') (d : DrawAt H h c) (n1 : t ≠ h) (n2 : t ≠ c) (x : PrL K H t n ps) : PrL K H' t n ps :=
  ⟨e _ _ x.ls n1 n2, fun p hp => let ⟨a, b⟩ := x.st p hp; ⟨e.tup d a, b⟩⟩
/-- all pairs, in order -/
def row (n i : Nat) : List (Nat × Nat) := ((List.range n).filter fun j => decide (j ≠ i)).map fun j => (i, j)
def rowTo (i j : Nat) : List (Nat × Nat) := ((List.range j).filter fun j => decide (j ≠ i)).map fun j => (i, j)
def prsTo (n i : Nat) : List (Nat × Nat) := (List.range i).flatMap (row n)
def prs (n : Nat) : List (Nat × Nat) := prsTo n n
theorem prsTo_succ (n i : Nat) : prsTo n (i + 1) = prsTo n i ++ row n i := by
  unfold prsTo
  rw [List.range_succ, List.flatMap_append]
  simp
theorem rowTo_succ (i j : Nat) : rowTo i (j + 1) = rowTo i j ++ (if j = i then [] else [(i, j)]) := by
  unfold rowTo
  rw [List.range_succ, List.filter_append, List.map_append]
  by_cases h : j = i
  · subst h
    simp
  · simp [h]
theorem prs_len {n : Nat} (h2 : n ≤ 6) : (prs n).length = n * (n - 1) := by
  have : n = 0 ∨ n = 1 ∨ n = 2 ∨ n = 3 ∨ n = 4 ∨ n = 5 ∨ n = 6 := by omega
  rcases this with e | e | e | e | e | e | e <;> subst e <;> decide
theorem prsTo_short {n : Nat} (h2 : n ≤ 6) : ∀ i, i ≤ n → (prsTo n i).length ≤ 36 := by
  have : n = 0 ∨ n = 1 ∨ n = 2 ∨ n = 3 ∨ n = 4 ∨ n = 5 ∨ n = 6 := by omega
  rcases this with e | e | e | e | e | e | e <;> subst e <;> decide
def spPairs (K : PySem.W.Frag) : Sp := fun vs H Q _ => ∃ n : Nat, vs = [.int (n : Int)] ∧ n ≤ 6 ∧ ∀ (l : Addr) (qs : List (Addr × Nat × Nat)) (H' : Hp), Same H H' → H l = none → PrL K H' l n qs → qs.map (·.2) = prs n → Q (.ref l) H'
theorem dec_int (a b : Int) : decide (V.int a = V.int b) = decide (a = b) := by
  by_cases z : a = b
  · subst z
    rw [decide_eq_true rfl, decide_eq_true rfl]
  · rw [decide_eq_false z, decide_eq_false fun q => z (V.int.inj q)]
section
variable {P : Program} {w : World} {K : PySem.W.Frag} {mg : Str → Option Value} {base : Heap}
abbrev s_l_can : Stmt := top 26
theorem sc_l_can : FnScope ["_law_heaps_here", "_law_step"] ["_law_heaps_here", "_law_step"] (defScope s_l_can) := ⟨rfl, rfl, rfl, by decide +kernel, rfl, by decide +kernel, by decide +kernel⟩
theorem ok_l_can {f : Addr} {fd : FuncData} (F : Fun K "_law_can" "_law_can" s_l_can f fd) : FnOk P w K mg base CX0 1 f fd ["_law_heaps_here", "_law_step"] (spCan K) := by
  refine F.ok sc_l_can (fun vs H Q E h => ?_) (fun cdv A outer s H vs Q E hr h => ?_)
  · obtain ⟨t, u, ns, i, j, rfl, _⟩ := h
    rfl
  · obtain ⟨t, u, ns, i, j, rfl, hS, hU, hi, hj, k⟩ := h
    refine ⟨_, (pss_one (ps_ret (pe_chain op_lt op_le pe_int (pe_ix ix_tup (pv 0) (pe_ix ix_tup (pv 1) pe_int (fun _ _ => rfl)) (fun _ _ => rfl)) (pe_ix ix_tup (pv 0) (pe_ix ix_tup (pv 1) pe_int (fun _ _ => rfl)) (fun _ _ => rfl))))), ?_⟩
    refine ⟨_, rfl, _, rfl, u, _, _, _, rfl, rfl, hU, rfl, t, _, _, _, rfl, rfl, hS, at_of rfl (getD_at hj), _, _, rfl, rfl, _, rfl, ?_⟩
    unfold can at k
    cases hd : decide (0 < ns.getD j 0) with
    | false =>
      rw [hd] at k
      exact iteF k
    | true =>
      rw [hd] at k
      exact iteT ⟨_, rfl, _, rfl, u, _, _, _, rfl, rfl, hU, rfl, t, _, _, _, rfl, rfl, hS, at_of rfl (getD_at hi), _, _, rfl, rfl, k⟩
abbrev s_l_behind : Stmt := top 27
theorem sc_l_behind : FnScope ["_law_heaps_here", "_law_step", "_law_row"] ["_law_heaps_here", "_law_step"] (defScope s_l_behind) := ⟨rfl, rfl, rfl, by decide +kernel, rfl, by decide +kernel, by decide +kernel⟩
theorem ok_l_behind {f : Addr} {fd : FuncData} (F : Fun K "_law_behind" "_law_behind" s_l_behind f fd) (T : Tx K mg) : FnOk P w K mg base CX0 1 f fd ["_law_heaps_here", "_law_step"] (spBehind K) := by
  refine F.ok sc_l_behind (fun vs H Q E h => ?_) (fun cdv A outer s H vs Q E hr h => ?_)
  · obtain ⟨t, u, ns, i, j, rfl, _⟩ := h
    rfl
  · obtain ⟨t, u, ns, i, j, rfl, hS, hU, hi, hj, hij, k⟩ := h
    refine ⟨_, (pss_cons (ps_set (i := 2) sc_l_behind.nd rfl (Or.inl rfl) (pe_callTy call_list_of (by rfl) T.list (by decide +kernel) (pa_cons (pv 0) pa_nil)))
      (pss_cons (ps_asg (pe_op op_sub (pe_ix ix_list (pv 2) (pe_ix ix_tup (pv 1) pe_int (fun _ _ => rfl)) (fun _ _ => rfl)) (pe_ix ix_tup (pv 0) (pe_ix ix_tup (pv 1) pe_int (fun _ _ => rfl)) (fun _ _ => rfl))) (pg_sub (pv 2) (pe_ix ix_tup (pv 1) pe_int (fun _ _ => rfl)) set_list))
      (pss_cons (ps_asg (pe_op op_add (pe_ix ix_list (pv 2) (pe_ix ix_tup (pv 1) pe_int (fun _ _ => rfl)) (fun _ _ => rfl)) (pe_ix ix_tup (pv 0) (pe_ix ix_tup (pv 1) pe_int (fun _ _ => rfl)) (fun _ _ => rfl))) (pg_sub (pv 2) (pe_ix ix_tup (pv 1) pe_int (fun _ _ => rfl)) set_list))
      (pss_one (ps_ret (pe_callTy call_tuple_of (by rfl) T.tuple (by decide +kernel) (pa_cons (pv 2) pa_nil))))))), ?_⟩
    refine ⟨_, rfl, t, _, rfl, .inr hS, fun l hl => ?_⟩
    have s1 : Same H (upd H l (.lst (ns.map V.int))) := Same.new hl
    refine ⟨_, rfl, _, rfl, u, _, _, _, rfl, rfl, Same.tup s1 hU, rfl, l, _, _, _, rfl, rfl, SqL.of upd_same, at_of rfl (getD_at hi), _, rfl, _, rfl, u, _, _, _, rfl, rfl, Same.tup s1 hU, rfl, t, _, _, _, rfl, rfl, Same.tup s1 hS, at_of rfl (getD_at hj), _, _, rfl, rfl, ?_⟩
    refine ⟨_, rfl, _, rfl, u, _, _, _, rfl, rfl, Same.tup s1 hU, rfl, l, _, _, i, rfl, rfl, upd_same, (by rw [List.length_map]; exact ixN_nat hi), ?_⟩
    rw [upd_upd]
    have s2 : Same H (upd H l (.lst ((ns.map V.int).set i (.int (ns.getD i 0 - ns.getD j 0))))) := Same.new hl
    refine ⟨_, rfl, _, rfl, u, _, _, _, rfl, rfl, Same.tup s2 hU, rfl, l, _, _, _, rfl, rfl, SqL.of upd_same, at_of rfl (by rw [List.getElem?_set_ne hij]; exact getD_at hj), _, rfl, _, rfl, u, _, _, _, rfl, rfl, Same.tup s2 hU, rfl, t, _, _, _, rfl, rfl, Same.tup s2 hS, at_of rfl (getD_at hj), _, _, rfl, rfl, ?_⟩
    refine ⟨_, rfl, _, rfl, u, _, _, _, rfl, rfl, Same.tup s2 hU, rfl, l, _, _, j, rfl, rfl, upd_same, (by rw [List.length_set, List.length_map]; exact ixN_nat hj), ?_⟩
    rw [upd_upd]
    refine ⟨_, rfl, l, _, rfl, .inl ⟨SqL.of upd_same, fun p hp => ?_⟩⟩
    have hpl : p ≠ l := fun e => by
      rw [e, upd_same] at hp
      cases hp
    have hp0 : H p = none := by
      rw [upd_ne hpl] at hp
      exact hp
    refine k p _ (same_upd (Same.new hl) hp0) hp0 ?_
    rw [upd_same]
    unfold mv shf
    rw [List.map_set, List.map_set]
abbrev s_l_pairs : Stmt := top 28
theorem sc_l_pairs : FnScope ["_law_size", "_law_found", "_law_one", "_law_other"] ["_law_size"] (defScope s_l_pairs) := ⟨rfl, rfl, rfl, by decide +kernel, rfl, by decide +kernel, by decide +kernel⟩
theorem ok_l_pairs {f : Addr} {fd : FuncData} (F : Fun K "_law_pairs" "_law_pairs" s_l_pairs f fd) (T : Tx K mg) : FnOk P w K mg base CX0 1 f fd ["_law_size"] (spPairs K) := by
  refine F.ok sc_l_pairs (fun vs H Q E h => ?_) (fun cdv A outer s H vs Q E hr h => ?_)
  · obtain ⟨n, rfl, _⟩ := h
    rfl
  · obtain ⟨n, rfl, hn, k⟩ := h
    refine ⟨_, (pss_cons (ps_set (i := 1) sc_l_pairs.nd rfl (Or.inl rfl) (pe_lst pa_nil))
      (pss_cons (ps_for PassesOwn.never rfl (pi_range1 rfl T.range (pa_cons (pv 0) pa_nil)) (pg_name (i := 2) sc_l_pairs.nd rfl (Or.inr rfl))
      (pss_one (ps_set (i := 1) sc_l_pairs.nd rfl (Or.inl rfl) (pe_op op_cat (pv 1) (pe_lc (own := [("_law_other", 3)]) (g := gName 3) (by rfl) sc_l_pairs.nd (pi_range1 rfl T.range (pa_cons (pv 0) pa_nil)) (blkOk_by (own := [("_law_other", 3)]) (N := ["_law_size", "_law_found", "_law_one", "_law_other"]) (sc := defScope s_l_pairs) (by decide +kernel)) (fun _ _ _ _ _ => pg_name (i := 3) sc_l_pairs.nd rfl (Or.inl rfl)) (fun _ _ _ _ _ => pts_one (pt_cmpR op_ne (pv 3) (pv 2) (nomark _))) (fun _ _ _ _ _ => (pe_tup (pa_cons (pv 2) (pa_cons (pv 3) pa_nil)))))))))
      (pss_one (ps_ret (pv 1))))), ?_⟩
    refine ⟨by show 0 ≤ sizeLine; decide, fun l0 hl0 => ?_⟩
    refine ⟨_, rfl, _, rfl, by omega, by omega, ?_⟩
    rw [Int.toNat_natCast]
    refine for_range (lo := 0) (n := n) (fun i σ H1 => ∃ (l : Addr) (qs : List (Addr × Nat × Nat)) (v1 v2 : Option V), σ = [some (.int (n : Int)), some (.ref l), v1, v2] ∧ Same H H1 ∧ H l = none ∧ PrL K H1 l n qs ∧ qs.map (·.2) = prsTo n i) ⟨l0, [], none, none, rfl, Same.new hl0, hl0, ⟨upd_same, fun p hp => (nomatch hp)⟩, rfl⟩ ?_ ?_
    · rintro i σ H1 hi ⟨l, qs, v1, v2, rfl, s1, hl, hP, hq⟩
      rw [Int.zero_add]
      have hql : qs.length ≤ 36 := by
        have e := congrArg List.length hq
        rw [List.length_map] at e
        rw [e]
        exact prsTo_short hn i (by omega)
      refine ⟨_, rfl, _, rfl, _, rfl, by omega, by omega, ?_⟩
      rw [Int.toNat_natCast]
      intro D hD
      refine lc_range (lo := 0) (n := n) (fun j H2 => ∃ rs : List (Addr × Nat × Nat), Same H1 H2 ∧ PrL K H2 D n rs ∧ rs.map (·.2) = rowTo i j) ⟨[], Same.new hD, ⟨upd_same, fun p hp => (nomatch hp)⟩, rfl⟩ ?_ ?_
      · rintro j H2 hj ⟨rs, s2, hR, hr2⟩
        rw [Int.zero_add]
        refine ⟨rfl, _, rfl, _, rfl, rfl, _, rfl, ?_⟩
        rw [dec_int]
        have hrl : rs.length ≤ j := by
          have e := congrArg List.length hr2
          rw [List.length_map] at e
          rw [e]
          unfold rowTo
          rw [List.length_map]
          exact Nat.le_trans (List.length_filter_le _ _) (by rw [List.length_range]; exact Nat.le_refl _)
        by_cases hji : j = i
        · have z : decide ((j : Int) = (i : Int)) = true := decide_eq_true (by omega)
          rw [z]
          refine iteF ⟨rs, s2, hR, ?_⟩
          rw [rowTo_succ, if_pos hji, List.append_nil]
          exact hr2
        · have z : decide ((j : Int) = (i : Int)) = false := decide_eq_false (by omega)
          rw [z]
          refine iteT ⟨_, rfl, _, rfl, by show 2 ≤ sizeLine; decide, fun TT hT => ?_⟩
          have s3 : Same H2 (upd H2 TT (.tup [.int (i : Int), .int (j : Int)])) := Same.new hT
          refine ⟨_, s3 _ _ hR.ls, ?_, rs ++ [(TT, i, j)], same_upd (s2.trans s3) hD, ⟨?_, fun p hp => ?_⟩, ?_⟩
          · rw [List.length_map, sizeLine_eq]
            omega
          · rw [upd_same, List.map_append]
            rfl
          · have nTD : TT ≠ D := (ne_of_none hR.ls hT).symm
            rcases List.mem_append.mp hp with hp | hp
            · obtain ⟨a, b⟩ := hR.st p hp
              refine ⟨?_, b⟩
              have a3 := Same.tup s3 a
              have a4 : SqT K (upd (upd H2 TT (.tup [.int (i : Int), .int (j : Int)])) D (.lst (rs.map (fun p => V.ref p.1) ++ [V.ref TT]))) p.1 [.int (p.2.1 : Int), .int (p.2.2 : Int)] := by
                rcases a3 with (a3 | ⟨o, a3⟩) | a3
                · exact .inl (.inl (by rw [upd_ne (ne_of a3 (s3 _ _ hR.ls) (by intro z; cases z))]; exact a3))
                · exact .inl (.inr ⟨o, by rw [upd_ne (ne_of a3 (s3 _ _ hR.ls) (by intro z; cases z))]; exact a3⟩)
                · exact .inr a3
              exact a4
            · have ep : p = (TT, i, j) := by simpa using hp
              subst ep
              exact ⟨SqT.of (by rw [upd_ne nTD, upd_same]), hi, hj, fun z => hji z.symm⟩
          · rw [List.map_append, hr2, rowTo_succ, if_neg hji]
            rfl
      · rintro H2 ⟨rs, s2, hR, hr2⟩
        refine ⟨l, D, _, _, rfl, rfl, s2 _ _ hP.ls, hR.ls, ?_, fun p hp => ?_⟩
        · have e := congrArg List.length hr2
          rw [List.length_map] at e
          unfold rowTo at e
          rw [List.length_map] at e
          have := List.length_filter_le (fun j => decide (j ≠ i)) (List.range n)
          rw [List.length_range] at this
          rw [List.length_map, List.length_map, sizeLine_eq]
          omega
        have s3 : Same H2 (upd H2 p (.lst (qs.map (fun p => V.ref p.1) ++ rs.map (fun p => V.ref p.1)))) := Same.new hp
        have s4 := (s1.trans s2).trans s3
        refine ⟨p, qs ++ rs, _, _, rfl, s4, (s1.trans s2).free hp, ⟨by rw [upd_same, List.map_append], fun q hq' => ?_⟩, by rw [List.map_append, hq, hr2, prsTo_succ]; rfl⟩
        rcases List.mem_append.mp hq' with hq' | hq'
        · exact (hP.same (s2.trans s3)).st q hq'
        · exact (hR.same s3).st q hq'
    · rintro σ H1 ⟨l, qs, v1, v2, rfl, s1, hl, hP, hq⟩
      exact ⟨_, rfl, k l qs H1 s1 hl hP hq⟩
end
end Hd
set_option maxHeartbeats 4000000
namespace Hd
open PySem PySem.Spec PyProof.Rows L2
/-- f(e, ..) in a try's body, f a def that may raise -/
theorem pe_calS {X : Cx} {j k : Nat} {x : Str} {ps : List Str} {sp : Sp} {E : L2.St → XK} {e : Expr} {es : List Expr} {t : TA} {p pos : Pos} {CX : CXT} (C : Cal X.prog X.w X.K X.mg X.base CX j x ps sp) (hr : Room k X.A) (hg : Gl X x)
    (hx : ∀ σ, PassesAt CX X σ (E σ)) (ha : PA X (e :: es) t) (hk : j ≤ k := by decide) (hdb : (x == ("__debug__" : Str)) = false := by decide) (he : starEach (e :: es) X.env = (false, eval e X.env) :: starEach es X.env := by rfl)
    (hpl : (backTo pos (starEach es X.env)).any (·.1) = false := by rfl) : PE X (.Call (.Name x p) (e :: es) [] pos) (tCallS sp E t) := by
  obtain ⟨f, fd, hm, kp, hb, F⟩ := C.ex
  exact pe_callS F (hr.mono hk) hg hm kp hb hx ha hdb he hpl
def tdv (r : Option Nat × List Int) (K : PySem.W.Frag) (H : Hp) (v : V) : Prop := match r with
  | (none, m) => ∃ p, v = .ref p ∧ SqT K H p (m.map V.int)
  | (some b, _) => v = .int (b : Int)
def spTold (K : PySem.W.Frag) : Sp := fun vs H Q _ => ∃ (t u : Addr) (ns : List Int) (ps : List (Addr × Nat × Nat)), vs = [.ref t, .ref u] ∧ SqT K H t (ns.map V.int) ∧ hpsB ns = true ∧ PlanAt K H u ns.length ps ∧ ps.length ≤ 20000 ∧
  ∀ v H', Same H H' → tdv (jd ns (ps.map (·.2)) 0) K H' v → Q v H'
def t_told (K : PySem.W.Frag) (C : Addr) : TS := fun D σ H => tRet (tCallS (spMade K C) (WE (wAs K (.ref C) 2 (fun a cls d => tRet (tXf a cls d C "index" (tVar 2))) (fun _ _ _ _ => False) D)) (tCons (tVar 0) (tCons (tVar 1) tNil))) D σ H
section
variable {P : Program} {w : World} {K : PySem.W.Frag} {mg : Str → Option Value} {base : Heap}
abbrev s_l_told : Stmt := top 29
theorem sc_l_told : FnScope ["_law_heaps_here", "_law_plan", "e"] ["_law_heaps_here", "_law_plan"] (defScope s_l_told) := ⟨rfl, rfl, rfl, by decide +kernel, rfl, by decide +kernel, by decide +kernel⟩
theorem ok_l_told {f C : Addr} {fd : FuncData} (F : Fun K "_law_told" "_law_told" s_l_told f fd) (B : BpT P w K mg base C) (C_made : Cal P w K mg base (L2.CX P w) 5 "made" ["heaps", "plan"] (spMade K C)) : FnOk P w K mg base CX0 6 f fd ["_law_heaps_here", "_law_plan"] (spTold K) := by
  refine F.ok sc_l_told (fun vs H Q E h => ?_) (fun cdv A outer s H vs Q E hr h => ?_)
  · obtain ⟨t, u, ns, ps, rfl, _⟩ := h
    rfl
  · obtain ⟨t, u, ns, ps, rfl, hS, hg, hP, hl, k⟩ := h
    refine ⟨t_told K C, ?_, ?_⟩
    · exact pss_one (ps_try_as (i := 2) (tb := fun W => tRet (tCallS (spMade K C) (WE W) (tCons (tVar 0) (tCons (tVar 1) tNil)))) (ts := fun a cls d => tRet (tXf a cls d C "index" (tVar 2))) (Wout := fun _ _ _ _ => False) rfl rfl sc_l_told.nd rfl rfl ⟨rfl, by decide, Or.inl B.gC⟩ takes0
      (fun W pn xe tk _ => pss_one (ps_ret (by exact (pe_calS C_made hr rfl (fun σ => passAt tk σ) (by exact (pa_cons (pv 0) (pa_cons (pv 1) pa_nil)))))))
      (fun a oe cls d pn hz hf => pss_one (ps_ret (by exact (pe_xf B.xf B.no hz hf (pv 2))))))
    refine ⟨_, rfl, _, rfl, t, u, ns, ps, rfl, hS, hg, hP, hl, fun m hj p H' s1 hp => ?_, fun b m hj d H' s1 hd => ?_⟩
    · exact k _ _ s1 (by rw [hj]; exact ⟨p, rfl, hp⟩)
    · refine ⟨true, B.te, fun _ a ha => ?_, fun q => nomatch q⟩
      refine ⟨_, rfl, rfl, rfl, d, _, _, rfl, hd, rfl, k _ _ s1 (by rw [hj]; rfl)⟩
end
end Hd
set_option maxHeartbeats 8000000
namespace Hd
open PySem PySem.Spec PyProof.Rows L2
/-- what stands at a turn's start -/
structure LwSt (K : PySem.W.Frag) (H : Hp) (h c t0 th lp : Addr) (ns m : List Int) (b : Option Nat) (ps : List (Addr × Nat × Nat)) : Prop where
  dr : DrawAt H h c
  t0 : SqT K H t0 (ns.map V.int)
  th : SqT K H th (m.map V.int)
  pl : PrL K H lp ns.length ps
  n1 : lp ≠ h
  n2 : lp ≠ c
  jg : jd ns (ps.map (·.2)) 0 = (b, m)
section
variable {K : PySem.W.Frag} {H H' : Hp} {h c t0 th lp : Addr} {ns m : List Int} {b : Option Nat} {ps : List (Addr × Nat × Nat)}
theorem LwSt.same (S : LwSt K H h c t0 th lp ns m b ps) (e : Same H H') : LwSt K H' h c t0 th lp ns m b ps :=
  ⟨S.dr.same e, Same.tup e S.t0, Same.tup e S.th, S.pl.same e, S.n1, S.n2, S.jg⟩
theorem LwSt.kept (S : LwSt K H h c t0 th lp ns m b ps) (e : Kept h c H H') (d : DrawAt H' h c) : LwSt K H' h c t0 th lp ns m b ps :=
  ⟨d, e.tup S.dr S.t0, e.tup S.dr S.th, S.pl.kept e S.dr S.n1 S.n2, S.n1, S.n2, S.jg⟩
theorem LwSt.len (S : LwSt K H h c t0 th lp ns m b ps) : m.length = ns.length := by
  have e := len_jd (ps.map (·.2)) ns 0
  rw [S.jg] at e
  exact e
end
theorem heaps_ok {ns : List Int} (h : HeapsOk 2 6 ns) : hpsB ns = true := by
  have hs : ∀ (l : List Int), (∀ n ∈ l, 0 ≤ n) → 0 ≤ l.sum ∧ ∀ n ∈ l, n ≤ l.sum := by
    intro l
    induction l with
    | nil => intro _; exact ⟨Int.le_refl _, fun n hn => (nomatch hn)⟩
    | cons a r ih =>
      intro hg
      obtain ⟨i1, i2⟩ := ih fun n hn => hg n (List.mem_cons_of_mem _ hn)
      have ha := hg a List.mem_cons_self
      rw [List.sum_cons]
      refine ⟨by omega, fun n hn => ?_⟩
      rcases List.mem_cons.mp hn with e | hn
      · subst e
        omega
      · have := i2 n hn
        omega
  obtain ⟨n, hn, hp⟩ := h.pos
  have := (hs ns h.ge).2 n hn
  unfold hpsB
  simp only [Bool.and_eq_true, decide_eq_true_eq, List.all_eq_true, List.mem_map]
  refine ⟨⟨h.lo, h.hi⟩, fun x ⟨y, hy, e⟩ => ?_, by omega⟩
  subst e
  unfold inR
  simp only [id, Bool.and_eq_true, decide_eq_true_eq]
  exact ⟨h.ge y hy, h.le y hy⟩
theorem sum_mv {ns : List Int} {i j : Nat} (hi : i < ns.length) (hj : j < ns.length) (hij : i ≠ j) : (mv ns i j).sum = ns.sum := by
  unfold mv shf
  have g : ∀ {l : List Int} {k : Nat}, k < l.length → l[k]? = some (l.getD k 0) := fun {l k} hk => by
    rw [List.getD_eq_getElem?_getD, List.getElem?_eq_getElem hk]
    rfl
  have e1 := sum_set (y := ns.getD i 0 - ns.getD j 0) (g hi)
  have e2 : (ns.set i (ns.getD i 0 - ns.getD j 0))[j]? = some (ns.getD j 0) := by
    rw [List.getElem?_set_ne hij]
    exact g hj
  rw [sum_set e2, e1]
  omega
theorem sum_jd : ∀ (ps : List (Nat × Nat)) (ns : List Int) (k : Nat), (∀ p ∈ ps, p.1 < ns.length ∧ p.2 < ns.length ∧ p.1 ≠ p.2) → (jd ns ps k).2.sum = ns.sum
  | [], _, _, _ => rfl
  | p :: r, ns, k, h => by
    show (if can ns p.1 p.2 = true then jd (mv ns p.1 p.2) r (k + 1) else (some k, ns)).2.sum = _
    split
    · obtain ⟨h1, h2, h3⟩ := h p List.mem_cons_self
      rw [sum_jd r _ _ fun q hq => by rw [len_mv]; exact h q (List.mem_cons_of_mem _ hq), sum_mv h1 h2 h3]
    · rfl
/-! ### data of steps and heaps -/
def pd (q : Addr × Nat × Nat) : PyData := .tuple [.int (q.2.1 : Int), .int (q.2.2 : Int)]
theorem pds_lay : ∀ qs : List (Addr × Nat × Nat), PyData.canLayAll0 (qs.map pd) = true
  | [] => by simp [PyData.canLayAll0]
  | q :: qs => by
    have e : (pd q).canLay0 = true := by simp [pd, PyData.canLay0, PyData.canLayAll0]
    simp [PyData.canLayAll0, e, pds_lay qs]
theorem pds_deep : ∀ qs : List (Addr × Nat × Nat), PyData.depthAll (qs.map pd) ≤ 1
  | [] => by simp [PyData.depthAll]
  | q :: qs => by
    have e : (pd q).depth = 1 := by simp [pd, PyData.depth, PyData.depthAll]
    have := pds_deep qs
    simp only [List.map_cons, PyData.depthAll]
    omega
theorem shaped_mk {d : PyData} (h1 : d.canLay0 = true) (h2 : d.depth ≤ 64) : SeqAt.shaped d = true := by
  unfold SeqAt.shaped
  rw [h1, decide_eq_true h2]
  rfl
theorem pds_shaped (qs : List (Addr × Nat × Nat)) : SeqAt.shaped (.list (qs.map pd)) = true := by
  refine shaped_mk ?_ ?_
  · simp only [PyData.canLay0]
    exact pds_lay qs
  · have := pds_deep qs
    simp only [PyData.depth]
    omega
theorem int_shaped (i : Int) : SeqAt.shaped (.int i) = true := shaped_mk (by simp only [PyData.canLay0]) (by simp only [PyData.depth]; omega)
theorem ints_lay : ∀ ns : List Int, PyData.canLayAll0 (ns.map PyData.int) = true
  | [] => by simp [PyData.canLayAll0]
  | n :: ns => by simp [PyData.canLayAll0, PyData.canLay0, ints_lay ns]
theorem ints_deep : ∀ ns : List Int, PyData.depthAll (ns.map PyData.int) = 0
  | [] => by simp [PyData.depthAll]
  | n :: ns => by
    have := ints_deep ns
    simp only [List.map_cons, PyData.depthAll, PyData.depth]
    omega
theorem tint_shaped (ns : List Int) : SeqAt.shaped (.tuple (ns.map PyData.int)) = true := by
  refine shaped_mk ?_ ?_
  · simp only [PyData.canLay0]
    exact ints_lay ns
  · have := ints_deep ns
    simp only [PyData.depth]
    omega
theorem dp_ints {K : PySem.W.Frag} {H : Hp} : ∀ ns : List Int, DpAll K H (ns.map V.int) (ns.map PyData.int)
  | [] => .nil
  | n :: ns => .cons (.int n) (dp_ints ns)
theorem dp_pds {K : PySem.W.Frag} {H : Hp} : ∀ qs : List (Addr × Nat × Nat), (∀ q ∈ qs, SqT K H q.1 [.int (q.2.1 : Int), .int (q.2.2 : Int)]) → DpAll K H (qs.map fun p => V.ref p.1) (qs.map pd)
  | [], _ => .nil
  | q :: qs, h => .cons (.tup (h q List.mem_cons_self) (.cons (.int _) (.cons (.int _) .nil))) (dp_pds qs fun x hx => h x (List.mem_cons_of_mem _ hx))
theorem eqv_none (qs : List (Addr × Nat × Nat)) : PyData.eqv (.list (qs.map pd)) (.list []) = qs.isEmpty := by
  cases qs with
  | nil => simp [PyData.eqv, PyData.eqvAll]
  | cons q qs => simp [PyData.eqv, PyData.eqvAll]
theorem jv_scal (a b : Option Nat) : scal (jv a) (jv b) = true := by
  cases a <;> cases b <;> rfl
theorem jv_non (b : Option Nat) : decide (jv b = V.non) = b.isNone := by
  cases b with
  | none => exact decide_eq_true rfl
  | some k => exact decide_eq_false fun z => nomatch z
theorem ways {n : Nat} (h2 : 2 ≤ n) (h6 : n ≤ 6) : (n : Int) * ((n : Int) - 1) = ((n * (n - 1) : Nat) : Int) ∧ 0 < n * (n - 1) ∧ n * (n - 1) ≤ 30 := by
  have : n = 2 ∨ n = 3 ∨ n = 4 ∨ n = 5 ∨ n = 6 := by omega
  rcases this with e | e | e | e | e <;> subst e <;> decide
def spLaw (K : PySem.W.Frag) : Sp := fun vs H Q _ => ∃ (a : Addr) (ns : List Int), vs = [.ref a] ∧ SqL K H a (ns.map V.int) ∧ ns.length ≤ 63 ∧ ∀ H', Q (.bl true) H'
section
variable {P : Program} {w : World} {K : PySem.W.Frag} {mg : Str → Option Value} {base : Heap}
abbrev s_law : Stmt := top 30
theorem sc_law : FnScope ["_law_script", "_law_h", "_law_heaps_here", "_law_here", "_law_plan", "_law_bad", "_law_turn", "_law_step", "_law_fine"] ["_law_script"] (defScope s_law) := ⟨rfl, rfl, rfl, by decide +kernel, rfl, by decide +kernel, by decide +kernel⟩
theorem ok_law {f : Addr} {fd : FuncData} (F : Fun K "law" "law" s_law f fd) (T : Tp K mg) (C_l_mix : Cal P w K mg base CX0 1 "_law_mix" ["_law_script", "_law_seed"] (spMix K)) (C_l_next : Cal P w K mg base CX0 1 "_law_next" ["_law_h", "_law_bound"] spNext)
    (C_l_heaps : Cal P w K mg base CX0 2 "_law_heaps" ["_law_h", "_law_least", "_law_most"] spHeaps) (C_l_can : Cal P w K mg base CX0 1 "_law_can" ["_law_heaps_here", "_law_step"] (spCan K)) (C_l_behind : Cal P w K mg base CX0 1 "_law_behind" ["_law_heaps_here", "_law_step"] (spBehind K))
    (C_l_pairs : Cal P w K mg base CX0 1 "_law_pairs" ["_law_size"] (spPairs K)) (C_judge : Cal P w K mg base CX0 4 "judge" ["heaps", "plan"] (spJudge K)) (C_l_told : Cal P w K mg base CX0 6 "_law_told" ["_law_heaps_here", "_law_plan"] (spTold K)) :
    FnOk P w K mg base CX0 7 f fd ["_law_script"] (spLaw K) := by
  refine F.ok sc_law (fun vs H Q E h => ?_) (fun cdv A outer s H vs Q E hr h => ?_)
  · obtain ⟨a, ns, rfl, _⟩ := h
    rfl
  · obtain ⟨a, zs, rfl, hS, hlen, k⟩ := h
    refine ⟨_, (pss_cons (ps_set (i := 1) sc_law.nd rfl (Or.inl rfl) (pe_cal C_l_mix hr rfl pass0 (pa_cons (pv 0) (pa_cons pe_int pa_nil))))
      (pss_cons (ps_set (i := 2) sc_law.nd rfl (Or.inl rfl) (pe_cal C_l_heaps hr rfl pass0 (pa_cons (pv 1) (pa_cons pe_int (pa_cons pe_int pa_nil)))))
      (pss_cons (ps_asg (pe_tup (pa_cons (pv 2) (pa_cons (pe_lst pa_nil) (pa_cons pe_non pa_nil)))) (pg_tup rfl (pgs_cons (pg_name (i := 3) sc_law.nd rfl (Or.inr rfl)) (pgs_cons (pg_name (i := 4) sc_law.nd rfl (Or.inl rfl)) (pgs_cons (pg_name (i := 5) sc_law.nd rfl (Or.inl rfl)) pgs_nil)))))
      (pss_cons (ps_for PassesOwn.never rfl (pi_range1 rfl T.range (pa_cons (pe_cal C_l_next hr rfl pass0 (pa_cons (pv 1) (pa_cons pe_int pa_nil))) pa_nil)) (pg_name (i := 6) sc_law.nd rfl (Or.inl rfl))
      (pss_cons (ps_setLc (i := 8) (own := [("_law_step", 7)]) (g := gName 7) (by rfl) sc_law.nd rfl rfl (sw_true rfl rfl rfl (by decide +kernel)) (pi_list (pe_cal C_l_pairs hr rfl pass0 (pa_cons (pe_callB call_len_seq (by rfl) T.len PySem.boot_len (pa_cons (pv 2) pa_nil)) pa_nil))) (blkOk_by (own := [("_law_step", 7)]) (N := ["_law_script", "_law_h", "_law_heaps_here", "_law_here", "_law_plan", "_law_bad", "_law_turn", "_law_step", "_law_fine"]) (sc := defScope s_law) (by decide +kernel)) (fun _ _ _ _ _ => pg_name (i := 7) sc_law.nd rfl (Or.inl rfl)) (fun _ _ _ _ _ => pts_one (pt_val (pe_cal C_l_can hr rfl pass0 (pa_cons (pv 3) (pa_cons (pv 7) pa_nil))))) (fun _ _ _ _ _ => (pv 7)))
      (pss_cons (ps_set (i := 7) sc_law.nd rfl (Or.inl rfl) (pe_ix ix_list (pe_cal C_l_pairs hr rfl pass0 (pa_cons (pe_callB call_len_seq (by rfl) T.len PySem.boot_len (pa_cons (pv 2) pa_nil)) pa_nil)) (pe_cal C_l_next hr rfl pass0 (pa_cons (pv 1) (pa_cons (pe_op op_mul (pe_callB call_len_seq (by rfl) T.len PySem.boot_len (pa_cons (pv 2) pa_nil)) (pe_op op_sub (pe_callB call_len_seq (by rfl) T.len PySem.boot_len (pa_cons (pv 2) pa_nil)) pe_int)) pa_nil))) (fun _ _ => rfl)))
      (pss_cutM (ps_if (PW.pt (pw_and (pt_cmpR (op_neD hr.units) (pv 8) (pe_lst pa_nil) (nomark _)) (pw_and1 (pt_cmpR op_gt (pe_cal C_l_next hr rfl pass0 (pa_cons (pv 1) (pa_cons pe_int pa_nil))) pe_int (nomark _))))) (pss_one (ps_set (i := 7) sc_law.nd rfl (Or.inl rfl) (pe_ix ix_list (pv 8) (pe_cal C_l_next hr rfl pass0 (pa_cons (pv 1) (pa_cons (pe_callB call_len_seq (by rfl) T.len PySem.boot_len (pa_cons (pv 8) pa_nil)) pa_nil))) (fun _ _ => rfl)))) pss_nil)
      (pss_cons (ps_expr (pe_bm PySem.F.plainAttrs_list PySem.F.slot_list_append PySem.F.type_list_append mt_append (pv 4) (pa_cons (pv 7) pa_nil)))
      (pss_cutM (ps_if (PW.pt (pw_and (pt_cmpR op_isN (pv 5) pe_non (nomark _)) (pw_and1 (pt_not (pt_val (pe_cal C_l_can hr rfl pass0 (pa_cons (pv 3) (pa_cons (pv 7) pa_nil)))))))) (pss_one (ps_set (i := 5) sc_law.nd rfl (Or.inl rfl) (pe_op op_sub (pe_callB call_len_seq (by rfl) T.len PySem.boot_len (pa_cons (pv 4) pa_nil)) pe_int))) pss_nil)
      (pss_one (ps_if (pt_cmpR op_isN (pv 5) pe_non (nomark _)) (pss_one (ps_set (i := 3) sc_law.nd rfl (Or.inr rfl) (pe_cal C_l_behind hr rfl pass0 (pa_cons (pv 3) (pa_cons (pv 7) pa_nil))))) pss_nil))))))))
      (pss_cons (ps_if (pt_cmpR op_ne (pe_cal C_judge hr rfl pass0 (pa_cons (pv 2) (pa_cons (pe_callTy call_tuple_of (by rfl) T.tuple (by decide +kernel) (pa_cons (pv 4) pa_nil)) pa_nil))) (pv 5) (nomark _)) (pss_one (ps_ret pe_bl)) pss_nil)
      (pss_one (ps_ret (pe_and (pe_cmpR (op_eqD hr.units) (pe_cal C_l_told hr rfl pass0 (pa_cons (pv 2) (pa_cons (pe_callTy call_tuple_of (by rfl) T.tuple (by decide +kernel) (pa_cons (pv 4) pa_nil)) pa_nil))) (pe_ifExp (pt_cmpR op_isN (pv 5) pe_non (nomark _)) (pv 3) (pv 5)) (nomark _)) (pe_one (pe_cmpR op_eq (pe_callB (cr_sumT rfl) (by rfl) T.sum (by decide +kernel) (pa_cons (pv 3) pa_nil)) (pe_callB (cr_sumT rfl) (by rfl) T.sum (by decide +kernel) (pa_cons (pv 2) pa_nil)) (nomark _))))))))))), ?_⟩
    -- _law_h, _law_heaps_here
    refine ⟨_, rfl, a, zs, 2, rfl, hS, hlen, fun h c H1 _ _ s1 D1 => ?_⟩
    refine ⟨_, rfl, h, c, 2, 6, rfl, D1, by decide, by decide, by decide, fun t0 ns H2 O ht0 ht2 D2 k2 => ?_⟩
    have hg := heaps_ok O
    have hlo := O.lo
    have hl6 := O.hi
    -- _law_here, _law_plan, _law_bad
    refine ⟨_, rfl, by show 0 ≤ sizeLine; decide, fun lp hlp => ⟨by show 3 ≤ sizeLine; decide, fun tt htt => ?_⟩⟩
    have n0 := D2.nots hlp
    have s3 : Same H2 (upd (upd H2 lp (.lst [])) tt (.tup [.ref t0, .ref lp, .non])) := same_upd (Same.new hlp) (by
      have q : tt ≠ lp := fun e => by
        rw [e, upd_same] at htt
        cases htt
      rw [upd_ne q] at htt
      exact htt)
    have hlp3 : (upd (upd H2 lp (.lst [])) tt (.tup [.ref t0, .ref lp, .non])) lp = some (.lst []) := by
      rw [upd_ne (ne_of_none upd_same htt)]
      exact upd_same
    refine ⟨tt, _, rfl, SqT.of upd_same, rfl, _, _, rfl, _, _, rfl, _, _, rfl, rfl, ?_⟩
    have S0 : LwSt K (upd (upd H2 lp (.lst [])) tt (.tup [.ref t0, .ref lp, .non])) h c t0 t0 lp ns ns none [] :=
      ⟨D2.same s3, SqT.of (s3 _ _ ht2), SqT.of (s3 _ _ ht2), ⟨hlp3, fun p hp => (nomatch hp)⟩, n0.1, n0.2, rfl⟩
    generalize upd (upd H2 lp (.lst [])) tt (.tup [.ref t0, .ref lp, .non]) = H3 at S0 ⊢
    -- for _law_turn in range(..)
    refine ⟨_, rfl, h, c, 31, rfl, S0.dr, by decide, by decide, fun kt H4 l4 u4 D4 k4 => ⟨_, rfl, by omega, by omega, ?_⟩⟩
    obtain ⟨kt, rfl⟩ := Int.eq_ofNat_of_zero_le l4
    rw [Int.toNat_natCast]
    refine for_range (lo := 0) (n := kt) (fun i σ H5 => ∃ (th : Addr) (m : List Int) (b : Option Nat) (ps : List (Addr × Nat × Nat)) (v6 v7 v8 : Option V), σ = [some (.ref a), some (.ref h), some (.ref t0), some (.ref th), some (.ref lp), some (jv b), v6, v7, v8] ∧ LwSt K H5 h c t0 th lp ns m b ps ∧ ps.length ≤ i)
      ⟨t0, ns, none, [], none, none, none, rfl, S0.kept k4 D4, Nat.le_refl _⟩ ?_ ?_
    · rintro i σ H5 hi ⟨th, m, b, ps, v6, v7, v8, rfl, S, hpl⟩
      -- _law_fine
      refine ⟨_, rfl, t0, _, rfl, .inr S.t0, ns.length, by rw [List.length_map], hl6, fun l1 q1 H6 s6 hl1 hQ1 hq1 => ?_⟩
      refine ⟨l1, rfl, ⟨_, SqL.of hQ1.ls⟩, fun D hD => ?_⟩
      have S6 := S.same s6
      refine lc_list (K := K) (a := l1) (xs := q1.map fun p => V.ref p.1) (fun j H7 => ∃ fs, PrL K H7 D ns.length fs ∧ Same H6 H7 ∧ fs.length ≤ j) ⟨[], ⟨upd_same, fun p hp => (nomatch hp)⟩, Same.new hD, Nat.le_refl _⟩ (fun j H7 _ ⟨_, _, s7, _⟩ => SqL.of (s7 _ _ hQ1.ls)) ?_ ?_
      · rintro j x H7 hx ⟨fs, hF, s7, hfl⟩
        rw [List.getElem?_map] at hx
        obtain ⟨p, hp, rfl⟩ := Option.map_eq_some_iff.mp hx
        obtain ⟨hj, ep⟩ := List.getElem?_eq_some_iff.mp hp
        have hq1l : q1.length ≤ 36 := by
          have e := congrArg List.length hq1
          rw [List.length_map] at e
          rw [e]
          exact prsTo_short hl6 _ (Nat.le_refl _)
        obtain ⟨a1, a2, a3, a4⟩ := hQ1.st p (List.mem_of_getElem? hp)
        have em := S.len
        refine ⟨rfl, _, rfl, _, rfl, th, p.1, m, p.2.1, p.2.2, rfl, Same.tup s7 S6.th, Same.tup s7 a1, by omega, by omega, _, rfl, ?_⟩
        refine ite2 (fun _ => ?_) (fun _ => ?_)
        · refine ⟨_, rfl, _, hF.ls, ?_, fs ++ [p], ⟨?_, fun y hy => ?_⟩, same_upd s7 hD, by rw [List.length_append]; show fs.length + 1 ≤ _; omega⟩
          · rw [List.length_map, sizeLine_eq]
            omega
          · rw [upd_same, List.map_append]
            rfl
          · have up : ∀ {z : Addr × Nat × Nat}, SqT K H7 z.1 [.int (z.2.1 : Int), .int (z.2.2 : Int)] → SqT K (upd H7 D (.lst (fs.map (fun p => V.ref p.1) ++ [V.ref p.1]))) z.1 [.int (z.2.1 : Int), .int (z.2.2 : Int)] := fun {z} q => by
              rcases q with (q | ⟨o, q⟩) | q
              · exact .inl (.inl (by rw [upd_ne (ne_of q hF.ls (by intro z; cases z))]; exact q))
              · exact .inl (.inr ⟨o, by rw [upd_ne (ne_of q hF.ls (by intro z; cases z))]; exact q⟩)
              · exact .inr q
            rcases List.mem_append.mp hy with hy | hy
            · obtain ⟨b1, b2⟩ := hF.st y hy
              exact ⟨up b1, b2⟩
            · have ey : y = p := by simpa using hy
              subst ey
              exact ⟨up (Same.tup s7 a1), a2, a3, a4⟩
        · exact ⟨fs, hF, s7, by omega⟩
      · rintro H7 ⟨fs, hF, s7, hfl⟩
        rw [List.length_map] at hfl
        have hq1l : q1.length ≤ 36 := by
          have e := congrArg List.length hq1
          rw [List.length_map] at e
          rw [e]
          exact prsTo_short hl6 _ (Nat.le_refl _)
        have S7 := S6.same s7
        have nD := S6.dr.nots hD
        -- _law_step
        refine ⟨_, rfl, t0, _, rfl, .inr S7.t0, ns.length, by rw [List.length_map], hl6, fun l2 q2 H8 s8 hl2 hQ2 hq2 => ?_⟩
        have S8 := S7.same s8
        have n2 := S7.dr.nots hl2
        obtain ⟨w1, w2, w3⟩ := ways hlo hl6
        refine ⟨_, rfl, _, rfl, t0, _, rfl, .inr S8.t0, _, rfl, t0, _, rfl, .inr S8.t0, _, _, rfl, rfl, _, _, rfl, rfl, ?_⟩
        rw [List.length_map]
        refine ⟨.inl ⟨by omega, by omega⟩, h, c, _, rfl, S8.dr, by rw [w1]; omega, by rw [w1]; omega, fun kn H9 l9 u9 D9 k9 => ?_⟩
        obtain ⟨kn, rfl⟩ := Int.eq_ofNat_of_zero_le l9
        rw [w1] at u9
        have S9 := S8.kept k9 D9
        have hQ9 := hQ2.kept k9 S8.dr n2.1 n2.2
        have hF9 := (hF.same s8).kept k9 S8.dr nD.1 nD.2
        have hq2l : q2.length = ns.length * (ns.length - 1) := by
          have e := congrArg List.length hq2
          rw [List.length_map, prs_len hl6] at e
          exact e
        have hkn : kn < q2.length := by omega
        have hin := hQ9.st q2[kn] (List.getElem_mem hkn)
        refine ⟨l2, _, _, .ref q2[kn].1, rfl, rfl, SqL.of hQ9.ls, at_of rfl (by rw [List.getElem?_map, List.getElem?_eq_getElem hkn]; rfl), ?_⟩
        -- if _law_fine != [] and ..
        refine ⟨fun σ H' => ∃ (q : Addr × Nat × Nat) (v6 v8 : Option V), σ = [some (.ref a), some (.ref h), some (.ref t0), some (.ref th), some (.ref lp), some (jv b), v6, some (.ref q.1), v8] ∧ LwSt K H' h c t0 th lp ns m b ps ∧
          SqT K H' q.1 [.int (q.2.1 : Int), .int (q.2.2 : Int)] ∧ q.2.1 < ns.length ∧ q.2.2 < ns.length ∧ q.2.1 ≠ q.2.2, ?_, ?_⟩
        · refine ⟨_, rfl, by show 0 ≤ sizeLine; decide, fun e he => ?_⟩
          have s10 : Same H9 (upd H9 e (.lst [])) := Same.new he
          have S10 := S9.same s10
          have hF10 := hF9.same s10
          refine ⟨.list (fs.map pd), .list [], .lst (SqL.of hF10.ls) (dp_pds fs fun q hq => (hF10.st q hq).1), .lst (SqL.of upd_same) .nil, pds_shaped fs, rfl, _, rfl, ?_⟩
          rw [eqv_none]
          have q10 := (hQ9.same s10).st q2[kn] (List.getElem_mem hkn)
          cases hfe : fs.isEmpty with
          | true => exact iteF (iteF ⟨q2[kn], _, _, rfl, S10, q10⟩)
          | false =>
            have hfp : 0 < fs.length := by
              cases fs with
              | nil => cases hfe
              | cons _ _ => exact Nat.succ_pos _
            refine iteT ⟨_, rfl, h, c, 12, rfl, S10.dr, by decide, by decide, fun k12 H11 l11 u11 D11 k11 => ⟨_, _, rfl, rfl, _, rfl, ?_⟩⟩
            have S11 := S10.kept k11 D11
            have hF11 := hF10.kept k11 S10.dr nD.1 nD.2
            have q11 := ((hQ9.same s10).kept k11 S10.dr n2.1 n2.2).st q2[kn] (List.getElem_mem hkn)
            refine ite2 (fun _ => ?_) (fun _ => ⟨q2[kn], _, _, rfl, S11, q11⟩)
            refine ⟨_, rfl, _, rfl, _, rfl, D, _, rfl, .inl (SqL.of hF11.ls), ?_⟩
            rw [List.length_map]
            refine ⟨h, c, _, rfl, S11.dr, by omega, by omega, fun kf H12 l12 u12 D12 k12 => ?_⟩
            obtain ⟨kf, rfl⟩ := Int.eq_ofNat_of_zero_le l12
            have hkf : kf < fs.length := by omega
            have hF12 := hF11.kept k12 S11.dr nD.1 nD.2
            refine ⟨D, _, _, .ref fs[kf].1, rfl, rfl, SqL.of hF12.ls, at_of rfl (by rw [List.getElem?_map, List.getElem?_eq_getElem hkf]; rfl), ?_⟩
            exact ⟨fs[kf], _, _, rfl, S11.kept k12 D12, hF12.st fs[kf] (List.getElem_mem hkf)⟩
        · rintro σ H13 ⟨q, v6, v8, rfl, S13, c1, c2, c3, c4⟩
          -- _law_plan.append(_law_step)
          refine ⟨_, rfl, .inl ⟨rfl, _, SqL.of S13.pl.ls⟩, _, rfl, lp, _, _, rfl, rfl, S13.pl.ls, by rw [List.length_map, sizeLine_eq]; omega, ?_⟩
          have up : ∀ {y : Addr} {xs : List V}, SqT K H13 y xs → SqT K (upd H13 lp (.lst (ps.map (fun p => V.ref p.1) ++ [V.ref q.1]))) y xs := fun {y xs} z => by
            rcases z with (z | ⟨o, z⟩) | z
            · exact .inl (.inl (by rw [upd_ne (ne_of z S13.pl.ls (by intro z; cases z))]; exact z))
            · exact .inl (.inr ⟨o, by rw [upd_ne (ne_of z S13.pl.ls (by intro z; cases z))]; exact z⟩)
            · exact .inr z
          have c1' := up c1
          have th' := up S13.th
          have t0' := up S13.t0
          have dr' : DrawAt (upd H13 lp (.lst (ps.map (fun p => V.ref p.1) ++ [V.ref q.1]))) h c := S13.dr.upd S13.n1 S13.n2
          have pl' : PrL K (upd H13 lp (.lst (ps.map (fun p => V.ref p.1) ++ [V.ref q.1]))) lp ns.length (ps ++ [q]) := ⟨by rw [upd_same, List.map_append]; rfl, fun y hy => by
            rcases List.mem_append.mp hy with hy | hy
            · obtain ⟨b1, b2⟩ := S13.pl.st y hy
              exact ⟨up b1, b2⟩
            · have ey : y = q := by simpa using hy
              subst ey
              exact ⟨c1', c2, c3, c4⟩⟩
          have ja := jd_app (ps.map (·.2)) ns 0 q.2
          rw [S13.jg] at ja
          have em := S13.len
          have emap : (ps ++ [q]).map (·.2) = ps.map (·.2) ++ [q.2] := by rw [List.map_append]; rfl
          have hle : (ps ++ [q]).length ≤ i + 1 := by
            rw [List.length_append]
            show ps.length + 1 ≤ _
            omega
          generalize upd H13 lp (.lst (ps.map (fun p => V.ref p.1) ++ [V.ref q.1])) = H14 at c1' th' t0' dr' pl' ⊢
          cases b with
          | some b =>
            refine ⟨fun σ H' => σ = [some (.ref a), some (.ref h), some (.ref t0), some (.ref th), some (.ref lp), some (jv (some b)), v6, some (.ref q.1), v8] ∧ H' = H14, ?_, ?_⟩
            · exact ⟨_, rfl, rfl, _, rfl, iteF (iteF ⟨rfl, rfl⟩)⟩
            · rintro σ H' ⟨rfl, rfl⟩
              exact ⟨_, rfl, rfl, _, rfl, iteF ⟨th, m, some b, ps ++ [q], _, _, _, rfl, ⟨dr', t0', th', pl', S13.n1, S13.n2, by rw [emap]; exact ja⟩, hle⟩⟩
          | none =>
            refine ⟨fun σ H' => ∃ b' : Option Nat, σ = [some (.ref a), some (.ref h), some (.ref t0), some (.ref th), some (.ref lp), some (jv b'), v6, some (.ref q.1), v8] ∧ H' = H14 ∧ ((b' = none ∧ can m q.2.1 q.2.2 = true) ∨ (b' = some ps.length ∧ can m q.2.1 q.2.2 = false)), ?_, ?_⟩
            · refine ⟨_, rfl, rfl, _, rfl, iteT ?_⟩
              refine ⟨_, rfl, _, rfl, th, q.1, m, q.2.1, q.2.2, rfl, th', c1', by omega, by omega, _, rfl, ?_⟩
              cases hc : can m q.2.1 q.2.2 with
              | true => exact iteF ⟨none, rfl, rfl, .inl ⟨rfl, rfl⟩⟩
              | false =>
                refine iteT ⟨_, rfl, lp, _, rfl, .inl (SqL.of pl'.ls), _, _, rfl, rfl, ?_⟩
                have e : ((((ps ++ [q]).map fun p => V.ref p.1).length : Nat) : Int) - 1 = (ps.length : Int) := by
                  rw [List.length_map, List.length_append]
                  show ((ps.length + 1 : Nat) : Int) - 1 = _
                  omega
                exact ⟨some ps.length, congrArg (fun z : Int => [some (V.ref a), some (V.ref h), some (V.ref t0), some (V.ref th), some (V.ref lp), some (V.int z), v6, some (V.ref q.1), v8]) e, rfl, .inr ⟨rfl, rfl⟩⟩
            · rintro σ H' ⟨b', rfl, rfl, ⟨rfl, hc⟩ | ⟨rfl, hc⟩⟩
              · refine ⟨_, rfl, rfl, _, rfl, iteT ?_⟩
                refine ⟨_, rfl, _, rfl, th, q.1, m, q.2.1, q.2.2, rfl, th', c1', by omega, by omega, c4, fun p H15 s15 hp hp15 => ?_⟩
                refine ⟨p, mv m q.2.1 q.2.2, none, ps ++ [q], _, _, _, rfl, ⟨dr'.same s15, Same.tup s15 t0', SqT.of hp15, pl'.same s15, S13.n1, S13.n2, ?_⟩, hle⟩
                rw [emap, ja]
                show (if can m q.2.1 q.2.2 = true then _ else _) = _
                rw [if_pos hc]
              · refine ⟨_, rfl, rfl, _, rfl, iteF ⟨th, m, some ps.length, ps ++ [q], _, _, _, rfl, ⟨dr', t0', th', pl', S13.n1, S13.n2, ?_⟩, hle⟩⟩
                rw [emap, ja]
                show (if can m q.2.1 q.2.2 = true then _ else (some (0 + (ps.map (·.2)).length), m)) = _
                rw [hc, if_neg (by decide), List.length_map, Nat.zero_add]
    · rintro σ H5 ⟨th, m, b, ps, v6, v7, v8, rfl, S, hpl⟩
      have hall : ∀ p ∈ ps.map (·.2), p.1 < ns.length ∧ p.2 < ns.length ∧ p.1 ≠ p.2 := fun p hp => by
        obtain ⟨z, hz, rfl⟩ := List.mem_map.mp hp
        exact (S.pl.st z hz).2
      have esum : m.sum = ns.sum := by
        have e := sum_jd (ps.map (·.2)) ns 0 hall
        rw [S.jg] at e
        exact e
      refine ⟨_, rfl, _, rfl, lp, _, rfl, .inl ⟨SqL.of S.pl.ls, fun u hu => ?_⟩⟩
      have s6 : Same H5 (upd H5 u (.tup (ps.map fun p => V.ref p.1))) := Same.new hu
      have S6 := S.same s6
      refine ⟨t0, u, ns, ps, rfl, S6.t0, hg, ⟨SqT.of upd_same, S6.pl.st⟩, by omega, fun H7 s7 => ?_⟩
      have S7 := S6.same s7
      refine ⟨_, rfl, jv_scal _ _, _, rfl, ?_⟩
      rw [S.jg]
      refine iteNS rfl ?_
      refine ⟨_, rfl, _, rfl, lp, _, rfl, .inl ⟨SqL.of S7.pl.ls, fun u2 hu2 => ?_⟩⟩
      have s8 : Same H7 (upd H7 u2 (.tup (ps.map fun p => V.ref p.1))) := Same.new hu2
      have S8 := S7.same s8
      refine ⟨t0, u2, ns, ps, rfl, S8.t0, hg, ⟨SqT.of upd_same, S8.pl.st⟩, by omega, fun v H9 s9 hv => ?_⟩
      have S9 := S8.same s9
      have fin : ∀ H', Q (.bl (decide (V.int m.sum = V.int ns.sum))) H' := fun H' => by
        rw [dec_int, decide_eq_true esum]
        exact k H'
      rw [S.jg] at hv
      cases b with
      | none =>
        obtain ⟨p, rfl, hp⟩ := hv
        refine ⟨_, rfl, rfl, _, rfl, iteT ⟨_, rfl, .tuple (m.map PyData.int), .tuple (m.map PyData.int), .tup hp (dp_ints m), .tup S9.th (dp_ints m), tint_shaped m, tint_shaped m, _, rfl, ?_⟩⟩
        rw [SeqAt.eqv_refl _ (SeqAt.canLay_of_shaped (tint_shaped m))]
        exact iteT ⟨_, rfl, th, m, rfl, S9.th, _, rfl, t0, ns, rfl, S9.t0, rfl, fin _⟩
      | some b =>
        have ev : v = .int (b : Int) := hv
        subst ev
        refine ⟨_, rfl, rfl, _, rfl, iteF ⟨_, rfl, .int (b : Int), .int (b : Int), .int _, .int _, int_shaped _, int_shaped _, _, rfl, ?_⟩⟩
        rw [SeqAt.eqv_refl _ (SeqAt.canLay_of_shaped (int_shaped _))]
        exact iteT ⟨_, rfl, th, m, rfl, S9.th, _, rfl, t0, ns, rfl, S9.t0, rfl, fin _⟩
end
end Hd
set_option maxHeartbeats 8000000
namespace Hd
open PySem PySem.Spec PyProof.Rows L2
theorem all_mk {l : PySem.W.OpenLaw} {w : World} {K : PySem.W.Frag} {h : Heap} {mg : Str → Option Value} {fa : Addr} (X : K.In h) (G : h.Ns mainGlobals mg) (hfa : mg "law" = some (.ref fa))
    {A_BadPlan : Addr}
    (x_BadPlan : PySem.W.nsIn K mainGlobals "BadPlan" = some (some (.ref A_BadPlan)))
    {nm q : Str} {N HE : Addr} {bs : List Value} {sn : List Str} {sub : List Value} {ab : Bool} {col : Option Bool} {dd : Option Addr} {m0 m1 m2 m3 m5 : Option Value}
    (xL : K.lookup A_BadPlan = some (excClassObj nm q A_BadPlan N bs [.ref HE, .type "ValueError", .type "Exception", .type "BaseException", .type "object"] true sn sub ab col dd m0 m1 m2 m3 m5 "ValueError.__new__"))
    (sa : PySem.W.findIn K (.ref A_BadPlan) "__setattr__" = some (some (.builtin "object.__setattr__")))
    (ga : PySem.W.findIn K (.ref A_BadPlan) "__getattribute__" = some (some (.builtin "BaseException.__getattribute__")))
    (gg : PySem.W.findIn K (.ref A_BadPlan) "__getattr__" = some none)
    (nb : PySem.W.findIn K (.ref A_BadPlan) "index" = some none)
    (kC : PySem.W.keepIn K (.ref A_BadPlan) = true)
    (eC : PySem.W.subIn K (.ref A_BadPlan) (.type "BaseException") = some true)
    (tC : PySem.W.typeIn K (.ref A_BadPlan) = some (.type "type"))
    (hC : PySem.W.hasDictIn K A_BadPlan = true)
    (iC : PySem.W.isClsIn K A_BadPlan = true)
    (sC : PySem.W.subIn K (.ref A_BadPlan) (.ref A_BadPlan) = some true)
    {od_BadPlan_init an_BadPlan_init : Option Addr} {sl_BadPlan_init : Array (Option Value)} {oc_BadPlan_init kV_BadPlan_init dc_BadPlan_init pm_BadPlan_init cd_BadPlan_init ct_BadPlan_init : Value} {f_BadPlan_init : Addr}
    (a_BadPlan_init : PySem.W.findIn K (.ref A_BadPlan) "__init__" = some (some (.ref f_BadPlan_init))) (t_BadPlan_init : PySem.W.typeIn K (.ref f_BadPlan_init) = some (.type "function"))
    (l_BadPlan_init : K.lookup f_BadPlan_init = some ⟨oc_BadPlan_init, od_BadPlan_init, .func (PySem.W.fnOf "__init__" "BadPlan.__init__" (defArgs s_BadPlan_init) (defBody s_BadPlan_init) (defScope s_BadPlan_init) .none kV_BadPlan_init dc_BadPlan_init pm_BadPlan_init an_BadPlan_init cd_BadPlan_init ct_BadPlan_init), sl_BadPlan_init⟩)
    (c_BadPlan_init : PySem.W.codeIn K cd_BadPlan_init "BadPlan.__init__" = true) (k_BadPlan_init : PySem.W.keepIn K (.ref f_BadPlan_init) = true)
    {od_is_integer an_is_integer : Option Addr} {sl_is_integer : Array (Option Value)} {oc_is_integer kV_is_integer dc_is_integer pm_is_integer cd_is_integer ct_is_integer : Value} {f_is_integer : Addr}
    (a_is_integer : PySem.W.nsIn K mainGlobals "is_integer" = some (some (.ref f_is_integer)))
    (l_is_integer : K.lookup f_is_integer = some ⟨oc_is_integer, od_is_integer, .func (PySem.W.fnOf "is_integer" "is_integer" (defArgs s_is_integer) (defBody s_is_integer) (defScope s_is_integer) .none kV_is_integer dc_is_integer pm_is_integer an_is_integer cd_is_integer ct_is_integer), sl_is_integer⟩)
    (c_is_integer : PySem.W.codeIn K cd_is_integer "is_integer" = true) (k_is_integer : PySem.W.keepIn K (.ref f_is_integer) = true)
    {od_is_heaps an_is_heaps : Option Addr} {sl_is_heaps : Array (Option Value)} {oc_is_heaps kV_is_heaps dc_is_heaps pm_is_heaps cd_is_heaps ct_is_heaps : Value} {f_is_heaps : Addr}
    (a_is_heaps : PySem.W.nsIn K mainGlobals "is_heaps" = some (some (.ref f_is_heaps)))
    (l_is_heaps : K.lookup f_is_heaps = some ⟨oc_is_heaps, od_is_heaps, .func (PySem.W.fnOf "is_heaps" "is_heaps" (defArgs s_is_heaps) (defBody s_is_heaps) (defScope s_is_heaps) .none kV_is_heaps dc_is_heaps pm_is_heaps an_is_heaps cd_is_heaps ct_is_heaps), sl_is_heaps⟩)
    (c_is_heaps : PySem.W.codeIn K cd_is_heaps "is_heaps" = true) (k_is_heaps : PySem.W.keepIn K (.ref f_is_heaps) = true)
    {od_is_pair_of an_is_pair_of : Option Addr} {sl_is_pair_of : Array (Option Value)} {oc_is_pair_of kV_is_pair_of dc_is_pair_of pm_is_pair_of cd_is_pair_of ct_is_pair_of : Value} {f_is_pair_of : Addr}
    (a_is_pair_of : PySem.W.nsIn K mainGlobals "is_pair_of" = some (some (.ref f_is_pair_of)))
    (l_is_pair_of : K.lookup f_is_pair_of = some ⟨oc_is_pair_of, od_is_pair_of, .func (PySem.W.fnOf "is_pair_of" "is_pair_of" (defArgs s_is_pair_of) (defBody s_is_pair_of) (defScope s_is_pair_of) .none kV_is_pair_of dc_is_pair_of pm_is_pair_of an_is_pair_of cd_is_pair_of ct_is_pair_of), sl_is_pair_of⟩)
    (c_is_pair_of : PySem.W.codeIn K cd_is_pair_of "is_pair_of" = true) (k_is_pair_of : PySem.W.keepIn K (.ref f_is_pair_of) = true)
    {od_check_heaps an_check_heaps : Option Addr} {sl_check_heaps : Array (Option Value)} {oc_check_heaps kV_check_heaps dc_check_heaps pm_check_heaps cd_check_heaps ct_check_heaps : Value} {f_check_heaps : Addr}
    (a_check_heaps : PySem.W.nsIn K mainGlobals "check_heaps" = some (some (.ref f_check_heaps)))
    (l_check_heaps : K.lookup f_check_heaps = some ⟨oc_check_heaps, od_check_heaps, .func (PySem.W.fnOf "check_heaps" "check_heaps" (defArgs s_check_heaps) (defBody s_check_heaps) (defScope s_check_heaps) .none kV_check_heaps dc_check_heaps pm_check_heaps an_check_heaps cd_check_heaps ct_check_heaps), sl_check_heaps⟩)
    (c_check_heaps : PySem.W.codeIn K cd_check_heaps "check_heaps" = true) (k_check_heaps : PySem.W.keepIn K (.ref f_check_heaps) = true)
    {od_check_plan an_check_plan : Option Addr} {sl_check_plan : Array (Option Value)} {oc_check_plan kV_check_plan dc_check_plan pm_check_plan cd_check_plan ct_check_plan : Value} {f_check_plan : Addr}
    (a_check_plan : PySem.W.nsIn K mainGlobals "check_plan" = some (some (.ref f_check_plan)))
    (l_check_plan : K.lookup f_check_plan = some ⟨oc_check_plan, od_check_plan, .func (PySem.W.fnOf "check_plan" "check_plan" (defArgs s_check_plan) (defBody s_check_plan) (defScope s_check_plan) .none kV_check_plan dc_check_plan pm_check_plan an_check_plan cd_check_plan ct_check_plan), sl_check_plan⟩)
    (c_check_plan : PySem.W.codeIn K cd_check_plan "check_plan" = true) (k_check_plan : PySem.W.keepIn K (.ref f_check_plan) = true)
    {od_can_be_made an_can_be_made : Option Addr} {sl_can_be_made : Array (Option Value)} {oc_can_be_made kV_can_be_made dc_can_be_made pm_can_be_made cd_can_be_made ct_can_be_made : Value} {f_can_be_made : Addr}
    (a_can_be_made : PySem.W.nsIn K mainGlobals "can_be_made" = some (some (.ref f_can_be_made)))
    (l_can_be_made : K.lookup f_can_be_made = some ⟨oc_can_be_made, od_can_be_made, .func (PySem.W.fnOf "can_be_made" "can_be_made" (defArgs s_can_be_made) (defBody s_can_be_made) (defScope s_can_be_made) .none kV_can_be_made dc_can_be_made pm_can_be_made an_can_be_made cd_can_be_made ct_can_be_made), sl_can_be_made⟩)
    (c_can_be_made : PySem.W.codeIn K cd_can_be_made "can_be_made" = true) (k_can_be_made : PySem.W.keepIn K (.ref f_can_be_made) = true)
    {od_shifted an_shifted : Option Addr} {sl_shifted : Array (Option Value)} {oc_shifted kV_shifted dc_shifted pm_shifted cd_shifted ct_shifted : Value} {f_shifted : Addr}
    (a_shifted : PySem.W.nsIn K mainGlobals "shifted" = some (some (.ref f_shifted)))
    (l_shifted : K.lookup f_shifted = some ⟨oc_shifted, od_shifted, .func (PySem.W.fnOf "shifted" "shifted" (defArgs s_shifted) (defBody s_shifted) (defScope s_shifted) .none kV_shifted dc_shifted pm_shifted an_shifted cd_shifted ct_shifted), sl_shifted⟩)
    (c_shifted : PySem.W.codeIn K cd_shifted "shifted" = true) (k_shifted : PySem.W.keepIn K (.ref f_shifted) = true)
    {od_behind an_behind : Option Addr} {sl_behind : Array (Option Value)} {oc_behind kV_behind dc_behind pm_behind cd_behind ct_behind : Value} {f_behind : Addr}
    (a_behind : PySem.W.nsIn K mainGlobals "behind" = some (some (.ref f_behind)))
    (l_behind : K.lookup f_behind = some ⟨oc_behind, od_behind, .func (PySem.W.fnOf "behind" "behind" (defArgs s_behind) (defBody s_behind) (defScope s_behind) .none kV_behind dc_behind pm_behind an_behind cd_behind ct_behind), sl_behind⟩)
    (c_behind : PySem.W.codeIn K cd_behind "behind" = true) (k_behind : PySem.W.keepIn K (.ref f_behind) = true)
    {od_behind_all an_behind_all : Option Addr} {sl_behind_all : Array (Option Value)} {oc_behind_all kV_behind_all dc_behind_all pm_behind_all cd_behind_all ct_behind_all : Value} {f_behind_all : Addr}
    (a_behind_all : PySem.W.nsIn K mainGlobals "behind_all" = some (some (.ref f_behind_all)))
    (l_behind_all : K.lookup f_behind_all = some ⟨oc_behind_all, od_behind_all, .func (PySem.W.fnOf "behind_all" "behind_all" (defArgs s_behind_all) (defBody s_behind_all) (defScope s_behind_all) .none kV_behind_all dc_behind_all pm_behind_all an_behind_all cd_behind_all ct_behind_all), sl_behind_all⟩)
    (c_behind_all : PySem.W.codeIn K cd_behind_all "behind_all" = true) (k_behind_all : PySem.W.keepIn K (.ref f_behind_all) = true)
    {od_judge an_judge : Option Addr} {sl_judge : Array (Option Value)} {oc_judge kV_judge dc_judge pm_judge cd_judge ct_judge : Value} {f_judge : Addr}
    (a_judge : PySem.W.nsIn K mainGlobals "judge" = some (some (.ref f_judge)))
    (l_judge : K.lookup f_judge = some ⟨oc_judge, od_judge, .func (PySem.W.fnOf "judge" "judge" (defArgs s_judge) (defBody s_judge) (defScope s_judge) .none kV_judge dc_judge pm_judge an_judge cd_judge ct_judge), sl_judge⟩)
    (c_judge : PySem.W.codeIn K cd_judge "judge" = true) (k_judge : PySem.W.keepIn K (.ref f_judge) = true)
    {od_made an_made : Option Addr} {sl_made : Array (Option Value)} {oc_made kV_made dc_made pm_made cd_made ct_made : Value} {f_made : Addr}
    (a_made : PySem.W.nsIn K mainGlobals "made" = some (some (.ref f_made)))
    (l_made : K.lookup f_made = some ⟨oc_made, od_made, .func (PySem.W.fnOf "made" "made" (defArgs s_made) (defBody s_made) (defScope s_made) .none kV_made dc_made pm_made an_made cd_made ct_made), sl_made⟩)
    (c_made : PySem.W.codeIn K cd_made "made" = true) (k_made : PySem.W.keepIn K (.ref f_made) = true)
    {od_l_mix an_l_mix : Option Addr} {sl_l_mix : Array (Option Value)} {oc_l_mix kV_l_mix dc_l_mix pm_l_mix cd_l_mix ct_l_mix : Value} {f_l_mix : Addr}
    (a_l_mix : PySem.W.nsIn K mainGlobals "_law_mix" = some (some (.ref f_l_mix)))
    (l_l_mix : K.lookup f_l_mix = some ⟨oc_l_mix, od_l_mix, .func (PySem.W.fnOf "_law_mix" "_law_mix" (defArgs s_l_mix) (defBody s_l_mix) (defScope s_l_mix) .none kV_l_mix dc_l_mix pm_l_mix an_l_mix cd_l_mix ct_l_mix), sl_l_mix⟩)
    (c_l_mix : PySem.W.codeIn K cd_l_mix "_law_mix" = true) (k_l_mix : PySem.W.keepIn K (.ref f_l_mix) = true)
    {od_l_next an_l_next : Option Addr} {sl_l_next : Array (Option Value)} {oc_l_next kV_l_next dc_l_next pm_l_next cd_l_next ct_l_next : Value} {f_l_next : Addr}
    (a_l_next : PySem.W.nsIn K mainGlobals "_law_next" = some (some (.ref f_l_next)))
    (l_l_next : K.lookup f_l_next = some ⟨oc_l_next, od_l_next, .func (PySem.W.fnOf "_law_next" "_law_next" (defArgs s_l_next) (defBody s_l_next) (defScope s_l_next) .none kV_l_next dc_l_next pm_l_next an_l_next cd_l_next ct_l_next), sl_l_next⟩)
    (c_l_next : PySem.W.codeIn K cd_l_next "_law_next" = true) (k_l_next : PySem.W.keepIn K (.ref f_l_next) = true)
    {od_l_heaps an_l_heaps : Option Addr} {sl_l_heaps : Array (Option Value)} {oc_l_heaps kV_l_heaps dc_l_heaps pm_l_heaps cd_l_heaps ct_l_heaps : Value} {f_l_heaps : Addr}
    (a_l_heaps : PySem.W.nsIn K mainGlobals "_law_heaps" = some (some (.ref f_l_heaps)))
    (l_l_heaps : K.lookup f_l_heaps = some ⟨oc_l_heaps, od_l_heaps, .func (PySem.W.fnOf "_law_heaps" "_law_heaps" (defArgs s_l_heaps) (defBody s_l_heaps) (defScope s_l_heaps) .none kV_l_heaps dc_l_heaps pm_l_heaps an_l_heaps cd_l_heaps ct_l_heaps), sl_l_heaps⟩)
    (c_l_heaps : PySem.W.codeIn K cd_l_heaps "_law_heaps" = true) (k_l_heaps : PySem.W.keepIn K (.ref f_l_heaps) = true)
    {od_l_can an_l_can : Option Addr} {sl_l_can : Array (Option Value)} {oc_l_can kV_l_can dc_l_can pm_l_can cd_l_can ct_l_can : Value} {f_l_can : Addr}
    (a_l_can : PySem.W.nsIn K mainGlobals "_law_can" = some (some (.ref f_l_can)))
    (l_l_can : K.lookup f_l_can = some ⟨oc_l_can, od_l_can, .func (PySem.W.fnOf "_law_can" "_law_can" (defArgs s_l_can) (defBody s_l_can) (defScope s_l_can) .none kV_l_can dc_l_can pm_l_can an_l_can cd_l_can ct_l_can), sl_l_can⟩)
    (c_l_can : PySem.W.codeIn K cd_l_can "_law_can" = true) (k_l_can : PySem.W.keepIn K (.ref f_l_can) = true)
    {od_l_behind an_l_behind : Option Addr} {sl_l_behind : Array (Option Value)} {oc_l_behind kV_l_behind dc_l_behind pm_l_behind cd_l_behind ct_l_behind : Value} {f_l_behind : Addr}
    (a_l_behind : PySem.W.nsIn K mainGlobals "_law_behind" = some (some (.ref f_l_behind)))
    (l_l_behind : K.lookup f_l_behind = some ⟨oc_l_behind, od_l_behind, .func (PySem.W.fnOf "_law_behind" "_law_behind" (defArgs s_l_behind) (defBody s_l_behind) (defScope s_l_behind) .none kV_l_behind dc_l_behind pm_l_behind an_l_behind cd_l_behind ct_l_behind), sl_l_behind⟩)
    (c_l_behind : PySem.W.codeIn K cd_l_behind "_law_behind" = true) (k_l_behind : PySem.W.keepIn K (.ref f_l_behind) = true)
    {od_l_pairs an_l_pairs : Option Addr} {sl_l_pairs : Array (Option Value)} {oc_l_pairs kV_l_pairs dc_l_pairs pm_l_pairs cd_l_pairs ct_l_pairs : Value} {f_l_pairs : Addr}
    (a_l_pairs : PySem.W.nsIn K mainGlobals "_law_pairs" = some (some (.ref f_l_pairs)))
    (l_l_pairs : K.lookup f_l_pairs = some ⟨oc_l_pairs, od_l_pairs, .func (PySem.W.fnOf "_law_pairs" "_law_pairs" (defArgs s_l_pairs) (defBody s_l_pairs) (defScope s_l_pairs) .none kV_l_pairs dc_l_pairs pm_l_pairs an_l_pairs cd_l_pairs ct_l_pairs), sl_l_pairs⟩)
    (c_l_pairs : PySem.W.codeIn K cd_l_pairs "_law_pairs" = true) (k_l_pairs : PySem.W.keepIn K (.ref f_l_pairs) = true)
    {od_l_told an_l_told : Option Addr} {sl_l_told : Array (Option Value)} {oc_l_told kV_l_told dc_l_told pm_l_told cd_l_told ct_l_told : Value} {f_l_told : Addr}
    (a_l_told : PySem.W.nsIn K mainGlobals "_law_told" = some (some (.ref f_l_told)))
    (l_l_told : K.lookup f_l_told = some ⟨oc_l_told, od_l_told, .func (PySem.W.fnOf "_law_told" "_law_told" (defArgs s_l_told) (defBody s_l_told) (defScope s_l_told) .none kV_l_told dc_l_told pm_l_told an_l_told cd_l_told ct_l_told), sl_l_told⟩)
    (c_l_told : PySem.W.codeIn K cd_l_told "_law_told" = true) (k_l_told : PySem.W.keepIn K (.ref f_l_told) = true)
    {od_law an_law : Option Addr} {sl_law : Array (Option Value)} {oc_law kV_law dc_law pm_law cd_law ct_law : Value} {f_law : Addr}
    (a_law : PySem.W.nsIn K mainGlobals "law" = some (some (.ref f_law)))
    (l_law : K.lookup f_law = some ⟨oc_law, od_law, .func (PySem.W.fnOf "law" "law" (defArgs s_law) (defBody s_law) (defScope s_law) .none kV_law dc_law pm_law an_law cd_law ct_law), sl_law⟩)
    (c_law : PySem.W.codeIn K cd_law "law" = true) (k_law : PySem.W.keepIn K (.ref f_law) = true)
    (z_int : PySem.W.nsIn K mainGlobals "int" = some none)
    (z_bool : PySem.W.nsIn K mainGlobals "bool" = some none)
    (z_list : PySem.W.nsIn K mainGlobals "list" = some none)
    (z_len : PySem.W.nsIn K mainGlobals "len" = some none)
    (z_tuple : PySem.W.nsIn K mainGlobals "tuple" = some none)
    (z_isinstance : PySem.W.nsIn K mainGlobals "isinstance" = some none)
    (z_all : PySem.W.nsIn K mainGlobals "all" = some none)
    (z_sum : PySem.W.nsIn K mainGlobals "sum" = some none)
    (z_enumerate : PySem.W.nsIn K mainGlobals "enumerate" = some none)
    (z_range : PySem.W.nsIn K mainGlobals "range" = some none)
    (z_max : PySem.W.nsIn K mainGlobals "max" = some none)
    {tk_FEWEST_HEAPS : Tok} (w_FEWEST_HEAPS : PySem.W.nsIn K mainGlobals "FEWEST_HEAPS" = some (some (.int 2 tk_FEWEST_HEAPS)))
    {tk_MOST_HEAPS : Tok} (w_MOST_HEAPS : PySem.W.nsIn K mainGlobals "MOST_HEAPS" = some (some (.int 6 tk_MOST_HEAPS)))
    {tk_GREATEST : Tok} (w_GREATEST : PySem.W.nsIn K mainGlobals "GREATEST" = some (some (.int 1000000000000000000000000000000 tk_GREATEST)))
    {tk_LONGEST_PLAN : Tok} (w_LONGEST_PLAN : PySem.W.nsIn K mainGlobals "LONGEST_PLAN" = some (some (.int 20000 tk_LONGEST_PLAN)))
    : ∃ fd : FuncData, (∀ (s : Shared) (v : Value), BindsTo s fd ⟨[v], []⟩ [("_law_script", v)]) ∧ ∀ base : Heap, K.In base → base.Ns mainGlobals mg → FnOk l.prog w K mg base CX0 7 fa fd ["_law_script"] (spLaw K) := by
  have e := hfa.symm.trans (PySem.W.mg_of X G a_law)
  cases e
  have F_BadPlan_init := fun_mk (st := s_BadPlan_init) l_BadPlan_init c_BadPlan_init k_BadPlan_init
  have b_BadPlan_init := F_BadPlan_init.binds (ps := ["self", "index"]) fun _ _ _ _ _ _ us hl => match us, hl with | [_, _], _ => rfl
  have F_is_integer := fun_mk (st := s_is_integer) l_is_integer c_is_integer k_is_integer
  have b_is_integer := F_is_integer.binds (ps := ["value", "least", "greatest"]) fun _ _ _ _ _ _ us hl => match us, hl with | [_, _, _], _ => rfl
  have F_is_heaps := fun_mk (st := s_is_heaps) l_is_heaps c_is_heaps k_is_heaps
  have b_is_heaps := F_is_heaps.binds (ps := ["value"]) fun _ _ _ _ _ _ us hl => match us, hl with | [_], _ => rfl
  have F_is_pair_of := fun_mk (st := s_is_pair_of) l_is_pair_of c_is_pair_of k_is_pair_of
  have b_is_pair_of := F_is_pair_of.binds (ps := ["many", "value"]) fun _ _ _ _ _ _ us hl => match us, hl with | [_, _], _ => rfl
  have F_check_heaps := fun_mk (st := s_check_heaps) l_check_heaps c_check_heaps k_check_heaps
  have b_check_heaps := F_check_heaps.binds (ps := ["heaps"]) fun _ _ _ _ _ _ us hl => match us, hl with | [_], _ => rfl
  have F_check_plan := fun_mk (st := s_check_plan) l_check_plan c_check_plan k_check_plan
  have b_check_plan := F_check_plan.binds (ps := ["many", "plan"]) fun _ _ _ _ _ _ us hl => match us, hl with | [_, _], _ => rfl
  have F_can_be_made := fun_mk (st := s_can_be_made) l_can_be_made c_can_be_made k_can_be_made
  have b_can_be_made := F_can_be_made.binds (ps := ["heaps", "step"]) fun _ _ _ _ _ _ us hl => match us, hl with | [_, _], _ => rfl
  have F_shifted := fun_mk (st := s_shifted) l_shifted c_shifted k_shifted
  have b_shifted := F_shifted.binds (ps := ["heaps", "step", "many"]) fun _ _ _ _ _ _ us hl => match us, hl with | [_, _, _], _ => rfl
  have F_behind := fun_mk (st := s_behind) l_behind c_behind k_behind
  have b_behind := F_behind.binds (ps := ["heaps", "step"]) fun _ _ _ _ _ _ us hl => match us, hl with | [_, _], _ => rfl
  have F_behind_all := fun_mk (st := s_behind_all) l_behind_all c_behind_all k_behind_all
  have b_behind_all := F_behind_all.binds (ps := ["heaps", "plan"]) fun _ _ _ _ _ _ us hl => match us, hl with | [_, _], _ => rfl
  have F_judge := fun_mk (st := s_judge) l_judge c_judge k_judge
  have b_judge := F_judge.binds (ps := ["heaps", "plan"]) fun _ _ _ _ _ _ us hl => match us, hl with | [_, _], _ => rfl
  have F_made := fun_mk (st := s_made) l_made c_made k_made
  have b_made := F_made.binds (ps := ["heaps", "plan"]) fun _ _ _ _ _ _ us hl => match us, hl with | [_, _], _ => rfl
  have F_l_mix := fun_mk (st := s_l_mix) l_l_mix c_l_mix k_l_mix
  have b_l_mix := F_l_mix.binds (ps := ["_law_script", "_law_seed"]) fun _ _ _ _ _ _ us hl => match us, hl with | [_, _], _ => rfl
  have F_l_next := fun_mk (st := s_l_next) l_l_next c_l_next k_l_next
  have b_l_next := F_l_next.binds (ps := ["_law_h", "_law_bound"]) fun _ _ _ _ _ _ us hl => match us, hl with | [_, _], _ => rfl
  have F_l_heaps := fun_mk (st := s_l_heaps) l_l_heaps c_l_heaps k_l_heaps
  have b_l_heaps := F_l_heaps.binds (ps := ["_law_h", "_law_least", "_law_most"]) fun _ _ _ _ _ _ us hl => match us, hl with | [_, _, _], _ => rfl
  have F_l_can := fun_mk (st := s_l_can) l_l_can c_l_can k_l_can
  have b_l_can := F_l_can.binds (ps := ["_law_heaps_here", "_law_step"]) fun _ _ _ _ _ _ us hl => match us, hl with | [_, _], _ => rfl
  have F_l_behind := fun_mk (st := s_l_behind) l_l_behind c_l_behind k_l_behind
  have b_l_behind := F_l_behind.binds (ps := ["_law_heaps_here", "_law_step"]) fun _ _ _ _ _ _ us hl => match us, hl with | [_, _], _ => rfl
  have F_l_pairs := fun_mk (st := s_l_pairs) l_l_pairs c_l_pairs k_l_pairs
  have b_l_pairs := F_l_pairs.binds (ps := ["_law_size"]) fun _ _ _ _ _ _ us hl => match us, hl with | [_], _ => rfl
  have F_l_told := fun_mk (st := s_l_told) l_l_told c_l_told k_l_told
  have b_l_told := F_l_told.binds (ps := ["_law_heaps_here", "_law_plan"]) fun _ _ _ _ _ _ us hl => match us, hl with | [_, _], _ => rfl
  have F_law := fun_mk (st := s_law) l_law c_law k_law
  have b_law := F_law.binds (ps := ["_law_script"]) fun _ _ _ _ _ _ us hl => match us, hl with | [_], _ => rfl
  have T : Tp K mg := ⟨PySem.W.mg_none_of X G z_int, PySem.W.mg_none_of X G z_bool, PySem.W.mg_none_of X G z_list, PySem.W.mg_none_of X G z_len, PySem.W.mg_none_of X G z_tuple, PySem.W.mg_none_of X G z_isinstance, PySem.W.mg_none_of X G z_all, PySem.W.mg_none_of X G z_sum, PySem.W.mg_none_of X G z_enumerate, PySem.W.mg_none_of X G z_range, ⟨_, PySem.W.mg_of X G w_FEWEST_HEAPS⟩, ⟨_, PySem.W.mg_of X G w_MOST_HEAPS⟩, ⟨_, PySem.W.mg_of X G w_GREATEST⟩⟩
  have U : Tx K mg := ⟨PySem.W.mg_none_of X G z_int, PySem.W.mg_none_of X G z_list, PySem.W.mg_none_of X G z_max, PySem.W.mg_none_of X G z_len, PySem.W.mg_none_of X G z_tuple, PySem.W.mg_none_of X G z_range⟩
  refine ⟨PySem.W.fnOf "law" "law" (defArgs s_law) (defBody s_law) (defScope s_law) .none kV_law dc_law pm_law an_law cd_law ct_law, fun s v => .of_eq rfl, fun base KB GB => ?_⟩
  have C_is_integer : Cal l.prog w K mg base CX0 1 "is_integer" ["value", "least", "greatest"] (spIsInt) := ⟨_, _, PySem.W.mg_of X G a_is_integer, k_is_integer, b_is_integer, ok_is_integer F_is_integer T⟩
  have C_is_heaps : Cal l.prog w K mg base CX0 2 "is_heaps" ["value"] (spIsHeaps K) := ⟨_, _, PySem.W.mg_of X G a_is_heaps, k_is_heaps, b_is_heaps, ok_is_heaps F_is_heaps T C_is_integer⟩
  have C_is_pair_of : Cal l.prog w K mg base CX0 2 "is_pair_of" ["many", "value"] (spIsPair K) := ⟨_, _, PySem.W.mg_of X G a_is_pair_of, k_is_pair_of, b_is_pair_of, ok_is_pair_of F_is_pair_of T C_is_integer⟩
  have C_check_heaps : Cal l.prog w K mg base CX0 3 "check_heaps" ["heaps"] (spChkHeaps K) := ⟨_, _, PySem.W.mg_of X G a_check_heaps, k_check_heaps, b_check_heaps, ok_check_heaps F_check_heaps T C_is_heaps⟩
  have C_check_plan : Cal l.prog w K mg base CX0 3 "check_plan" ["many", "plan"] (spChkPlan K) := ⟨_, _, PySem.W.mg_of X G a_check_plan, k_check_plan, b_check_plan, ok_check_plan F_check_plan T ⟨_, PySem.W.mg_of X G w_LONGEST_PLAN⟩ C_is_pair_of⟩
  have C_can_be_made : Cal l.prog w K mg base CX0 1 "can_be_made" ["heaps", "step"] (spCan K) := ⟨_, _, PySem.W.mg_of X G a_can_be_made, k_can_be_made, b_can_be_made, ok_can_be_made F_can_be_made⟩
  have C_shifted : Cal l.prog w K mg base CX0 1 "shifted" ["heaps", "step", "many"] (spShifted K) := ⟨_, _, PySem.W.mg_of X G a_shifted, k_shifted, b_shifted, ok_shifted F_shifted T⟩
  have C_behind : Cal l.prog w K mg base CX0 2 "behind" ["heaps", "step"] (spBehind K) := ⟨_, _, PySem.W.mg_of X G a_behind, k_behind, b_behind, ok_behind F_behind C_shifted⟩
  have C_behind_all : Cal l.prog w K mg base CX0 3 "behind_all" ["heaps", "plan"] (spBehindAll K) := ⟨_, _, PySem.W.mg_of X G a_behind_all, k_behind_all, b_behind_all, ok_behind_all F_behind_all C_behind⟩
  have C_judge : Cal l.prog w K mg base CX0 4 "judge" ["heaps", "plan"] (spJudge K) := ⟨_, _, PySem.W.mg_of X G a_judge, k_judge, b_judge, ok_judge F_judge T C_check_heaps C_check_plan C_can_be_made C_behind⟩
  have B : BpT l.prog w K mg base A_BadPlan := ⟨PySem.W.mg_of X G x_BadPlan, ⟨⟨nm, q, N, bs, _, sn, sub, ab, col, dd, m0, m1, m2, m3, m5, xL, rfl⟩, sa, eC, tC, kC⟩, nb, ⟨ga, gg, eC, hC⟩, exm_self eC iC tC sC, ⟨_, _, a_BadPlan_init, t_BadPlan_init, b_BadPlan_init, ok_bp_init F_BadPlan_init⟩⟩
  have C_made : Cal l.prog w K mg base (L2.CX l.prog w) 5 "made" ["heaps", "plan"] (spMade K A_BadPlan) := ⟨_, _, PySem.W.mg_of X G a_made, k_made, b_made, ok_made F_made B C_judge C_behind_all⟩
  have C_l_mix : Cal l.prog w K mg base CX0 1 "_law_mix" ["_law_script", "_law_seed"] (spMix K) := ⟨_, _, PySem.W.mg_of X G a_l_mix, k_l_mix, b_l_mix, ok_mix F_l_mix U⟩
  have C_l_next : Cal l.prog w K mg base CX0 1 "_law_next" ["_law_h", "_law_bound"] (spNext) := ⟨_, _, PySem.W.mg_of X G a_l_next, k_l_next, b_l_next, ok_next F_l_next U⟩
  have C_l_heaps : Cal l.prog w K mg base CX0 2 "_law_heaps" ["_law_h", "_law_least", "_law_most"] (spHeaps) := ⟨_, _, PySem.W.mg_of X G a_l_heaps, k_l_heaps, b_l_heaps, ok_heaps F_l_heaps U C_l_next⟩
  have C_l_can : Cal l.prog w K mg base CX0 1 "_law_can" ["_law_heaps_here", "_law_step"] (spCan K) := ⟨_, _, PySem.W.mg_of X G a_l_can, k_l_can, b_l_can, ok_l_can F_l_can⟩
  have C_l_behind : Cal l.prog w K mg base CX0 1 "_law_behind" ["_law_heaps_here", "_law_step"] (spBehind K) := ⟨_, _, PySem.W.mg_of X G a_l_behind, k_l_behind, b_l_behind, ok_l_behind F_l_behind U⟩
  have C_l_pairs : Cal l.prog w K mg base CX0 1 "_law_pairs" ["_law_size"] (spPairs K) := ⟨_, _, PySem.W.mg_of X G a_l_pairs, k_l_pairs, b_l_pairs, ok_l_pairs F_l_pairs U⟩
  have C_l_told : Cal l.prog w K mg base CX0 6 "_law_told" ["_law_heaps_here", "_law_plan"] (spTold K) := ⟨_, _, PySem.W.mg_of X G a_l_told, k_l_told, b_l_told, ok_l_told F_l_told B C_made⟩
  exact ok_law F_law T C_l_mix C_l_next C_l_heaps C_l_can C_l_behind C_l_pairs C_judge C_l_told
theorem walk {l : PySem.W.OpenLaw} {q : Program} {loose : List Str} {XP : (Str → Option Value) → Heap → Prop} {YP : World → Heap → Prop} {d : DefRec} {K : Params → PySem.W.Frag} (hn : l.most = some 63) (hdf : d.params.defaults = [])
    (hY : ∀ (w : World) (h : Heap), YP w h → (K w.params).In h)
    (F : ∀ (w : World) (mg : Str → Option Value) (fa : Addr) (h : Heap), (K w.params).In h → h.Ns mainGlobals mg → mg d.name = some (.ref fa) →
      ∃ fd : FuncData, (∀ (s : Shared) (u : Value), BindsTo s fd ⟨[u], []⟩ [("_law_script", u)]) ∧ ∀ base : Heap, (K w.params).In base → base.Ns mainGlobals mg → FnOk l.prog w (K w.params) mg base CX0 7 fa fd ["_law_script"] (spLaw (K w.params))) :
    PySem.W.WalkO q loose XP YP l.row.toRowW d [] (fun f vs => PySem.call f vs) :=
  L2.walk_of (n := 63) (k := 7) (x := "_law_script") (CX := fun _ => CX0) (sp := fun w => spLaw (K w.params)) hn (by decide) hdf ⟨rfl, by decide, by decide⟩ hY F (fun _ _ a ns hl _ hS => ⟨a, ns, rfl, hS, hl, fun _ => rfl⟩) fun _ _ _ _ _ z => z
end Hd
open PySem PySem.W PyProof.Rows
set_option maxRecDepth 100000 in
set_option maxHeartbeats 0 in
theorem PySem.Challenge.cw_heapsdouble_k02_whole_plans_judged_holds : PySem.Challenge.rw_heapsdouble_k02_whole_plans_judged.Holds := by
  w_on; o_law; k_head; (case hw => w_witness2)
  k_fill
  refine Hd.walk (l := PySem.Challenge.rw_heapsdouble_k02_whole_plans_judged) rfl rfl (fun w h Y => PySem.W.kIn_of Y) ?F
  case F =>
    intro w mg fa h KX G hmg
    refine' Hd.all_mk KX G hmg ?x_BadPlan ?xL ?sa ?ga ?gg ?nb ?kC ?eC ?tC ?hC ?iC ?sC ?a_BadPlan_init ?t_BadPlan_init ?l_BadPlan_init ?c_BadPlan_init ?k_BadPlan_init ?a_is_integer ?l_is_integer ?c_is_integer ?k_is_integer ?a_is_heaps ?l_is_heaps ?c_is_heaps ?k_is_heaps ?a_is_pair_of ?l_is_pair_of ?c_is_pair_of ?k_is_pair_of ?a_check_heaps ?l_check_heaps ?c_check_heaps ?k_check_heaps ?a_check_plan ?l_check_plan ?c_check_plan ?k_check_plan ?a_can_be_made ?l_can_be_made ?c_can_be_made ?k_can_be_made ?a_shifted ?l_shifted ?c_shifted ?k_shifted ?a_behind ?l_behind ?c_behind ?k_behind ?a_behind_all ?l_behind_all ?c_behind_all ?k_behind_all ?a_judge ?l_judge ?c_judge ?k_judge ?a_made ?l_made ?c_made ?k_made ?a_l_mix ?l_l_mix ?c_l_mix ?k_l_mix ?a_l_next ?l_l_next ?c_l_next ?k_l_next ?a_l_heaps ?l_l_heaps ?c_l_heaps ?k_l_heaps ?a_l_can ?l_l_can ?c_l_can ?k_l_can ?a_l_behind ?l_l_behind ?c_l_behind ?k_l_behind ?a_l_pairs ?l_l_pairs ?c_l_pairs ?k_l_pairs ?a_l_told ?l_l_told ?c_l_told ?k_l_told ?a_law ?l_law ?c_law ?k_law ?z_int ?z_bool ?z_list ?z_len ?z_tuple ?z_isinstance ?z_all ?z_sum ?z_enumerate ?z_range ?z_max ?w_FEWEST_HEAPS ?w_MOST_HEAPS ?w_GREATEST ?w_LONGEST_PLAN
    (case x_BadPlan => k_is)
    (case xL => k_is)
    (case sa => k_is)
    (case ga => k_is)
    (case gg => k_is)
    (case nb => k_is)
    (case kC => k_is)
    (case eC => k_is)
    (case tC => k_is)
    (case hC => k_is)
    (case iC => k_is)
    (case sC => first | rfl | k_is)
    (case a_BadPlan_init => k_is)
    (case t_BadPlan_init => k_is)
    (case l_BadPlan_init => k_is)
    (case c_BadPlan_init => k_is)
    (case k_BadPlan_init => k_is)
    (case a_is_integer => k_is)
    (case l_is_integer => k_is)
    (case c_is_integer => k_is)
    (case k_is_integer => k_is)
    (case a_is_heaps => k_is)
    (case l_is_heaps => k_is)
    (case c_is_heaps => k_is)
    (case k_is_heaps => k_is)
    (case a_is_pair_of => k_is)
    (case l_is_pair_of => k_is)
    (case c_is_pair_of => k_is)
    (case k_is_pair_of => k_is)
    (case a_check_heaps => k_is)
    (case l_check_heaps => k_is)
    (case c_check_heaps => k_is)
    (case k_check_heaps => k_is)
    (case a_check_plan => k_is)
    (case l_check_plan => k_is)
    (case c_check_plan => k_is)
    (case k_check_plan => k_is)
    (case a_can_be_made => k_is)
    (case l_can_be_made => k_is)
    (case c_can_be_made => k_is)
    (case k_can_be_made => k_is)
    (case a_shifted => k_is)
    (case l_shifted => k_is)
    (case c_shifted => k_is)
    (case k_shifted => k_is)
    (case a_behind => k_is)
    (case l_behind => k_is)
    (case c_behind => k_is)
    (case k_behind => k_is)
    (case a_behind_all => k_is)
    (case l_behind_all => k_is)
    (case c_behind_all => k_is)
    (case k_behind_all => k_is)
    (case a_judge => k_is)
    (case l_judge => k_is)
    (case c_judge => k_is)
    (case k_judge => k_is)
    (case a_made => k_is)
    (case l_made => k_is)
    (case c_made => k_is)
    (case k_made => k_is)
    (case a_l_mix => k_is)
    (case l_l_mix => k_is)
    (case c_l_mix => k_is)
    (case k_l_mix => k_is)
    (case a_l_next => k_is)
    (case l_l_next => k_is)
    (case c_l_next => k_is)
    (case k_l_next => k_is)
    (case a_l_heaps => k_is)
    (case l_l_heaps => k_is)
    (case c_l_heaps => k_is)
    (case k_l_heaps => k_is)
    (case a_l_can => k_is)
    (case l_l_can => k_is)
    (case c_l_can => k_is)
    (case k_l_can => k_is)
    (case a_l_behind => k_is)
    (case l_l_behind => k_is)
    (case c_l_behind => k_is)
    (case k_l_behind => k_is)
    (case a_l_pairs => k_is)
    (case l_l_pairs => k_is)
    (case c_l_pairs => k_is)
    (case k_l_pairs => k_is)
    (case a_l_told => k_is)
    (case l_l_told => k_is)
    (case c_l_told => k_is)
    (case k_l_told => k_is)
    (case a_law => k_is)
    (case l_law => k_is)
    (case c_law => k_is)
    (case k_law => k_is)
    (case z_int => k_is)
    (case z_bool => k_is)
    (case z_list => k_is)
    (case z_len => k_is)
    (case z_tuple => k_is)
    (case z_isinstance => k_is)
    (case z_all => k_is)
    (case z_sum => k_is)
    (case z_enumerate => k_is)
    (case z_range => k_is)
    (case z_max => k_is)
    (case w_FEWEST_HEAPS => k_is)
    (case w_MOST_HEAPS => k_is)
    (case w_GREATEST => k_is)
    (case w_LONGEST_PLAN => k_is)
